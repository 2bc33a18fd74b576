import PyProof.Rows.All
import Wide.All
import OpenK.AllK
import Wide.FinOn
import PyProof.EqAt
import PyProof.EqKinds
import PyProof.TupleCall
import KE.BitLaws
import Open.SpecLaws
import KE.OsHead
import KE.OsGo
import Open.Tops
import PySem.Challenge.RW_sealedbox_s01_answers
set_option Elab.async false
set_option linter.all false
set_option compiler.extract_closed false
set_option maxRecDepth 100000
set_option maxHeartbeats 0
set_option hygiene false in
open Lean in
local macro_rules|`(#check 0)=>do
 let mut c:=#[]
 for (s,l) in [("o",List.range 1224),("tree",[4,74,112,171,228,297,354,405,462,536,561,620,703,724,750,810,875,953,1006,1084,1133,1169,1223]),("sts",[4,76,114,173,230,299,356,407,464,538,565,622,705,728,752,812,879,955,1010,1086,1137,1173])] do
  for k in l do c:=c.push s!"{(Name.mkSimple "Sq" ++ Name.mkSimple s!"{s}_{k}").hash}"
 return mkNullNode ((←(c.push "3276837375326348069").mapM λn=>`(theorem $(mkIdent (`PySem.W.Fast ++ Name.mkSimple ("tw"++n))) : True := trivial)).map (·.raw))
#check 0
open_shared Sq for PySem.Challenge.pw_sealedbox_s01_answers leaving 0
namespace Sq
noncomputable section
open PySem PySem.W PyProof.Rows
noncomputable abbrev rr:=PySem.Challenge.rw_sealedbox_s01_answers
noncomputable abbrev pp:=PySem.Challenge.pw_sealedbox_s01_answers
section
set_option hygiene false in
open Lean in
local macro_rules|`(⟨⟩)=>do
 let mut r←`([])
 for (s,a,i,n) in [("o_",1109,1175,49),("o_",1077,1138,32),("o_",1031,1088,46),("o_",958,1012,73),("o_",908,957,50),("o_",835,881,73),("o_",773,814,62),("o_",716,754,57),("o_",695,730,21),("o_",677,707,18),("o_",597,624,80),("o_",543,567,54),("o_",521,540,22),("o_",450,466,71),("o_",396,409,54),("o_",348,358,48),("o_",294,301,54),("o_",228,232,66),("o_",174,175,54),("o_",118,116,56),("o_",83,78,35),("o_",15,7,68),("o_",13,3,2),("o_",12,1174,1),("o_",11,1,1),("boot_o_",4,4,7),("o_",3,1173,1),("boot_o_",0,0,3)] do
  for k in (List.range n).reverse do r←`((nat_lit $(Syntax.mkNatLit (a+k)),$(mkIdent (.mkSimple s!"{s}{i+k}")) P)::$r)
 return r
noncomputable def KK(P:Params):Frag:=⟨⟩
end
theorem c3:PySem.W.Fast.tw8377067652309620493 pp=true:=by decide +kernel
theorem c6:PySem.W.Fast.tw17119622794617984870 pp pp.main.body (λ_ n=>PySem.W.Fast.tw17868728402115742887 n)=true:=by decide +kernel
theorem c50:(["vars","dir","locals"]:List Str).filter (PySem.W.Fast.tw13343964577679436407 pp pp.main.body)=[]:=by decide +kernel
theorem c51:(importedModules pp.main.body).all cThrough.contains=true:=by decide +kernel
theorem c5:PySem.W.Fast.tw8326940854005059898 {strict:=false,foot:=none,bare:=[]} pp.main.body=true:=by decide +kernel
theorem c1:(sreFenced pp.main&&((moduleNames pp.main.body).isEmpty||lookedIntoSs (moduleNames pp.main.body) pp.main.body))=true:=by decide +kernel
theorem c4:pp.boundNames.all (λn=> !worldNames.contains n)=true:=by decide +kernel
theorem l3:(rr.prog.boundNames.contains rr.name&& !startupNames.contains rr.name&&specDef rr.prog rr.name rr.args.length&&rr.args.all Codec.fits&&rr.ret.ok)=true:=by decide +kernel
theorem lk:looksOpen pp=true:=by
 unfold looksOpen
 rw[PySem.W.Fast.te8377067652309620493,PySem.W.Fast.te17119622794617984870,PySem.W.Fast.te17868728402115742887,PySem.W.Fast.te13343964577679436407,PySem.W.Fast.te8326940854005059898,c50,c51,c1,c3,c4]
 show(PySem.W.Fast.tw8326940854005059898 {strict:=false,foot:=none,bare:=[]} pp.main.body&&_)=true
 rw[c5,c6];rfl
theorem said:rr.wellSaid=true:=by
 have b:=l3
 simp only[Bool.and_eq_true] at b
 unfold OpenSpec.wellSaid
 simp only[Bool.and_eq_true]
 exact⟨⟨⟨⟨⟨lk,b.1.1.1.1⟩,b.1.1.1.2⟩,b.1.1.2⟩,b.1.2⟩,b.2⟩
noncomputable abbrev an:Option Value:=some (.ref 6)
noncomputable abbrev S0 (w:World) (os:OsState):Shared:=⟨boot_heap w.params,.mk [],boot_drawn,boot_toks,os⟩
noncomputable abbrev Sb (w:World) (os:OsState):Shared:=(SharedT.mk (tree_4 w.params) 15 {} (.mk []) {} 187 os).abs
noncomputable abbrev Hf (P:Params):Heap:=absHeap (tree_1223 P) 1158 {}
noncomputable abbrev Sf (w:World) (os:OsState):Shared:=⟨Hf w.params,.mk [],{},2014,os⟩
noncomputable abbrev bb:=behindTheImports pp
noncomputable abbrev cc:Code:= .body bb env_1
theorem pre(w:World)(os:OsState):topGo treeTable pp w 11 an 12 (S0 w os) (topStub pp)=some (Sb w os,⟨denote treeTable cc,cc,⟨0,0,0,0⟩,[topFrame ⟨0,0,0,0⟩]⟩):=by
 rw[PySem.W.Fast.te15667345088766844465,PySem.W.Fast.te11892475500146522536,PySem.W.Fast.te14364793385576792824]
 kernel_rfl
theorem blo(w:World)(os:OsState):segRun treeTable pp w 11 an 1 1 (Sb w os) (blockOf bb env_1 cc ⟨0,0,0,0⟩ [topFrame ⟨0,0,0,0⟩])=some (.next,Sb w os,cc,⟨0,0,0,0⟩):=by
 rw[PySem.W.Fast.te14374325043358763698,PySem.W.Fast.te14364793385576792824]
 kernel_rfl
theorem fin(w:World)(os:OsState):topRun treeTable pp w 11 an 20 (Sf w os) (restOf [] env_1 cc ⟨776,0,781,67⟩ [topFrame ⟨0,0,0,0⟩])=some (Sf w os):=by
 kernel_rfl
theorem r2(w:World)(os:OsState):topRun treeTable pp w 11 an 7922 (Sb w os) (restOf bb env_1 cc ⟨0,0,0,0⟩ [topFrame ⟨0,0,0,0⟩])=some (Sf w os):=Eq.mp (by kernel_rfl) (chain pp bb w os [] 20 _ (fin w os))
theorem r3(w:World)(os:OsState):topRun treeTable pp w 11 an 7923 (Sb w os) ⟨denote treeTable cc,cc,⟨0,0,0,0⟩,[topFrame ⟨0,0,0,0⟩]⟩=some (Sf w os):=Eq.mp (by kernel_rfl) (piece_block (blo w os) (r2 w os))
theorem run(w:World)(os:OsState):topRun treeTable pp w 11 an 7935 (S0 w os) (topStub pp)=some (Sf w os):=Eq.mp (by kernel_rfl) (go_top (pre w os) (r3 w os))
noncomputable def qq:Program:=view pp [210]
noncomputable abbrev lo:List Str:=pp.boundNames
noncomputable abbrev as:List Addr:=List.range 1158
theorem asK: ∀P,as=(KK P).map (·.1):=λ_=>by kernel_rfl
noncomputable def hk:Hook:=kHook KK as asK
noncomputable abbrev xt (s:Shared):Bool:=xlAt qq [] s&&recOk [] s
end
end Sq
namespace Sq
noncomputable section
open PySem PySem.W PyProof.Rows
theorem size(w:World):((boot_heap w.params).isNs mainGlobals&&(Array.mk []:Array GenState).size==0,(boot_heap w.params).objs.size,(boot_heap w.params).nsMap mainGlobals "__annotations__")=(true,11,an):=by kernel_rfl
theorem ag(t:BT)(n:Nat)(i:Life): ∀l:List Nat,(l.all λa=>Nat.blt a n&&(t.get a).isSome)=true->l.map (absHeap t n i).get? =l.map λa=>(t.get a).bind alive
 | [],_=>rfl
 |a::l,h=>by
  rw[List.all_cons,Bool.and_eq_true,Bool.and_eq_true] at h
  obtain⟨o,e⟩:=Option.isSome_iff_exists.mp h.1.2
  rw[List.map_cons,List.map_cons,ag t n i l h.2,abs_get (Nat.blt_eq.mp h.1.1) e,e];rfl
theorem k3(w:World)(os:OsState):hk.obs (Sf w os)=hk.val w:=(ag (tree_1223 w.params) 1158 {} as (by kernel_rfl)).trans (by kernel_rfl)
noncomputable abbrev im:=importedModules pp.main.body
theorem k1(w:World)(os:OsState):(staticsOk im (boot_heap w.params) (Hf w.params)&&namesBound pp (Hf w.params)&&gensDone (Sf w os)&&laidKept (boot_heap w.params) (Hf w.params))=true:=by kernel_rfl
theorem ka(w:World)(os:OsState):seen ((recsOf qq).map (·.name)) (ownsOf qq) [] {Sf w os with gens:= #[]}=expectedOf qq:=by kernel_rfl
theorem kb(w:World)(os:OsState):(Sf w os).heap.bltView=bltViewBooted:=by kernel_rfl
theorem kc(w:World)(os:OsState):((Sf w os).heap.keysOk (looseW qq lo) ((recsOf qq).map (·.name)) ((litsOf qq).map (·.1)) ((clssOf qq (looseW qq lo)).map (·.name))&&(Sf w os).heap.accountedOkI im&&(Sf w os).heap.isNs mainGlobals&&(Sf w os).heap.isNs builtinsNs&&tablesOk qq (Sf w os).heap&&xt (Sf w os)&&(if true then(Sf w os).gens.size==0 else !leftWithCleanup (Sf w os).gens))=true:=by kernel_rfl
theorem kd(w:World)(os:OsState):tabsOk qq (Sf w os)=true:=by kernel_rfl
theorem ke(w:World)(os:OsState):pinSeenD qq (drecsOf qq) (Sf w os)=pinGoodD (drecsOf qq):=by kernel_rfl
theorem kf(w:World)(os:OsState):plainSeenE qq (looseW qq lo) (Sf w os)=plainGoodE qq (looseW qq lo):=by kernel_rfl
theorem kg(w:World)(os:OsState):plainSeenD qq lo (Sf w os)=plainGoodD qq lo:=by kernel_rfl
theorem kh(w:World)(os:OsState):wideSeen qq (Sf w os)=wideGood qq:=by kernel_rfl
theorem ki(w:World)(os:OsState):clsSeenW qq lo (Sf w os)=clsGoodW qq lo:=by kernel_rfl
theorem looks(w:World):(λos=>((staticsOk im (boot_heap w.params) (Hf w.params)&&namesBound pp (Hf w.params)&&gensDone (Sf w os)&&laidKept (boot_heap w.params) (Hf w.params)),
    openSeen qq lo im xt true (Sf w os),hk.obs (Sf w os)))=λ_=>(true,openGood qq lo,hk.val w):=
 funext λos=>looks_pair (k1 w os) (looks_pair (looks_pair (ka w os) (looks_pair (kb w os) (looks_pair (kc w os) (looks_pair (kd w os) (looks_pair (ke w os) (looks_pair (kf w os) (looks_pair (kg w os) (looks_pair (kh w os) (ki w os))))))))) (k3 w os))
theorem left:LeftO pp qq lo xt hk.obs hk.val 15886:=
 LeftO.of_pieces (H₀:=boot_heap) (H₁:=Hf) (boot_open (by kernel_rfl) (by decide) λs=>by kernel_rfl) size run (by decide) looks
theorem tw:pp.tablesWhole=true:=by
 unfold Program.tablesWhole TablesWhole.wProgram
 rw[PySem.W.Fast.te6116379765354995101]
 decide +kernel
theorem ww:rr.prog.bare:=⟨rfl,rfl,rfl,rfl,rfl,tw⟩
theorem holds{d:DefRec}{k:List (Str×Expr)}(a:defOf qq rr.name=some (d,k))(b:rr.prog.theDef rr.name=some (d.params,d.body,d.scope))(c:kwWritten? d.params.kwonlyargs d.params.kw_defaults=some k)(call:WalkOS qq lo (XL qq []) (kHook KK as asK).says PySem.Challenge.rw_sealedbox_s01_answers d k λf vs=>PySem.call f vs):rr.Holds:=
 holds_os (q:=qq) (loose:=lo) (Xt:=xt) (XP:=XL qq []) (Yf:=hk.obs) (Ya:=hk.val) (YP:=hk.says) left hk.of hk.keeps (λs e=>xl_of s (Bool.and_eq_true_iff.mp e).1) XL.keeps a b c (λs e=>recFacts_of (Bool.and_eq_true_iff.mp e).2) (os_shapes) said (by decide +kernel) ww ⟨[.list [.int 3,.int 2,.int 0,.int 0]],by decide +kernel,by decide +kernel⟩ call
end
end Sq
set_option maxHeartbeats 200000
open PySem.W renaming Frag→ab,mg_of→aW,keepIn→d9,findIn→fk,emptyDict→fm,instObj→gW,fnOf→gX,nsIn→jl,codeIn→kI,callWith_K→m6,plainGet→o7,isFn→qB,lookIn→tm,plainGet_of→uF,methodObj→wO,hasDictIn→wQ,takerIn→zK,makesIn→zL,length_le_weightAllW→zM,cellsFrom_some→Ge,methodCall_KW→IC,callWith_K0→Kg,plainOver→M3,ktu_apart→M4,handedIn→Nl,WRecords→Nm,WalkOS→Qm
open List renaming getD_eq_getElem?_getD→ae,getElem?_eq_getElem→af,length_map→ag,mem_cons→aA,getElem?_eq_some_iff→aD,getElem?_map→aI,mem_cons_of_mem→aK,length_append→aP,mem_map→aQ,take_of_length_le→aU,mem_cons_self→aY,mem_of_getElem?→aZ,length_take→bo,mem_singleton→br,size_toArray→bz,map_cons→bB,replicate→bC,map_append→bF,not_mem_nil→bM,map_map→bP,length_drop→bT,nodup_cons→bU,length_cons→bV,ext_getElem→bW,map_congr_left→cC,mem_append→cJ,drop_of_length_le→cK,mem_of_mem_take→cM,append_nil→dz,length_range→dE,flatMap_cons→dF,getElem?_set_ne→dM,getElem?_append_right→dN,length_set→dO,getElem?_set_self→dW,replicate_succ→d8,mem_append_right→eD,mem_of_mem_drop→eT,length_eq_zero_iff→eU,sum_cons→fw,map_take→fz,drop_eq_getElem_cons→fG,getElem?_eq_none→fK,flatMap_nil→fQ,append_assoc→gc,lookup_cons→gG,getElem_mem→gH,all_eq_true→gI,drop_drop→gM,getElem?_append_left→hZ,take_succ_eq_append_getElem→ib,set_set→ic,ext_getElem?→ie,map_drop→iu,length_pos_iff→iE,flatMap_append→iF,zipWith_cons_cons→iU,lookup→jr,drop_zero→js,zipWith→jF,filter_cons→jG,findIdx?_eq_none_iff→jO,getElem?_take_of_lt→kh,of_mem_zip→kj,foldl_cons→km,find?_cons→kn,getElem?_drop→kG,findIdx?_eq_some_iff_getElem→kO,forIn_nil→k9,flatten_cons→lh,length_replicate→lN,getElem_map→lR,forIn_cons→mZ,length_reverse→m7,nodup_nil→oo,map_replicate→oq,getElem?_set→o8,any_cons→pS,all_cons→pU,zipIdx_cons→qG,getElem?_replicate→qH,map_nil→sf,find?_cons_of_neg→sg,all_map→sh,zipIdx_nil→tE,range_succ→tF,nil_append→tI,mem_iff_getElem→vb,drop_take→vc,getElem_of_mem→wJ,getElem?_range→wK,filterMap_cons→wL,getElem_range→xN,getElem?_take→xO,reverse_cons→zo,cons_append→Ca,take_append_of_le_length→Cd,getLast?_eq_some_getLast→Ce,mem_filter→Dh,take_zero→F1,take_take→F2,mem_range→F3,getElem_append_right→Gg,take_nil→IF,getElem_append_left→IG,not_any_eq_all_not→IT,getLast_eq_getElem→IU,getElem?_cons_zero→IV,getElem?_dropLast→Ki,find?_cons_of_pos→Kj,filter_eq_nil_iff→Kk,getElem?_reverse→Ln,dropLast_eq_take→Lo,mem_append_left→M7,getElem_zipWith→M8,length_zipWith→Np,getElem_zipIdx→Nq,zip_cons_cons→P2,mem_filterMap→P4,foldl→P5,any_eq_false→Qo,flatMap_map→Sl,length_nil→TN,map_id→Zj
open Option.some renaming inj→ao
open Wqarav renaming Seal→ax,Form→aB,formOf→aT,luck→aV,Box→a9,Secret→bp,givenSize→bu,rowsOf→bD,num→bJ,mixed→bO,NOTHING→bZ,tells→cy,BOXES→cG,digitPolys→cU,Work→cW,smallInt→c9,onBox→di,toRing→dm,through→dt,readCircuit→dH,State→dP,plainWires→dY,Pair→dZ,times→eE,secretOf→eG,gateTable→eQ,toWord→fi,ofForm→fj,tableBound→fo,intRows→fq,Row→fJ,nothing→fR,Made→fS,Circuit→fT,ofSecret→f9,sure→gu,tablePoly→gx,changed→gD,BIG→gE,given→hX,sealOf→ia,sealBytes→iz,fresh→iO,GIVEN→iP,greatest→iT,digits→iY,circuited→jq,Answer→jW,INS→kg,plus→ki,rounded→kL,taken→mV,lucky→mW,begun→mX,turned→oY,inner→qF,sent→tU,Gate→tV,stepped→Dd,noiseOf→De,gateSum→Df,signed→FW,opened→FX,phase→IA,SEALS→IB,gate→Kf,changingOf→Nk,turningOf→PZ,takenOut→Ql,workOf→TJ,Result→TK,minus→VH
open Nat renaming zero_le→aC,le_refl→aE,mul_assoc→cc,mul_comm→cj,lt_of_lt_of_le→cp,ne_of_lt→cv,le_trans→cH,mul_le_mul→cN,not_lt→fB,not_le→gr,ne_of_gt→gA,mul_succ→gB,lt_irrefl→gF,min_eq_left→i4,mul_le_mul_right→jt,succ_mul→jL,lt_succ_self→jM,le_add_right→jN,sub_self→lu,mul_zero→lx,min_self→ly,min_eq_right→lU,add_assoc→mj,pow_le_pow_right→mB,mul_le_mul_left→nh,zero_add→nW,mul_left_comm→pP,lt_succ_of_lt→pQ,le_of_succ_le→pR,add_sub_cancel_left→qL,sub_zero→tq,le_mul_of_pos_left→tu,div_div_eq_div_mul→tw,add_comm→tD,div_le_of_le_mul→vd,add_mul→ve,pos_of_ne_zero→yG,add_sub_cancel→yH,pow_succ→zN,le_of_eq→zO,add_zero→zP,two_pow_pos→Ew,not_lt_zero→Ex,min_le_left→Ey,div_add_mod→Ez,zero_mul→Ll,le_of_lt→Lm,le_succ→Nn,succ_eq_add_one→P1,mod_lt→Qn,mod_eq_of_lt→TM,succ_add→Zh,pow_zero→Zi
open WqaravNeutral renaming natural→aN,seed→lL,asked1→o6,callOf→Cc
open Int renaming toNat_of_nonneg→aR,toNat_natCast→bb,natCast_mul→bf,natCast_add→bh,natCast_ediv→cu,natCast_emod→dn,zero_add→gC,emod_nonneg→kH,emod_lt_of_pos→kJ,natCast_pow→m8,cast_ofNat_Int→ot,toNat→qM,natCast_sub→tW,emod_emod_of_dvd→vf,mul_comm→zQ,add_emod_emod→zR,fdiv_eq_ediv_of_nonneg→Gh,neg_emod_eq_sub_emod→IW,dvd_refl→Lp,one_mul→Nr,emod_eq_of_lt→Sm,emod_add_emod→Sn,sub_emod→Zk,mul_emod→Zl,add_zero→Zm,add_emod→Zn
open Bool renaming and_eq_true_iff→a8,false_ne_true→bg,and_eq_true→cq,noConfusion→dk,true_and→eI,false_and→eJ,eq_iff_iff→iZ,eq_false_iff→o9,toNat→xP,and_false→F5,false_or→IH,false_eq_true→P6,or_eq_true→TQ
open Ne renaming symm→bG
open PySem.F renaming plainAttrs_list→bH,type_list_append→cS,slot_list_append→cT,type_list_extend→du,slot_list_extend→dv,slot_dict_get→qJ,slot_dict_getitem→Dg,plainAttrs_dict→FZ,args_dict_get_2→F0,entry_dict_get→Gf,slot_dict_pop→ID
open Sum renaming inl→bQ,inr→zJ
open PyProof.Rows renaming callWith_type1→ck
open PySem renaming mem_of_lookup→cA,Within→IS
open False renaming elim→d5
open PyWqarav renaming whole→d7,answers→k8,calls→mY,answers_asked→FY
open Classical renaming byContradiction→gK,choose_spec→F4
open Option renaming getD_some→iA,isSome_iff_exists→oZ,map_some→qK,isSome_map→xM,isSome_some→M6,getD_none→P0
open Sum.inl renaming inj→jd
open PyFlat renaming calls→kN,played→lM,rows→Kh
open Prod.mk renaming injEq→lK
open PySem.Challenge renaming rw_sealedbox_s01_answers→nV
open True renaming intro→om
open ForInStep renaming yield→pV
open Array renaming getElem?_eq_getElem→F6,toList→IX,length_toList→M9
open Or renaming inr→IE,inl→M5
set_option hygiene false
local macro_rules|`(tactic|exists $e)=>`(tactic|refine $e λf cdv A outer s H vs Q E nd hr h=>?_)
local macro_rules|`(tactic|exists 0)=>`(tactic|(show wpAny _ _ (field (.ref z) 2 >>=_) _ _ _;refine wpAny_bind (wpAny_field hz rfl (x:= .bool false) rfl ?_);show wpAny _ _ (field (.ref z) 3 >>=_) _ _ _;refine wpAny_bind (wpAny_field hz rfl (x:= .ref TI) rfl ?_);refine wpAny_bind (wpAny_seqItems lJ rfl ?_);show wpAny _ _ (Builtin.SmallTypes.ownedTupleIsFree (.ref z)>>=_) _ _ _;refine wpAny_bind ?_;unfold Builtin.SmallTypes.ownedTupleIsFree;refine wpAny_bind (wpAny_field hz rfl (x:= .none) rfl (wpAny_pure ?_))))
local macro_rules|`(tactic|exists 1)=>`(tactic|(obtain rfl:=ao hA.call;have hq:=hA.asked;obtain⟨ka,hq⟩:=sP (a:=a) hq))
local macro_rules|`(tactic|exists 2)=>`(tactic|(have hc:=(ao hA.call).symm;subst hc;have ka:=dh (show aN a=true from(a8.mp hA.asked).1)))
local macro_rules|`(tactic|exists 3)=>`(tactic|(simp only[if_true];refine wpAny_bind (wpAny_rule ?_);refine wpAny_bind (wpAny_field hz rfl (x:= .ref TO) rfl ?_);refine wpAny_bind (wpAny_setField_rec hz (by simp) λg1 JE s1=> ?_);replace JE:IsZip g1 z TI TO .ellipsis:=JE;refine wpAny_bind ?_;simp only[qG,tE,mZ,k9];refine wpAny_bind (wpAny_bind (wpAny_onRaise ?_));show wpAny _ _ (Builtin.SmallTypes.nextOf (.ref i1)>>=_) _ _ _))
local macro_rules|`(tactic|exists 4)=>`(tactic|(intro X hP hw hK hc i pins s σ H E I hf st hg;subst hP hw hK))
local macro_rules|`(tactic|exists 6)=>`(tactic|(refine⟨λi m σ H=>m=xs.length - i/\i<=xs.length/\Pv i σ H,⟨xs.length,by simp,aC _,h0⟩,?_⟩;rintro i m σ H ⟨rfl,hi,p⟩))
local macro_rules|`(tactic|exists 8)=>`(tactic|(obtain⟨a,f,rfl,hF,hg,q⟩:=h;obtain⟨dx,na,hf,hn⟩:=id hF))
local macro_rules|`(tactic|exists 10)=>`(tactic|(rw[e2];rw[of_none e1] at q;exact⟨_,rfl,_,rfl,cY ⟨5,rfl,λp H' sm np hp=>q.dA hB rfl sm np hp⟩⟩))
local macro_rules|`(tactic|exists 13)=>`(tactic|(intro pins s σ H Q I h))
local macro_rules|`(tactic|exists 15)=>`(tactic|(obtain⟨f0,f1,f2,f3,f4,f5⟩:=hf it (by simp)))
local macro_rules|`(tactic|exists 20)=>`(tactic|(exact cY ⟨1,rfl,λp H' sm np hp=>q.dA hB rfl sm np hp⟩))
local macro_rules|`(tactic|exists 23)=>`(tactic|(refine⟨_,rfl,_,_,rfl,rfl,_,rfl,j9 (λhc=> ?_) λhc=> ?_⟩))
noncomputable section
namespace L2
open PySem PySem.Spec PyProof.Rows
abbrev Key:=Sum Int Str
def DW:Key->Value->Bool
 | .inl k,v=>Value.isInt k v
 | .inr x,v=>Value.isStrOf x v
def aaa(w:World):Key->Int
 | .inl k=>hashInt k
 | .inr x=>hashStr w x
theorem gS: ∀{k:Key} {v:Value},DW k v=true->(∃i t,k=bQ i/\v=Value.int i t)\/(∃x t,k=zJ x/\v=Value.str x t)
 | .inl i,v,h=>by
  obtain⟨t,e⟩:=Value.isInt_shape (k:=i) (v:=v) h;exact .inl ⟨i,t,rfl,e⟩
 | .inr x,v,h=>by
  obtain⟨t,e⟩:=Value.isStrOf_shape (x:=x) (v:=v) h;exact .inr ⟨x,t,rfl,e⟩
def L7(i:Int)(t:Tok):DW (.inl i) (.int i t)=true:=by simp[DW,Value.isInt]
def L6(x:Str)(t:Tok):DW (.inr x) (.str x t)=true:=by simp[DW,Value.isStrOf]
def UM(a b:Int):decide ((bQ a:Key)=bQ b)=(a==b):=by
 by_cases e:a=b
 ·subst e;simp
 ·have h: ¬(bQ a:Key)=bQ b:=λq=>e (jd q);rw[decide_eq_false h];exact(beq_eq_false_iff_ne.mpr e).symm
def UJ(a b:Str):decide ((zJ a:Key)=zJ b)=decide (a=b):=by
 by_cases e:a=b
 ·subst e;simp
 ·have h: ¬(zJ a:Key)=zJ b:=λq=>e (Sum.inr.inj q);rw[decide_eq_false h,decide_eq_false e]
def UL(a:Int)(b:Str):decide ((bQ a:Key)=zJ b)=false:=decide_eq_false (λq=>nomatch q)
def UK(a:Str)(b:Int):decide ((zJ a:Key)=bQ b)=false:=decide_eq_false (λq=>nomatch q)
def fW(prog:Program)(w:World):PySem.KeyKind prog w Key where
 is:=DW
 hash:=aaa w
 inj:=λv a b ha hb=>by
  rcases gS ha with⟨i,t,rfl,rfl⟩|⟨x,t,rfl,rfl⟩
  ·rcases gS hb with⟨j,u,rfl,e⟩|⟨y,u,rfl,e⟩
   ·injection e with e1 _;rw[e1]
   ·exact nomatch e
  ·rcases gS hb with⟨j,u,rfl,e⟩|⟨y,u,rfl,e⟩
   ·exact nomatch e
   ·injection e with e1 _;rw[e1]
 byValue:=λk v h=>by
  rcases gS h with⟨i,t,rfl,rfl⟩|⟨x,t,rfl,rfl⟩<;> rfl
 pyHash:=λhv h=>by
  rcases gS hv with⟨i,t,rfl,rfl⟩|⟨x,t,rfl,rfl⟩
  ·exact wpAny_pyHash_int h
  ·exact wpAny_pyHash_str h
 eqBool:=λhu hv h=>by
  rcases gS hu with⟨i,t,rfl,rfl⟩|⟨x,t,rfl,rfl⟩
  ·rcases gS hv with⟨j,u,rfl,rfl⟩|⟨y,u,rfl,rfl⟩
   ·rw[UM] at h;exact wpAny_eqBool_int h
   ·rw[UL] at h;exact SeqAt.EqAt.int_str i t y u _ _ _ _ h
  ·rcases gS hv with⟨j,u,rfl,rfl⟩|⟨y,u,rfl,rfl⟩
   ·rw[UK] at h;exact SeqAt.EqAt.str_int x t j u _ _ _ _ h
   ·rw[UJ] at h;exact wpAny_eqBool_str h
 «strs»:=λk x t v h=>by
  rcases gS h with⟨i,u,rfl,e⟩|⟨y,u,rfl,e⟩
  ·exact nomatch e
  ·injection e with e1 _;subst e1;cases v <;> rfl
def rD(prog:Program)(w:World)(i:Int)(t:Tok):(fW prog w).is (.inl i) (.int i t)=true:=L7 i t
def Hg(prog:Program)(w:World)(x:Str)(t:Tok):(fW prog w).is (.inr x) (.str x t)=true:=L6 x t
end L2
namespace L2
open PySem PySem.Spec PyProof.Rows
inductive V where
 |fC|bl (b:Bool)|int (i:Int)|str (x:Str)|Ij (b:Array UInt8)|X8 (b:UInt64)|ref (a:Addr)|ty (n:String)
 deriving DecidableEq
def RelV:V->Value->Prop
 | .fC,u=>u=Value.none
 | .bl b,u=>u=Value.bool b
 | .int i,u=> ∃t,u=Value.int i t
 | .str x,u=> ∃t,u=Value.str x t
 | .Ij b,u=> ∃t,u=Value.bytes b t
 | .X8 b,u=> ∃t,u=Value.float b t
 | .ref a,u=>u=Value.ref a
 | .ty n,u=>u=Value.type n
abbrev Vals:List V->List Value->Prop:=Paired RelV
theorem Vals.length{xs:List V}{us:List Value}(r:Vals xs us):xs.length=us.length:=Paired.length r
theorem Vals.get: ∀{xs:List V} {us:List Value} {i:Nat} {x:V},Vals xs us->xs[i]? =some x-> ∃u,us[i]? =some u/\RelV x u
 |_,_,_,_,.nil,e=>by simp at e
 |_,_,0,_,.cons r _,e=>by simp at e;subst e;exact⟨_,rfl,r⟩
 |_,_,i + 1,x,.cons _ t,e=>by
  obtain⟨u,h1,h2⟩:=Vals.get (i:=i) (x:=x) t (by simpa using e);exact⟨u,by simpa using h1,h2⟩
theorem Vals.set{x:V}{u:Value}(r:RelV x u): ∀{xs:List V} {us:List Value} (i:Nat),Vals xs us->Vals (xs.set i x) (us.set i u)
 |_,_,_,.nil=> .nil
 |_,_,0,.cons _ t=> .cons r t
 |_,_,i + 1,.cons q t=> .cons q (Vals.set r i t)
theorem Vals.append: ∀{xs ys:List V} {us ws:List Value},Vals xs us->Vals ys ws->Vals (xs++ys) (us++ws)
 |_,_,_,_,.nil,s=>s
 |_,_,_,_,.cons r t,s=> .cons r (Vals.append t s)
theorem Vals.take: ∀{xs:List V} {us:List Value} (n:Nat),Vals xs us->Vals (xs.take n) (us.take n)
 |_,_,0,_=> .nil
 |_,_,_ + 1,.nil=> .nil
 |_,_,n + 1,.cons r t=> .cons r (Vals.take n t)
theorem Vals.drop: ∀{xs:List V} {us:List Value} (n:Nat),Vals xs us->Vals (xs.drop n) (us.drop n)
 |_,_,0,r=>r
 |_,_,_ + 1,.nil=> .nil
 |_,_,n + 1,.cons _ t=>Vals.drop n t
def oW:Option V->Option Value->Prop
 |some v,some u=>RelV v u
 |none,none=>True
 |_,_=>False
def KV{κ:Type}:List (κ×V)->List (κ×Value)->Prop:=Paired λ(p:κ×V) (q:κ×Value)=>p.1=q.1/\RelV p.2 q.2
def kV:Key->V
 | .inl i=> .int i
 | .inr x=> .str x
inductive HO where
 |lst (xs:List V)
 |tup (xs:List V)
 |dK (bE:List (Key×V))|dT (bE:List (List Key×V))
 |set (S:Int->Bool) (n:Nat)
 |ins (C dx:Addr) (fs:List (Str×V))
 |own (x:Addr)
 |xd (fs:List (Str×V))
 |met (f x:Addr)
 |ZM (lo hi:Int)
 |qI (o:Obj) (u:HO)
 |Ud (ps:Array Value)
 |ext (φ:Heap->Prop)
abbrev Hp:=Addr->Option HO
def upd(H:Hp)(a:Addr)(o:HO):Hp:=λb=>if b=a then some o else H b
def ak{H:Hp}{a:Addr}{o:HO}:upd H a o a=some o:=by unfold upd;rw[if_pos rfl]
def aJ{H:Hp}{a b:Addr}{o:HO}(h:b≠a):upd H a o b=H b:=by unfold upd;rw[if_neg h]
def dG{H:Hp}{a:Addr}{o u:HO}:upd (upd H a o) a u=upd H a u:=by
 funext b;unfold upd;split <;> rfl
def jw{H:Hp}{a b:Addr}{o u:HO}(h:H a=some o)(h':H b=some u)(d:o≠u):a≠b:=by
 intro e;subst e;rw[h] at h';exact d (ao h')
def aO{H:Hp}{a b:Addr}{o:HO}(h:H a=some o)(h':H b=none):a≠b:=by
 intro e;subst e;rw[h] at h';cases h'
section
variable(P:Program)(w:World)
def gJ(H:Hp)(h:Heap)(a:Addr):HO->Prop
 | .lst xs=>xs.length<=sizeLine/\ ∃(its:List Value) (n:Nat),Vals xs its/\h.get? a=some {cls:= .type "list",data:= .seq its.toArray n}
 | .tup xs=>xs.length<=sizeLine/\ ∃its:List Value,Vals xs its/\IsTup h a its.toArray
 | .dK bE=>bE.length<=sizeLine/\(a==sysModules)=false/\ ∃vs,KV bE vs/\h.DictOf (fW P w) a vs
 | .dT bE=>bE.length<=sizeLine/\(a==sysModules)=false/\ ∃xs:List (List Key×Addr×Value),
   Paired (λ(p:List Key×V) (q:List Key×Addr×Value)=>p.1=q.1/\H q.2.1=some (.tup (p.1.map kV))/\RelV p.2 q.2.2) bE xs/\
   ∃o es ep,h.get? a=some o/\o.ExactDict/\o.data= .dict es ep/\es.toList=xs.map (entryOfKey (tupleKind (fW P w)))/\(xs.map (·.1)).Nodup
 | .set S n=>h.SetOf (intKind P w) a S n
 | .ins C dx fs=>H dx=some (.own a)/\fs.length<=1000/\dx≠a/\h.get? a=some (gW C dx)/\
   ∃mA,h.Ns1 dx mA/\(∀f,oW (fs.lookup f) (mA f))/\IS mA (fs.map (·.1))
 | .own _=> ∃o,h.get? a=some o
 | .xd fs=> ∃mA,h.Ns1 a mA/\ ∀f,oW (fs.lookup f) (mA f)
 | .ZM lo hi=> ∃t u v,h.get? a=some {cls:= .type "range",data:= .fields #[.int lo t,.int hi u,.int 1 v]}
 | .qI o u=>h.get? a=some o/\gJ H h a u
 | .Ud ps=>h.get? a=some {cls:= .none,data:= .fields ps}
 | .met f x=>h.get? a=some (wO (.ref f) (.ref x))
 | .ext φ=>φ h/\(∃o,h.get? a=some o)/\ ∀h1 h2:Heap,φ h1->(∀o,h1.get? a=some o->h2.get? a=some o)->φ h2
def r9(H:Hp)(h:Heap):Prop:= ∀a o,H a=some o->gJ P w H h a o
end
section
variable{P:Program}{w:World}{H H':Hp}{h h':Heap}{a:Addr}{o:HO}
theorem gJ.lt(x:gJ P w H h a o):a<h.objs.size:=by
 cases o with
 |lst xs=>obtain⟨_,_,_,_,e⟩:=x;exact Heap.lt_size e
 |tup xs=>obtain⟨_,_,_,p⟩:=x;exact p.lt
 |dK bE=>obtain⟨_,_,_,_,o,_,_,e,_⟩:=x;exact Heap.lt_size e
 |dT bE=>obtain⟨_,_,_,_,o,_,_,e,_⟩:=x;exact Heap.lt_size e
 |set S n=>obtain⟨o,_,_,_,e,_⟩:=x;exact Heap.lt_size e
 |ins C dx fs=>obtain⟨_,_,_,e,_⟩:=x;exact Heap.lt_size e
 |own y=>obtain⟨_,e⟩:=x;exact Heap.lt_size e
 |xd fs=>obtain⟨_,⟨_,_,_,e,_⟩,_⟩:=x;exact Heap.lt_size e
 |ZM lo hi=>obtain⟨_,_,_,e⟩:=x;exact Heap.lt_size e
 |qI ob u=>obtain⟨e,_⟩:=x;exact Heap.lt_size e
 |Ud ps=>exact Heap.lt_size (show h.get? a=some _ from x)
 |met f y=>exact Heap.lt_size (show h.get? a=some _ from x)
 |ext φ=>obtain⟨_,⟨_,e⟩,_⟩:=x;exact Heap.lt_size e
theorem Paired.ja{α β:Type}{F G:α->β->Prop}: ∀{LY:List α} {LX:List β},Paired F LY LX->(∀a b,F a b->G a b)->Paired G LY LX
 |_,_,.nil,_=> .nil
 |_,_,.cons r t,f=> .cons (f _ _ r) (Paired.ja t f)
def gJ.dA(x:gJ P w H h a o)(k: ∀b u,(b=a\/H b=some (.own a))->h.get? b=some u->h'.get? b=some u)
  (ho: ∀b,H b=some (.own a)->H' b=some (.own a)) (ht: ∀b xs,H b=some (.tup xs)->H' b=some (.tup xs)):gJ P w H' h' a o:=by
 induction o with
 |lst xs=>obtain⟨z,its,n,r,e⟩:=x;exact⟨z,its,n,r,k _ _ (.inl rfl) e⟩
 |tup xs=>obtain⟨z,its,r,ob,e,c⟩:=x;exact⟨z,its,r,ob,k _ _ (.inl rfl) e,c⟩
 |dK bE=>obtain⟨z,y,vs,r,ob,es,ep,e,c⟩:=x;exact⟨z,y,vs,r,ob,es,ep,k _ _ (.inl rfl) e,c⟩
 |dT bE=>
  obtain⟨z,y,xs,r,ob,es,ep,e,c⟩:=x;exact⟨z,y,xs,Paired.ja r λp q z=>⟨z.1,ht _ _ z.2.1,z.2.2⟩,ob,es,ep,k _ _ (.inl rfl) e,c⟩
 |set S n=>obtain⟨ob,es,ep,t,e,c⟩:=x;exact⟨ob,es,ep,t,k _ _ (.inl rfl) e,c⟩
 |ins C dx fs=>
  obtain⟨d,z,ne,e,mA,⟨od,es,ep,e2,c⟩,r⟩:=x;exact⟨ho _ d,z,ne,k _ _ (.inl rfl) e,mA,⟨od,es,ep,k _ _ (.inr d) e2,c⟩,r⟩
 |own y=>obtain⟨ob,e⟩:=x;exact⟨ob,k _ _ (.inl rfl) e⟩
 |xd fs=>obtain⟨mA,⟨od,es,ep,e,c⟩,r⟩:=x;exact⟨mA,⟨od,es,ep,k _ _ (.inl rfl) e,c⟩,r⟩
 |ZM lo hi=>obtain⟨t,u,v,e⟩:=x;exact⟨t,u,v,k _ _ (.inl rfl) e⟩
 |qI ob u ih=>obtain⟨e,q⟩:=x;exact⟨k _ _ (.inl rfl) e,ih q⟩
 |Ud ps=>
  have e:h.get? a=some {cls:= .none,data:= .fields ps}:=x;show h'.get? a=some {cls:= .none,data:= .fields ps};exact k a _ (.inl rfl) e
 |met f y=>
  have e:h.get? a=some (wO (.ref f) (.ref y)):=x;show h'.get? a=some (wO (.ref f) (.ref y));exact k a _ (.inl rfl) e
 |ext φ=>obtain⟨p,⟨o,e⟩,st⟩:=x;exact⟨st _ _ p λo q=>k _ _ (.inl rfl) q,⟨o,k _ _ (.inl rfl) e⟩,st⟩
theorem r9.lt(x:r9 P w H h)(e:H a=some o):a<h.objs.size:=(x a o e).lt
def r9.fresh(x:r9 P w H h)(e:h.objs.size<=a):H a=none:=by
 cases q:H a with
 |none=>rfl
 |some u=>exact absurd (cp (x.lt q) e) (gF _)
def r9.kept(x:r9 P w H h)(k: ∀b u,h.get? b=some u->h'.get? b=some u):r9 P w H h':=λa o e=>
 (x a o e).dA (λb u _ q=>k b u q) (λ_ q=>q) λ_ _ q=>q
def r9.laid(x:r9 P w H h)(k: ∀b u,h.get? b=some u->h'.get? b=some u)(hp:h.objs.size<=a)(new:gJ P w (upd H a o) h' a o):r9 P w (upd H a o) h':=λb u e=>by
 have hn:=x.fresh hp;by_cases hb:b=a
 ·subst hb;rw[ak] at e;cases e;exact new
 ·rw[aJ hb] at e;exact(x b u e).dA (λc v _ q=>k c v q) (λc q=>by rw[aJ (aO q hn)];exact q) λc xs q=>by rw[aJ (aO q hn)];exact q
end
def Rd(H:Hp)(a:Addr)(u:HO):Prop:=H a=some u\/ ∃o,H a=some (.qI o u)
def Rd.ok{P:Program}{w:World}{H:Hp}{h:Heap}{a:Addr}{u:HO}(r:Rd H a u)(x:r9 P w H h):gJ P w H h a u:=by
 rcases r with r|⟨o,r⟩
 ·exact x a u r
 ·obtain⟨_,q⟩:=x a _ r;exact q
def TB:Option HO->Prop
 |some (.lst _)=>True
 |some (.dK _)=>True
 |some (.dT _)=>True
 |some (.set _ _)=>True
 |some (.ins _ _ _)=>True
 |some (.ext _)=>True
 |_=>False
section
variable{P:Program}{w:World}{H:Hp}{h h':Heap}{x e:Addr}{o':HO}
def r9.write(ok:r9 P w H h)(mu:TB (H x))(he:e=x\/H e=some (.own x))(k: ∀b u,b≠e->h.get? b=some u->h'.get? b=some u)(V5: ∃u,h'.get? e=some u)
  (new:gJ P w (upd H x o') h' x o'):r9 P w (upd H x o') h':=λb u q=>by
 have W3: ∀c y,H c=some (.own y)->c≠x:=λc y r z=>by subst z;rw[r] at mu;exact mu
 have ZT: ∀c xs,H c=some (.tup xs)->c≠x:=λc xs r z=>by subst z;rw[r] at mu;exact mu
 by_cases hb:b=x
 ·subst hb;rw[ak] at q;cases q;exact new
 ·rw[aJ hb] at q;by_cases Va:b=e
  ·have q':H b=some (.own x):=by
    rcases he with z|z
    ·exact absurd (Va.trans z) hb
    ·rw[Va];exact z
   rw[q] at q';cases q';obtain⟨v,hv⟩:=V5;exact⟨v,by rw[Va];exact hv⟩
  ·refine(ok b u q).dA (λc v hc r=>k c v ?_ r) (λc r=>by rw[aJ (W3 c b r)];exact r) λc xs r=>by rw[aJ (ZT c xs r)];exact r
   rcases hc with rfl|hc
   ·exact Va
   ·rintro rfl;rcases he with z|z
    ·exact W3 c b hc z
    ·rw[hc] at z;cases z;exact hb rfl
end
structure Un(fs ex:List Addr)(H H':Hp)(h h':Heap):Prop where
 keep: ∀b o,h.get? b=some o->H b=none->b∉fs->b∉ex->h'.get? b=some o
 slot: ∀b o,h.get? b=some o->H b=none->b∈fs->b∉ex-> ∃sl,h'.get? b=some {o with slots:=sl}
 free: ∀b o,h.get? b=some o->H b=none->b∉ex->H' b=none
 there: ∀b o,h.get? b=some o->b∉ex-> ∃o',h'.get? b=some o'
 ED: ∀b xs,H b=some (.tup xs)->H' b=some (.tup xs)
 Bx: ∀b o u,H b=some (.qI o u)->H' b=some (.qI o u)
 EE: ∀b ps,H b=some (.Ud ps)-> ∃more,H' b=some (.Ud (ps++more))
section
variable{fs fs' ex ex':List Addr}{H H1 H2:Hp}{h h1 h2 h':Heap}{a x e:Addr}{o:HO}
def Un.any(u:Un fs ex H H1 h h1){b:Addr}{ob:Obj}(q:h.get? b=some ob)(n:H b=none)(hx:b∉ex): ∃sl,h1.get? b=some {ob with slots:=sl}:=by
 by_cases hb:b∈fs
 ·exact u.slot b ob q n hb hx
 ·exact⟨ob.slots,u.keep b ob q n hb hx⟩
def Un.kept(k: ∀b u,h.get? b=some u->h'.get? b=some u):Un fs ex H H h h':=
 ⟨λb ob q _ _ _=>k b ob q,λb ob q _ _ _=>⟨ob.slots,k b ob q⟩,λ_ _ _ n _=>n,λb ob q _=>⟨ob,k b ob q⟩,λ_ _ q=>q,λ_ _ _ q=>q,λ_ ps q=>⟨#[],by rw[q];simp⟩⟩
def Un.refl:Un fs ex H H h h:=Un.kept λ_ _ q=>q
def Un.laid(k: ∀b u,h.get? b=some u->h'.get? b=some u)(hp:h.objs.size<=a)(hn:H a=none):Un fs ex H (upd H a o) h h' where
 keep:=λb u q _ _ _=>k b u q
 slot:=λb u q _ _ _=>⟨u.slots,k b u q⟩
 free:=λb u q n _=>by rw[aJ (cv (cp (Heap.lt_size q) hp))];exact n
 there:=λb u q _=>⟨u,k b u q⟩
 ED:=λb xs q=>by rw[aJ (aO q hn)];exact q
 Bx:=λb u xs q=>by rw[aJ (aO q hn)];exact q
 EE:=λb ps q=>⟨#[],by rw[aJ (aO q hn),q];simp⟩
def Un.write(mu:TB (H x))(he:e=x\/H e=some (.own x))(k: ∀b u,b≠e->h.get? b=some u->h'.get? b=some u)(V5: ∃u,h'.get? e=some u):Un fs ex H (upd H x o) h h':=by
 have hx: ∀b,H b=none->b≠x:=λb n z=>by subst z;rw[n] at mu;exact mu
 have hb: ∀b,H b=none->b≠e:=λb n z=>by
  subst z;rcases he with r|r
  ·exact hx b n r
  ·rw[n] at r;cases r
 have hm: ∀b u,H b=some u-> ¬TB (some u)->b≠x:=λb u q nm z=>by subst z;rw[q] at mu;exact nm mu
 refine⟨λb u q n _ _=>k b u (hb b n) q,λb u q n _ _=>⟨u.slots,k b u (hb b n) q⟩,λb u q n _=>by rw[aJ (hx b n)];exact n,λb u q _=> ?_,
  λb xs q=>by rw[aJ (hm b _ q λz=>z)];exact q,λb u xs q=>by rw[aJ (hm b _ q λz=>z)];exact q,λb ps q=>⟨#[],by rw[aJ (hm b _ q λz=>z),q];simp⟩⟩
 by_cases Va:b=e
 ·subst Va;exact V5
 ·exact⟨u,k b u Va q⟩
end
def YD(h:Heap)(H:Hp):List Addr:=(List.range h.objs.size).filter λa=>(H a).isSome
def E9(h:Heap)(H:Hp):Heap:=PySem.W.hideAll h (YD h H)
def Mf(h:Heap)(H:Hp):(E9 h H).objs.size=h.objs.size:=PySem.W.hideAll_size _ _
def O5{h:Heap}{H:Hp}{b:Addr}{o:Obj}(e:h.get? b=some o)(n:H b=none):(E9 h H).get? b=some o:=
 PySem.W.hideAll_get _ e λhm=>by
  have q:(H b).isSome=true:=(Dh.mp hm).2;rw[n] at q;simp at q
def Q9{h:Heap}{H:Hp}{b:Addr}{o:Obj}(e:(E9 h H).get? b=some o):h.get? b=some o/\H b=none:=by
 have e':h.get? b=some o:=PySem.W.of_hideAll (YD h H) e;refine⟨e',?_⟩;cases q:H b with
 |none=>rfl
 |some x=>
  have hm:b∈YD h H:=Dh.mpr ⟨F3.mpr (Heap.lt_size e'),by simp[q]⟩;have z:(E9 h H).get? b=none:=PySem.W.hideAll_none (YD h H) hm;rw[z] at e;cases e
end L2
namespace L2
open PySem PySem.Spec PyProof.Rows
structure Mod(K:ab)(mg:Str->Option Value)(base:Heap):Prop where
 VR:K.In base
 glob:base.Ns mainGlobals mg
 blt: ∃mb,base.Ns builtinsNs mb/\ ∀x:Str,x≠"__name__"->mb x=bootBuiltins x
 nolimit:base.NoLimit
structure Cx where
 prog:Program
 w:World
 K:ab
 mg:Str->Option Value
 base:Heap
 A:Around
 N:List Str
 DD:Shared
 VB:Hp
 env:Env
 outer:List Env
 stack:List Env
 ex:List Addr
 fn:Str->Bool
 calm:Bool
 pn:List (Addr×Obj)
 xe:Value->Shared->Prop
def Pc(l:List Env):List Addr:=l.filterMap (·.frame)
abbrev Cx.fs(X:Cx):List Addr:=Pc X.outer
def Yt(sc:Scope)(x:Str):Prop:=sc.names.lookup x=some .local\/sc.names.lookup x=some .cell\/sc.names.lookup x=some .free
def Loc(sc:Scope)(x:Str):Prop:=sc.names.lookup x=some .local\/sc.names.lookup x=some .cell
def Look(env:Env)(h:Heap)(m:Str->Option Value)(x:Str)(u:Value):Prop:=
 (env.kindOf x=some .local/\m x=some u)\/((env.kindOf x=some .cell\/env.kindOf x=some .free)/\ ∃c,env.cells.lookup x=some c/\h.IsCell c (some u))
structure Cx.Ok(X:Cx):Prop where
 mod:Mod X.K X.mg X.base
 kind:X.env.scope.kind= .function
 glob:X.env.globals=mainGlobals
 blt:X.env.builtins=builtinsNs
 above:X.DD.heap.objs.size<=X.env.locals
 inj: ∀x y c,X.env.cells.lookup x=some c->X.env.cells.lookup y=some c->x=y
 has: ∀x,(X.env.kindOf x=some .cell\/X.env.kindOf x=some .free)-> ∃c,X.env.cells.lookup x=some c
 Yn: ∀x c,X.fn x=true->X.env.cells.lookup x=some c->X.DD.heap.objs.size<=c
 hd:X.calm=true->X.A.handled=none
 frames:X.A.frames=some X.stack
 YG:X.stack=X.outer\/(X.stack=X.env::X.outer/\X.env.frame=some X.env.locals)
 Zc: ∀b∈X.ex,b≠X.env.locals/\ ∀x c,X.env.cells.lookup x=some c->c≠b
 bs: ∀b o,X.base.get? b=some o->X.DD.heap.get? b=some o/\X.VB b=none
 R8:X.base.objs.size<=X.DD.heap.objs.size
 Ot: ∀b o,X.base.get? b=some o->b∉X.ex
 Pj: ∀b∈X.ex,b∉X.fs
 y6:X.DD.heap.FunFrames X.base X.outer
 Vg: ∀b∈X.fs,X.VB b=none
structure Inv(X:Cx)(pins:List (Addr×Obj))(σ:List (Option V))(H:Hp)(s:Shared):Prop where
 ok:X.Ok
 os:s.os=X.DD.os
 bare:AllBare s.gens
 base:Un X.fs X.ex X.VB H X.DD.heap s.heap
 loc: ∃m,s.heap.Ns X.env.locals m/\ ∀(i:Nat) (x:Str) (v:V),X.N[i]? =some x->σ[i]? =some (some v)->Yt X.env.scope x-> ∃u,RelV v u/\Look X.env s.heap m x u
 cell: ∀x c,X.env.cells.lookup x=some c-> ∃v,s.heap.IsCell c v
 free:H X.env.locals=none
 oP: ∀x c,X.env.cells.lookup x=some c->H c=none
 pin: ∀p∈X.pn++pins,s.heap.get? p.1=some p.2/\H p.1=none/\p.1≠X.env.locals/\p.1∉X.fs/\ ∀v,p.2.data≠ .cell v
 eC:r9 X.prog X.w H s.heap
 len:σ.length=X.N.length
section
variable{X:Cx}{pins:List (Addr×Obj)}{σ:List (Option V)}{H H':Hp}{s:Shared}{h':Heap}
def Cx.Ok.ZX(ok:X.Ok){b:Addr}{o:Obj}(e:X.base.get? b=some o):b∉X.fs:=λhb=>by
 have:=(ok.y6.mem hb).1;rw[e] at this;cases this
theorem Inv.bs(I:Inv X pins σ H s): ∀b o,X.base.get? b=some o->s.heap.get? b=some o/\H b=none:=λb o e=>
 ⟨I.base.keep b o (I.ok.bs b o e).1 (I.ok.bs b o e).2 (I.ok.ZX e) (I.ok.Ot b o e),I.base.free b o (I.ok.bs b o e).1 (I.ok.bs b o e).2 (I.ok.Ot b o e)⟩
def Inv.bk(I:Inv X pins σ H s): ∀b o,X.base.get? b=some o->s.heap.get? b=some o:=λb o e=>(I.bs b o e).1
theorem Inv.mod(I:Inv X pins σ H s):Mod X.K X.mg X.base:=I.ok.mod
def Inv.Hq(I:Inv X pins σ H s):X.K.In s.heap:=I.ok.mod.VR.keeps I.bk
theorem Inv.lt(I:Inv X pins σ H s):X.env.locals<s.heap.objs.size:=let ⟨_,hn,_⟩:=I.loc;hn.lt
def Inv.sz(I:Inv X pins σ H s):X.DD.heap.objs.size<=s.heap.objs.size:=cH I.ok.above (Lm I.lt)
def Inv.ZW(I:Inv X pins σ H s){a:Addr}(h:s.heap.objs.size<=a):a∉X.fs:=λhb=>by
 obtain⟨_,o,ho,_⟩:=I.ok.y6.mem hb;exact absurd (cp (Heap.lt_size ho) (cH I.sz h)) (gF _)
def Inv.Vt(I:Inv X pins σ H s): ∀x c,X.env.cells.lookup x=some c->c≠X.env.locals:=λx c e z=>by
 obtain⟨v,o,ho,hd⟩:=I.cell x c e;obtain⟨m,⟨o',es,ep,K1,hd',_⟩,_⟩:=I.loc;rw[z,K1] at ho;cases ho;rw[hd'] at hd;cases hd
theorem Inv.y6(I:Inv X pins σ H s):s.heap.FunFrames X.base X.outer:=by
 have all: ∀(l:List Env),(∀b∈Pc l,b∈X.fs)->X.DD.heap.FunFrames X.base l->s.heap.FunFrames X.base l:=by
  intro l
  induction l with
  |nil=>intro _ _;trivial
  |cons env r ih=>
   intro hs hl;obtain⟨hk,⟨L,o,hf,hn,ho,hd⟩,hr⟩:=hl;have hL:L∈X.fs:=hs L (by unfold Pc;rw[wL,hf];exact aY);obtain⟨sl,e⟩:=I.base.slot L o ho (I.ok.Vg L hL) hL λz=>I.ok.Pj L z hL;exact⟨hk,⟨L,_,hf,hn,e,hd⟩,ih (λb hb=>hs b (by unfold Pc;rw[wL,hf];exact aK _ hb)) hr⟩
 exact all X.outer (λ_ hb=>hb) I.ok.y6
theorem Inv.stack(I:Inv X pins σ H s):s.heap.FunFrames X.base X.stack:=by
 rcases I.ok.YG with e|⟨e,hf⟩
 ·rw[e];exact I.y6
 ·rw[e];obtain⟨m,hn,_⟩:=I.loc;refine .cons (by rw[I.ok.kind];decide) hf hn ?_ I.y6;exact Heap.get?_none_of_le (cH I.ok.R8 I.ok.above)
def Inv.Jk(I:Inv X pins σ H s): ∀b∈Pc X.stack,b∈X.env.locals::X.fs:=λb hb=>by
 rcases I.ok.YG with e|⟨e,hf⟩
 ·rw[e] at hb;exact aK _ hb
 ·rw[e] at hb;unfold Pc at hb;rw[wL,hf] at hb;exact hb
def Inv.Ks(I:Inv X pins σ H s): ∀b∈Pc X.stack,H b=none:=λb hb=>by
 rcases aA.mp (I.Jk b hb) with e|hb
 ·rw[e];exact I.free
 ·obtain⟨_,o,ho,_⟩:=I.ok.y6.mem hb;exact I.base.free b o ho (I.ok.Vg b hb) λz=>I.ok.Pj b z hb
def Inv.step{g':Array GenState}{t':Nat}{d':Drawn}{ch:List Addr}(I:Inv X pins σ H s)
  (Qh: ∀b∈ch,(b∈X.ex\/X.DD.heap.objs.size<=b)/\b≠X.env.locals/\(∀x c,X.env.cells.lookup x=some c->c≠b)/\ ∀p∈X.pn++pins,p.1≠b)
  (keep: ∀b o,b≠X.env.locals->b∉X.fs->b∉ch->s.heap.get? b=some o->H b=none->h'.get? b=some o)
  (slot: ∀b o,b≠X.env.locals->b∈X.fs->b∉ch->s.heap.get? b=some o->H b=none-> ∃sl,h'.get? b=some {o with slots:=sl}) (free: ∀b o,b∉ch->s.heap.get? b=some o->H b=none->H' b=none)
  (there: ∀b o,b∉ch->s.heap.get? b=some o-> ∃o',h'.get? b=some o')
  (ED: ∀b xs,H b=some (.tup xs)->H' b=some (.tup xs)) (Bx: ∀b o u,H b=some (.qI o u)->H' b=some (.qI o u)) (EE: ∀b ps,H b=some (.Ud ps)-> ∃more,H' b=some (.Ud (ps++more)))
  (ns: ∀m,s.heap.Ns X.env.locals m->h'.Ns X.env.locals m) (eC:r9 X.prog X.w H' h') (hg:AllBare g'):
  Inv X pins σ H' {s with heap:=h',gens:=g',drawn:=d',toks:=t'}:=by
 have neL: ∀b o,X.DD.heap.get? b=some o->b≠X.env.locals:=λb o e=>cv (cp (Heap.lt_size e) I.ok.above);have YS: ∀b o,X.DD.heap.get? b=some o->b∉X.ex->b∉ch:=λb o e hx hb=>by
  rcases(Qh b hb).1 with z|z
  ·exact hx z
  ·exact absurd (cp (Heap.lt_size e) z) (gF _)
 have cellK: ∀x c,X.env.cells.lookup x=some c-> ∀v,s.heap.IsCell c v->h'.IsCell c v:=λx c e v ⟨o,ho,hd⟩=>by
  have W5:c∉ch:=λz=>(Qh c z).2.2.1 x c e rfl;by_cases hc:c∈X.fs
  ·obtain⟨sl,q⟩:=slot c o (I.Vt x c e) hc W5 ho (I.oP x c e);exact⟨_,q,hd⟩
  ·exact⟨o,keep c o (I.Vt x c e) hc W5 ho (I.oP x c e),hd⟩
 refine⟨I.ok,I.os,hg,⟨λb o e n hb hx=> ?_,λb o e n hb hx=> ?_,λb o e n hx=> ?_,λb o e hx=> ?_,λb xs e=>ED b xs (I.base.ED b xs e),λb o xs e=>Bx b o xs (I.base.Bx b o xs e),λb ps e=> ?_⟩,?_,λx c e=> ?_,?_,λx c e=> ?_,λp hp=> ?_,eC,I.len⟩
 ·exact keep b o (neL b o e) hb (YS b o e hx) (I.base.keep b o e n hb hx) (I.base.free b o e n hx)
 ·obtain⟨sl,e1⟩:=I.base.slot b o e n hb hx;obtain⟨sl',e2⟩:=slot b _ (neL b o e) hb (YS b o e hx) e1 (I.base.free b o e n hx);exact⟨sl',e2⟩
 ·obtain⟨o',e1⟩:=I.base.there b o e hx;exact free b o' (YS b o e hx) e1 (I.base.free b o e n hx)
 ·obtain⟨o',e1⟩:=I.base.there b o e hx;exact there b o' (YS b o e hx) e1
 ·obtain⟨m1,e1⟩:=I.base.EE b ps e;obtain⟨m2,e2⟩:=EE b _ e1;exact⟨m1++m2,by rw[e2,Array.append_assoc]⟩
 ·obtain⟨m,hn,hl⟩:=I.loc;refine⟨m,ns m hn,λi x v e1 e2 e3=> ?_⟩;obtain⟨u,r,l⟩:=hl i x v e1 e2 e3;refine⟨u,r,?_⟩;rcases l with l|⟨k,c,e,z⟩
  ·exact .inl l
  ·exact .inr ⟨k,c,e,cellK x c e _ z⟩
 ·obtain⟨v,z⟩:=I.cell x c e;exact⟨v,cellK x c e v z⟩
 ·obtain⟨m,⟨o,_,_,ho,_⟩,_⟩:=I.loc;exact free _ o (λz=>(Qh _ z).2.1 rfl) ho I.free
 ·obtain⟨v,o,ho,hd⟩:=I.cell x c e;exact free c o (λz=>(Qh c z).2.2.1 x c e rfl) ho (I.oP x c e)
 ·obtain⟨e,n,ne,nf,d⟩:=I.pin p hp;have W5:p.1∉ch:=λz=>(Qh p.1 z).2.2.2 p hp rfl;exact⟨keep p.1 p.2 ne nf W5 e n,free p.1 p.2 W5 e n,ne,nf,d⟩
def Inv.un{t':Nat}(I:Inv X pins σ H s)(u:Un X.fs [] H H' s.heap h')(eC:r9 X.prog X.w H' h'):Inv X pins σ H' {s with heap:=h',toks:=t'}:=by
 obtain⟨m,⟨o,es,ep,ho,r⟩,_⟩:=id I.loc;obtain⟨sl,hL⟩:=u.any ho I.free (by simp);exact I.step (g':=s.gens) (d':=s.drawn) (ch:=[]) (λ_ z=>nomatch z) (λb o _ hb _ e n=>u.keep b o e n hb (by simp)) (λb o _ hb _ e n=>u.slot b o e n hb (by simp)) (λb o _ e n=>u.free b o e n (by simp)) (λb o _ e=>u.there b o e (by simp)) u.ED u.Bx u.EE (λm' hm=>by
  obtain⟨o',es',ep',K1,r'⟩:=hm;rw[ho] at K1;cases K1;exact⟨_,es',ep',hL,r'⟩) eC I.bare
def Inv.call{g':Array GenState}{t':Nat}{d':Drawn}{ch:List Addr}(I:Inv X pins σ H s)(u:Un (Pc X.stack) ch H H' s.heap h')(eC:r9 X.prog X.w H' h')(hg:AllBare g')
  (Qh: ∀b∈ch,(b∈X.ex\/X.DD.heap.objs.size<=b)/\b≠X.env.locals/\(∀x c,X.env.cells.lookup x=some c->c≠b)/\ ∀p∈X.pn++pins,p.1≠b):
  Inv X pins σ H' {s with heap:=h',gens:=g',drawn:=d',toks:=t'}:=by
 obtain⟨m,⟨o,es,ep,ho,r⟩,_⟩:=id I.loc;obtain⟨sl,hL⟩:=u.any ho I.free λz=>(Qh _ z).2.1 rfl;exact I.step (ch:=ch) Qh (λb o hL hb hc e n=>u.keep b o e n (λz=>(aA.mp (I.Jk b z)).elim hL hb) hc) (λb o _ _ hc e n=>u.any e n hc) (λb o hc e n=>u.free b o e n hc) (λb o hc e=>u.there b o e hc) u.ED u.Bx u.EE (λm' hm=>by
  obtain⟨o',es',ep',K1,r'⟩:=hm;rw[ho] at K1;cases K1;exact⟨_,es',ep',hL,r'⟩) eC hg
def Inv.turned{t':Nat}{it:Addr}(I:Inv X pins σ H s)(k: ∀b o,b≠it->s.heap.get? b=some o->h'.get? b=some o)(hn:H it=none)(hL:it≠X.env.locals)
  (h1:it∈X.ex\/X.DD.heap.objs.size<=it) (h2: ∀x c,X.env.cells.lookup x=some c->c≠it) (h3: ∀p∈X.pn++pins,p.1≠it):Inv X pins σ H {s with heap:=h',toks:=t'}:=by
 have SN: ∀b u,H b=some u->b≠it:=λb u e z=>by rw[z,hn] at e;cases e
 refine I.step (g':=s.gens) (d':=s.drawn) (ch:=[it]) (λb hb=> ?_) (λb o _ _ hc e _=>k b o (λz=>hc (by simp[z])) e) (λb o _ _ hc e _=>⟨o.slots,k b o (λz=>hc (by simp[z])) e⟩) (λ_ _ _ _ n=>n)
  (λb o hc e=>⟨o,k b o (λz=>hc (by simp[z])) e⟩) (λ_ _ e=>e) (λ_ _ _ e=>e) (λb ps e=>⟨#[],by rw[e];simp⟩) (λm hm=> ?_) (λb u e=> ?_) I.bare
 ·have e:b=it:=by simpa using hb
  subst e;exact⟨h1,hL,h2,h3⟩
 ·obtain⟨o,es,ep,ho,r⟩:=hm;exact⟨o,es,ep,k _ o (bG hL) ho,r⟩
 ·refine(I.eC b u e).dA (λc v hc q=>k c v ?_ q) (λ_ q=>q) λ_ _ q=>q;rcases hc with z|z
  ·rw[z];exact SN b u e
  ·exact SN c _ z
def Inv.tok(I:Inv X pins σ H s)(t:Nat):Inv X pins σ H {s with toks:=t}:=I.un (h':=s.heap) (t':=t) Un.refl I.eC
theorem Inv.kept{t':Nat}(I:Inv X pins σ H s)(k: ∀b u,s.heap.get? b=some u->h'.get? b=some u):Inv X pins σ H {s with heap:=h',toks:=t'}:=I.un (Un.kept k) (I.eC.kept k)
theorem Inv.laid{a:Addr}{o:HO}{t':Nat}(I:Inv X pins σ H s)(k: ∀b u,s.heap.get? b=some u->h'.get? b=some u)(hp:s.heap.objs.size<=a)(new:gJ X.prog X.w (upd H a o) h' a o):
  Inv X pins σ (upd H a o) {s with heap:=h',toks:=t'}:=I.un (Un.laid k hp (I.eC.fresh hp)) (I.eC.laid k hp new)
theorem Inv.write{x e:Addr}{o:HO}{t':Nat}(I:Inv X pins σ H s)(mu:TB (H x))(he:e=x\/H e=some (.own x))(k: ∀b u,b≠e->s.heap.get? b=some u->h'.get? b=some u)(V5: ∃u,h'.get? e=some u)
  (new:gJ X.prog X.w (upd H x o) h' x o):Inv X pins σ (upd H x o) {s with heap:=h',toks:=t'}:=I.un (Un.write mu he k V5) (I.eC.write mu he k V5 new)
def Inv.weak{σ':List (Option V)}(I:Inv X pins σ H s)(hl:σ'.length=σ.length)(w: ∀(i:Nat) v,σ'[i]? =some (some v)->σ[i]? =some (some v)):Inv X pins σ' H s:=
 ⟨I.ok,I.os,I.bare,I.base,let ⟨m,hn,JI⟩:=I.loc;⟨m,hn,λi x v e1 e2 e3=>JI i x v e1 (w i v e2) e3⟩,I.cell,I.free,I.oP,I.pin,I.eC,hl.trans I.len⟩
def Inv.Kz{SG:List (Addr×Obj)}(I:Inv X pins σ H s)(h: ∀p∈SG,s.heap.get? p.1=some p.2/\H p.1=none/\p.1≠X.env.locals/\p.1∉X.fs/\ ∀v,p.2.data≠ .cell v):Inv X SG σ H s:=
 ⟨I.ok,I.os,I.bare,I.base,I.loc,I.cell,I.free,I.oP,λp hp=>(cJ.mp hp).elim (λz=>I.pin p (M7 _ z)) (h p),I.eC,I.len⟩
def Bi{N:List Str}(hN:N.Nodup){i j:Nat}{x:Str}(a:N[i]? =some x)(b:N[j]? =some x):i=j:=by
 obtain⟨h1,e1⟩:=aD.mp a;obtain⟨h2,e2⟩:=aD.mp b;exact(List.getElem_inj hN).mp (e1.trans e2.symm)
def Ds{M:Model}{A:Around}{E:Value->Shared->Prop}{i:Nat}{x:Str}{v:V}{u:Value}{Q:Unit->Shared->Prop}(I:Inv X pins σ H s)(hN:X.N.Nodup)(hi:X.N[i]? =some x)(hx:Loc X.env.scope x)(r:RelV v u)
  (h: ∀s',Inv X pins (σ.set i (some v)) H s'->(∃a,Heap.SameBut a s.heap s'.heap/\(a=X.env.locals\/X.env.cells.lookup x=some a))->Q () s') (hf:X.fn x=true\/X.env.scope.names.lookup x=some .local:=by first|exact .inl rfl|exact .inr rfl|assumption):wpAny M A (storeName X.env x u) Q E s:=by
 obtain⟨m,hn,hl⟩:=id I.loc;have aa2:(X.env.scope.kind== .class||(X.env.scope.kind== .module&&X.env.locals != X.env.globals))=false:=by rw[I.ok.kind];rfl
 have XE:i<σ.length:=by rw[I.len];exact(aD.mp hi).1
 have Vt:=I.Vt;have tracked: ∀{a:Addr} {h':Heap},(∃o,s.heap.get? a=some o/\H a=none)->Heap.SameBut a s.heap h'->r9 X.prog X.w H h':=λ{a h'} ha hs b ob e=>by
  obtain⟨_,_,Eb⟩:=ha;refine(I.eC b ob e).dA (λc w' hc q=>(hs.2 c ?_).trans q) (λ_ q=>q) λ_ _ q=>q;rintro rfl;rcases hc with rfl|hc
  ·rw[Eb] at e;cases e
  ·rw[Eb] at hc;cases hc
 rcases hx with hk|hk
 ·refine wpAny_storeName_local hk hn (λh' XA hs=> ?_) aa2;obtain⟨oL,_,_,hoL,_⟩:=id hn;refine h _ ⟨I.ok,I.os,I.bare,⟨λb o e n hb hx=> ?_,λb o e n hb hx=> ?_,I.base.free,λb o e hx=> ?_,I.base.ED,I.base.Bx,I.base.EE⟩,⟨_,XA,λj y v' e1 e2 e3=> ?_⟩,λy c e=> ?_,I.free,I.oP,λp hp=> ?_,tracked ⟨oL,hoL,I.free⟩ hs,by simpa using I.len⟩ ⟨_,hs,.inl rfl⟩
  ·exact(hs.2 b (cv (cp (Heap.lt_size e) I.ok.above))).trans (I.base.keep b o e n hb hx)
  ·obtain⟨sl,e1⟩:=I.base.slot b o e n hb hx;exact⟨sl,(hs.2 b (cv (cp (Heap.lt_size e) I.ok.above))).trans e1⟩
  ·obtain⟨o',e1⟩:=I.base.there b o e hx;exact⟨o',(hs.2 b (cv (cp (Heap.lt_size e) I.ok.above))).trans e1⟩
  ·by_cases hj:j=i
   ·subst hj;rw[hi] at e1;cases e1;rw[dW XE] at e2;cases e2;exact⟨u,r,.inl ⟨hk,by simp⟩⟩
   ·rw[dM (bG hj)] at e2;obtain⟨u',r',q⟩:=hl j y v' e1 e2 e3;refine⟨u',r',?_⟩;rcases q with⟨k,e⟩|⟨k,c,e,z⟩
    ·refine .inl ⟨k,?_⟩;have:y≠x:=λe=>hj (Bi hN e1 (e▸hi));simp[this,e]
    ·exact .inr ⟨k,c,e,z.sameBut hs (Vt y c e)⟩
  ·obtain⟨w',z⟩:=I.cell y c e;exact⟨w',z.sameBut hs (Vt y c e)⟩
  ·obtain⟨e,n,ne,nf,d⟩:=I.pin p hp;exact⟨(hs.2 p.1 ne).trans e,n,ne,nf,d⟩
 ·have hfn:X.fn x=true:=by
   rcases hf with z|z
   ·exact z
   ·rw[z] at hk;cases hk
  obtain⟨c,hc⟩:=I.ok.has x (.inl hk);obtain⟨w',z⟩:=I.cell x c hc;refine wpAny_storeName_cell I.ok.kind hk hc z (λh' V7 hs=> ?_);obtain⟨oc,hoc,aaF⟩:=id z;refine h {s with heap:=h'} ⟨I.ok,I.os,I.bare,⟨λb o e n hb hx=> ?_,λb o e n hb hx=> ?_,I.base.free,λb o e hx=> ?_,I.base.ED,I.base.Bx,I.base.EE⟩,⟨m,hn.sameBut hs (bG (Vt x c hc)),λj y v' e1 e2 e3=> ?_⟩,λy c' e=> ?_,I.free,I.oP,λp hp=> ?_,tracked ⟨oc,hoc,I.oP x c hc⟩ hs,by simpa using I.len⟩ ⟨c,hs,.inr hc⟩
  ·exact(hs.2 b (cv (cp (Heap.lt_size e) (I.ok.Yn x c hfn hc)))).trans (I.base.keep b o e n hb hx)
  ·obtain⟨sl,e1⟩:=I.base.slot b o e n hb hx;exact⟨sl,(hs.2 b (cv (cp (Heap.lt_size e) (I.ok.Yn x c hfn hc)))).trans e1⟩
  ·obtain⟨o',e1⟩:=I.base.there b o e hx;exact⟨o',(hs.2 b (cv (cp (Heap.lt_size e) (I.ok.Yn x c hfn hc)))).trans e1⟩
  ·by_cases hj:j=i
   ·subst hj;rw[hi] at e1;cases e1;rw[dW XE] at e2;cases e2;exact⟨u,r,.inr ⟨.inl hk,c,hc,V7⟩⟩
   ·rw[dM (bG hj)] at e2;obtain⟨u',r',q⟩:=hl j y v' e1 e2 e3;refine⟨u',r',?_⟩;rcases q with q|⟨k,c',e,z'⟩
    ·exact .inl q
    ·refine .inr ⟨k,c',e,z'.sameBut hs ?_⟩;rintro rfl;exact hj (Bi hN e1 (I.ok.inj _ _ _ e hc▸hi))
  ·by_cases hcc:c'=c
   ·subst hcc;exact⟨_,V7⟩
   ·obtain⟨w2,z2⟩:=I.cell y c' e;exact⟨w2,z2.sameBut hs hcc⟩
  ·obtain⟨e,n,ne,nf,d⟩:=I.pin p hp;refine⟨(hs.2 p.1 ?_).trans e,n,ne,nf,d⟩;intro q;rw[q,hoc] at e;have q':oc=p.2:=ao e;exact d w' (by rw[<-q'];exact aaF)
def Gv{M:Model}{A:Around}{E:Value->Shared->Prop}{i:Nat}{x:Str}{v:V}{u:Value}{Q:Unit->Shared->Prop}(I:Inv X pins σ H s)(hN:X.N.Nodup)(hi:X.N[i]? =some x)(hx:Loc X.env.scope x)(r:RelV v u)
  (h: ∀s',Inv X pins (σ.set i (some v)) H s'->Q () s') (hf:X.fn x=true\/X.env.scope.names.lookup x=some .local:=by first|exact .inl rfl|exact .inr rfl|assumption):wpAny M A (storeName X.env x u) Q E s:=
 Ds I hN hi hx r (λs' I' _=>h s' I') hf
def Inv.Ym{s':Shared}{ch:List Addr}(I:Inv X pins σ H s)(ho:s'.os=s.os)(u:Un (Pc X.stack) ch H H' s.heap s'.heap)(eC:r9 X.prog X.w H' s'.heap)(hg:AllBare s'.gens)
  (Qh: ∀b∈ch,(b∈X.ex\/X.DD.heap.objs.size<=b)/\b≠X.env.locals/\(∀x c,X.env.cells.lookup x=some c->c≠b)/\ ∀p∈X.pn++pins,p.1≠b):Inv X pins σ H' s':=by
 obtain⟨h',g',d',t',o'⟩:=s';have e:o'=s.os:=ho;subst e;exact I.call (g':=g') (t':=t') (d':=d') u eC hg Qh
end
abbrev XK:=Value->Option Addr->Hp->Prop
abbrev St:=List (Option V)
abbrev VK:=V->Hp->Prop
abbrev TE:=St->Hp->VK->Prop
abbrev TT:=St->Hp->(Bool->Hp->Prop)->Prop
abbrev TA:=St->Hp->(List V->Hp->Prop)->Prop
structure Ends where
 nx:St->Hp->Prop
 rt:VK
 bk:St->Hp->Prop:=λ_ _=>False
 ct:St->Hp->Prop:=λ_ _=>False
abbrev TS:=Ends->St->Hp->Prop
inductive EP(X:Cx)(pins:List (Addr×Obj))(σ:St)(Q:VK)(u:Value)(s':Shared):Prop
 |mk (v:V) (H':Hp) (i:Inv X pins σ H' s') (r:RelV v u) (q:Q v H'):EP X pins σ Q u s'
def TP(X:Cx)(pins:List (Addr×Obj))(σ:St)(Q:Bool->Hp->Prop)(b:Bool)(s':Shared):Prop:= ∃H',Inv X pins σ H' s'/\Q b H'
inductive AP(X:Cx)(pins:List (Addr×Obj))(σ:St)(Q:List V->Hp->Prop)(us:List Value)(s':Shared):Prop
 |mk (vs:List V) (H':Hp) (i:Inv X pins σ H' s') (r:Vals vs us) (q:Q vs H'):AP X pins σ Q us s'
def SP(X:Cx)(pins:List (Addr×Obj))(D:Ends)(f:Flow)(s':Shared):Prop:=
 match f with
 | .next=> ∃σ' H',Inv X pins σ' H' s'/\D.nx σ' H'
 | .brk=> ∃σ' H',Inv X pins σ' H' s'/\D.bk σ' H'
 | .cont=> ∃σ' H',Inv X pins σ' H' s'/\D.ct σ' H'
 | .ret u=> ∃v σ' H',Inv X pins σ' H' s'/\RelV v u/\D.rt v H'
def PE(X:Cx)(e:Expr)(t:TE):Prop:=
 ∀(pins:List (Addr×Obj)) (s:Shared) (σ:St) (H:Hp) (Q:VK),Inv X pins σ H s->t σ H Q->wpAny (model X.prog X.w) X.A (eval e X.env) (EP X pins σ Q) X.xe s
def PT(X:Cx)(e:Expr)(t:TT):Prop:=
 ∀(pins:List (Addr×Obj)) (s:Shared) (σ:St) (H:Hp) (Q:Bool->Hp->Prop),Inv X pins σ H s->t σ H Q->wpAny (model X.prog X.w) X.A (isTrue e X.env (eval e X.env)) (TP X pins σ Q) X.xe s
def PW(X:Cx)(e:Expr)(t:TT):Prop:=
 ∀(whole:Sem Value) (pins:List (Addr×Obj)) (s:Shared) (σ:St) (H:Hp) (Q:Bool->Hp->Prop),Inv X pins σ H s->t σ H Q->wpAny (model X.prog X.w) X.A (isTrue e X.env whole) (TP X pins σ Q) X.xe s
def PW.pt{X:Cx}{e:Expr}{t:TT}(h:PW X e t):PT X e t:=h _
def PA(X:Cx)(es:List Expr)(t:TA):Prop:=
 ∀(pos:Pos) (pins:List (Addr×Obj)) (s:Shared) (σ:St) (H:Hp) (Q:List V->Hp->Prop),Inv X pins σ H s->t σ H Q->wpAny (model X.prog X.w) X.A (spliced (backTo pos (starEach es X.env))) (AP X pins σ Q) X.xe s
def PS(X:Cx)(st:Stmt)(t:TS):Prop:=
 ∀(pins:List (Addr×Obj)) (s:Shared) (σ:St) (H:Hp) (D:Ends),Inv X pins σ H s->t D σ H->wpAny (model X.prog X.w) X.A (exec st X.env) (SP X pins D) X.xe s
def Lh(X:Cx)(st:List Stmt)(t:TS):Prop:=
 ∀(pins:List (Addr×Obj)) (s:Shared) (σ:St) (H:Hp) (D:Ends),Inv X pins σ H s->t D σ H->wpAny (model X.prog X.w) X.A (execs st X.env) (SP X pins D) X.xe s
def gb{α:Type}{t:Sem α}{Q Q':α->Shared->Prop}{M:Model}{A:Around}{E:Value->Shared->Prop}{s:Shared}(h:wpAny M A t Q E s)(hQ: ∀a s,Q a s->Q' a s):wpAny M A t Q' E s:=wpAny_mono h hQ λ_ _ x=>x
end L2
namespace L2
open PySem PySem.Spec PyProof.Rows
section
variable{X:Cx}
inductive Rv(σ:St)(i:Nat)(H:Hp)(Q:VK):Prop
 |mk (v:V) (e:σ[i]? =some (some v)) (q:Q v H):Rv σ i H Q
def Jh(i:Nat):TE:=λσ H Q=>Rv σ i H Q
def tC(v:V):TE:=λ_ H Q=>Q v H
def UA{i:Nat}{x:Str}{pos:Pos}(hN:X.N[i]? =some x)(hv:Yt X.env.scope x)(hd:(x==("__debug__":Str))=false:=by decide)(Qi:(x==("__classdict__":Str))=false:=by decide):PE X (.Name x pos) (Jh i):=by
 exists 13;obtain⟨v,e,h⟩:=h;obtain⟨m,hn,hl⟩:=I.loc;obtain⟨u,r,l⟩:=hl i x v hN e hv;have fin:EP X pins σ Q u s:=⟨v,H,I,r,h⟩;rcases l with⟨hk,hm⟩|⟨hk,c,hc,Td⟩
 ·exact wpAny_Name (wpAny_loadName_local I.ok.kind hk hn hm fin) hd
 ·rcases hk with hk|hk
  ·exact wpAny_Name (wpAny_loadName_cell I.ok.kind hk hc Td fin) hd
  ·exact wpAny_Name (wpAny_loadName_free I.ok.kind hk hc Td fin Qi) hd
def ay{i j pos}:PE X (.Constant (.int i) j pos) (tC (.int i)):=λ_ _ _ H _ I h=>wpAny_Constant_int ⟨.int i,H,I.tok _,⟨_,rfl⟩,h⟩
def Of{b j pos}:PE X (.Constant (.bool b) j pos) (tC (.bl b)):=λ_ _ _ H _ I h=>Constant_bool ⟨.bl b,H,I,rfl,h⟩
def pj{j pos}:PE X (.Constant .none j pos) (tC .fC):=λ_ _ _ H _ I h=>Constant_none ⟨.fC,H,I,rfl,h⟩
def Gl(X:Cx)(x:Str):Prop:=X.env.kindOf x=some .globalImplicit
def sS{E:Value->Shared->Prop}{pins:List (Addr×Obj)}{s:Shared}{σ:St}{H:Hp}{x:Str}{u:Value}{pos:Pos}{Q:Value->Shared->Prop}(I:Inv X pins σ H s)(hg:Gl X x)(hm:X.mg x=some u)(h:Q u s)
  (hd:(x==("__debug__":Str))=false:=by decide):wpAny (model X.prog X.w) X.A (eval (.Name x pos) X.env) Q E s:=
 Calls.Name_function_global I.ok.kind hg (Calls.loadGlobal_global (by rw[I.ok.glob];exact I.mod.glob.keeps I.bk) hm h) hd
def lO{E:Value->Shared->Prop}{pins:List (Addr×Obj)}{s:Shared}{σ:St}{H:Hp}{x:Str}{u:Value}{pos:Pos}{Q:Value->Shared->Prop}(I:Inv X pins σ H s)(hg:Gl X x)(hm:X.mg x=none)(hv:bootBuiltins x=some u)(h:Q u s)
  (hn:x≠"__name__":=by decide) (hd:(x==("__debug__":Str))=false:=by decide):wpAny (model X.prog X.w) X.A (eval (.Name x pos) X.env) Q E s:=by
 obtain⟨mb,h1,h2⟩:=I.mod.blt;exact Calls.Name_function_global I.ok.kind hg (Calls.loadGlobal_builtin (by rw[I.ok.glob];exact I.mod.glob.keeps I.bk) hm (by rw[I.ok.blt];exact h1.keeps I.bk) ((h2 x hn).trans hv) h) hd
def KD{x:Str}{v:V}{u:Value}{pos:Pos}(hg:Gl X x)(hm:X.mg x=some u)(r:RelV v u)(hd:(x==("__debug__":Str))=false:=by decide):PE X (.Name x pos) (tC v):=
 λ_ _ _ H _ I h=>sS I hg hm ⟨v,H,I,r,h⟩ hd
variable{a b:Expr}{ta tb:TE}{pos:Pos}
def PC(X:Cx)(op:CmpOp)(a b:Expr)(t:TE):Prop:=
 ∀(pins:List (Addr×Obj)) (s:Shared) (σ:St) (H:Hp) (Q:VK),Inv X pins σ H s->t σ H Q->
  wpAny (model X.prog X.w) X.A (eval a X.env) (λv gd=>wpAny (model X.prog X.w) X.A (eval b X.env) (λu zX=>wpAny (model X.prog X.w) X.A (compareOp op v u) (EP X pins σ Q) X.xe zX) X.xe gd) X.xe s
def Hc(b:Expr){op:CmpOp}(h:op≠ .In)(h2:op≠ .NotIn):behindInMarks op b=false:=by
 have e1:(op==CmpOp.In)=false:=by cases op <;> first|rfl|exact absurd rfl h
 have e2:(op==CmpOp.NotIn)=false:=by cases op <;> first|rfl|exact absurd rfl h2
 cases b <;> simp[behindInMarks,e1,e2]
def Zu(ta:TE):TE:=λσ H Q=>ta σ H λx H1=>Q (.bl (decide (x= .fC))) H1
def Wz(ta:TE):TE:=λσ H Q=>ta σ H λx H1=>Q (.bl (!decide (x= .fC))) H1
def RelV.G9{x:V}{v:Value}(r:RelV x v):(v==Value.none)=decide (x= .fC):=by
 cases x with
 |fC=>cases r;rfl
 |bl _=>cases r;rfl
 |int _=>obtain⟨t,rfl⟩:=r;rfl
 |str _=>obtain⟨t,rfl⟩:=r;rfl
 |Ij _=>obtain⟨t,rfl⟩:=r;rfl
 |X8 _=>obtain⟨t,rfl⟩:=r;rfl
 |ref _=>cases r;rfl
 |ty _=>cases r;rfl
def jo{j pos'}(ha:PE X a ta):PC X .Is a (.Constant .none j pos') (Zu ta):=by
 exists 13;refine gb (ha pins s σ H _ I h) λv s1 ⟨x,H1,I1,r1,q1⟩=> ?_;exact Constant_none (is_none_gen ⟨.bl _,H1,I1,by rw[r1.G9];rfl,q1⟩)
def lZ{j pos'}(ha:PE X a ta):PC X .IsNot a (.Constant .none j pos') (Wz ta):=by
 exists 13;refine gb (ha pins s σ H _ I h) λv s1 ⟨x,H1,I1,r1,q1⟩=> ?_;exact Constant_none (isnot_none_gen ⟨.bl _,H1,I1,by rw[r1.G9];rfl,q1⟩)
inductive Rb(x:V)(H:Hp)(Q:Bool->Hp->Prop):Prop
 |mk (c:Bool) (e:x= .bl c) (q:Q c H):Rb x H Q
def tB(t:TE):TT:=λσ H Q=>t σ H λx H1=>Rb x H1 Q
def w4{op:CmpOp}{t:TE}(h:PC X op a b t)(h1:behindInMarks op b=false:=by first|exact Hc _ (by decide) (by decide)|rfl):PE X (.Compare a [op] [b] pos) t:=λpins s σ H Q I hw=>wpAny_Compare1 (h pins s σ H Q I hw) h1
def fN{op:CmpOp}{t:TE}(h:PC X op a b t)(h1:behindInMarks op b=false:=by first|exact Hc _ (by decide) (by decide)|rfl):PT X (.Compare a [op] [b] pos) (tB t):=by
 intro pins s σ H Q I hw;refine wpAny_isTrue_Compare1 (gb (h pins s σ H _ I hw) λv s1 h1=>gb h1 λu s2 h2=>gb h2 λc s3 ⟨x,H1,I1,r1,q1⟩=> ?_) h1;obtain⟨d,rfl,q⟩:=q1;cases r1;exact wpAny_truthy_bool ⟨H1,I1,q⟩
def dB{e:Expr}{t:TE}(h:PE X e t)(he: ∀whole,isTrue e X.env whole=(do let v<-whole;standAt e.pos;holding [v] (truthy v)):=by intro _;rfl):PT X e (tB t):=by
 intro pins s σ H Q I hw;refine isTrue_plain (gb (h pins s σ H _ I hw) λv s1 ⟨x,H1,I1,r1,q1⟩=> ?_) (he _);obtain⟨d,rfl,q⟩:=q1;cases r1;exact wpAny_truthy_bool ⟨H1,I1,q⟩
variable{tA tB':TT}{rest:List Expr}
def tOr(t u:TT):TT:=λσ H Q=>t σ H λc H1=>if c=true then Q true H1 else u σ H1 Q
def Zs(t:TT):TT:=λσ H Q=>t σ H λc H1=>Q (!c) H1
def uN(ha:PT X a tA):PW X (.BoolOp .Or [a] pos) tA:=by
 intro wh pins s σ H Q I h;refine isTrue_or (gb (ha pins s σ H Q I h) λc s1 e=> ?_);cases c with
 |false=>exact isTrue_or_nil e
 |true=>exact e
def AE(ha:PT X a tA)(hb:PW X (.BoolOp .Or (b::rest) pos) tB'):PW X (.BoolOp .Or (a::b::rest) pos) (tOr tA tB'):=by
 intro wh pins s σ H Q I h;refine isTrue_or (gb (ha pins s σ H _ I h) λc s1 ⟨H1,I1,q1⟩=> ?_);cases c with
 |true=>exact⟨H1,I1,q1⟩
 |false=>exact hb wh pins s1 σ H1 Q I1 q1
def d6(ha:PT X a tA):PT X (.UnaryOp .Not a pos) (Zs tA):=by
 exists 13;exact isTrue_not (ha pins s σ H (λc H1=>Q (!c) H1) I h)
def WG(ta tb:TE):TE:=λσ H Q=>ta σ H λx H1=> ∃c,x= .bl c/\if c=true then tb σ H1 Q else Q (.bl false) H1
def Zr(ta tb:TE):TE:=λσ H Q=>ta σ H λx H1=> ∃c,x= .bl c/\if c=true then Q (.bl true) H1 else tb σ H1 Q
def ER{op}{t:TE}(h:PE X a t):PE X (.BoolOp op [a] pos) t:=λpins s σ H Q I hw=>BoolOp_one (h pins s σ H Q I hw)
def AK(ha:PE X a ta)(hb:PE X (.BoolOp .And (b::rest) pos) tb):PE X (.BoolOp .And (a::b::rest) pos) (WG ta tb):=by
 exists 13;refine BoolOp_and (gb (ha pins s σ H _ I h) λv s1 ⟨x,H1,I1,r1,q1⟩=> ?_);obtain⟨c,rfl,q1⟩:=q1;cases r1;refine wpAny_truthy_bool ?_;cases c with
 |true=>exact hb pins s1 σ H1 Q I1 q1
 |false=>exact⟨.bl false,H1,I1,rfl,q1⟩
def SH(ha:PE X a ta)(hb:PE X (.BoolOp .Or (b::rest) pos) tb):PE X (.BoolOp .Or (a::b::rest) pos) (Zr ta tb):=by
 exists 13;refine BoolOp_or (gb (ha pins s σ H _ I h) λv s1 ⟨x,H1,I1,r1,q1⟩=> ?_);obtain⟨c,rfl,q1⟩:=q1;cases r1;refine wpAny_truthy_bool ?_;cases c with
 |false=>exact hb pins s1 σ H1 Q I1 q1
 |true=>exact⟨.bl true,H1,I1,rfl,q1⟩
def tIf(t:TT)(ta tb:TE):TE:=λσ H Q=>t σ H λc H1=>if c=true then ta σ H1 Q else tb σ H1 Q
def AI{c:Expr}(hc:PT X c tA)(ha:PE X a ta)(hb:PE X b tb):PE X (.IfExp c a b pos) (tIf tA ta tb):=by
 exists 13;refine wpAny_IfExp (gb (hc pins s σ H _ I h) λd s1 ⟨H1,I1,q1⟩=> ?_);cases d with
 |true=>exact ha pins s1 σ H1 Q I1 q1
 |false=>exact hb pins s1 σ H1 Q I1 q1
end
end L2
namespace L2
open PySem PySem.Spec PyProof.Rows
def bw(K:ab)(H:Hp)(a:Addr)(xs:List V):Prop:=
 Rd H a (.lst xs)\/
  ∃(o:Obj) (its:Array Value) (n:Nat),K.lookup a=some o/\o.cls= .type "list"/\o.dict=none/\o.data= .seq its n/\its.size<=sizeLine/\Vals xs its.toList
def gU(K:ab)(H:Hp)(a:Addr)(xs:List V):Prop:=
 Rd H a (.tup xs)\/
  ∃(o:Obj) (its:Array Value) (n:Nat),K.lookup a=some o/\o.cls= .type "tuple"/\o.data= .seq its n/\its.size<=sizeLine/\Vals xs its.toList
noncomputable def abI:Value->Option V
 | .none=>some .fC
 | .bool b=>some (.bl b)
 | .int i _=>some (.int i)
 | .str x _=>some (.str x)
 | .bytes b _=>some (.Ij b)
 | .float b _=>some (.X8 b)
 | .ref a=>some (.ref a)
 | .type n=>some (.ty n)
 |_=>none
def RelV.abs{x:V}{u:Value}(r:RelV x u):abI u=some x:=by
 cases x with
 |fC=>cases r;rfl
 |bl _=>cases r;rfl
 |int _=>obtain⟨t,rfl⟩:=r;rfl
 |str _=>obtain⟨t,rfl⟩:=r;rfl
 |Ij _=>obtain⟨t,rfl⟩:=r;rfl
 |X8 _=>obtain⟨t,rfl⟩:=r;rfl
 |ref _=>cases r;rfl
 |ty _=>cases r;rfl
theorem RelV.inj{x y:V}{u:Value}(r:RelV x u)(q:RelV y u):x=y:=ao (r.abs.symm.trans q.abs)
theorem Vals.inj: ∀{xs ys:List V} {us:List Value},Vals xs us->Vals ys us->xs=ys
 |_,_,_,.nil,.nil=>rfl
 |_,_,_,.cons r t,.cons r' t'=>by rw[r.inj r',Vals.inj t t']
section
variable{X:Cx}{pins:List (Addr×Obj)}{σ:St}{H:Hp}{s:Shared}{a:Addr}{xs ys:List V}
def bw.of{K:ab}(h:H a=some (.lst xs)):bw K H a xs:= .inl (.inl h)
def gU.of{K:ab}(h:H a=some (.tup xs)):gU K H a xs:= .inl (.inl h)
def Inv.list(I:Inv X pins σ H s)(h:bw X.K H a xs): ∃its:List Value,Vals xs its/\PlainL s.heap a its.toArray/\xs.length<=sizeLine:=by
 rcases h with h|⟨o,its,n,hk,hc,hd,hs,hz,r⟩
 ·obtain⟨z,its,n,r,e⟩:=h.ok I.eC;exact⟨its,r,⟨_,n,e,rfl,rfl,rfl⟩,z⟩
 ·refine⟨its.toList,r,⟨o,n,I.Hq a o hk,hc,hd,by simpa using hs⟩,?_⟩;have e:=r.length;simp only[M9] at e;omega
def Inv.tuple(I:Inv X pins σ H s)(h:gU X.K H a xs): ∃its:List Value,Vals xs its/\IsTup s.heap a its.toArray/\xs.length<=sizeLine:=by
 rcases h with h|⟨o,its,n,hk,hc,hs,hz,r⟩
 ·obtain⟨z,its,r,p⟩:=h.ok I.eC;exact⟨its,r,p,z⟩
 ·refine⟨its.toList,r,⟨o,I.Hq a o hk,hc,n,by simpa using hs⟩,?_⟩;have e:=r.length;simp only[M9] at e;omega
def Inv.mN(I:Inv X pins σ H s)(h:bw X.K H a xs)(h':bw X.K H a ys):xs=ys:=by
 obtain⟨its,r,⟨o,n,e,_,_,d⟩,_⟩:=I.list h;obtain⟨wc,r',⟨o',n',e',_,_,d'⟩,_⟩:=I.list h';rw[e] at e';cases e';rw[d] at d';injection d' with d1 _;have:its=wc:=by simpa using congrArg IX d1
 subst this;exact r.inj r'
def Inv.su(I:Inv X pins σ H s)(h:gU X.K H a xs)(h':gU X.K H a ys):xs=ys:=by
 obtain⟨its,r,⟨o,e,_,n,d⟩,_⟩:=I.tuple h;obtain⟨wc,r',⟨o',e',_,n',d'⟩,_⟩:=I.tuple h';rw[e] at e';cases e';rw[d] at d';injection d' with d1 _;have:its=wc:=by simpa using congrArg IX d1
 subst this;exact r.inj r'
end
abbrev Cx.Cf(X:Cx)(E:Value->Shared->Prop):Cx:={X with xe:=E}
abbrev Cx.W2(X:Cx):Cx:=X.Cf λ_ _=>False
theorem Cx.Ok.Cf{X:Cx}(ok:X.Ok)(E:Value->Shared->Prop):(X.Cf E).Ok:=
 ⟨ok.mod,ok.kind,ok.glob,ok.blt,ok.above,ok.inj,ok.has,ok.Yn,ok.hd,ok.frames,ok.YG,ok.Zc,ok.bs,ok.R8,ok.Ot,ok.Pj,ok.y6,ok.Vg⟩
def Cx.Ok.qO{X:Cx}{E:Value->Shared->Prop}(ok:(X.Cf E).Ok):X.Ok:=
 ⟨ok.mod,ok.kind,ok.glob,ok.blt,ok.above,ok.inj,ok.has,ok.Yn,ok.hd,ok.frames,ok.YG,ok.Zc,ok.bs,ok.R8,ok.Ot,ok.Pj,ok.y6,ok.Vg⟩
section
variable{X:Cx}{pins:List (Addr×Obj)}{σ:St}{H:Hp}{s:Shared}{E:Value->Shared->Prop}
theorem Inv.Cf(I:Inv X pins σ H s)(E:Value->Shared->Prop):Inv (X.Cf E) pins σ H s:=⟨I.ok.Cf E,I.os,I.bare,I.base,I.loc,I.cell,I.free,I.oP,I.pin,I.eC,I.len⟩
theorem Inv.qO(I:Inv (X.Cf E) pins σ H s):Inv X pins σ H s:=⟨I.ok.qO,I.os,I.bare,I.base,I.loc,I.cell,I.free,I.oP,I.pin,I.eC,I.len⟩
theorem SP.qO{D:Ends}{f:Flow}{s':Shared}(h:SP (X.Cf E) pins D f s'):SP X pins D f s':=by
 cases f with
 |next=>obtain⟨σ',H',I,q⟩:=h;exact⟨σ',H',I.qO,q⟩
 |brk=>obtain⟨σ',H',I,q⟩:=h;exact⟨σ',H',I.qO,q⟩
 |cont=>obtain⟨σ',H',I,q⟩:=h;exact⟨σ',H',I.qO,q⟩
 |ret u=>obtain⟨v,σ',H',I,r,q⟩:=h;exact⟨v,σ',H',I.qO,r,q⟩
theorem Lh.W2{st:List Stmt}{t:TS}(h:Lh X.W2 st t):Lh X st t:=λpins s σ H D I hw=>
 wpAny_mono (h pins s σ H D (I.Cf _) hw) (λ_ _ q=>q.qO) λ_ _ z=>d5 z
end
section
variable{X:Cx}{st:Stmt}{rest:List Stmt}{t u:TS}{e:Expr}{te:TE}{pos:Pos}
def WA:TS:=λD σ H=>D.nx σ H
def sq(u:TS)(D:Ends):Ends:={D with nx:=u D}
def Zq(t u:TS):TS:=λD σ H=>t (sq u D) σ H
def bA:Lh X [] WA:=λ_ _ σ H _ I h=>wpAny_execs_nil ⟨σ,H,I,h⟩
def aj(h1:PS X st t)(h2:Lh X rest u):Lh X (st::rest) (Zq t u):=by
 intro pins s σ H D I h;refine wpAny_execs_cons (gb (h1 pins s σ H (sq u D) I h) λf s1 q=> ?_);cases f with
 |next=>
  obtain⟨σ',H',I',q⟩:=q;exact h2 pins s1 σ' H' D I' q
 |ret v=>exact q
 |brk=>exact q
 |cont=>exact q
def aq(h1:PS X st t):Lh X [st] t:=by
 intro pins s σ H D I h;refine wpAny_execs_cons (gb (h1 pins s σ H D I h) λf s1 q=> ?_);cases f with
 |next=>exact wpAny_execs_nil q
 |ret v=>exact q
 |brk=>exact q
 |cont=>exact q
def Inv.quiet{pins:List (Addr×Obj)}{σ:St}{H:Hp}{s:Shared}(I:Inv X pins σ H s):interactive X.env=false:=by simp[interactive,I.ok.kind]
def WD(te:TE):TS:=λD σ H=>te σ H λ_ H1=>D.nx σ H1
def fU(he:PE X e te)(hs:swapsWith e none pos.line X.env=pure false:=by rfl):PS X (.Expr e pos) (WD te):=by
 intro pins s σ H D I h;exact wpAny_Expr_any (gb (he pins s σ H _ I h) λv s1 ⟨x,H1,I1,r1,q1⟩=>⟨σ,H1,I1,q1⟩) I.quiet hs
def Wx(te:TE):TS:=λD σ H=>te σ H D.rt
def az(he:PE X e te):PS X (.Return (some e) pos) (Wx te):=by
 intro pins s σ H D I h;exact wpAny_Return_some (gb (he pins s σ H _ I h) λv s1 ⟨x,H1,I1,r1,q1⟩=>⟨x,σ,H1,I1,r1,q1⟩)
def Zv(c:TT)(t u:TS):TS:=λD σ H=>c σ H λb H1=>if b=true then t D σ H1 else u D σ H1
def cD{c:Expr}{a b:List Stmt}{tc:TT}(hc:PT X c tc)(ha:Lh X a t)(hb:Lh X b u):PS X (.If c a b pos) (Zv tc t u):=by
 intro pins s σ H D I h;refine wpAny_If (gb (hc pins s σ H _ I h) λd s1 ⟨H1,I1,q1⟩=> ?_);cases d with
 |true=>exact ha pins s1 σ H1 D I1 q1
 |false=>exact hb pins s1 σ H1 D I1 q1
end
abbrev TG:=V->St->Hp->(St->Hp->Prop)->Prop
abbrev Tx:=List V->St->Hp->(St->Hp->Prop)->Prop
def PG(X:Cx)(target:Expr)(t:TG):Prop:=
 ∀(pins:List (Addr×Obj)) (s:Shared) (σ:St) (H:Hp) (v:V) (u:Value) (Q:St->Hp->Prop),Inv X pins σ H s->RelV v u->t v σ H Q->
  wpAny (model X.prog X.w) X.A (assign target X.env u) (λ_ s'=> ∃σ' H',Inv X pins σ' H' s'/\Q σ' H') X.xe s
def Yx(X:Cx)(ts:List Expr)(t:Tx):Prop:=
 ∀(pins:List (Addr×Obj)) (s:Shared) (σ:St) (H:Hp) (vs:List V) (us:List Value) (Q:St->Hp->Prop),Inv X pins σ H s->Vals vs us->t vs σ H Q->
  wpAny (model X.prog X.w) X.A (assignInOrder ((assignEach ts X.env).map (·.2)) us) (λ_ s'=> ∃σ' H',Inv X pins σ' H' s'/\Q σ' H') X.xe s
abbrev Vz:=V->V->V->Hp->(Hp->Prop)->Prop
def Yw(X:Cx)(t:Vz):Prop:=
 ∀(pins:List (Addr×Obj)) (s:Shared) (σ:St) (H:Hp) (o i v:V) (ov iv u:Value) (Q:Hp->Prop),Inv X pins σ H s->RelV o ov->RelV i iv->RelV v u->t o i v H Q->
  wpAny (model X.prog X.w) X.A (setItem ov iv u) (λ_ s'=> ∃H',Inv X pins σ H' s'/\Q H') X.xe s
section
variable{X:Cx}{pos:Pos}
def gq(i:Nat):TG:=λv σ H Q=>Q (σ.set i (some v)) H
def QY{i:Nat}{x:Str}(hN:X.N.Nodup)(hi:X.N[i]? =some x)(hx:Loc X.env.scope x)(hf:X.fn x=true\/X.env.scope.names.lookup x=some .local:=by first|exact .inl rfl|exact .inr rfl|assumption):PG X (.Name x pos) (gq i):=by
 intro pins s σ H v u Q I r h;exact wpAny_assign_Name (Gv I hN hi hx r (λs' I'=>⟨_,H,I',h⟩) hf)
def Pb:Tx:=λvs σ H Q=>vs=[]/\Q σ H
def ux(t:TG)(u:Tx):Tx:=λvs σ H Q=> ∃v r,vs=v::r/\t v σ H λσ' H'=>u r σ' H' Q
def lY:Yx X [] Pb:=by
 intro pins s σ H vs us Q I r h;obtain⟨e,h⟩:=h;subst e;cases r;exact assignInOrder_nil ⟨σ,H,I,h⟩
def eV{e:Expr}{es:List Expr}{t:TG}{u:Tx}(h1:PG X e t)(h2:Yx X es u)
  (hs:(assignEach (e::es) X.env).map (·.2)=assign e X.env::(assignEach es X.env).map (·.2):=by rfl):Yx X (e::es) (ux t u):=by
 intro pins s σ H vs us Q I r h;obtain⟨v,vr,e1,h⟩:=h;subst e1;cases r with
 |cons r rr=>
  rw[hs];refine assignInOrder_cons (gb (h1 pins s σ H _ _ _ I r h) λ_ s1 ⟨σ1,H1,I1,q1⟩=> ?_);exact h2 pins s1 σ1 H1 _ _ Q I1 rr q1
def Mr(K:ab)(n:Nat)(t:Tx):TG:=λv σ H Q=> ∃a xs,v= .ref a/\gU K H a xs/\xs.length=n/\t xs σ H Q
def Uz{es:List Expr}{k:Nat}{t:Tx}{n:Nat}(hc:X.calm=true)(h:Yx X es t)
  (hn:(assignEach es X.env).length=n:=by rfl) (RF:(assignEach es X.env).findIdx? (·.1)=none:=by rfl):PG X (.Tuple es k pos) (Mr X.K n t):=by
 intro pins s σ H v u Q I r hw;obtain⟨a,xs,e1,hq,hl,hw⟩:=hw;subst e1;cases r;obtain⟨its,rv,ht,hz⟩:=I.tuple hq;refine assign_Tuple_tuple (I.ok.hd hc) ht (by simp[hn,<-hl,rv.length]) RF λh' hx=> ?_;have I1:Inv X pins σ H {s with heap:=h'}:=I.kept (t':=s.toks) λb o e=>hx b o (cv (Heap.lt_size e)) e;exact h pins _ σ H xs _ Q I1 (by simpa using rv) hw
def abo(to ti:TE)(t:Vz):TG:=λv σ H Q=>to σ H λo H1=>ti σ H1 λi H2=>t o i v H2 λH3=>Q σ H3
def EO{o i:Expr}{to ti:TE}{t:Vz}(ho:PE X o to)(hi:PE X i ti)(hs:Yw X t)
  (ha: ∀v,assign (.Subscript o i pos) X.env v=(do
   let ov<-holding [v] (eval o X.env);let iv<-holding [v,ov] (eval i X.env)
   standAt pos
   holding [v,ov,iv] (setItem ov iv v)
   release [v,ov,iv] []):=by intro _;rfl):PG X (.Subscript o i pos) (abo to ti t):=by
 intro pins s σ H v u Q I r h;rw[ha];refine wpAny_bind (wpAny_holding (gb (ho pins s σ H _ I h) λov s1 ⟨x,H1,I1,r1,q1⟩=> ?_));refine wpAny_bind (wpAny_holding (gb (hi pins s1 σ H1 _ I1 q1) λiv s2 ⟨y,H2,I2,r2,q2⟩=> ?_));refine wpAny_bind (wpAny_standAt (wpAny_bind (wpAny_holding (gb (hs pins s2 σ H2 x y v ov iv u _ I2 r1 r2 r q2) λ_ s3 ⟨H3,I3,q3⟩=> ?_))));exact wpAny_release ⟨σ,H3,I3,q3⟩
def QI(te:TE)(g:TG):TS:=λD σ H=>te σ H λx H1=>g x σ H1 D.nx
def EL{tg e:Expr}{te:TE}{g:TG}(he:PE X e te)(hg:PG X tg g)(hs:swapsWithSole [tg] e pos.line X.env=pure false:=by rfl)(hw:swappedStores [tg] e X.env=pure none:=by rfl)
  (h1:(assignEach [tg] X.env).map (·.2)=[assign tg X.env]:=by rfl):PS X (.Assign [tg] e pos) (QI te g):=by
 intro pins s σ H D I h;refine wpAny_Assign_stores (gb (he pins s σ H _ I h) λv s1 ⟨x,H1,I1,r1,q1⟩=> ?_) hs hw;rw[h1];exact gb (hg pins s1 σ H1 x v _ I1 r1 q1) λ_ s2 q=>q
def Ux{i:Nat}{x:Str}{e:Expr}{te:TE}{pos':Pos}(hN:X.N.Nodup)(hi:X.N[i]? =some x)(hx:Loc X.env.scope x)(he:PE X e te)(hs:swapsWith e (some (.Name x pos')) pos.line X.env=pure false:=by rfl)(hf:X.fn x=true\/X.env.scope.names.lookup x=some .local:=by first|exact .inl rfl|exact .inr rfl|assumption):
  PS X (.Assign [.Name x pos'] e pos) (QI te (gq i)):=by
 intro pins s σ H D I h;refine wpAny_Assign_Name (gb (he pins s σ H _ I h) λv s1 ⟨y,H1,I1,r1,q1⟩=> ?_) hs;exact Gv I1 hN hi hx r1 (λs2 I2=>⟨_,H1,I2,q1⟩) hf
end
section
variable{X:Cx}{pos:Pos}
def NJ(c:TT)(tb:TS):TS:=λD σ H=> ∃W:Nat->St->Hp->Prop,(∃m,W m σ H)/\ ∀m σ H,W m σ H->
 c σ H λb H1=>if b=true then∃N:St->Hp->Prop,(∀σ' H',N σ' H'-> ∃m',m'<m/\W m' σ' H')/\tb {D with nx:=N,ct:=N,bk:=D.nx} σ H1 else D.nx σ H1
def GN{c:Expr}{body:List Stmt}{tc:TT}{tb:TS}(hp:PassesOwn (model X.prog X.w) X.A X.env X.xe)(hc:PT X c tc)(hb:Lh X body tb):PS X (.While c body [] pos) (NJ tc tb):=by
 intro pins s σ H D I h;obtain⟨W,⟨m0,w0⟩,turn⟩:=h;refine wpAny_While (codeAny_whileLoop (λn s'=> ∃σ' H',Inv X pins σ' H' s'/\W n σ' H') ?_ m0 ⟨σ,H,I,w0⟩);rintro n s1 ⟨σ1,H1,I1,w1⟩;refine wpAny_passesOwn hp (gb (hc pins s1 σ1 H1 _ I1 (turn n σ1 H1 w1)) λb s2 ⟨H2,I2,q2⟩=> ?_);cases b with
 |true=>
  obtain⟨N,hN,q2⟩:=q2;rw[if_pos rfl];refine wpAny_passesOwn hp (gb (hb pins s2 σ1 H2 _ I2 q2) λf s3 q3=> ?_);cases f with
  |next=>
   obtain⟨σ3,H3,I3,n3⟩:=q3;obtain⟨m',hm,w3⟩:=hN σ3 H3 n3;exact⟨m',hm,σ3,H3,I3,w3⟩
  |cont=>
   obtain⟨σ3,H3,I3,n3⟩:=q3;obtain⟨m',hm,w3⟩:=hN σ3 H3 n3;exact⟨m',hm,σ3,H3,I3,w3⟩
  |brk=>exact q3
  |ret v=>exact q3
 |false=>
  rw[if_neg bg];exact wpAny_execs_nil ⟨σ1,H2,I2,q2⟩
end
structure It where
 go:Nat->Hp->Prop
 wR:Nat->Hp->V->Hp->Prop
 stop:Nat->Hp->Prop
def wH(X:Cx)(pins:List (Addr×Obj))(H:Hp)(b:Addr):Prop:=
 H b=none/\b≠X.env.locals/\b∉X.fs/\(b∈X.ex\/X.DD.heap.objs.size<=b)/\(∀x c,X.env.cells.lookup x=some c->c≠b)/\ ∀p∈X.pn++pins,p.1≠b
def Inv.Fd{X:Cx}{pins:List (Addr×Obj)}{σ:St}{H H':Hp}{s:Shared}{b:Addr}(I:Inv X pins σ H s)(hb:s.heap.objs.size<=b)(hn:H' b=none):wH X pins H' b:=by
 refine⟨hn,gA (cp I.lt hb),I.ZW hb,.inr (cH I.sz hb),λx c e z=> ?_,λp hp z=> ?_⟩
 ·obtain⟨v,q⟩:=I.cell x c e;exact absurd (cp q.lt (by rw[z];exact hb)) (gF _)
 ·exact absurd (cp (Heap.lt_size (I.pin p hp).1) (by rw[z];exact hb)) (gF _)
structure Turn(P:Program)(w:World)(K:ab)(tg:Expr)(J:It)(fp:List Addr)(it:Addr)(tn:Nat->Heap->Prop):Prop where
 mem:it∈fp
 obj: ∀i h,tn i h-> ∀b∈fp,∃o,h.get? b=some o/\ ∀v,o.data≠ .cell v
 keep: ∀i h h',tn i h->(∀b∈fp,∀o,h.get? b=some o->h'.get? b=some o)->tn i h'
 item: ∀(X:Cx),X.prog=P->X.w=w->X.K=K->X.calm=true-> ∀(i:Nat) (pins:List (Addr×Obj)) (s:Shared) (σ:St) (H:Hp) (E:Value->Shared->Prop),Inv X pins σ H s->(∀b∈fp,wH X pins H b)->tn i s.heap->J.go i H->
  wpAny (model P w) X.A (pyNext (.ref it)) (λr s1=> ∃u,r=some u/\
   wpAny (model P w) X.A (letOwnedTupleGo tg (.ref it) u) (λ_ s2=> ∃x H',Inv X pins σ H' s2/\RelV x u/\J.wR i H x H'/\tn (i + 1) s2.heap/\ ∀b∈fp,H' b=none) E s1) E s
 done: ∀(X:Cx),X.prog=P->X.w=w->X.K=K->X.calm=true-> ∀(i:Nat) (pins:List (Addr×Obj)) (s:Shared) (σ:St) (H:Hp) (E:Value->Shared->Prop),Inv X pins σ H s->(∀b∈fp,wH X pins H b)->tn i s.heap->J.stop i H->
  wpAny (model P w) X.A (pyNext (.ref it)) (λr s1=>r=none/\Inv X pins σ H s1) E s
 self: ∀(A:Around) (i:Nat) (s:Shared) (Q:Value->Shared->Prop) (E:Value->Shared->Prop),tn i s.heap->Q (.ref it) s->wpAny (model P w) A (pyIter (.ref it)) Q E s
abbrev TI:=St->Hp->(It->Hp->Prop)->Prop
def PIE(X:Cx)(pins:List (Addr×Obj))(σ:St)(tg:Expr)(R:It->Hp->Prop)(itv:Value)(s2:Shared):Prop:=
 ∃(it:Addr) (fp:List Addr) (tn:Nat->Heap->Prop) (J:It) (H':Hp),itv= .ref it/\Inv X pins σ H' s2/\Turn X.prog X.w X.K tg J fp it tn/\tn 0 s2.heap/\(∀b∈fp,wH X pins H' b)/\R J H'
def PI(X:Cx)(tg iter:Expr)(wi:TI):Prop:=
 ∀(pins:List (Addr×Obj)) (s:Shared) (σ:St) (H:Hp) (R:It->Hp->Prop),Inv X pins σ H s->wi σ H R->
  wpAny (model X.prog X.w) X.A (eval iter X.env) (λv s1=>wpAny (model X.prog X.w) X.A (pyIter v) (PIE X pins σ tg R) X.xe s1) X.xe s
def Hy{M:Model}{A:Around}{E:Value->Shared->Prop}{s:Shared}{tg:Expr}{it:Addr}{u:Value}{o:Obj}{n:String}{vs:Array Value}{Q:Unit->Shared->Prop}(ho:s.heap.get? it=some o)(hc:o.cls= .type n)(hd:o.data= .fields vs)
  (hn:["enumerate","zip","dict_itemiterator","dict_reverseitemiterator","odict_iterator","itertools.zip_longest","itertools.pairwise"].contains n=false) (hQ:Q () s):wpAny M A (letOwnedTupleGo tg (.ref it) u) Q E s:=by
 unfold letOwnedTupleGo;cases tg <;> first
  |exact wpAny_pure hQ
  |(cases u <;> first
    |exact wpAny_pure hQ
    |(refine wpAny_bind (wpAny_load ho ?_)
      rw[hc,hd];show wpAny M A (if(["enumerate","zip","dict_itemiterator","dict_reverseitemiterator","odict_iterator","itertools.zip_longest","itertools.pairwise"].contains n&&vs[0]? ==some (rawInt _))=true then _ else _) Q E s;rw[if_neg (by intro h;rw[hn,eJ] at h;cases h)];exact wpAny_pure hQ))
def zI(K:ab)(a:Addr):It:=
 ⟨λi H=> ∃xs x,bw K H a xs/\xs[i]? =some x,λi H x H'=>H'=H/\ ∀xs,bw K H a xs->xs[i]? =some x,λi H=> ∃xs,bw K H a xs/\xs.length<=i⟩
def Kb(K:ab)(a:Addr):It:=
 ⟨λi H=> ∃xs x,gU K H a xs/\xs[i]? =some x,λi H x H'=>H'=H/\ ∀xs,gU K H a xs->xs[i]? =some x,λi H=> ∃xs,gU K H a xs/\xs.length<=i⟩
def IQ(lo:Int)(n:Nat):It:=⟨λi _=>i<n,λi H x H'=>H'=H/\x= .int (lo + i),λi _=>n<=i⟩
def Dn{P:Program}{w:World}{K:ab}{tg:Expr}(a it:Addr):Turn P w K tg (zI K a) [it] it (λi h=>h.IsListIter it a i) where
 mem:=by simp
 obj:=λi h st b hb=>by
  have e:b=it:=by simpa using hb
  subst e;obtain⟨o,e,c,d⟩:=st;exact⟨o,e,λv z=>by rw[d] at z;cases z⟩
 keep:=λi h h' st k=>st.at λo e=>k it (by simp) o e
 item:=by
  exists 4;obtain⟨xs,x,hq,hx⟩:=hg;obtain⟨its,rv,p,hz⟩:=I.list hq;obtain⟨u,hu,ru⟩:=rv.get hx;exists 15;refine wpAny_pyNext_list_item st p.isList (x:=u) (by simpa using hu) λh' Jm sb=> ?_;have I1:Inv X pins σ H {s with heap:=h'}:=I.turned (t':=s.toks) (λb o hb e=>(sb.2 b hb).trans e) f0 f1 f3 f4 f5;obtain⟨o,e,c,d⟩:=id Jm;exact⟨u,rfl,Hy (s:={s with heap:=h'}) e c d (by decide) ⟨x,H,I1,ru,⟨rfl,λys hy=>by rw[I.mN hy hq];exact hx⟩,Jm,λb hb=>(hf b hb).1⟩⟩
 done:=by
  exists 4;obtain⟨xs,hq,hx⟩:=hg;obtain⟨its,rv,p,hz⟩:=I.list hq;exists 15;have hl:=rv.length;exact wpAny_pyNext_list_end (I.ok.hd hc) st p.isList (by simp;omega) λh' eb=>⟨rfl,I.turned (t':=s.toks) (λb o hb e=>eb b o hb e) f0 f1 f3 f4 f5⟩
 self:=λ_ _ _ _ _ st h=>wpAny_pyIter_listiter st h
def zW{P:Program}{w:World}{K:ab}{tg:Expr}(a it:Addr):Turn P w K tg (Kb K a) [it] it (λi h=>h.IsTupleIter it a i) where
 mem:=by simp
 obj:=λi h st b hb=>by
  have e:b=it:=by simpa using hb
  subst e;obtain⟨o,e,c,d⟩:=st;exact⟨o,e,λv z=>by rw[d] at z;cases z⟩
 keep:=λi h h' st k=>st.at λo e=>k it (by simp) o e
 item:=by
  exists 4;obtain⟨xs,x,hq,hx⟩:=hg;obtain⟨its,rv,p,hz⟩:=I.tuple hq;obtain⟨u,hu,ru⟩:=rv.get hx;exists 15;refine wpAny_pyNext_tuple_item st (show s.heap.IsTuple a its.toArray from p) (x:=u) (by simpa using hu) λh' Jm sb=> ?_;have I1:Inv X pins σ H {s with heap:=h'}:=I.turned (t':=s.toks) (λb o hb e=>(sb.2 b hb).trans e) f0 f1 f3 f4 f5;obtain⟨o,e,c,d⟩:=id Jm;exact⟨u,rfl,Hy (s:={s with heap:=h'}) e c d (by decide) ⟨x,H,I1,ru,⟨rfl,λys hy=>by rw[I.su hy hq];exact hx⟩,Jm,λb hb=>(hf b hb).1⟩⟩
 done:=by
  exists 4;obtain⟨xs,hq,hx⟩:=hg;obtain⟨its,rv,p,hz⟩:=I.tuple hq;exists 15;have hl:=rv.length;exact wpAny_pyNext_tuple_end (I.ok.hd hc) st (show s.heap.IsTuple a its.toArray from p) (by simp;omega) λh' eb=>⟨rfl,I.turned (t':=s.toks) (λb o hb e=>eb b o hb e) f0 f1 f3 f4 f5⟩
 self:=λ_ _ _ _ _ st h=>wpAny_pyIter_tupleiter st h
def Jc{P:Program}{w:World}{K:ab}{tg:Expr}(it:Addr)(lo:Int)(n:Nat):Turn P w K tg (IQ lo n) [it] it (λi h=>IsRangeIter h it (lo +(i:Nat)*1) ((n:Int)-(i:Nat)) 1) where
 mem:=by simp
 obj:=λi h st b hb=>by
  have e:b=it:=by simpa using hb
  subst e;exact⟨_,st,λv z=>by
   have z':Data.fields _=Data.cell v:=z;cases z'⟩
 keep:=λi h h' st k=>k it (by simp) _ st
 item:=by
  exists 4;exists 15;have W:=Walks.range (prog:=X.prog) (w:=X.w) (I.ok.hd hc) it lo 1 n;refine W.item i s _ _ hg st λv h' tk hv Jm kk=> ?_;obtain⟨t,rfl⟩:=hv;have I1:Inv X pins σ H {s with heap:=h',toks:=tk}:=I.turned (λb o hb e=>kk b o (by simpa using hb) e) f0 f1 f3 f4 f5;refine⟨_,rfl,Hy (s:={s with heap:=h',toks:=tk}) (n:="range_iterator") Jm rfl rfl (by decide) ⟨.int (lo + i),H,I1,⟨t,?_⟩,⟨rfl,rfl⟩,Jm,λb hb=>(hf b hb).1⟩⟩;rw[Int.mul_one]
 done:=by
  exists 4;exists 15;exact wpAny_pyNext_range_end (I.ok.hd hc) st (by have:n<=i:=hg;omega) λh' eb=>⟨rfl,I.turned (t':=s.toks) (λb o hb e=>eb b o hb e) f0 f1 f3 f4 f5⟩
 self:=λ_ _ _ _ _ st h=>wpAny_pyIter_rangeiter st h
end L2
namespace L2
open PySem PySem.Spec PyProof.Rows
section
variable{X:Cx}{tg:Expr}
inductive Rl(K:ab)(x:V)(H:Hp)(R:It->Hp->Prop):Prop
 |mk (a:Addr) (e:x= .ref a) (s: ∃xs,bw K H a xs) (q:R (zI K a) H):Rl K x H R
def SU(K:ab)(tl:TE):TI:=λσ H R=>tl σ H λx H1=>Rl K x H1 R
def aae(K:ab)(tl:TE):TI:=λσ H R=>tl σ H λx H1=> ∃a,x= .ref a/\(∃xs,gU K H1 a xs)/\R (Kb K a) H1
def QX{l:Expr}{tl:TE}(hl:PE X l tl):PI X tg l (SU X.K tl):=by
 intro pins s σ H R I h;refine gb (hl pins s σ H _ I h) λv s1 ⟨x,H1,I1,r1,q1⟩=> ?_;obtain⟨a,e,⟨xs,hq⟩,q⟩:=q1;subst e;cases r1;obtain⟨its,rv,p,hz⟩:=I1.list hq;refine wpAny_pyIter_list p.isList ?_;refine⟨s1.heap.objs.size,[s1.heap.objs.size],_,_,H1,rfl,I1.kept (t':=s1.toks) λb o e=>Heap.get?_push_of_some _ e,Dn a _,⟨_,Heap.get?_push_size _ rfl,rfl,rfl⟩,λb hb=> ?_,q⟩;have e:b=s1.heap.objs.size:=by simpa using hb
 subst e;exact I1.Fd (aE _) (I1.eC.fresh (aE _))
def Uy{l:Expr}{tl:TE}(hl:PE X l tl):PI X tg l (aae X.K tl):=by
 intro pins s σ H R I h;refine gb (hl pins s σ H _ I h) λv s1 ⟨x,H1,I1,r1,q1⟩=> ?_;obtain⟨a,e,⟨xs,hq⟩,q⟩:=q1;subst e;cases r1;obtain⟨its,rv,p,hz⟩:=I1.tuple hq;refine wpAny_pyIter_tuple (show s1.heap.IsTuple a its.toArray from p) ?_;refine⟨s1.heap.objs.size,[s1.heap.objs.size],_,_,H1,rfl,I1.kept (t':=s1.toks) λb o e=>Heap.get?_push_of_some _ e,zW a _,⟨_,Heap.get?_push_size _ rfl,rfl,rfl⟩,λb hb=> ?_,q⟩;have e:b=s1.heap.objs.size:=by simpa using hb
 subst e;exact I1.Fd (aE _) (I1.eC.fresh (aE _))
def GK{pins:List (Addr×Obj)}{σ:St}{H:Hp}{s:Shared}{R:It->Hp->Prop}{E:Value->Shared->Prop}{lo hi:Int}{t u v:Tok}{tk:Nat}(I:Inv X pins σ H s)(h1: -(2^62)<=lo)(h2:lo<2^62)(h3: -(2^62)<=hi)(h4:hi<2^62)
  (q:R (IQ lo (hi - lo).toNat) H):wpAny (model X.prog X.w) X.A (pyIter (.ref s.heap.objs.size)) (PIE X pins σ tg R) E {s with heap:=s.heap.push {cls:= .type "range",data:= .fields #[.int lo t,.int hi u,.int 1 v]},toks:=tk}:=by
 refine wpAny_pyIter_range (IsRange.new ..) (small_one h1 h2 h3 h4) ?_;have I1:Inv X pins σ H {s with heap:=s.heap.push {cls:= .type "range",data:= .fields #[.int lo t,.int hi u,.int 1 v]},toks:=tk}:=I.kept λb o e=>Heap.get?_push_of_some _ e;refine⟨(s.heap.push {cls:= .type "range",data:= .fields #[.int lo t,.int hi u,.int 1 v]}).objs.size,[(s.heap.push {cls:= .type "range",data:= .fields #[.int lo t,.int hi u,.int 1 v]}).objs.size],_,_,H,rfl,
  I1.kept (t':=tk) λb o e=>Heap.get?_push_of_some _ e,Jc _ lo (hi - lo).toNat,?_,λb hb=> ?_,q⟩
 ·have e1:lo +((0:Nat):Int)*1=lo:=by simp
  have e2:(((hi - lo).toNat:Nat):Int)-((0:Nat):Int)=Builtin.Range.rangeSize lo hi 1:=by rw[rangeSize_one];split <;> omega
  show IsRangeIter _ _ (lo +((0:Nat):Int)*1) ((((hi - lo).toNat:Nat):Int)-((0:Nat):Int)) 1;rw[e1,e2];exact Heap.get?_push_size _ rfl
 ·have e:b=(s.heap.push {cls:= .type "range",data:= .fields #[.int lo t,.int hi u,.int 1 v]}).objs.size:=by simpa using hb
  subst e;exact I1.Fd (aE _) (I1.eC.fresh (aE _))
def Xi(ta:TA):TI:=λσ H R=>ta σ H λvs H1=> ∃j:Int,vs=[.int j]/\ -(2^62)<=j/\j<2^62/\R (IQ 0 j.toNat) H1
def Xh(ta:TA):TI:=λσ H R=>ta σ H λvs H1=> ∃i j:Int,vs=[.int i,.int j]/\(-(2^62)<=i/\i<2^62/\ -(2^62)<=j/\j<2^62)/\R (IQ i (j - i).toNat) H1
def fh{a:Expr}{ta:TA}{p pos:Pos}(hg:Gl X "range")(hm:X.mg "range"=none)(ha:PA X [a] ta)(hs:starEach [a] X.env=[(false,eval a X.env)]:=by rfl):PI X tg (.Call (.Name "range" p) [a] [] pos) (Xi ta):=by
 intro pins s σ H R I h;refine Call_ (lO I hg hm boot_range (ck (gb (ha pos pins s σ H _ I h) λus s1 ⟨vs,H1,I1,r1,q1⟩=> ?_) hs rfl));obtain⟨j,e,q1,q2,q⟩:=q1;subst e;cases r1 with
 |cons r rr=>
  cases rr;obtain⟨t,rfl⟩:=r;exact call_range_1 (GK I1 (by omega) (by omega) q1 q2 (by simpa using q))
def LI{a b:Expr}{ta:TA}{p pos:Pos}(hg:Gl X "range")(hm:X.mg "range"=none)(ha:PA X [a,b] ta)(hs:starEach [a,b] X.env=[(false,eval a X.env),(false,eval b X.env)]:=by rfl)(fX:starEach [b] X.env=[(false,eval b X.env)]:=by rfl):
  PI X tg (.Call (.Name "range" p) [a,b] [] pos) (Xh ta):=by
 intro pins s σ H R I h;refine Call_ (lO I hg hm boot_range (ck (gb (ha pos pins s σ H _ I h) λus s1 ⟨vs,H1,I1,r1,q1⟩=> ?_) (by rw[hs,fX]) (by rw[fX];rfl)));obtain⟨i,j,e,⟨q1,q2,q3,q4⟩,q⟩:=q1;subst e;cases r1 with
 |cons r rr=>
  cases rr with
  |cons r' rr=>
   cases rr;obtain⟨t,rfl⟩:=r;obtain⟨t',rfl⟩:=r';exact call_range_2 (GK I1 q1 q2 q3 q4 q)
def Zw(wi:TI)(g:TG)(tb:TS):TS:=λD σ H=>wi σ H λJ H1=> ∃W:Nat->Nat->St->Hp->Prop,(∃m,W 0 m σ H1)/\ ∀i m σ H,W i m σ H->
 (J.stop i H/\D.nx σ H)\/(J.go i H/\ ∃N:St->Hp->Prop,(∀σ' H',N σ' H'-> ∃m',m'<m/\W (i + 1) m' σ' H')/\ ∀x H',J.wR i H x H'->g x σ H' λσ2 H2=>tb {D with nx:=N,ct:=N,bk:=D.nx} σ2 H2)
def AH(fp:List Addr)(h:Heap):List (Addr×Obj):=fp.filterMap λb=>(h.get? b).map λo=>(b,o)
def uT{fp:List Addr}{h:Heap}{b:Addr}{o:Obj}(hb:b∈fp)(e:h.get? b=some o):(b,o)∈AH fp h:=P4.mpr ⟨b,hb,by rw[e];rfl⟩
def LP{fp:List Addr}{h:Heap}{p:Addr×Obj}(hp:p∈AH fp h):p.1∈fp/\h.get? p.1=some p.2:=by
 obtain⟨b,hb,e⟩:=P4.mp hp;cases q:h.get? b with
 |none=>rw[q] at e;cases e
 |some o=>
  rw[q] at e;have e':(b,o)=p:=ao e;subst e';exact⟨hb,q⟩
def Inv.pinned{pins:List (Addr×Obj)}{σ:St}{H:Hp}{s:Shared}{fp:List Addr}(I:Inv X pins σ H s)(hf: ∀b∈fp,wH X pins H b)(ho: ∀b∈fp,∃o,s.heap.get? b=some o/\ ∀v,o.data≠ .cell v):Inv X (pins++AH fp s.heap) σ H s:=
 I.Kz λp hp=>(cJ.mp hp).elim (λz=>I.pin p (eD _ z)) λz=>by
  obtain⟨hb,e⟩:=LP z;obtain⟨f0,f1,f2,_⟩:=hf p.1 hb;obtain⟨o,e',d⟩:=ho p.1 hb;rw[e] at e';cases e';exact⟨e,f0,f1,f2,d⟩
def Inv.vh{pins pl:List (Addr×Obj)}{σ:St}{H:Hp}{s:Shared}(I:Inv X (pins++pl) σ H s):Inv X pins σ H s:=I.Kz λp hp=>I.pin p (eD _ (M7 _ hp))
def fD{iter:Expr}{body:List Stmt}{wi:TI}{g:TG}{tb:TS}{pos:Pos}(hp:PassesOwn (model X.prog X.w) X.A X.env X.xe)(hc:X.calm=true)(hi:PI X tg iter wi)(hg:PG X tg g)(hb:Lh X body tb)
  (hs: ∀x,foldedSetIterable iter X.env x=pure x:=by intro _;rfl):PS X (.For tg iter body [] pos) (Zw wi g tb):=by
 intro pins s σ H D I h;refine wpAny_For (gb (hi pins s σ H _ I h) λv s1 h1=>gb h1 λitv s2 h2=> ?_) hs;obtain⟨it,fp,tn,J,H2,e,I2,T,YI,f2,W,⟨m0,w0⟩,turn⟩:=h2;subst e;have Jl: ∀{H':Hp},(∀b∈fp,H' b=none)-> ∀b∈fp,wH X pins H' b:=λhn b hb=>⟨hn b hb,(f2 b hb).2⟩;refine codeAny_forLoop_any (λn s'=> ∃i σ' H',Inv X pins σ' H' s'/\tn i s'.heap/\(∀b∈fp,H' b=none)/\W i n σ' H') ?_ m0 ⟨0,σ,H2,I2,YI,λb hb=>(f2 b hb).1,w0⟩;rintro n s3 ⟨i,σ3,H3,I3,YH,fr3,w3⟩;rcases turn i n σ3 H3 w3 with⟨stop,qn⟩|⟨go,N,hN,step⟩
 ·refine wpAny_passesOwn hp (gb (T.done X rfl rfl rfl hc i pins s3 σ3 H3 X.xe I3 (Jl fr3) YH stop) λr s4 ⟨hr,I4⟩=> ?_);subst hr;exact wpAny_execs_nil ⟨σ3,H3,I4,qn⟩
 ·refine wpAny_passesOwn hp (gb (T.item X rfl rfl rfl hc i pins s3 σ3 H3 X.xe I3 (Jl fr3) YH go) λr s4 ⟨u,hr,h4⟩=> ?_);subst hr;refine wpAny_passesOwn hp (gb h4 λ_ s5 ⟨x,H5,I5,r5,y5,VL,fr5⟩=> ?_);have I5':=I5.pinned (Jl fr5) (T.obj _ _ VL);refine wpAny_passesOwn hp (gb (hg _ s5 σ3 H5 x u _ I5' r5 (step x H5 y5)) λ_ s6 ⟨σ6,H6,I6,q6⟩=> ?_);refine wpAny_passesOwn hp (gb (hb _ s6 σ6 H6 _ I6 q6) λf s7 q7=> ?_);have again: ∀{σ7:St} {H7:Hp},Inv X (pins++AH fp s5.heap) σ7 H7 s7->N σ7 H7-> ∃m,m<n/\ ∃i σ' H',Inv X pins σ' H' s7/\tn i s7.heap/\(∀b∈fp,H' b=none)/\W i m σ' H':=λ{σ7 H7} I7 n7=>by
   obtain⟨m',hm,w7⟩:=hN σ7 H7 n7;refine⟨m',hm,i + 1,σ7,H7,I7.vh,T.keep _ _ _ VL λb hb o e=>(I7.pin (b,o) (eD _ (eD _ (uT hb e)))).1,λb hb=> ?_,w7⟩;obtain⟨o,e,d⟩:=T.obj _ _ VL b hb;exact(I7.pin (b,o) (eD _ (eD _ (uT hb e)))).2.1
  cases f with
  |next=>obtain⟨σ7,H7,I7,n7⟩:=q7;exact again I7 n7
  |cont=>obtain⟨σ7,H7,I7,n7⟩:=q7;exact again I7 n7
  |brk=>obtain⟨σ7,H7,I7,q7⟩:=q7;exact⟨σ7,H7,I7.vh,q7⟩
  |ret v=>obtain⟨x7,σ7,H7,I7,r7,q7⟩:=q7;exact⟨x7,σ7,H7,I7.vh,r7,q7⟩
end
def jb{K:ab}{a:Addr}{xs:List V}{g:TG}{tb:TS}{D:Ends}{σ:St}{H:Hp}(Pv:Nat->St->Hp->Prop)(h0:Pv 0 σ H)(hl: ∀i σ H,i<=xs.length->Pv i σ H->bw K H a xs)
  (hs: ∀i x σ H,xs[i]? =some x->Pv i σ H->g x σ H λσ2 H2=>tb {D with nx:=Pv (i + 1),ct:=Pv (i + 1),bk:=D.nx} σ2 H2) (hd: ∀σ H,Pv xs.length σ H->D.nx σ H):
  ∃W:Nat->Nat->St->Hp->Prop,(∃m,W 0 m σ H)/\ ∀i m σ H,W i m σ H->
   ((zI K a).stop i H/\D.nx σ H)\/((zI K a).go i H/\ ∃N:St->Hp->Prop,(∀σ' H',N σ' H'-> ∃m',m'<m/\W (i + 1) m' σ' H')/\ ∀x H',(zI K a).wR i H x H'->g x σ H' λσ2 H2=>tb {D with nx:=N,ct:=N,bk:=D.nx} σ2 H2):=by
 exists 6;have q:=hl i σ H hi p;by_cases ig:i<xs.length
 ·refine .inr ⟨⟨xs,xs[i],q,by simp[ig]⟩,Pv (i + 1),λσ' H' p'=>⟨xs.length -(i + 1),by omega,rfl,ig,p'⟩,λx H' y=> ?_⟩;obtain⟨e,y⟩:=y;subst e;exact hs i x σ _ (y xs q) p
 ·have e:i=xs.length:=by omega
  subst e;exact .inl ⟨⟨xs,q,aE _⟩,hd σ H p⟩
def zD{K:ab}{a:Addr}{xs:List V}{g:TG}{tb:TS}{D:Ends}{σ:St}{H:Hp}(Pv:Nat->St->Hp->Prop)(h0:Pv 0 σ H)(hl: ∀i σ H,i<=xs.length->Pv i σ H->gU K H a xs)
  (hs: ∀i x σ H,xs[i]? =some x->Pv i σ H->g x σ H λσ2 H2=>tb {D with nx:=Pv (i + 1),ct:=Pv (i + 1),bk:=D.nx} σ2 H2) (hd: ∀σ H,Pv xs.length σ H->D.nx σ H):
  ∃W:Nat->Nat->St->Hp->Prop,(∃m,W 0 m σ H)/\ ∀i m σ H,W i m σ H->
   ((Kb K a).stop i H/\D.nx σ H)\/((Kb K a).go i H/\ ∃N:St->Hp->Prop,(∀σ' H',N σ' H'-> ∃m',m'<m/\W (i + 1) m' σ' H')/\ ∀x H',(Kb K a).wR i H x H'->g x σ H' λσ2 H2=>tb {D with nx:=N,ct:=N,bk:=D.nx} σ2 H2):=by
 exists 6;have q:=hl i σ H hi p;by_cases ig:i<xs.length
 ·refine .inr ⟨⟨xs,xs[i],q,by simp[ig]⟩,Pv (i + 1),λσ' H' p'=>⟨xs.length -(i + 1),by omega,rfl,ig,p'⟩,λx H' y=> ?_⟩;obtain⟨e,y⟩:=y;subst e;exact hs i x σ _ (y xs q) p
 ·have e:i=xs.length:=by omega
  subst e;exact .inl ⟨⟨xs,q,aE _⟩,hd σ H p⟩
def jj{lo:Int}{n:Nat}{g:TG}{tb:TS}{D:Ends}{σ:St}{H:Hp}(Pv:Nat->St->Hp->Prop)(h0:Pv 0 σ H)
  (hs: ∀i σ H,i<n->Pv i σ H->g (.int (lo + i)) σ H λσ2 H2=>tb {D with nx:=Pv (i + 1),ct:=Pv (i + 1),bk:=D.nx} σ2 H2) (hd: ∀σ H,Pv n σ H->D.nx σ H):
  ∃W:Nat->Nat->St->Hp->Prop,(∃m,W 0 m σ H)/\ ∀i m σ H,W i m σ H->
   ((IQ lo n).stop i H/\D.nx σ H)\/((IQ lo n).go i H/\ ∃N:St->Hp->Prop,(∀σ' H',N σ' H'-> ∃m',m'<m/\W (i + 1) m' σ' H')/\ ∀x H',(IQ lo n).wR i H x H'->g x σ H' λσ2 H2=>tb {D with nx:=N,ct:=N,bk:=D.nx} σ2 H2):=by
 refine⟨λi m σ H=>m=n - i/\i<=n/\Pv i σ H,⟨n,by simp,aC _,h0⟩,?_⟩;rintro i m σ H ⟨rfl,hi,p⟩;by_cases ig:i<n
 ·refine .inr ⟨ig,Pv (i + 1),λσ' H' p'=>⟨n -(i + 1),by omega,rfl,ig,p'⟩,λx H' y=> ?_⟩;obtain⟨e,y⟩:=y;subst e y;exact hs i σ _ ig p
 ·have e:i=n:=by omega
  subst e;exact .inl ⟨aE _,hd σ H p⟩
def Gj{c:TT}{tb:TS}{D:Ends}{σ:St}{H:Hp}(Pv:St->Hp->Prop)(μ:St->Hp->Nat)(h0:Pv σ H)
  (hs: ∀σ H,Pv σ H->c σ H λb H1=>if b=true then tb {D with nx:=λσ' H'=>Pv σ' H'/\μ σ' H'<μ σ H,ct:=λσ' H'=>Pv σ' H'/\μ σ' H'<μ σ H,bk:=D.nx} σ H1 else D.nx σ H1)
  (mono: ∀σ H Q Q',(∀b H1,Q b H1->Q' b H1)->c σ H Q->c σ H Q'):NJ c tb D σ H:=by
 refine⟨λm σ H=>m=μ σ H/\Pv σ H,⟨_,rfl,h0⟩,?_⟩;rintro m σ H ⟨rfl,p⟩;refine mono σ H _ _ (λb H1 q=> ?_) (hs σ H p);cases b with
 |true=>exact⟨_,λσ' H' ⟨p',l⟩=>⟨_,l,rfl,p'⟩,q⟩
 |false=>exact q
end L2
namespace L2
open PySem PySem.Spec PyProof.Rows
abbrev R2:=V->V->Hp->VK->Prop
def xJ(X:Cx)(f:Value->Value->Sem Value)(r:R2):Prop:=
 ∀(pins:List (Addr×Obj)) (s:Shared) (σ:St) (H:Hp) (x y:V) (v u:Value) (Q:VK),Inv X pins σ H s->RelV x v->RelV y u->r x y H Q->
  wpAny (model X.prog X.w) X.A (f v u) (EP X pins σ Q) X.xe s
def UnR(X:Cx)(f:Value->Sem Value)(r:V->Hp->VK->Prop):Prop:=
 ∀(pins:List (Addr×Obj)) (s:Shared) (σ:St) (H:Hp) (x:V) (v:Value) (Q:VK),Inv X pins σ H s->RelV x v->r x H Q->
  wpAny (model X.prog X.w) X.A (f v) (EP X pins σ Q) X.xe s
def qw(X:Cx)(f:Value)(r:List V->Hp->VK->Prop):Prop:=
 ∀(pins:List (Addr×Obj)) (s:Shared) (σ:St) (H:Hp) (xs:List V) (us:List Value) (Q:VK),Inv X pins σ H s->Vals xs us->r xs H Q->
  wpAny (model X.prog X.w) X.A (call f us) (EP X pins σ Q) X.xe s
def Su(r:R2)(ta tb:TE):TE:=λσ H Q=>ta σ H λx H1=>tb σ H1 λy H2=>r x y H2 Q
def tUn(r:V->Hp->VK->Prop)(ta:TE):TE:=λσ H Q=>ta σ H λx H1=>r x H1 Q
inductive Rc(C:Int->Int->Prop)(g:Int->Int->V)(x y:V)(H:Hp)(Q:VK):Prop
 |mk (i j:Int) (a:x= .int i) (b:y= .int j) (c:C i j) (q:Q (g i j) H):Rc C g x y H Q
def rI(C:Int->Int->Prop)(g:Int->Int->V):R2:=λx y H Q=>Rc C g x y H Q
inductive Ri(g:Int->Int->V)(x y:V)(H:Hp)(Q:VK):Prop
 |mk (i j:Int) (a:x= .int i) (b:y= .int j) (q:Q (g i j) H):Ri g x y H Q
def SF(g:Int->Int->V):R2:=λx y H Q=>Ri g x y H Q
inductive Ru(g:Int->V)(x:V)(H:Hp)(Q:VK):Prop
 |mk (i:Int) (e:x= .int i) (q:Q (g i) H):Ru g x H Q
def rU(g:Int->V):V->Hp->VK->Prop:=λx H Q=>Ru g x H Q
section
variable{X:Cx}{a b c:Expr}{ta tb tc:TE}{pos:Pos}
def Vu(ha:PE X a ta)(hb:PE X b tb){pins:List (Addr×Obj)}{s:Shared}{σ:St}{H:Hp}{R:V->V->Hp->Prop}(I:Inv X pins σ H s)
  (h:ta σ H λx H1=>tb σ H1 λy H2=>R x y H2) {Q:Value->Shared->Prop} {f:Value->Value->Sem Value}
  (hf: ∀v u s2 x y H2,Inv X pins σ H2 s2->RelV x v->RelV y u->R x y H2->wpAny (model X.prog X.w) X.A (f v u) Q X.xe s2):
  wpAny (model X.prog X.w) X.A (eval a X.env) (λv gd=>wpAny (model X.prog X.w) X.A (eval b X.env) (λu zX=>wpAny (model X.prog X.w) X.A (f v u) Q X.xe zX) X.xe gd) X.xe s:=by
 refine gb (ha pins s σ H _ I h) λv s1 ⟨x,H1,I1,r1,q1⟩=> ?_;refine gb (hb pins s1 σ H1 _ I1 q1) λu s2 ⟨y,H2,I2,r2,q2⟩=> ?_;exact hf v u s2 x y H2 I2 r1 r2 q2
def aM{op:Operator}{r:R2}(ho:xJ X (binaryOp op) r)(ha:PE X a ta)(hb:PE X b tb):PE X (.BinOp a op b pos) (Su r ta tb):=by
 exists 13;exact wpAny_BinOp (Vu ha hb I h λv u s2 x y H2 I2 rx ry q=>ho pins s2 σ H2 x y v u Q I2 rx ry q)
def mE{op:UnaryOp}{r:V->Hp->VK->Prop}(ho:UnR X (unaryOp op) r)(ha:PE X a ta):PE X (.UnaryOp op a pos) (tUn r ta):=by
 exists 13;exact UnaryOp_ (gb (ha pins s σ H _ I h) λv s1 ⟨x,H1,I1,r1,q1⟩=>ho pins s1 σ H1 x v Q I1 r1 q1)
def W0{f:Value->Value->Sem Value}{C:Int->Int->Prop}{g:Int->Int->Int}
  (rule: ∀(i j:Int) (t u:Tok) (s:Shared) (Q:Value->Shared->Prop) (E:Value->Shared->Prop),C i j->Q (.int (g i j) s.toks) {s with toks:=s.toks + 1}->wpAny (model X.prog X.w) X.A (f (.int i t) (.int j u)) Q E s):
  xJ X f (rI C λi j=> .int (g i j)):=by
 intro pins s σ H x y v u Q I rx ry h;obtain⟨i,j,rfl,rfl,hc,q⟩:=h;obtain⟨t,rfl⟩:=rx;obtain⟨t',rfl⟩:=ry;exact rule i j t t' s _ _ hc ⟨.int (g i j),H,I.tok _,⟨_,rfl⟩,q⟩
def WZ{f:Value->Value->Sem Value}{g:Int->Int->Int}
  (rule: ∀(i j:Int) (t u:Tok) (s:Shared) (Q:Value->Shared->Prop) (E:Value->Shared->Prop),Q (.int (g i j) s.toks) {s with toks:=s.toks + 1}->wpAny (model X.prog X.w) X.A (f (.int i t) (.int j u)) Q E s):
  xJ X f (SF λi j=> .int (g i j)):=by
 intro pins s σ H x y v u Q I rx ry h;obtain⟨i,j,rfl,rfl,q⟩:=h;obtain⟨t,rfl⟩:=rx;obtain⟨t',rfl⟩:=ry;exact rule i j t t' s _ _ ⟨.int (g i j),H,I.tok _,⟨_,rfl⟩,q⟩
def Q7{f:Value->Value->Sem Value}{g:Int->Int->Bool}
  (rule: ∀(i j:Int) (t u:Tok) (s:Shared) (Q:Value->Shared->Prop) (E:Value->Shared->Prop),Q (.bool (g i j)) s->wpAny (model X.prog X.w) X.A (f (.int i t) (.int j u)) Q E s):
  xJ X f (SF λi j=> .bl (g i j)):=by
 intro pins s σ H x y v u Q I rx ry h;obtain⟨i,j,rfl,rfl,q⟩:=h;obtain⟨t,rfl⟩:=rx;obtain⟨t',rfl⟩:=ry;exact rule i j t t' s _ _ ⟨.bl (g i j),H,I,rfl,q⟩
def abQ(i j:Int):Prop:=0<=j/\j<=1000000/\i.natAbs<2^64
def Sk(i j:Int):Prop:=(-(2^64)<i/\i<2^64)\/(-(2^64)<j/\j<2^64)
def Sk.ok{i j:Int}(h:Sk i j):IntMulOk i j:=by
 rcases h with⟨h1,h2⟩|⟨h1,h2⟩
 ·exact .of_left (intBits_le_64 h1 h2)
 ·exact .of_right (intBits_le_64 h1 h2)
def I0(k:Nat):(0:Int)<=2^k:=by
 rw[two_pow_cast];exact Int.natCast_nonneg _
def cz:xJ X (binaryOp .Add) (SF λi j=> .int (i + j)):=WZ λ_ _ _ _ _ _ _ q=>add_int q
def ik:xJ X (binaryOp .Sub) (SF λi j=> .int (i - j)):=WZ λ_ _ _ _ _ _ _ q=>sub_int q
def cP:xJ X (binaryOp .Mult) (rI Sk λi j=> .int (i*j)):=W0 λ_ _ _ _ _ _ _ hc q=>mul_int q hc.ok
def eW:xJ X (binaryOp .Mod) (rI (λ_ j=>0<j) λi j=> .int (i % j)):=W0 λi j _ _ _ _ _ hc q=>by
 have h1:(0:Int)<j:=hc;exact mod_int' (by omega) (by rw[Int.fmod_eq_emod_of_nonneg i (by omega)];exact q)
def n6:xJ X (binaryOp .LShift) (rI abQ λi j=> .int (i*2^j.toNat)):=W0 λ_ _ _ _ _ _ _ hc q=>lshift_int_small hc.1 hc.2.1 hc.2.2 q
def Oh:xJ X (binaryOp .RShift) (rI (λ_ j=>0<=j) λi j=> .int (i / 2^j.toNat)):=W0 λi j _ _ _ _ _ hc q=>
 rshift_int hc (by rw[Gh i (I0 _)];exact q)
def unI{f:Value->Sem Value}{g:Int->Int}
  (rule: ∀(i:Int) (t:Tok) (s:Shared) (Q:Value->Shared->Prop) (E:Value->Shared->Prop),Q (.int (g i) s.toks) {s with toks:=s.toks + 1}->wpAny (model X.prog X.w) X.A (f (.int i t)) Q E s):
  UnR X f (rU λi=> .int (g i)):=by
 intro pins s σ H x v Q I rx h;obtain⟨i,rfl,q⟩:=h;obtain⟨t,rfl⟩:=rx;exact rule i t s _ _ ⟨.int (g i),H,I.tok _,⟨_,rfl⟩,q⟩
def jR:UnR X (unaryOp .USub) (rU λi=> .int (-i)):=unI λ_ _ _ _ _ q=>neg_int q
end
def WL:V->V->Bool
 | .fC,.fC=>true| .fC,.int _=>true| .int _,.fC=>true| .fC,.bl _=>true| .bl _,.fC=>true| .fC,.str _=>true| .str _,.fC=>true
 | .int _,.int _=>true| .bl _,.bl _=>true| .str _,.str _=>true| .Ij _,.Ij _=>true
 | .int _,.str _=>true| .str _,.int _=>true| .bl _,.str _=>true| .str _,.bl _=>true
 |_,_=>false
def rEq:R2:=λx y H Q=>WL x y=true/\Q (.bl (decide (x=y))) H
def rNe:R2:=λx y H Q=>WL x y=true/\Q (.bl (!decide (x=y))) H
def K8{i j:Int}:decide (V.int i=V.int j)=(i==j):=by
 rw[iZ];simp
def Pr{i j:Bool}:decide (V.bl i=V.bl j)=(i==j):=by
 rw[iZ];simp
def K7{i j:Str}:decide (V.str i=V.str j)=(i==j):=by
 rw[iZ];simp
def K9{i j:Array UInt8}:decide (V.Ij i=V.Ij j)=(i.toList==j.toList):=by
 rw[iZ];cases i;cases j;simp
section
variable{X:Cx}{a b c:Expr}{ta tb tc:TE}{pos:Pos}
def eP{pins:List (Addr×Obj)}{σ:St}{H:Hp}{s:Shared}{Q:VK}{k k':Bool}(I:Inv X pins σ H s)(q:Q (.bl k) H)(e:k=k'):EP X pins σ Q (.bool k') s:=by
 subst e;exact⟨.bl k,H,I,rfl,q⟩
def Oi:xJ X (compareOp .Eq) rEq:=by
 intro pins s σ H x y v u Q I rx ry h;obtain⟨hs,q⟩:=h;cases x with
 |fC=>
  cases rx;cases y with
  |fC=>cases ry;exact PySem.EqNone.eq_none_none (eP I q (by simp))
  |bl j=>cases ry;exact PySem.EqNone.eq_none_bool (eP I q (by simp))
  |int j=>obtain⟨t',rfl⟩:=ry;exact PySem.EqNone.eq_none_int (eP I q (by simp))
  |str j=>obtain⟨t',rfl⟩:=ry;exact PySem.EqNone.eq_none_str (eP I q (by simp))
  |_=>exact absurd (show false=true from hs) bg
 |bl i=>
  cases rx;cases y with
  |fC=>cases ry;exact PySem.EqNone.eq_bool_none (eP I q (by simp))
  |bl j=>cases ry;exact eq_bool (eP I q Pr)
  |str j=>obtain⟨t',rfl⟩:=ry;exact PySem.EqMixed.eq_bool_str (eP I q (by simp))
  |_=>exact absurd (show false=true from hs) bg
 |int i=>
  obtain⟨t,rfl⟩:=rx;cases y with
  |fC=>cases ry;exact PySem.EqNone.eq_int_none (eP I q (by simp))
  |int j=>obtain⟨t',rfl⟩:=ry;exact eq_int (eP I q K8)
  |str j=>obtain⟨t',rfl⟩:=ry;exact PySem.EqMixed.eq_int_str (eP I q (by simp))
  |_=>exact absurd (show false=true from hs) bg
 |str i=>
  obtain⟨t,rfl⟩:=rx;cases y with
  |fC=>cases ry;exact PySem.EqNone.eq_str_none (eP I q (by simp))
  |bl j=>cases ry;exact PySem.EqMixed.eq_str_bool (eP I q (by simp))
  |int j=>obtain⟨t',rfl⟩:=ry;exact PySem.EqMixed.eq_str_int (eP I q (by simp))
  |str j=>obtain⟨t',rfl⟩:=ry;exact eq_str (eP I q K7)
  |_=>exact absurd (show false=true from hs) bg
 |Ij i=>
  obtain⟨t,rfl⟩:=rx;cases y with
  |Ij j=>obtain⟨t',rfl⟩:=ry;exact PySem.W.eq_bytes (eP I q K9)
  |_=>exact absurd (show false=true from hs) bg
 |_=>cases y <;> exact absurd (show false=true from hs) bg
def KG:xJ X (compareOp .NotEq) rNe:=by
 intro pins s σ H x y v u Q I rx ry h;obtain⟨hs,q⟩:=h;cases x with
 |fC=>
  cases rx;cases y with
  |fC=>cases ry;exact PySem.EqNone.ne_none_none (eP I q (by simp))
  |bl j=>cases ry;exact PySem.EqNone.ne_none_bool (eP I q (by simp))
  |int j=>obtain⟨t',rfl⟩:=ry;exact PySem.EqNone.ne_none_int (eP I q (by simp))
  |str j=>obtain⟨t',rfl⟩:=ry;exact PySem.EqNone.ne_none_str (eP I q (by simp))
  |_=>exact absurd (show false=true from hs) bg
 |bl i=>
  cases rx;cases y with
  |fC=>cases ry;exact PySem.EqNone.ne_bool_none (eP I q (by simp))
  |bl j=>cases ry;exact ne_bool (eP I q (congrArg not Pr))
  |str j=>obtain⟨t',rfl⟩:=ry;exact PySem.EqMixed.ne_bool_str (eP I q (by simp))
  |_=>exact absurd (show false=true from hs) bg
 |int i=>
  obtain⟨t,rfl⟩:=rx;cases y with
  |fC=>cases ry;exact PySem.EqNone.ne_int_none (eP I q (by simp))
  |int j=>obtain⟨t',rfl⟩:=ry;exact ne_int (eP I q (congrArg not K8))
  |str j=>obtain⟨t',rfl⟩:=ry;exact PySem.EqMixed.ne_int_str (eP I q (by simp))
  |_=>exact absurd (show false=true from hs) bg
 |str i=>
  obtain⟨t,rfl⟩:=rx;cases y with
  |fC=>cases ry;exact PySem.EqNone.ne_str_none (eP I q (by simp))
  |bl j=>cases ry;exact PySem.EqMixed.ne_str_bool (eP I q (by simp))
  |int j=>obtain⟨t',rfl⟩:=ry;exact PySem.EqMixed.ne_str_int (eP I q (by simp))
  |str j=>obtain⟨t',rfl⟩:=ry;exact ne_str (eP I q (congrArg not K7))
  |_=>exact absurd (show false=true from hs) bg
 |Ij i=>
  obtain⟨t,rfl⟩:=rx;cases y with
  |Ij j=>obtain⟨t',rfl⟩:=ry;exact PySem.W.ne_bytes (eP I q (congrArg not K9))
  |_=>exact absurd (show false=true from hs) bg
 |_=>cases y <;> exact absurd (show false=true from hs) bg
def yn:xJ X (compareOp .Lt) (SF λi j=> .bl (decide (i<j))):=Q7 λ_ _ _ _ _ _ _ q=>lt_int q
def oH:xJ X (compareOp .LtE) (SF λi j=> .bl (decide (i<=j))):=Q7 λ_ _ _ _ _ _ _ q=>le_int q
def rk:xJ X (compareOp .Gt) (SF λi j=> .bl (decide (j<i))):=Q7 λ_ _ _ _ _ _ _ q=>gt_int q
def KH:xJ X (compareOp .GtE) (SF λi j=> .bl (decide (j<=i))):=Q7 λ_ _ _ _ _ _ _ q=>ge_int q
def dC(b:Expr){op:CmpOp}(h:op≠ .In:=by decide)(h2:op≠ .NotIn:=by decide):behindInMarks op b=false:=by
 have e1:(op==CmpOp.In)=false:=by cases op <;> first|rfl|exact absurd rfl h
 have e2:(op==CmpOp.NotIn)=false:=by cases op <;> first|rfl|exact absurd rfl h2
 cases b <;> simp[behindInMarks,e1,e2]
def jf{op:CmpOp}{r:R2}(ho:xJ X (compareOp op) r)(ha:PE X a ta)(hb:PE X b tb)(hm:behindInMarks op b=false):PE X (.Compare a [op] [b] pos) (Su r ta tb):=by
 exists 13;exact wpAny_Compare1 (Vu ha hb I h λv u s2 x y H2 I2 rx ry q=>ho pins s2 σ H2 x y v u Q I2 rx ry q) hm
inductive Rt(x:V)(H:Hp)(Q:Bool->Hp->Prop):Prop
 |mk (k:Bool) (e:x= .bl k) (q:Q k H):Rt x H Q
def Ss(t:TE):TT:=λσ H Q=>t σ H λx H'=>Rt x H' Q
def eh{op:CmpOp}{r:R2}(ho:xJ X (compareOp op) r)(ha:PE X a ta)(hb:PE X b tb)(hm:behindInMarks op b=false):PT X (.Compare a [op] [b] pos) (Ss (Su r ta tb)):=by
 intro pins s σ H Q I h;refine wpAny_isTrue_Compare1 (gb (ha pins s σ H _ I h) λv s1 ⟨x,H1,I1,r1,q1⟩=>gb (hb pins s1 σ H1 _ I1 q1) λu s2 ⟨y,H2,I2,r2,q2⟩=>
  gb (ho pins s2 σ H2 x y v u _ I2 r1 r2 q2) λc s3 ⟨z,H3,I3,r3,k,e,q3⟩=> ?_) hm
 subst e;cases r3;exact wpAny_truthy_bool ⟨H3,I3,q3⟩
def NN(r r':R2)(ta tb tc:TE):TE:=λσ H Q=>ta σ H λx H1=>tb σ H1 λy H2=>r x y H2 λz H3=> ∃k,z= .bl k/\
 (if k=true then tc σ H3 λw' H4=>r' y w' H4 Q else Q (.bl false) H3)
def AJ{op UD:CmpOp}{r r':R2}(ho:xJ X (compareOp op) r)(K1:xJ X (compareOp UD) r')(ha:PE X a ta)(hb:PE X b tb)(hc:PE X c tc)
  (hm:lastMarks [op,UD] [b,c]=false:=by with_unfolding_all rfl):PE X (.Compare a [op,UD] [b,c] pos) (NN r r' ta tb tc):=by
 intro pins s σ H Q I h;refine Compare_chain (gb (ha pins s σ H _ I h) λv s1 ⟨x,H1,I1,r1,q1⟩=>chain_link (gb (hb pins s1 σ H1 _ I1 q1) λu s2 ⟨y,H2,I2,r2,q2⟩=>
  gb (ho pins s2 σ H2 x y v u _ I2 r1 r2 q2) λd s3 ⟨z,H3,I3,r3,k,e,q3⟩=> ?_)) hm
 subst e;cases r3;refine wpAny_truthy_bool ?_;cases k with
 |false=>exact ite_ff ⟨.bl false,H3,I3,rfl,q3⟩
 |true=>exact ite_tt (chain_last (gb (hc pins s3 σ H3 _ I3 q3) λw' s4 ⟨z',H4,I4,r4,q4⟩=>K1 pins s4 σ H4 y z' u w' Q I4 r2 r4 q4))
def N5{op UD:CmpOp}{r r':R2}(ho:xJ X (compareOp op) r)(K1:xJ X (compareOp UD) r')(ha:PE X a ta)(hb:PE X b tb)(hc:PE X c tc)
  (hm:lastMarks [op,UD] [b,c]=false:=by with_unfolding_all rfl):PT X (.Compare a [op,UD] [b,c] pos) (Ss (NN r r' ta tb tc)):=by
 intro pins s σ H Q I h;refine isTrue_chain (gb (ha pins s σ H _ I h) λv s1 ⟨x,H1,I1,r1,q1⟩=>test_link (gb (hb pins s1 σ H1 _ I1 q1) λu s2 ⟨y,H2,I2,r2,q2⟩=>
  gb (ho pins s2 σ H2 x y v u _ I2 r1 r2 q2) λd s3 ⟨z,H3,I3,r3,k,e,q3⟩=> ?_)) hm
 subst e;cases r3;refine wpAny_truthy_bool ?_;cases k with
 |false=>
  obtain⟨k',e',q'⟩:=q3;cases e';exact ite_ff ⟨H3,I3,q'⟩
 |true=>
  refine ite_tt (test_last (gb (hc pins s3 σ H3 _ I3 q3) λw' s4 ⟨z',H4,I4,r4,q4⟩=>gb (K1 pins s4 σ H4 y z' u w' _ I4 r2 r4 q4) λd' s5 ⟨z2,H5,I5,r5,k2,e2,q5⟩=> ?_));subst e2;cases r5;exact wpAny_truthy_bool ⟨H5,I5,q5⟩
def E1:(sizeLine:Nat)<2^63:=by rw[sizeLine_eq];decide
def vals1{x:V}{us:List Value}(r:Vals [x] us): ∃u,us=[u]/\RelV x u:=by
 cases r with
 |cons r1 r2=>cases r2;exact⟨_,rfl,r1⟩
def vals2{x y:V}{us:List Value}(r:Vals [x,y] us): ∃u w',us=[u,w']/\RelV x u/\RelV y w':=by
 cases r with
 |cons r1 r2=>
  cases r2 with
  |cons r3 r4=>cases r4;exact⟨_,_,rfl,r1,r3⟩
def Pz:qw X (.builtin "abs") (λxs H Q=> ∃i,xs=[.int i]/\Q (.int (if i<0 then -i else i)) H):=by
 intro pins s σ H xs us Q I r h;obtain⟨i,rfl,q⟩:=h;obtain⟨u,rfl,t,rfl⟩:=vals1 r;exact call_abs_int λu tk=>⟨.int (if i<0 then -i else i),H,I.tok _,⟨_,rfl⟩,q⟩
def MQ(hc:X.calm=true):qw X (.builtin "max") (λxs H Q=> ∃i j,xs=[.int i,.int j]/\Q (.int (if j > i then j else i)) H):=by
 intro pins s σ H xs us Q I r h;obtain⟨i,j,rfl,q⟩:=h;obtain⟨u,w',rfl,⟨t,rfl⟩,⟨t',rfl⟩⟩:=vals2 r;refine max_two_ints (I.ok.hd hc) λh' tk k=>⟨_,H,I.kept k,?_,q⟩;by_cases hj:j > i
 ·rw[if_pos hj,if_pos hj];exact⟨_,rfl⟩
 ·rw[if_neg hj,if_neg hj];exact⟨_,rfl⟩
def Eh(hc:X.calm=true):qw X (.builtin "min") (λxs H Q=> ∃i j,xs=[.int i,.int j]/\Q (.int (if j<i then j else i)) H):=by
 intro pins s σ H xs us Q I r h;obtain⟨i,j,rfl,q⟩:=h;obtain⟨u,w',rfl,⟨t,rfl⟩,⟨t',rfl⟩⟩:=vals2 r;refine min_two_ints (I.ok.hd hc) λh' tk k=>⟨_,H,I.kept k,?_,q⟩;by_cases hj:j<i
 ·rw[if_pos hj,if_pos hj];exact⟨_,rfl⟩
 ·rw[if_neg hj,if_neg hj];exact⟨_,rfl⟩
end
end L2
namespace L2
open PySem PySem.Spec PyProof.Rows
structure Ka(h:Heap)(x dx C:Addr)(mA:Str->Option Value):Prop where
 obj:h.get? x=some (gW C dx)
 ns:h.Ns1 dx mA
 ne:dx≠x
def L3{h:Heap}{dx:Addr}{mA:Str->Option Value}(n:h.Ns1 dx mA): ∃od,h.get? dx=some od/\ ∀name,tm name od=some (mA name):=by
 obtain⟨o,es,ep,ho,hd,hk,_,hm⟩:=n;refine⟨o,ho,λname=> ?_⟩;have e:=hm name;unfold nsFind findBy at e;rw[<-Array.find?_toList] at e;unfold tm;rw[hd];dsimp only;split
 ·rename_i y q
  rw[q] at e;exact congrArg some e
 ·rename_i q
  rw[q] at e;have a:es.toList.any (·.refKey)=false:=by
   rw[Qo];intro y hy;obtain⟨z,t,aaR⟩:=hk y (Array.mem_toList_iff.mp hy);simp[DictEntry.refKey,aaR]
  have a': ¬es.toList.any (·.refKey)=true:=by rw[a];exact bg
  rw[if_neg a'];exact congrArg some e
def Ka.look{h:Heap}{x dx C:Addr}{mA:Str->Option Value}(I:Ka h x dx C mA): ∃od,PySem.W.InstAt h x (gW C dx) C (some od)/\ ∀name,tm name od=some (mA name):=
 let ⟨od,ho,hl⟩:=L3 I.ns
 ⟨od,⟨I.obj,rfl,rfl,ho⟩,hl⟩
section
variable{prog:Program}{w:World}{A:Around}{E:Value->Shared->Prop}{s:Shared}{K:ab}{x dx C f:Addr}{mA:Str->Option Value}{name:Str}{v:Value}
def get_map{expr:Bool}{Q:Value->Shared->Prop}(X:K.In s.heap)(I:Ka s.heap x dx C mA)(hg:o7 K C name=true)(hh:wQ K C=true)
  (ha:fk K (.ref C) name=some none) (hv:mA name=some v) (hv':Nl v=true) (h:Q v {s with toks:=s.toks + 1}):
  wpAny (model prog w) A (getAttr (.ref x) name expr) Q E s:=by
 obtain⟨od,J,hl⟩:=I.look;exact PySem.W.get_value X J (uF hg).1 (PySem.W.findObj_own hh ha rfl (by rw[hl,hv])) hv' h
def O9{pl:Sem Bool}{Q:Value×List Value->Shared->Prop}(X:K.In s.heap)(I:Ka s.heap x dx C mA)(hg:o7 K C name=true)
  (hf:fk K (.ref C) name=some (some (.ref f))) (ht:qB K (.ref f)=true) (hv:mA name=none) (h:Q (.ref f,[.ref x]) s):
  wpAny (model prog w) A (getMethod (.ref x) name pl) Q E s:=by
 obtain⟨od,J,hl⟩:=I.look;exact PySem.W.method_fn X J (uF hg).1 (uF hg).2 hf (beq_iff_eq.mp ht) (by show(tm name od).map (·.isSome)=some false;rw[hl,hv];rfl) h
def QK{ns:List Str}{Q:Unit->Shared->Prop}(X:K.In s.heap)(I:Ka s.heap x dx C mA)
  (hs:fk K (.ref C) "__setattr__"=some (some (.builtin "object.__setattr__"))) (hp:M3 K C=true) (ht:zK K C name=some none) (hh:wQ K C=true)
  (hw:IS mA ns) (hsz:ns.length<=sizeLine)
  (h: ∀h',Ka h' x dx C (λy=>if y=name then some v else mA y)->Heap.SameBut dx s.heap h'->Q () {s with heap:=h',toks:=s.toks + 2}):
  wpAny (model prog w) A (setAttr (.ref x) name v) Q E s:=by
 obtain⟨od,J,hl⟩:=I.look;refine PySem.W.set_plain X J hs (PySem.W.osa_open (s:={s with toks:=s.toks + 1}) (r:=none) X J hp ht λb=> ?_);obtain⟨cd,hc,hd'⟩:=PySem.W.any_some hh;have hx:s.heap.get? x=some ⟨.ref C,some dx,.plain,#[]⟩:=I.obj;refine wpAny_bind (wpAny_pure (wpAny_bind (wpAny_bind (wpAny_loadPart hx (wpAny_bind (PySem.W.Looks.here (s:={s with toks:=s.toks + 1}) (PySem.W.looks_clsIn X hc) ?_))))));rw[hd'];refine wpAny_pure (a:=some dx) (wpAny_bind (wpAny_pure (wpAny_bind ?_)));refine wpAny_nsSet1 (s:={s with toks:=s.toks + 1}) I.ns λh' VZ fX=> ?_;obtain⟨oD,esD,epD,hoD,hdD,hcD⟩:=VZ.count (PySem.Within.cons name v hw);refine wpAny_bind (wpAny_lookBehind hoD (by rw[hdD];exact pastItsLine_dict (cH hcD (by rw[bV];omega))) ?_);exact wpAny_pure (h _ ⟨(fX.2 _ (bG I.ne)).trans I.obj,VZ,I.ne⟩ fX)
def Ox{R:Result->Shared->Prop}{vs:List Value}{kw:List (Str×Value)}(X:K.In s.heap)(hm:zL K C=true)
  (hi:fk K (.ref C) "__init__"=some (some (.ref f))) (hf:PySem.W.typeIn K (.ref f)=some (.type "function"))
  (h:codeAny (model prog w) (A.under (.builtin "type.__call__" ⟨.ref C::vs,kw⟩)) (.call (.ref f) ⟨.ref (s.heap.objs.size + 1)::vs,kw⟩) (PySem.W.InitBack (s.heap.objs.size + 1) R)
   {s with heap:=(s.heap.push fm).push (gW C s.heap.objs.size)}):
  codeAny (model prog w) A (.call (.ref C) ⟨vs,kw⟩) R s:=by
 obtain⟨hh,g,d,t,os⟩:=s;exact PySem.W.make_core (PySem.W.makes_of X hm) (PySem.W.looks_findIn X hi) (λself=>PySem.W.bind_fn X self hf) (.inl rfl) h
end
def iJ(f:Str)(v:V):List (Str×V)->List (Str×V)
 | []=>[(f,v)]
 |(g,x)::r=>if g=f then(g,v)::r else(g,x)::iJ f v r
theorem yu(f g:Str)(v:V): ∀fs:List (Str×V),(iJ f v fs).lookup g=if g=f then some v else fs.lookup g
 | []=>by
  show jr g [(f,v)]=_;by_cases h:g=f
  ·have hb:(g==f)=true:=beq_iff_eq.mpr h;simp only[jr,hb,if_pos h]
  ·have hb:(g==f)=false:=beq_eq_false_iff_ne.mpr h;simp only[jr,hb,if_neg h]
 |(k,x)::r=>by
  have ih:=yu f g v r;rw[show iJ f v ((k,x)::r)=(if k=f then(k,v)::r else(k,x)::iJ f v r) from rfl];by_cases hk:k=f
  ·rw[if_pos hk];by_cases h:g=k
   ·have hb:(g==k)=true:=beq_iff_eq.mpr h;simp only[jr,hb,if_pos (h.trans hk)]
   ·have hb:(g==k)=false:=beq_eq_false_iff_ne.mpr h;simp only[jr,hb,if_neg (λe:g=f=>h (e.trans hk.symm))]
  ·rw[if_neg hk];by_cases h:g=k
   ·have hb:(g==k)=true:=beq_iff_eq.mpr h;simp only[jr,hb,if_neg (λe:g=f=>hk (h.symm.trans e))]
   ·have hb:(g==k)=false:=beq_eq_false_iff_ne.mpr h;simp only[jr,hb];exact ih
theorem xo(f:Str)(v:V): ∀fs:List (Str×V),f∈(iJ f v fs).map (·.1)/\ ∀g,g∈fs.map (·.1)->g∈(iJ f v fs).map (·.1)
 | []=>⟨by simp[iJ],λg h=>by simp at h⟩
 |(k,x)::r=>by
  obtain⟨i1,i2⟩:=xo f v r;rw[show iJ f v ((k,x)::r)=(if k=f then(k,v)::r else(k,x)::iJ f v r) from rfl];by_cases hk:k=f
  ·rw[if_pos hk];subst hk;exact⟨by simp,λg h=>by simpa using h⟩
  ·rw[if_neg hk];refine⟨?_,λg h=> ?_⟩
   ·rw[bB];exact aK _ i1
   ·rw[bB] at h ⊢;rcases aA.mp h with e|e
    ·exact aA.mpr (.inl e)
    ·exact aK _ (i2 g e)
theorem yx(f:Str)(v:V): ∀fs:List (Str×V),(iJ f v fs).length<=fs.length + 1
 | []=>by simp[iJ]
 |(k,x)::r=>by
  have ih:=yx f v r;rw[show iJ f v ((k,x)::r)=(if k=f then(k,v)::r else(k,x)::iJ f v r) from rfl];by_cases hk:k=f
  ·rw[if_pos hk,bV,bV];omega
  ·rw[if_neg hk,bV,bV];omega
def oW.some_of{v:V}{o:Option Value}(r:oW (some v) o): ∃u,o=some u/\RelV v u:=by
 cases o with
 |none=>exact(show False from r).elim
 |some u=>exact⟨u,rfl,r⟩
def oW.none_of{o:Option Value}(r:oW none o):o=none:=by
 cases o with
 |none=>rfl
 |some u=>exact(show False from r).elim
def Ml{v:V}{u:Value}(r:RelV v u):Nl u=true:=by
 cases v with
 |fC=>cases(show u=Value.none from r);rfl
 |bl b=>cases(show u=Value.bool b from r);rfl
 |int i=>obtain⟨t,e⟩:=(show∃t,u=Value.int i t from r);cases e;rfl
 |str x=>obtain⟨t,e⟩:=(show∃t,u=Value.str x t from r);cases e;rfl
 |Ij b=>obtain⟨t,e⟩:=(show∃t,u=Value.bytes b t from r);cases e;rfl
 |X8 b=>obtain⟨t,e⟩:=(show∃t,u=Value.float b t from r);cases e;rfl
 |ref a=>cases(show u=Value.ref a from r);rfl
 |ty n=>cases(show u=Value.type n from r);rfl
section
variable{P:Program}{w:World}{H H':Hp}{h h':Heap}{a C dx:Addr}{fs fs':List (Str×V)}
def E5(eC:r9 P w H h)(e:H a=some (.ins C dx fs)): ∃mA,Ka h a dx C mA/\(∀f,oW (fs.lookup f) (mA f))/\IS mA (fs.map (·.1))/\fs.length<=1000/\H dx=some (.own a):=by
 obtain⟨d,z,ne,ob,mA,n,r,q⟩:=(show gJ P w H h a (.ins C dx fs) from eC a _ e);exact⟨mA,⟨ob,n,ne⟩,r,q,z,d⟩
end
structure wI(K:ab)(C:Addr):Prop where
 pg:o7 K C Str.empty=true
 hd:wQ K C=true
 po:M3 K C=true
 sa:fk K (.ref C) "__setattr__"=some (some (.builtin "object.__setattr__"))
def wI.get{K:ab}{C:Addr}(c:wI K C)(f:Str):o7 K C f=true:=c.pg
def bN(K:ab)(C:Addr)(f:Str):Prop:=fk K (.ref C) f=some none
def bN.Ww{K:ab}{C:Addr}{f:Str}(n:bN K C f):zK K C f=some none:=by
 unfold zK;rw[show fk K (.ref C) f=some none from n];rfl
structure Meth(K:ab)(C:Addr)(m:Str)(f:Addr):Prop where
 at_:fk K (.ref C) m=some (some (.ref f))
 fn:qB K (.ref f)=true
 kp:d9 K (.ref f)=true
section
variable{X:Cx}{pins:List (Addr×Obj)}{σ:St}{H:Hp}{s:Shared}{a C dx:Addr}{fs:List (Str×V)}{f:Str}{v:V}{A:Around}{E:Value->Shared->Prop}
def JJ{b:Bool}{Q:Value->Shared->Prop}(I:Inv X pins σ H s)(e:H a=some (.ins C dx fs))(c:wI X.K C)(n:bN X.K C f)(l:fs.lookup f=some v)
  (h: ∀u s',Inv X pins σ H s'->RelV v u->Q u s'):wpAny (model X.prog X.w) A (getAttr (.ref a) f b) Q E s:=by
 obtain⟨mA,O,r,_,_,_⟩:=E5 I.eC e;obtain⟨u,hu,ru⟩:=oW.some_of (v:=v) (o:=mA f) (by rw[<-l];exact r f);exact get_map I.Hq O (c.get f) c.hd n hu (Ml ru) (h u _ (I.tok _) ru)
def Bv{m:Str}{g:Addr}{pl:Sem Bool}{Q:Value×List Value->Shared->Prop}(I:Inv X pins σ H s)(e:H a=some (.ins C dx fs))(c:wI X.K C)(k:Meth X.K C m g)(l:fs.lookup m=none)
  (h:Q (.ref g,[.ref a]) s):wpAny (model X.prog X.w) A (getMethod (.ref a) m pl) Q E s:=by
 obtain⟨mA,O,r,_,_,_⟩:=E5 I.eC e;have hn:mA m=none:=oW.none_of (by rw[<-l];exact r m);exact O9 I.Hq O (c.get m) k.at_ k.fn hn h
def Jo{y:V}{u:Value}{Q:Unit->Shared->Prop}(I:Inv X pins σ H s)(e:H a=some (.ins C dx fs))(c:wI X.K C)(n:bN X.K C f)(hl:fs.length<1000)(ry:RelV y u)
  (h: ∀s',Inv X pins σ (upd H a (.ins C dx (iJ f y fs))) s'->Q () s'):wpAny (model X.prog X.w) A (setAttr (.ref a) f u) Q E s:=by
 obtain⟨mA,O,r,wi,_,ho⟩:=E5 I.eC e;have hz:(fs.map (·.1)).length<=sizeLine:=by rw[ag,sizeLine_eq];omega
 refine QK I.Hq O c.sa c.po n.Ww c.hd wi hz λh' O' sb=>h _ ?_;have hd: ∃o,h'.get? dx=some o:=let ⟨o,_,_,e',_⟩:=O'.ns;⟨o,e'⟩;refine I.write (x:=a) (e:=dx) (by rw[e];exact om) (.inr ho) (λb q hb z=>(sb.2 b hb).trans z) hd ?_;refine⟨by rw[aJ O.ne];exact ho,?_,O.ne,O'.obj,_,O'.ns,λg=> ?_,λg hg=> ?_⟩
 ·have:=yx f y fs;omega
 ·show oW ((iJ f y fs).lookup g) (if g=f then some u else mA g);rw[yu];by_cases q:g=f
  ·rw[if_pos q,if_pos q];exact ry
  ·rw[if_neg q,if_neg q];exact r g
 ·by_cases q:g=f
  ·rw[q];exact(xo f y fs).1
  ·refine(xo f y fs).2 g (wi g λz=>hg ?_);show(if g=f then some u else mA g)=none;rw[if_neg q];exact z
def Inv.made(I:Inv X pins σ H s):Inv X pins σ (upd (upd H s.heap.objs.size (.own (s.heap.objs.size + 1))) (s.heap.objs.size + 1) (.ins C s.heap.objs.size []))
  {s with heap:=(s.heap.push fm).push (gW C s.heap.objs.size)}:=by
 have e1:(s.heap.push fm).get? s.heap.objs.size=some fm:=Heap.get?_push_size s.heap rfl;have e2:((s.heap.push fm).push (gW C s.heap.objs.size)).get? (s.heap.objs.size + 1)=some (gW C s.heap.objs.size):=by
  have:=Heap.get?_push_size (s.heap.push fm) (o:=gW C s.heap.objs.size) rfl;rwa[Heap.size_push] at this
 have e3:(s.heap.push fm).Ns s.heap.objs.size (λ_=>none):=⟨fm,#[],_,e1,rfl,(λe he=>absurd he (by simp)),λ_=>rfl⟩;have I1:=I.laid (a:=s.heap.objs.size) (o:= .own (s.heap.objs.size + 1)) (h':=s.heap.push fm) (t':=s.toks) (λb u q=>Heap.get?_push_of_some _ q) (aE _) ⟨_,e1⟩;refine I1.laid (a:=s.heap.objs.size + 1) (o:= .ins C s.heap.objs.size []) (t':=s.toks) (λb u q=>Heap.get?_push_of_some _ q) (zO (Heap.size_push _ _)) ?_;have ne:s.heap.objs.size≠s.heap.objs.size + 1:=cv (jM _);refine⟨by rw[aJ ne,ak],aC _,ne,e2,λ_=>none,(Heap.Ns1.of_empty e3).at λo q=>Heap.get?_push_of_some _ q,λ_=>om,λy hy=>absurd rfl hy⟩
def Sd{prog:Program}{w:World}{env:Env}{e:Expr}{f:Str}{pos:Pos}{s:Shared}{Q:Value->Shared->Prop}(hb:attributeBase e f env (eval e env)=eval e env)
  (h:wpAny (model prog w) A (eval e env) (λo gd=>wpAny (model prog w) A (getAttr o f true) Q E gd) E s):wpAny (model prog w) A (eval (.Attribute e f pos) env) Q E s:=
 Attribute_any_ h (by rw[arm_eval_Attribute,hb])
end
inductive Rf(K:ab)(f:Str)(x:V)(H:Hp)(Q:VK):Prop
 |mk (a C dx:Addr) (fs:List (Str×V)) (v:V) (e:x= .ref a) (h:H a=some (.ins C dx fs)) (c:wI K C) (n:bN K C f) (l:fs.lookup f=some v) (q:Q v H):Rf K f x H Q
def NL(K:ab)(ta:TE)(f:Str):TE:=λσ H Q=>ta σ H λx H1=>Rf K f x H1 Q
inductive Rs(K:ab)(f:Str)(x y:V)(H:Hp)(q:Hp->Prop):Prop
 |mk (a C dx:Addr) (fs:List (Str×V)) (e:x= .ref a) (h:H a=some (.ins C dx fs)) (c:wI K C) (n:bN K C f) (l:fs.length<1000) (k:q (upd H a (.ins C dx (iJ f y fs)))):Rs K f x y H q
def ZF(K:ab)(ta tv:TE)(f:Str):TS:=λD σ H=>tv σ H λy H1=>ta σ H1 λx H2=>Rs K f x y H2 (D.nx σ)
section
variable{X:Cx}{o e value:Expr}{f:Str}{pos pos' qQ:Pos}{ta tv:TE}
def UB(he:PE X e ta)(hb:attributeBase e f X.env (eval e X.env)=eval e X.env):PE X (.Attribute e f pos) (NL X.K ta f):=by
 exists 13;refine Sd hb (gb (he pins s σ H _ I h) λu s1 ⟨x,H1,I1,rx,a,C,dx,fs,v,ex,ea,c,n,l,q⟩=> ?_);subst ex;obtain rfl:u=Value.ref a:=rx;exact JJ I1 ea c n l λu' s2 I2 ru=>⟨v,H1,I2,ru,q⟩
def dw(ha:PE X o ta)(hv:PE X value tv)(hs:swapsWith value (some (.Attribute o f pos')) pos.line X.env=pure false):PS X (.Assign [.Attribute o f pos'] value pos) (ZF X.K ta tv f):=by
 intro pins s σ H D I h;refine plainObj_wpAny_Assign_Attribute (gb (hv pins s σ H _ I h) λu s1 ⟨y,H1,I1,ry,q⟩=>gb (ha pins s1 σ H1 _ I1 q) λov s2 ⟨x,H2,I2,rx,a,C,dx,fs,ex,ea,c,n,l,q2⟩=> ?_) hs;subst ex;obtain rfl:ov=Value.ref a:=rx;exact Jo I2 ea c n l ry λs3 I3=>⟨σ,_,I3,q2⟩
end
section
variable{X:Cx}{pins:List (Addr×Obj)}{σ:St}{H:Hp}{s:Shared}{A:Around}{E:Value->Shared->Prop}{Q:Value->Shared->Prop}{c:Value}{b:Bool}
end
end L2
namespace L2
open PySem PySem.Spec PyProof.Rows
structure jk(k:Nat)(A:Around):Prop where
 hd:A.handled=none
 dp:A.depth + 3*k + 5<recursionLimit
 un:A.units + 16*k + 200<cLine
def jk.mono{j k:Nat}{A:Around}(r:jk k A)(h:j<=k):jk j A:=⟨r.hd,by have:=r.dp;omega,by have:=r.un;omega⟩
theorem jk.deeper{k:Nat}{A:Around}(r:jk (k + 1) A)(env:Env):jk k (A.deeper env):=
 ⟨r.hd,by have:=r.dp;show A.depth + 1 + 3*k + 5<_;omega,by have:=r.un;show A.units + 3 + 16*k + 200<_;omega⟩
def JA{A:Around}{C:Addr}{us:List Value}{kw:List (Str×Value)}:(A.under (.builtin "type.__call__" ⟨.ref C::us,kw⟩)).depth=A.depth + 1:=by
 first|rfl|simp[Around.under,Code.weight,Code.isCreation,Code.isGuard,Code.isCaller,Code.frames,Code.isFrame,guardIds]
def Jz{A:Around}{C:Addr}{us:List Value}{kw:List (Str×Value)}:(A.under (.builtin "type.__call__" ⟨.ref C::us,kw⟩)).units=A.units + 1:=by
 first|rfl|simp[Around.under,Code.cUnits,Code.frames,Code.isFrame]
def jk.make{k:Nat}{A:Around}(r:jk (k + 1) A)(C:Addr)(us:List Value)(kw:List (Str×Value)):jk k (A.under (.builtin "type.__call__" ⟨.ref C::us,kw⟩)):=
 ⟨r.hd,by have:=r.dp;rw[JA];omega,by have:=r.un;rw[Jz];omega⟩
theorem jk.depth{k:Nat}{A:Around}(r:jk k A):A.depth<recursionLimit:=by have:=r.dp;omega
theorem jk.units{k:Nat}{A:Around}(r:jk k A):A.units + 64<cLine:=by have:=r.un;omega
def Ji:TA:=λ_ H Q=>Q [] H
def Kp(ta:TE)(tr:TA):TA:=λσ H Q=>ta σ H λx H1=>tr σ H1 λxs H2=>Q (x::xs) H2
section
variable{X:Cx}{e:Expr}{es:List Expr}{te:TE}{t:TA}{pos:Pos}
def ai:PA X [] Ji:=λ_ _ _ _ H Q I h=>Calls.spliced_nil ⟨[],H,I,.nil,h⟩
def aa(ha:PE X e te)(hr:PA X es t)(hs:starEach (e::es) X.env=(false,eval e X.env)::starEach es X.env:=by rfl):PA X (e::es) (Kp te t):=by
 intro pos pins s σ H Q I h;rw[hs];show wpAny _ _ (spliced ((false,eval e X.env)::backTo pos (starEach es X.env))) _ _ s;refine Calls.spliced_cons (gb (ha pins s σ H _ I h) λu s1 ⟨x,H1,I1,r1,q1⟩=> ?_);exact gb (hr pos pins s1 σ H1 _ I1 q1) λus s2 ⟨xs,H2,I2,r2,q2⟩=>⟨x::xs,H2,I2,.cons r1 r2,q2⟩
def Zp(t:TA):TE:=λσ H Q=>t σ H λxs H1=>xs.length<=sizeLine/\ ∀p,H1 p=none->Q (.ref p) (upd H1 p (.tup xs))
def WB(t:TA):TE:=λσ H Q=>t σ H λxs H1=>xs.length<=sizeLine/\ ∀p,H1 p=none->Q (.ref p) (upd H1 p (.lst xs))
def nZ{x1}(h:PA X es t):PE X (.Tuple es x1 pos) (Zp t):=by
 intro pins s σ H Q I hq;refine wpAny_Tuple_spliced (gb (h pos pins s σ H _ I hq) λus s1 ⟨xs,H1,I1,r,z,q⟩=>⟨by rw[<-r.length];exact z,?_⟩);have hf:H1 s1.heap.objs.size=none:=I1.eC.fresh (aE _);refine⟨.ref s1.heap.objs.size,upd H1 s1.heap.objs.size (.tup xs),I1.laid (t':=s1.toks) (λb u e=>Heap.get?_push_of_some _ e) (aE _) ?_,rfl,q _ hf⟩;exact⟨z,us,r,⟨_,Heap.get?_push_size _ rfl,rfl,_,rfl⟩⟩
def cx(h:PA X es t):PE X (.List es pos) (WB t):=by
 intro pins s σ H Q I hq;refine wpAny_List_spliced (gb (h pos pins s σ H _ I hq) λus s1 ⟨xs,H1,I1,r,z,q⟩=>⟨by rw[<-r.length];exact z,?_⟩);have hf:H1 s1.heap.objs.size=none:=I1.eC.fresh (aE _);refine⟨.ref s1.heap.objs.size,upd H1 s1.heap.objs.size (.lst xs),I1.laid (t':=s1.toks) (λb u e=>Heap.get?_push_of_some _ e) (aE _) ?_,rfl,q _ hf⟩;exact⟨z,us,0,r,Heap.get?_push_size _ rfl⟩
end
abbrev Sp:=List V->Hp->VK->XK->Prop
abbrev Lj:=List Env->Hp->Shared->XK->Value->Shared->Prop
structure Kc(P:Program)(w:World)(K:ab)(mg:Str->Option Value)(base:Heap)(A:Around)(outer:List Env)(s:Shared)(H:Hp):Prop where
 frames:A.frames=some outer
 mod:Mod K mg base
 bs: ∀b o,base.get? b=some o->s.heap.get? b=some o/\H b=none
 R8:base.objs.size<=s.heap.objs.size
 y6:s.heap.FunFrames base outer
 Vg: ∀b∈Pc outer,H b=none
 eC:r9 P w H s.heap
 bare:AllBare s.gens
def CE(outer:List Env)(P:Program)(w:World)(H:Hp)(s:Shared)(Q:VK)(u:Value)(s':Shared):Prop:=
 ∃v H',s'.os=s.os/\AllBare s'.gens/\Un (Pc outer) [] H H' s.heap s'.heap/\r9 P w H' s'.heap/\RelV v u/\Q v H'
def CR(CX:Lj)(outer:List Env)(P:Program)(w:World)(H:Hp)(s:Shared)(Q:VK)(E:XK)(r:Result)(s':Shared):Prop:=
 match r with
 | .ok (.ret u)=>CE outer P w H s Q u s'
 | .ok _=>False
 | .error e=>CX outer H s E e s'
structure mh(P:Program)(w:World)(K:ab)(mg:Str->Option Value)(base:Heap)(CX:Lj)(k:Nat)(f:Addr)(fd:FuncData)(ps:List Str)(sp:Sp):Prop where
 len: ∀vs H Q E,sp vs H Q E->vs.length=ps.length
 run: ∀(A:Around) (outer:List Env) (s:Shared) (H:Hp) (args:Args) (us:List Value) (vs:List V) (Q:VK) (E:XK),jk k A->Kc P w K mg base A outer s H->BindsTo s fd args (ps.zip us)->Vals vs us->sp vs H Q E->
  codeAny (model P w) A (.call (.ref f) args) (CR CX outer P w H s Q E) s
theorem mh.mono{P:Program}{w:World}{K:ab}{mg:Str->Option Value}{base:Heap}{CX:Lj}{j k:Nat}{f:Addr}{fd:FuncData}{ps:List Str}{sp:Sp}(F:mh P w K mg base CX j f fd ps sp)(h:j<=k):
  mh P w K mg base CX k f fd ps sp:=⟨F.len,λA outer s H args us vs Q E hr=>F.run A outer s H args us vs Q E (hr.mono h)⟩
def mh.imp{P:Program}{w:World}{K:ab}{mg:Str->Option Value}{base:Heap}{CX:Lj}{k:Nat}{f:Addr}{fd:FuncData}{ps:List Str}{sp WK:Sp}(F:mh P w K mg base CX k f fd ps sp)
  (h: ∀vs H Q E,WK vs H Q E->sp vs H Q E):mh P w K mg base CX k f fd ps WK:=
 ⟨λvs H Q E q=>F.len vs H Q E (h _ _ _ _ q),λA outer s H args us vs Q E hr he hb hv hs=>F.run A outer s H args us vs Q E hr he hb hv (h _ _ _ _ hs)⟩
def Kc.make{P:Program}{w:World}{K:ab}{mg:Str->Option Value}{base:Heap}{A:Around}{outer:List Env}{s:Shared}{H:Hp}(e:Kc P w K mg base A outer s H)(C:Addr)(us:List Value)(kw:List (Str×Value)):
  Kc P w K mg base (A.under (.builtin "type.__call__" ⟨.ref C::us,kw⟩)) outer s H:=⟨by first|exact e.frames|(simpa [Around.under,Code.envs,Code.isFrame,pushEnvs] using e.frames),e.mod,e.bs,e.R8,e.y6,e.Vg,e.eC,e.bare⟩
section
variable{X:Cx}{pins:List (Addr×Obj)}{σ:St}{H:Hp}{s s':Shared}
def Inv.Ya(I:Inv X pins σ H s):Kc X.prog X.w X.K X.mg X.base X.A X.stack s H:=
 ⟨I.ok.frames,I.ok.mod,I.bs,cH I.ok.R8 I.sz,I.stack,I.Ks,I.eC,I.bare⟩
def Inv.after{Q:VK}{u:Value}(I:Inv X pins σ H s)(h:CE X.stack X.prog X.w H s Q u s'):EP X pins σ Q u s':=by
 obtain⟨v,H',os,bare,un,eC,r,q⟩:=h;obtain⟨hh,g,d,t,os'⟩:=s';obtain rfl:os'=s.os:=os;exact⟨v,H',I.call (h':=hh) (g':=g) (d':=d) (t':=t) (ch:=[]) un eC bare (λb z=>absurd z (by simp)),r,q⟩
end
def Kq(sp:Sp)(BW:List V)(E:XK)(t:TA):TE:=λσ H Q=>t σ H λvs H1=>sp (vs++BW) H1 Q E
inductive Rm(C:Addr)(m:Str)(x:V)(H:Hp)(q:Prop):Prop
 |mk (a dx:Addr) (fs:List (Str×V)) (e:x= .ref a) (h:H a=some (.ins C dx fs)) (l:fs.lookup m=none) (k:q):Rm C m x H q
def Ko(C:Addr)(m:Str)(sp:Sp)(BW:List V)(E:XK)(ta:TE)(t:TA):TE:=λσ H Q=>ta σ H λx H1=>Rm C m x H1 (t σ H1 λvs H2=>sp (x::(vs++BW)) H2 Q E)
def Sv(C:Addr)(sp:Sp)(BW:List V)(E:XK)(t:TA):TE:=λσ H Q=>t σ H λvs H1=> ∀x dx,H1 x=none->H1 dx=none->dx≠x->
 sp (.ref x::(vs++BW)) (upd (upd H1 dx (.own x)) x (.ins C dx [])) (λv H2=>v= .fC/\Q (.ref x) H2) E
def Binds(K:ab)(fd:FuncData)(ps:List Str)(ds:List Value):Prop:=
 ∀(s:Shared) (us:List Value),K.In s.heap->(us++ds).length=ps.length->BindsTo s fd ⟨us,[]⟩ (ps.zip (us++ds))
def Binds.all{K:ab}{fd:FuncData}{ps:List Str}(h: ∀us:List Value,us.length=ps.length->bindArgs fd ⟨us,[]⟩=pure (ps.zip us)):Binds K fd ps []:=λs us _ hl=>by
 rw[dz] at hl ⊢;exact .of_eq (h us hl)
def Passes(CX:Lj)(X:Cx)(E:XK):Prop:= ∀(pins:List (Addr×Obj)) (σ:St) (H:Hp) (s:Shared) (e:Value) (s':Shared),Inv X pins σ H s->CX X.stack H s E e s'->X.xe e s'
section
variable{X:Cx}{CX:Lj}{k:Nat}{f C:Addr}{fd:FuncData}{ps:List Str}{sp:Sp}{BW:List V}{ds:List Value}{E:XK}{x m:Str}{p pos apos:Pos}{e o:Expr}{es:List Expr}{ta:TE}{t:TA}
def Av{pins:List (Addr×Obj)}{σ:St}{H:Hp}{s:Shared}{Q:VK}{us:List Value}{vs:List V}(F:mh X.prog X.w X.K X.mg X.base CX k f fd ps sp)(hr:jk k X.A)(hb:Binds X.K fd ps ds)(hd:Vals BW ds)(hx:Passes CX X E)
  (I:Inv X pins σ H s) (r:Vals vs us) (h:sp (vs++BW) H Q E):wpAny (model X.prog X.w) X.A (call (.ref f) us) (EP X pins σ Q) X.xe s:=by
 have r2:Vals (vs++BW) (us++ds):=r.append hd;have hl:(us++ds).length=ps.length:=by rw[<-r2.length];exact F.len _ _ _ _ h
 refine wpAny_call (codeAny_mono (F.run X.A X.stack s H ⟨us,[]⟩ (us++ds) (vs++BW) Q E hr I.Ya (hb s us I.Hq hl) r2 h) λr s' hq=> ?_);cases r with
 |error e=>exact hx pins σ H s e s' I hq
 |ok fl=>
  cases fl with
  |ret u=>exact I.after hq
  |next=>exact d5 hq
  |brk=>exact d5 hq
  |cont=>exact d5 hq
def Q5(F:mh X.prog X.w X.K X.mg X.base CX k f fd ps sp)(hr:jk k X.A)(hg:Gl X x)(hm:X.mg x=some (.ref f))(hk:d9 X.K (.ref f)=true)(hb:Binds X.K fd ps ds)(hd:Vals BW ds)(hx:Passes CX X E)
  (ha:PA X (e::es) t) (Hv:(x==("__debug__":Str))=false:=by decide) (he:starEach (e::es) X.env=(false,eval e X.env)::starEach es X.env:=by rfl) (m5:(backTo pos (starEach es X.env)).any (·.1)=false:=by rfl):
  PE X (.Call (.Name x p) (e::es) [] pos) (Kq sp BW E t):=by
 exists 13;refine wpAny_Call_Name_kw (sS I hg hm ?_ Hv);refine m6 (h₀:=X.base) I.ok.mod.VR hk (gb (ha pos pins s σ H _ I h) λus s1 ⟨vs,H1,I1,r,q⟩=>⟨I1.Hq,?_⟩) he m5;exact Av F hr hb hd hx I1 r q
def Oe(F:mh X.prog X.w X.K X.mg X.base CX k f fd ps sp)(hr:jk k X.A)(hg:Gl X x)(hm:X.mg x=some (.ref f))(hk:d9 X.K (.ref f)=true)(hb:Binds X.K fd ps ds)(hd:Vals BW ds)(hx:Passes CX X E)
  (Hv:(x==("__debug__":Str))=false:=by decide):PE X (.Call (.Name x p) [] [] pos) (Kq sp BW E Ji):=by
 exists 13;refine wpAny_Call_Name_kw (sS I hg hm ?_ Hv);exact Kg I.Hq hk (Av (us:=[]) F hr hb hd hx I .nil h)
def Q0{pl:Sem Bool}(he:PE X o ta)(c:wI X.K C)(hm:Meth X.K C m f)(F:mh X.prog X.w X.K X.mg X.base CX k f fd ps sp)(hr:jk k X.A)(hb:Binds X.K fd ps ds)(hd:Vals BW ds)(hx:Passes CX X E)(ha:PA X (e::es) t)
  (RF:starEach (e::es) X.env=(false,eval e X.env)::starEach es X.env:=by rfl) (m5:(backTo pos (starEach es X.env)).any (·.1)=false:=by rfl)
  (ht:eval (.Call (.Attribute o m apos) (e::es) [] pos) X.env=(do
   let ov<-eval o X.env
   standAt apos.atName
   let (f,first)<-holding [ov] (getMethod ov m pl)
   callWith pos f first (backTo pos (starEach (e::es) X.env)) (backToKw pos (keywordEach [] X.env))):=by rfl):
  PE X (.Call (.Attribute o m apos) (e::es) [] pos) (Ko C m sp BW E ta t):=by
 exists 13;refine IC (pl:=pl) (gb (he pins s σ H _ I h) λu s1 ⟨x,H1,I1,rx,a,dx,fs,ex,ea,l,q⟩=> ?_) ht;subst ex;obtain rfl:u=Value.ref a:=rx;refine Bv I1 ea c hm l ?_;refine m6 (first:=[.ref a]) (h₀:=X.base) I.ok.mod.VR hm.kp (gb (ha pos pins s1 σ H1 _ I1 q) λus s2 ⟨vs,H2,I2,r,q2⟩=>⟨I2.Hq,?_⟩) RF m5;exact Av (us:= .ref a::us) (vs:= .ref a::vs) F hr hb hd hx I2 (.cons rfl r) q2
def Ob{pl:Sem Bool}(he:PE X o ta)(c:wI X.K C)(hm:Meth X.K C m f)(F:mh X.prog X.w X.K X.mg X.base CX k f fd ps sp)(hr:jk k X.A)(hb:Binds X.K fd ps ds)(hd:Vals BW ds)(hx:Passes CX X E)
  (ht:eval (.Call (.Attribute o m apos) [] [] pos) X.env=(do
   let ov<-eval o X.env
   standAt apos.atName
   let (f,first)<-holding [ov] (getMethod ov m pl)
   callWith pos f first (backTo pos (starEach [] X.env)) (backToKw pos (keywordEach [] X.env))):=by rfl):
  PE X (.Call (.Attribute o m apos) [] [] pos) (Ko C m sp BW E ta Ji):=by
 exists 13;refine IC (pl:=pl) (gb (he pins s σ H _ I h) λu s1 ⟨x,H1,I1,rx,a,dx,fs,ex,ea,l,q⟩=> ?_) ht;subst ex;obtain rfl:u=Value.ref a:=rx;refine Bv I1 ea c hm l ?_;exact Kg (first:=[.ref a]) I1.Hq hm.kp (Av (us:=[.ref a]) (vs:=[.ref a]) F hr hb hd hx I1 (.cons rfl .nil) q)
structure Mk(K:ab)(C f:Addr):Prop where
 makes:zL K C=true
 init:fk K (.ref C) "__init__"=some (some (.ref f))
 fn:qB K (.ref f)=true
 kp:d9 K (.ref C)=true
def NW{pins:List (Addr×Obj)}{σ:St}{H:Hp}{s:Shared}{Q:VK}{us:List Value}{vs:List V}(M:Mk X.K C f)(F:mh X.prog X.w X.K X.mg X.base CX k f fd ps sp)(hr:jk (k + 1) X.A)(hb:Binds X.K fd ps ds)(hd:Vals BW ds)
  (hx:Passes CX X E) (I:Inv X pins σ H s) (r:Vals vs us)
  (h: ∀x dx,H x=none->H dx=none->dx≠x->sp (.ref x::(vs++BW)) (upd (upd H dx (.own x)) x (.ins C dx [])) (λv H2=>v= .fC/\Q (.ref x) H2) E):
  wpAny (model X.prog X.w) X.A (call (.ref C) us) (EP X pins σ Q) X.xe s:=by
 have hq:=h (s.heap.objs.size + 1) s.heap.objs.size (I.eC.fresh (Nn _)) (I.eC.fresh (aE _)) (cv (jM _));have I2:=Inv.made (C:=C) I;have r2:Vals (V.ref (s.heap.objs.size + 1)::(vs++BW)) (Value.ref (s.heap.objs.size + 1)::(us++ds)):= .cons rfl (r.append hd);have hl:(Value.ref (s.heap.objs.size + 1)::us++ds).length=ps.length:=by
  have e:=r2.length;rw[F.len _ _ _ _ hq] at e;exact e.symm
 refine wpAny_call (Ox (f:=f) I.Hq M.makes M.init (beq_iff_eq.mp M.fn) (codeAny_mono (F.run _ X.stack _ _ ⟨Value.ref (s.heap.objs.size + 1)::us,[]⟩ (Value.ref (s.heap.objs.size + 1)::(us++ds)) _ _ E (hr.make C us [])
  (I2.Ya.make C us []) (hb _ (Value.ref (s.heap.objs.size + 1)::us) I2.Hq hl) r2 hq) λr s' S5=> ?_))
 cases r with
 |error e=>exact hx pins σ _ _ e s' I2 S5
 |ok fl=>
  cases fl with
  |ret u=>
   obtain⟨v,H',I3,rv,ev,q3⟩:=I2.after S5;subst ev;exact⟨rv,⟨V.ref (s.heap.objs.size + 1),H',I3,rfl,q3⟩⟩
  |next=>exact d5 S5
  |brk=>exact d5 S5
  |cont=>exact d5 S5
def Q3(M:Mk X.K C f)(F:mh X.prog X.w X.K X.mg X.base CX k f fd ps sp)(hr:jk (k + 1) X.A)(hg:Gl X x)(hm:X.mg x=some (.ref C))(hb:Binds X.K fd ps ds)(hd:Vals BW ds)(hx:Passes CX X E)
  (ha:PA X (e::es) t) (Hv:(x==("__debug__":Str))=false:=by decide) (he:starEach (e::es) X.env=(false,eval e X.env)::starEach es X.env:=by rfl) (m5:(backTo pos (starEach es X.env)).any (·.1)=false:=by rfl):
  PE X (.Call (.Name x p) (e::es) [] pos) (Sv C sp BW E t):=by
 exists 13;refine wpAny_Call_Name_kw (sS I hg hm ?_ Hv);refine m6 (h₀:=X.base) I.ok.mod.VR M.kp (gb (ha pos pins s σ H _ I h) λus s1 ⟨vs,H1,I1,r,q⟩=>⟨I1.Hq,?_⟩) he m5;exact NW M F hr hb hd hx I1 r q
end
section
variable{X:Cx}{CX:Lj}{k:Nat}{f C:Addr}{fd:FuncData}{ps ks:List Str}{sp:Sp}{E:XK}{x m:Str}{p pos apos aeo:Pos}{e o:Expr}{es:List Expr}{kws:List Keyword}{te ta:TE}{t tk:TA}{nm:Option Str}
variable{g:List Value->List Value->List Value}{gV:List V->List V->List V}
end
structure nS(N P:List Str)(sc:Scope):Prop where
 kind:sc.kind= .function
 co:sc.isCoroutine=false
 gen:sc.isGenerator=false
 nd:N.Nodup
 pre:N.take P.length=P
 par: ∀x∈P,sc.names.lookup x=some .local\/sc.names.lookup x=some .cell
 UE: ∀y∈sc.names,y.2≠ .free
theorem El{kindOf:Str->Option NameKind}{x:Str}: ∀{binds:List (Str×Value)} {m:Str->Option Value},(∀v,(x,v)∉binds)->bindL kindOf binds m x=m x
 | [],_,_=>rfl
 |(n,v)::r,m,h=>by
  unfold bindL;rw[El λw hw=>h w (aK _ hw)];split
  ·have:x≠n:=by rintro rfl;exact h v aY
   simp[this]
  ·rfl
theorem En{kindOf:Str->Option NameKind}{x:Str}: ∀{binds:List (Str×Value)} {m:Str->Option Value},(∀v,(x,v)∉binds)->bindC kindOf binds m x=m x
 | [],_,_=>rfl
 |(n,v)::r,m,h=>by
  unfold bindC;rw[En λw hw=>h w (aK _ hw)];split
  ·rfl
  ·have:x≠n:=by rintro rfl;exact h v aY
   simp[this]
theorem Em{kindOf:Str->Option NameKind}{x:Str}{v:Value}: ∀{P:List Str} {vs:List Value} {i:Nat} {m:Str->Option Value},P.Nodup->P[i]? =some x->vs[i]? =some v->kindOf x=some .local->
  bindL kindOf (P.zip vs) m x=some v
 | [],_,_,_,_,h,_,_=>by simp at h
 |_::_,[],_,_,_,_,h,_=>by simp at h
 |p::P,w::vs,0,m,nd,h1,h2,hk=>by
  simp at h1 h2;subst h1;subst h2;show bindL kindOf ((p,w)::P.zip vs) m p=_;unfold bindL;rw[El λv hv=>(bU.mp nd).1 (kj hv).1,if_pos hk];simp
 |p::P,w::vs,i + 1,m,nd,h1,h2,hk=>by
  show bindL kindOf ((p,w)::P.zip vs) m x=_;unfold bindL;exact Em (i:=i) (bU.mp nd).2 (by simpa using h1) (by simpa using h2) hk
theorem Eo{kindOf:Str->Option NameKind}{x:Str}{v:Value}: ∀{P:List Str} {vs:List Value} {i:Nat} {m:Str->Option Value},P.Nodup->P[i]? =some x->vs[i]? =some v->kindOf x≠some .local->
  bindC kindOf (P.zip vs) m x=some v
 | [],_,_,_,_,h,_,_=>by simp at h
 |_::_,[],_,_,_,_,h,_=>by simp at h
 |p::P,w::vs,0,m,nd,h1,h2,hk=>by
  simp at h1 h2;subst h1;subst h2;show bindC kindOf ((p,w)::P.zip vs) m p=_;unfold bindC;rw[En λv hv=>(bU.mp nd).1 (kj hv).1,if_neg hk];simp
 |p::P,w::vs,i + 1,m,nd,h1,h2,hk=>by
  show bindC kindOf ((p,w)::P.zip vs) m x=_;unfold bindC;exact Eo (i:=i) (bU.mp nd).2 (by simpa using h1) (by simpa using h2) hk
def start(N:List Str)(vs:List V):St:=vs.map some++bC (N.length - vs.length) none
def J3(CX:Lj)(P:Program)(w:World)(K:ab)(mg:Str->Option Value)(base:Heap)(N:List Str)(qual:Str)(scope:Scope)(f:Addr)(cd:Value)(A:Around)(outer:List Env)(s:Shared)(H:Hp)(E:XK):Cx where
 prog:=P
 w:=w
 K:=K
 mg:=mg
 base:=base
 A:=A.deeper (envOfC qual scope s.heap.objs.size f cd)
 N:=N
 DD:=s
 VB:=H
 env:=envOfC qual scope s.heap.objs.size f cd
 outer:=outer
 stack:=envOfC qual scope s.heap.objs.size f cd::outer
 ex:=[]
 calm:=true
 fn:=λ_=>true
 pn:=[]
 xe:=λe s'=>wpAny (model P w) (A.deeper (envOfC qual scope s.heap.objs.size f cd)) («leaving» (envOfC qual scope s.heap.objs.size f cd) e) (λ_ ZK=>CX outer H s E e ZK) (λe' ZK=>CX outer H s E e' ZK) s'
def HZ{sc:Scope}{n:Nat}{x:Str}(h:sc.names.lookup x=some .cell): ∃c,(cellsFrom n sc.names []).lookup x=some c:=by
 have q:=Ge sc.names n [] (.inl h);exact oZ.mp q
def L8{CX:Lj}{P:Program}{w:World}{K:ab}{mg:Str->Option Value}{base:Heap}{N ps:List Str}{qual:Str}{scope:Scope}{f:Addr}{cd:Value}{A:Around}{outer:List Env}{s s1:Shared}{H:Hp}{E:XK}{us:List Value}{vs:List V}
  (S:nS N ps scope) (hd:A.handled=none) (e0:Kc P w K mg base A outer s H) (hl:vs.length=ps.length) (r:Vals vs us)
  (x:InCallC s s.heap.objs.size (bindL (envOfC qual scope s.heap.objs.size f cd).kindOf (ps.zip us) λ_=>none) (cellsFrom (s.heap.objs.size + 1) scope.names []) (bindC (envOfC qual scope s.heap.objs.size f cd).kindOf (ps.zip us) λ_=>none) s1):
  Inv (J3 CX P w K mg base N qual scope f cd A outer s H E) [] (start N vs) H s1:=by
 have m5:ps.length<=N.length:=by have:=congrArg List.length S.pre;rw[bo] at this;omega
 obtain⟨h1,tk,rfl,hk⟩:=x.done;have VO: ∀b:Addr,b∉(J3 CX P w K mg base N qual scope f cd A outer s H E).ex:=λb z=>absurd (show b∈([]:List Addr) from z) (by simp);refine⟨⟨e0.mod,S.kind,rfl,rfl,aE _,λy z c h1 h2=> ?_,λy hy=> ?_,λy c _ h=> ?_,λ_=>hd,Around.frames_deeper e0.frames,.inr ⟨rfl,rfl⟩,λb z=>absurd z (VO b),e0.bs,e0.R8,λb _ _=>VO b,λb z=>absurd z (VO b),e0.y6,e0.Vg⟩,
  rfl,e0.bare,Un.kept hk,⟨_,x.toInCall.ns,λi y v h1 h2 h3=> ?_⟩,λy c h=>⟨_,x.cell y c h⟩,e0.eC.fresh (aE _),λy c h=> ?_,λp hp=>absurd (show p∈([]:List (Addr×Obj)) from hp) (by simp),e0.eC.kept hk,?_⟩
 ·exact name_of_addr x.apart (cA h1) (cA h2)
 ·have hy:scope.names.lookup y=some .cell\/scope.names.lookup y=some .free:=hy;rcases hy with hy|hy
  ·exact HZ hy
  ·exact absurd rfl (S.UE _ (cA hy))
 ·exact Lm (x.above y c (cA h))
 ·have hi:i<vs.length:=by
   unfold start at h2;by_cases hi:i<vs.length
   ·exact hi
   ·rw[dN (by simpa using hi)] at h2;rw[qH] at h2;split at h2 <;> cases h2
  have ha:vs[i]? =some v:=by
   unfold start at h2;rw[hZ (by simpa using hi),aI] at h2;cases e:vs[i]? with
   |none=>rw[e] at h2;cases h2
   |some a=>rw[e] at h2;cases h2;rfl
  obtain⟨u,hu,rv⟩:=r.get ha;have hp:ps[i]? =some y:=by
   rw[<-S.pre,kh (by omega)];exact h1
  have ndP:ps.Nodup:=by rw[<-S.pre];exact S.nd.sublist (List.take_sublist _ _)
  refine⟨u,rv,?_⟩;rcases S.par y (aZ hp) with k|k
  ·exact .inl ⟨k,Em ndP hp hu k⟩
  ·obtain⟨c,e⟩:=HZ (n:=s.heap.objs.size + 1) k;refine .inr ⟨.inl k,c,e,?_⟩;have q:=x.cell y c e;rw[Eo ndP hp hu (by show scope.names.lookup y≠_;rw[k];decide)] at q;exact q
 ·exact e0.eC.fresh (Lm (x.above y c (cA h)))
 ·unfold start;show _=N.length;rw[aP,ag,lN];omega
def X7{CX:Lj}{P:Program}{w:World}{K:ab}{mg:Str->Option Value}{base:Heap}{k:Nat}{f:Addr}{name qual:Str}{params:Arguments}{body:List Stmt}{scope:Scope}{dV kV doc pm cdv ct oc:Value}{an od:Option Addr}
  {Q6:Array (Option Value)} {N ps:List Str} {sp:Sp} (lk:K.lookup f=some ⟨oc,od,.func (gX name qual params body scope dV kV doc pm an cdv ct),Q6⟩) (Qi:kI K cdv qual=true) (S:nS N ps scope)
  (len: ∀vs H Q E,sp vs H Q E->vs.length=ps.length)
  (rK: ∀(A:Around) (outer:List Env) (s:Shared) (H:Hp) (vs:List V) (Q:VK) (E:XK),jk k (A.deeper (envOfC qual scope s.heap.objs.size f cdv))->sp vs H Q E->
   ∃t,Lh (J3 CX P w K mg base N qual scope f cdv A outer s H E) body t/\t {nx:=λ_ H'=>Q .fC H',rt:=Q} (start N vs) H):
  mh P w K mg base CX (k + 1) f (gX name qual params body scope dV kV doc pm an cdv ct) ps sp:=by
 refine⟨len,λA outer s H args us vs Q E hr e0 hb r Qb=> ?_⟩;have hl:=len _ _ _ _ Qb;have KX:K.In s.heap:=e0.mod.VR.keeps λb o e=>(e0.bs b o e).1;have lim:s.heap.NoLimit:=e0.mod.nolimit.keeps λb o e=>(e0.bs b o e).1;have XC: ∀y∈ps.zip us,scope.names.lookup y.1=some .local\/(scope.names.lookup y.1=some .cell/\((cellsFrom (s.heap.objs.size + 1) scope.names []).lookup y.1).isSome=true):=λ⟨n,v⟩ hy=>by
  rcases S.par n (kj hy).1 with q|q
  ·exact .inl q
  ·exact .inr ⟨q,Ge _ _ _ (.inl q)⟩
 refine codeAny_call_function hr.depth (KX _ _ lk) rfl S.co S.gen rfl (PySem.W.codeRec_of KX Qi) (hb _ _ _ _ ?_);refine wpAny_newFunctionEnv_cells S.kind XC λenv he s1 x=> ?_;subst he;refine⟨lim.keeps x.toInCall.keep,codeAny_func ?_⟩;obtain⟨t,ht,hq⟩:=rK A outer s H vs Q E (hr.deeper _) Qb;have I:Inv (J3 CX P w K mg base N qual scope f cdv A outer s H E) [] (start N vs) H s1:=L8 S hr.hd e0 hl r x;refine wpAny_mono (ht [] s1 (start N vs) H _ I hq) (λfl s' hs=> ?_) λe s' hs=>hs;have fin: ∀{σ':St} {H':Hp} {v:V} {u:Value},Inv (J3 CX P w K mg base N qual scope f cdv A outer s H E) [] σ' H' s'->RelV v u->Q v H'->CE outer P w H s Q u s':=
  λ{σ' H' v u} J rv q=>⟨v,H',J.os,J.bare,J.base,J.eC,rv,q⟩
 cases fl with
 |ret u=>
  obtain⟨v,σ',H',J,rv,q⟩:=hs;exact fin J rv q
 |next=>
  obtain⟨σ',H',J,q⟩:=hs;exact fin (v:=V.fC) (u:=Value.none) J rfl q
 |brk=>
  obtain⟨_,_,_,q⟩:=hs;exact d5 q
 |cont=>
  obtain⟨_,_,_,q⟩:=hs;exact d5 q
end L2
namespace L2
open PySem PySem.Spec PyProof.Rows
section
variable{X:Cx}{x:Str}{p pos:Pos}{e:Expr}{es:List Expr}{t:TA}{id T:String}{r:List V->Hp->VK->Prop}
def Zy(r:List V->Hp->VK->Prop)(t:TA):TE:=λσ H Q=>t σ H λvs H1=>r vs H1 Q
def bX(hc:qw X (.builtin id) r)(hg:Gl X x)(hm:X.mg x=none)(hv:bootBuiltins x=some (.builtin id))(ha:PA X (e::es) t)(hn:x≠"__name__":=by decide)(Hv:(x==("__debug__":Str))=false:=by decide)
  (he:starEach (e::es) X.env=(false,eval e X.env)::starEach es X.env:=by rfl) (m5:(backTo pos (starEach es X.env)).any (·.1)=false:=by rfl):PE X (.Call (.Name x p) (e::es) [] pos) (Zy r t):=by
 exists 13;refine wpAny_Call_Name_kw (lO I hg hm hv ?_ hn Hv);exact PyProof.Rows.callWith_builtin1 (gb (ha pos pins s σ H _ I h) λus s1 ⟨vs,H1,I1,r1,q1⟩=>hc pins s1 σ H1 vs us Q I1 r1 q1) he m5
def kS(hc:qw X (.type T) r)(hg:Gl X x)(hm:X.mg x=none)(hv:bootBuiltins x=some (.type T))(ha:PA X (e::es) t)(hn:x≠"__name__":=by decide)(Hv:(x==("__debug__":Str))=false:=by decide)
  (he:starEach (e::es) X.env=(false,eval e X.env)::starEach es X.env:=by rfl) (m5:(backTo pos (starEach es X.env)).any (·.1)=false:=by rfl):PE X (.Call (.Name x p) (e::es) [] pos) (Zy r t):=by
 exists 13;refine wpAny_Call_Name_kw (lO I hg hm hv ?_ hn Hv);exact ck (gb (ha pos pins s σ H _ I h) λus s1 ⟨vs,H1,I1,r1,q1⟩=>hc pins s1 σ H1 vs us Q I1 r1 q1) he m5
end
end L2
namespace HT
open PySem PyProof.Rows
section
open PySem.SeqAt
open PySem.AutoSeq1 (wpAny_loadPart')
open PySem.MeetsSeq PySem.MeetsSeq2 PySem.MeetsSeq3
end
section
variable{prog:Program}{w:World}{A:Around}{E:Value->Shared->Prop}{s:Shared}
def DE(n d:Nat):Option Int->Nat
 |none=>d
 |some v=>if v<0 then(v +(n:Int)).toNat else min v.toNat n
def GD(n d:Nat):DE n d none=d:=rfl
def sD(n d k:Nat):DE n d (some (k:Int))=min k n:=by
 show(if(k:Int)<0 then((k:Int)+(n:Int)).toNat else min (k:Int).toNat n)=min k n;rw[if_neg (by omega),bb]
end
end HT
namespace L2
open PySem PySem.Spec PyProof.Rows
abbrev TO:=St->Hp->(Option Int->Hp->Prop)->Prop
def PO(X:Cx)(e:Option Expr)(t:TO):Prop:=
 ∀(pins:List (Addr×Obj)) (s:Shared) (σ:St) (H:Hp) (Q:Option Int->Hp->Prop),Inv X pins σ H s->t σ H Q->
  wpAny (model X.prog X.w) X.A (evalPart e X.env) (λu s'=> ∃o H',Inv X pins σ H' s'/\IsPart u o/\Q o H') X.xe s
def QG:TO:=λ_ H Q=>Q none H
def Wy(t:TE):TO:=λσ H Q=>t σ H λx H1=> ∃i,x= .int i/\Q (some i) H1
section
variable{X:Cx}{e:Expr}{te:TE}{lo hi:Option Expr}{tl th:TO}{pos p2:Pos}
def iV:PO X none QG:=by
 exists 13;rw[evalPart_none];exact wpAny_pure ⟨none,H,I,.none,h⟩
def dr(h:PE X e te):PO X (some e) (Wy te):=by
 intro pins s σ H Q I hw;rw[evalPart_some];refine gb (h pins s σ H _ I hw) λu s1 ⟨x,H1,I1,r1,q1⟩=> ?_;obtain⟨i,rfl,q⟩:=q1;obtain⟨t,rfl⟩:=r1;exact⟨some i,H1,I1,.int i t,q⟩
def SlR(X:Cx)(r:V->Option Int->Option Int->Hp->VK->Prop):Prop:=
 ∀(pins:List (Addr×Obj)) (s:Shared) (σ:St) (H:Hp) (x:V) (v vl vu:Value) (lo hi:Option Int) (sl:Addr) (Q:VK),Inv X pins σ H s->RelV x v->s.heap.IsSliceOf sl vl vu .none->IsPart vl lo->IsPart vu hi->r x lo hi H Q->
  ∃T id,typeLookup (.type T) "__getitem__"=pure (some (.builtin id))/\s.TypeIs v T/\wpAny (model X.prog X.w) X.A (getItem v (.ref sl)) (EP X pins σ Q) X.xe s
def tSl(r:V->Option Int->Option Int->Hp->VK->Prop)(te:TE)(tl th:TO):TE:=λσ H Q=>te σ H λx H1=>tl σ H1 λl H2=>th σ H2 λu H3=>r x l u H3 Q
def Oa{r:V->Option Int->Option Int->Hp->VK->Prop}(hr:SlR X r)(he:PE X e te)(hl:PO X lo tl)(hu:PO X hi th):PE X (.Subscript e (.Slice lo hi none p2) pos) (tSl r te tl th):=by
 exists 13;refine Subscript_ (gb (he pins s σ H _ I h) λv s1 ⟨x,H1,I1,r1,q1⟩=> ?_);refine wpAny_Slice (gb (hl pins s1 σ H1 _ I1 q1) λvl s2 ⟨l,H2,I2,pl,q2⟩=>gb (hu pins s2 σ H2 _ I2 q2) λvu s3 ⟨u,H3,I3,pu,q3⟩=> ?_);rw[evalPart_none];refine wpAny_pure ?_;have I4:Inv X pins σ H3 {s3 with heap:=s3.heap.push {cls:= .type "slice",data:= .fields #[vl,vu,.none]}}:=I3.kept (t':=s3.toks) λb ob q=>Heap.get?_push_of_some _ q;obtain⟨T,id,hT,ht,hg⟩:=hr pins {s3 with heap:=s3.heap.push {cls:= .type "slice",data:= .fields #[vl,vu,.none]}} σ H3 x v vl vu l u s3.heap.objs.size Q I4 r1 (Heap.IsSliceOf.new ..) pl pu q3;show wpAny (model X.prog X.w) X.A (subscriptTail e (.Slice lo hi none p2) v (.ref s3.heap.objs.size)) (EP X pins σ Q) X.xe {s3 with heap:=s3.heap.push {cls:= .type "slice",data:= .fields #[vl,vu,.none]}};exact tail_any (ops:=[.ref s3.heap.objs.size,v]) ht hT hg (by with_unfolding_all rfl)
def iw(xs:List V)(lo hi:Option Int):List V:=(xs.drop (HT.DE xs.length 0 lo)).take (HT.DE xs.length xs.length hi - HT.DE xs.length 0 lo)
def HX(xs:List V)(lo hi:Option Int):(iw xs lo hi).length<=xs.length:=by
 unfold iw;rw[bo,bT];omega
end
end L2
namespace L2
open PySem PySem.Spec PyProof.Rows
def KY(n:Nat)(i:Int):Option Nat:=if 0<=i then(if i<n then some i.toNat else none) else if -(n:Int)<=i then some (i + n).toNat else none
def xH{α:Type}(xs:List α)(i:Int):Option α:=(KY xs.length i).bind λj=>xs[j]?
def KW{n:Nat}{i:Int}{j:Nat}(h:KY n i=some j):seqIndex? i n=some j/\j<n/\ -(n:Int)<=i/\i<n:=by
 unfold KY at h;by_cases h0:0<=i
 ·rw[if_pos h0] at h;by_cases h1:i<n
  ·rw[if_pos h1] at h;have e:i.toNat=j:=ao h;exact⟨by rw[seqIndex_of h0 h1,e],by omega,by omega,h1⟩
  ·rw[if_neg h1] at h;cases h
 ·rw[if_neg h0] at h;by_cases h1: -(n:Int)<=i
  ·rw[if_pos h1] at h;have e:(i + n).toNat=j:=ao h;exact⟨by rw[seqIndex_neg (by omega) h1,e],by omega,h1,by omega⟩
  ·rw[if_neg h1] at h;cases h
def Lf{α:Type}{xs:List α}{i:Int}{v:α}(h:xH xs i=some v): ∃j,seqIndex? i xs.length=some j/\xs[j]? =some v/\j<xs.length/\ -(xs.length:Int)<=i/\i<xs.length:=by
 unfold xH at h;cases e:KY xs.length i with
 |none=>rw[e] at h;cases h
 |some j=>
  rw[e] at h;obtain⟨h1,h2,h3,h4⟩:=KW e;exact⟨j,h1,h,h2,h3,h4⟩
def c8{α:Type}{xs:List α}{j:Nat}{v:α}(h:xs[j]? =some v):xH xs (j:Int)=some v:=by
 have hj:j<xs.length:=(aD.mp h).1;have e:KY xs.length (j:Int)=some j:=by
  unfold KY;rw[if_pos (by omega),if_pos (by omega)];simp
 unfold xH;rw[e];exact h
def PH{α:Type}(xs:List α)(v:α):xH (xs++[v]) (-1)=some v:=by
 have hl:(xs++[v]).length=xs.length + 1:=by simp
 have e:KY (xs++[v]).length (-1)=some xs.length:=by
  unfold KY;rw[hl,if_neg (by decide),if_pos (by omega)];congr 1;omega
 unfold xH;rw[e];show(xs++[v])[xs.length]? =some v;simp
def FR(b:Expr):Prop:= ∀o i,subscripted b false o i=operate [o,i] (getItem o i)
def IxR(X:Cx)(r:R2):Prop:=
 ∀(value slice:Expr) (pins:List (Addr×Obj)) (s:Shared) (σ:St) (H:Hp) (x y:V) (v u:Value) (Q:VK),Inv X pins σ H s->RelV x v->RelV y u->r x y H Q->
  subscripted slice false v u=operate [v,u] (getItem v u)->wpAny (model X.prog X.w) X.A (subscriptTail value slice v u) (EP X pins σ Q) X.xe s
def MtR(X:Cx)(id:String)(r:V->List V->Hp->VK->Prop):Prop:=
 ∀(pins:List (Addr×Obj)) (s:Shared) (σ:St) (H:Hp) (x:V) (xs:List V) (v:Value) (us:List Value) (Q:VK),Inv X pins σ H s->RelV x v->Vals xs us->r x xs H Q->
  wpAny (model X.prog X.w) X.A (call (.builtin id) (v::us)) (EP X pins σ Q) X.xe s
section
variable{X:Cx}{a b:Expr}{ta tb:TE}{pos:Pos}
def SI{r:R2}(hr:IxR X r)(ha:PE X a ta)(hb:PE X b tb)(hs:FR b):PE X (.Subscript a b pos) (Su r ta tb):=by
 exists 13;exact Subscript_ (Vu ha hb I h λv u s2 x y H2 I2 rx ry q=>hr a b pins s2 σ H2 x y v u Q I2 rx ry q (hs _ _))
inductive RxL(K:ab)(x y:V)(H:Hp)(Q:VK):Prop
 |mk (p:Addr) (xs:List V) (i:Int) (v:V) (a:x= .ref p) (b:y= .int i) (c:bw K H p xs) (d:xH xs i=some v) (q:Q v H):RxL K x y H Q
def WW(K:ab):R2:=λx y H Q=>RxL K x y H Q
inductive RxT(K:ab)(x y:V)(H:Hp)(Q:VK):Prop
 |mk (p:Addr) (xs:List V) (i:Int) (v:V) (a:x= .ref p) (b:y= .int i) (c:gU K H p xs) (d:xH xs i=some v) (q:Q v H):RxT K x y H Q
def WV(K:ab):R2:=λx y H Q=>RxT K x y H Q
def Rx:IxR X (WW X.K):=by
 intro value slice pins s σ H x y v u Q I rx ry h hs;obtain⟨p,xs,i,z,rfl,rfl,hq,he,q⟩:=h;cases rx;obtain⟨t,rfl⟩:=ry;obtain⟨its,r,pl,hz⟩:=I.list hq;obtain⟨j,h1,h2,h3,h4,h5⟩:=Lf he;obtain⟨w,ew,GG⟩:=r.get h2;have hl:=r.length;have hn:=E1;have fin:EP X pins σ Q w s:=⟨z,H,I,GG,q⟩;by_cases h0:0<=i
 ·have hj:i.toNat=j:=by
   rw[seqIndex_of h0 h5] at h1;exact ao h1
  exact item_listR pl.isList h0 (by omega) (by rw[hj];simpa using ew) fin hs
 ·have hj:(i +(its.toArray.size:Int)).toNat=j:=by
   rw[seqIndex_neg (by omega) h4] at h1;rw[bz,<-hl];exact ao h1
  exact subscriptTail_builtinR (x:=w) pl.isList.typeIs slot_list_getitem.lookup
   (wpAny_getItem_list_neg (Q:=λr s'=>r=w/\EP X pins σ Q r s') pl.isList (by omega) (by rw[bz] <;> omega) (by omega) (by rw[hj];simpa using ew) ⟨rfl,fin⟩) hs
def UN:IxR X (WV X.K):=by
 intro value slice pins s σ H x y v u Q I rx ry h hs;obtain⟨p,xs,i,z,rfl,rfl,hq,he,q⟩:=h;cases rx;obtain⟨t,rfl⟩:=ry;obtain⟨its,r,pl,hz⟩:=I.tuple hq;obtain⟨j,h1,h2,h3,h4,h5⟩:=Lf he;obtain⟨w,ew,GG⟩:=r.get h2;have hl:=r.length;have hn:=E1;have fin:EP X pins σ Q w s:=⟨z,H,I,GG,q⟩;exact subscriptTail_builtinR (x:=w) pl.typeIs slot_tuple_getitem.lookup
  (getItem_tuple (j:=j) (Q:=λr s'=>r=w/\EP X pins σ Q r s') pl (by omega) (by omega) (by rw[bz,<-hl];exact h1) (by simpa using ew) ⟨rfl,fin⟩) hs
def Jy(its:List Value)(n j:Nat)(u:Value):Obj.mapSeq (·.setIfInBounds j u) {cls:= .type "list",data:= .seq its.toArray n}={cls:= .type "list",data:= .seq (its.set j u).toArray n}:=by
 simp[Obj.mapSeq]
theorem Inv.lst{pins:List (Addr×Obj)}{σ:St}{H:Hp}{s:Shared}{p:Addr}{xs:List V}(I:Inv X pins σ H s)(h:H p=some (.lst xs)):
  ∃(its:List Value) (n:Nat),Vals xs its/\s.heap.get? p=some {cls:= .type "list",data:= .seq its.toArray n}/\xs.length<=sizeLine:=by
 obtain⟨z,its,n,r,e⟩:=I.eC p _ h;exact⟨its,n,r,e,z⟩
def Inv.UH{pins:List (Addr×Obj)}{σ:St}{H:Hp}{s:Shared}{p:Addr}{xs ys:List V}{its wc:List Value}{n n':Nat}{f:Obj->Obj}(I:Inv X pins σ H s)(h:H p=some (.lst xs))
  (ho:s.heap.get? p=some {cls:= .type "list",data:= .seq its.toArray n}) (hf:f {cls:= .type "list",data:= .seq its.toArray n}={cls:= .type "list",data:= .seq wc.toArray n'}) (r:Vals ys wc) (hz:ys.length<=sizeLine) (t:Nat):
  Inv X pins σ (upd H p (.lst ys)) {s with heap:=s.heap.update p f,toks:=t}:=by
 have e:(s.heap.update p f).get? p=some {cls:= .type "list",data:= .seq wc.toArray n'}:=by
  rw[Heap.get?_update_self f ho (by rw[hf] <;> rfl),hf]
 refine I.write (x:=p) (e:=p) (by rw[h];trivial) (.inl rfl) (λb u hb q=>(Heap.get?_update_other _ _ (bG hb)).trans q) ⟨_,e⟩ ?_;exact⟨hz,wc,n',r,e⟩
def WU:V->V->V->Hp->(Hp->Prop)->Prop:=λo i v H Q=> ∃p xs k j,o= .ref p/\i= .int k/\H p=some (.lst xs)/\KY xs.length k=some j/\Q (upd H p (.lst (xs.set j v)))
def set_list:Yw X WU:=by
 intro pins s σ H o i v ov iv u Q I ro ri rv h;obtain⟨p,xs,k,j,rfl,rfl,hp,hj,q⟩:=h;cases ro;obtain⟨t,rfl⟩:=ri;obtain⟨its,n,r,ho,hz⟩:=I.lst hp;obtain⟨h1,h2,h3,h4⟩:=KW hj;have hl:=r.length;have hn:=E1;have I':Inv X pins σ (upd H p (.lst (xs.set j v))) {s with heap:=s.heap.update p (Obj.mapSeq (·.setIfInBounds j u))}:=
  I.UH hp ho (Jy its n j u) (r.set rv j) (by rw[dO];exact hz) s.toks
 by_cases h0:0<=k
 ·have hk:k.toNat=j:=by
   rw[seqIndex_of h0 h4] at h1;exact ao h1
  exact PySem.W.ki_setAt ho h0 (by omega) (by rw[bz,<-hl];exact h4) (by rw[hk];exact⟨_,I',q⟩)
 ·have hk:(k +(its.toArray.size:Int)).toNat=j:=by
   rw[seqIndex_neg (by omega) h3] at h1;rw[bz,<-hl];exact ao h1
  exact PySem.W.ki_setBack ho (by omega) (by rw[bz,<-hl];exact h3) (by omega) (by rw[hk];exact⟨_,I',q⟩)
def EF(lo hi:Option Int)(n:Nat):(sliceBounds lo hi none n).1=((HT.DE n 0 lo:Nat):Int)/\(sliceBounds lo hi none n).2.1=((HT.DE n n hi:Nat):Int)/\(sliceBounds lo hi none n).2.2=1:=by
 refine⟨?_,?_,rfl⟩
 ·cases lo with
  |none=>simp[sliceBounds,HT.DE]
  |some i=>
   simp only[sliceBounds,HT.DE,P0,show(1:Int)> 0 by decide,if_true];by_cases h:i<0
   ·simp only[h,if_true] <;> omega
   ·simp only[h,if_false] <;> omega
 ·cases hi with
  |none=>simp[sliceBounds,HT.DE]
  |some i=>
   simp only[sliceBounds,HT.DE,P0,show(1:Int)> 0 by decide,if_true];by_cases h:i<0
   ·simp only[h,if_true] <;> omega
   ·simp only[h,if_false] <;> omega
def Ci(its:List Value)(lo hi:Option Int):slicePick its.toArray lo hi none=((its.drop (HT.DE its.length 0 lo)).take (HT.DE its.length its.length hi - HT.DE its.length 0 lo)).toArray:=by
 obtain⟨h1,h2,h3⟩:=EF lo hi its.toArray.size;unfold slicePick;rw[h1,h2,h3];simp only[sliceRange_one,pick_run,bz] <;> rfl
def WT(K:ab):V->Option Int->Option Int->Hp->VK->Prop:=λx lo hi H Q=> ∃a xs,x= .ref a/\bw K H a xs/\ ∀p,H p=none->Q (.ref p) (upd H p (.lst (iw xs lo hi)))
def QJ:SlR X (WT X.K):=by
 intro pins s σ H x v vl vu lo hi sl Q I rx hs pl pu h;obtain⟨a,xs,rfl,hx,q⟩:=h;cases rx;obtain⟨its,r,ht,hz⟩:=I.list hx;have hlen:=r.length;refine⟨"list",_,slot_list_getitem.lookup,ht.isList.typeIs,?_⟩;refine wpAny_getItem_list_slice ht.isList hs pl pu .none (by simp) ?_ (by rw[bz] <;> omega);rw[Ci,<-hlen];refine⟨.ref s.heap.objs.size,_,I.laid (t':=s.toks) (o:= .lst (iw xs lo hi)) (λb ob q=>Heap.get?_push_of_some _ q) (aE _) ?_,rfl,q _ (I.eC.fresh (aE _))⟩;exact⟨cH (HX xs lo hi) hz,_,0,(r.drop (HT.DE xs.length 0 lo)).take (HT.DE xs.length xs.length hi - HT.DE xs.length 0 lo),Heap.get?_push_size _ rfl⟩
def wt:V->Bool
 | .fC=>true
 | .bl _=>true
 | .int _=>true
 | .str _=>true
 |_=>false
def Tn:V->V->Bool
 | .fC,.fC=>true
 | .bl a,.bl b=>a==b
 | .bl a,.int b=>(if a then 1 else 0)==b
 | .int a,.bl b=>a==(if b then 1 else 0)
 | .int a,.int b=>a==b
 | .str a,.str b=>a==b
 |_,_=>false
def Vi{A:Around}{s:Shared}{y x:V}{u v:Value}(ry:RelV y u)(rx:RelV x v)(fy:wt y=true)(fx:wt x=true):SeqAt.EqAt A s u v (Tn y x):=by
 cases y with
 |fC=>
  cases ry;cases x with
  |fC=>cases rx;exact SeqAt.EqAt.same _
  |bl b=>cases rx;exact SeqAt.EqAt.none_bool b
  |int b=>obtain⟨t,rfl⟩:=rx;exact SeqAt.EqAt.none_int b t
  |str b=>obtain⟨t,rfl⟩:=rx;exact SeqAt.EqAt.none_str b t
  |_=>exact absurd (show false=true from fx) bg
 |bl a=>
  cases ry;cases x with
  |fC=>cases rx;exact SeqAt.EqAt.bool_none a
  |bl b=>cases rx;exact SeqAt.EqAt.bool_bool a b
  |int b=>obtain⟨t,rfl⟩:=rx;exact SeqAt.EqAt.bool_int a b t
  |str b=>obtain⟨t,rfl⟩:=rx;exact SeqAt.EqAt.bool_str a b t
  |_=>exact absurd (show false=true from fx) bg
 |int a=>
  obtain⟨t',rfl⟩:=ry;cases x with
  |fC=>cases rx;exact SeqAt.EqAt.int_none a t'
  |bl b=>cases rx;exact SeqAt.EqAt.int_bool a t' b
  |int b=>obtain⟨t,rfl⟩:=rx;exact SeqAt.EqAt.int_int a t' b t
  |str b=>obtain⟨t,rfl⟩:=rx;exact SeqAt.EqAt.int_str a t' b t
  |_=>exact absurd (show false=true from fx) bg
 |str a=>
  obtain⟨t',rfl⟩:=ry;cases x with
  |fC=>cases rx;exact SeqAt.EqAt.str_none a t'
  |bl b=>cases rx;exact SeqAt.EqAt.str_bool a t' b
  |int b=>obtain⟨t,rfl⟩:=rx;exact SeqAt.EqAt.str_int a t' b t
  |str b=>obtain⟨t,rfl⟩:=rx;exact SeqAt.EqAt.str_str a t' b t
  |_=>exact absurd (show false=true from fx) bg
 |_=>exact absurd (show false=true from fy) bg
def RX(x:V)(u:Value):Bool:=match u with
 | .none=>Tn .fC x
 | .bool b=>Tn (.bl b) x
 | .int i _=>Tn (.int i) x
 | .str z _=>Tn (.str z) x
 |_=>false
def Pk{x y:V}{u:Value}(r:RelV y u)(f:wt y=true):RX x u=Tn y x:=by
 cases y with
 |fC=>cases r;rfl
 |bl b=>cases r;rfl
 |int i=>obtain⟨t,rfl⟩:=r;rfl
 |str z=>obtain⟨t,rfl⟩:=r;rfl
 |_=>exact absurd (show false=true from f) bg
theorem FQ{x:V}: ∀{xs:List V} {us:List Value},Vals xs us->xs.all wt=true->us.any (RX x)=xs.any λy=>Tn y x
 |_,_,.nil,_=>rfl
 |y::xs,u::us,.cons r t,f=>by
  rw[pU,cq] at f;rw[pS,pS,Pk r f.1,FQ t f.2]
theorem Bk{A:Around}{s:Shared}{x:V}{v:Value}(rx:RelV x v)(fx:wt x=true): ∀{xs:List V} {us:List Value},Vals xs us->xs.all wt=true-> ∀u∈us,SeqAt.EqAt A s u v (RX x u)
 |_,_,.nil,_=>λu hu=>by cases hu
 |y::xs,u::us,.cons r t,f=>λu' hu=>by
  rw[pU,cq] at f;rcases aA.mp hu with rfl|hu
  ·rw[Pk r f.1];exact Vi r rx f.1 fx
  ·exact Bk rx fx t f.2 u' hu
def YW(x:V)(xs:List V):Bool:=xs.any λy=>Tn y x
def rIn(K:ab)(neg:Bool):R2:=λx y H Q=> ∃p xs,y= .ref p/\(bw K H p xs\/gU K H p xs)/\wt x=true/\xs.all wt=true/\Q (.bl (if neg then !YW x xs else YW x xs)) H
def DQ:xJ X (compareOp .In) (rIn X.K false):=by
 intro pins s σ H x y v u Q I rx ry h;obtain⟨p,xs,rfl,hq,fx,fs,q⟩:=h;cases ry;rcases hq with hq|hq
 ·obtain⟨its,r,pl,hz⟩:=I.list hq;refine SeqAt.in_listAt (RX x) pl.isList (λw hw=>Bk rx fx r fs w (by simpa using hw)) ⟨.bl _,H,I,rfl,?_⟩;rw[show its.toArray.any (RX x)=its.any (RX x) by simp,FQ r fs];exact q
 ·obtain⟨its,r,pl,hz⟩:=I.tuple hq;refine SeqAt.in_tupleAt (RX x) pl (λw hw=>Bk rx fx r fs w (by simpa using hw)) ⟨.bl _,H,I,rfl,?_⟩;rw[show its.toArray.any (RX x)=its.any (RX x) by simp,FQ r fs];exact q
def FJ:qw X (.builtin "len") (λxs H Q=> ∃p ys,xs=[.ref p]/\(bw X.K H p ys\/gU X.K H p ys)/\Q (.int ys.length) H):=by
 intro pins s σ H xs us Q I r h;obtain⟨p,ys,rfl,hq,q⟩:=h;obtain⟨u,rfl,rx⟩:=vals1 r;cases rx;have hn:=E1;rcases hq with hq|hq
 ·obtain⟨its,r',pl,hz⟩:=I.list hq;have hlen:=r'.length;exact Calls.call_len_list pl.isList (by simp only[bz] <;> omega) ⟨.int ys.length,H,I.tok _,⟨s.toks + 1,by rw[bz,hlen]⟩,q⟩
 ·obtain⟨its,r',pl,hz⟩:=I.tuple hq;have hlen:=r'.length;exact len_tuple pl (by simp only[bz] <;> omega) ⟨.int ys.length,H,I.tok _,⟨s.toks + 1,by rw[bz,hlen]⟩,q⟩
def FI:qw X (.type "list") (λxs H Q=> ∃p ys,xs=[.ref p]/\(bw X.K H p ys\/gU X.K H p ys)/\ ∀l,H l=none->Q (.ref l) (upd H l (.lst ys))):=by
 intro pins s σ H xs us Q I r h;obtain⟨p,ys,rfl,hq,q⟩:=h;obtain⟨u,rfl,rx⟩:=vals1 r;cases rx;have fin: ∀(its:List Value),Vals ys its->ys.length<=sizeLine-> ∀(h':Heap) (c':Nat),(∀b o',s.heap.get? b=some o'->h'.get? b=some o')->
   h'.get? s.heap.objs.size=some {cls:= .type "list",dict:=none,data:= .seq its.toArray c',slots:= #[]}->EP X pins σ Q (.ref s.heap.objs.size) {s with heap:=h'}:=λits r' hz h' c' kp e=>
  ⟨.ref s.heap.objs.size,_,I.laid (t':=s.toks) kp (aE _) (show gJ X.prog X.w _ h' _ (.lst ys) from⟨hz,its,c',r',e⟩),rfl,q _ (I.eC.fresh (aE _))⟩
 rcases hq with hq|hq
 ·obtain⟨its,r',pl,hz⟩:=I.list hq;have hlen:=r'.length;obtain⟨o,ho,hc,n,hd⟩:=pl.isList;exact call_list_seq p (.inl rfl) ho hc hd (λh' c' kp e=>fin its r' hz h' c' kp e) (by simp only[bz] <;> omega)
 ·obtain⟨its,r',pl,hz⟩:=I.tuple hq;have hlen:=r'.length;obtain⟨o,ho,hc,n,hd⟩:=pl;exact call_list_seq p (.inr rfl) ho hc hd (λh' c' kp e=>fin its r' hz h' c' kp e) (by simp only[bz] <;> omega)
def tyV(K:ab)(T:String)(x:V)(H:Hp):Prop:=match x with
 | .str _=>T="str"
 | .int _=>T="int"
 | .ref p=>(T="list"/\ ∃xs,bw K H p xs)\/(T="tuple"/\ ∃o,K.lookup p=some o/\o.cls= .type "tuple"/\o.dict=none)\/
   (T="dict"/\((∃bE,H p=some (.dK bE))\/ ∃bE,H p=some (.dT bE)))\/(T="set"/\ ∃S n,H p=some (.set S n))
 |_=>False
def Ua{pins:List (Addr×Obj)}{σ:St}{H:Hp}{s:Shared}{T:String}{x:V}{v:Value}(I:Inv X pins σ H s)(r:RelV x v)(ty:tyV X.K T x H):
  s.TypeIs v T/\ ∀a,v= .ref a-> ∃ob,s.heap.get? a=some ob/\ob.dict=none:=by
 cases x with
 |str z=>
  obtain⟨t,rfl⟩:=r;cases(show T="str" from ty);exact⟨typeIs_str s z t,λ_ e=>nomatch e⟩
 |int i=>
  obtain⟨t,rfl⟩:=r;cases(show T="int" from ty);exact⟨typeIs_int s i t,λ_ e=>nomatch e⟩
 |ref p=>
  cases r;rcases ty with⟨rfl,xs,hq⟩|⟨rfl,o,hk,hc,hd⟩|⟨rfl,hk⟩|⟨rfl,S,n,hk⟩
  ·obtain⟨its,_,pl,_⟩:=I.list hq;refine⟨pl.isList.typeIs,λa e=> ?_⟩;cases e;obtain⟨o,n,e,c,hd,_⟩:=pl;exact⟨o,e,hd⟩
  ·refine⟨⟨o,I.Hq p o hk,hc⟩,λa e=> ?_⟩;cases e;exact⟨o,I.Hq _ o hk,hd⟩
  ·have z: ∃o,s.heap.get? p=some o/\o.ExactDict:=by
    rcases hk with⟨bE,hk⟩|⟨bE,hk⟩
    ·obtain⟨_,_,_,_,o,_,_,e,ex,_⟩:=I.eC p _ hk;exact⟨o,e,ex⟩
    ·obtain⟨_,_,_,_,o,_,_,e,ex,_⟩:=I.eC p _ hk;exact⟨o,e,ex⟩
   obtain⟨o,e,ex⟩:=z;refine⟨⟨o,e,ex.1⟩,λa e2=> ?_⟩;cases e2;exact⟨o,e,ex.2.1⟩
  ·obtain⟨o,_,_,_,e,ex,_⟩:=I.eC p _ hk;refine⟨⟨o,e,ex.1⟩,λa e2=> ?_⟩;cases e2;exact⟨o,e,ex.2.1⟩
 |_=>exact d5 ty
def tBM(K:ab)(T:String)(r:V->List V->Hp->VK->Prop)(to:TE)(t:TA):TE:=λσ H Q=>to σ H λx H1=>tyV K T x H1/\t σ H1 λxs H2=>r x xs H2 Q
variable{o e:Expr}{es:List Expr}{to:TE}{t:TA}{name:Str}{apos qD:Pos}{T id:String}{r:V->List V->Hp->VK->Prop}
def kP(pa:PlainAttrs T)(slot:Slot T name id)(Y2:typeOf (.builtin id)=pure (.type "method_descriptor"))(hm:MtR X id r)(ho:PE X o to)(ha:PA X (e::es) t)
  (XQ:attributeBase o name X.env (eval o X.env)=eval o X.env:=by rfl)
  (aaY:((backTo qD (starEach (e::es) X.env)).all (λx=> !x.1)&&(backToKw qD (keywordEach [] X.env)).all (λx=>x.1.isSome)
   &&decide ((e::es).length +([]:List Keyword).length +(if([]:List Keyword).isEmpty then 0 else 1)<30))=true:=by rfl)
  (XB:(apos.endLine==qD.line)=true:=by rfl) (hs:starEach (e::es) X.env=(false,eval e X.env)::starEach es X.env:=by rfl) (U0:(backTo qD (starEach es X.env)).any (·.1)=false:=by rfl):
  PE X (.Call (.Attribute o name apos) (e::es) [] qD) (tBM X.K T r to t):=by
 exists 13;refine wpAny_Call_method_late XQ aaY XB rfl (gb (ho pins s σ H _ I h) λv s1 ⟨x,H1,I1,r1,ty,q1⟩=> ?_);obtain⟨h1,h2⟩:=Ua I1 r1 ty;refine⟨T,id,pa,slot,Y2,h1,h2,?_⟩;have hA:=ha qD pins s1 σ H1 _ I1 q1;rw[hs] at hA ⊢;refine Calls.callWith_builtin (by show(false||(backTo qD (starEach es X.env)).any (·.1))=false;rw[U0] <;> rfl) (Calls.evalArgs_plain ?_);exact gb hA λus s2 ⟨vs,H2,I2,r2,q2⟩=>hm pins s2 σ H2 x vs v us Q I2 r1 r2 q2
end
end L2
namespace L2
open PySem PySem.Spec PyProof.Rows
def MtM(X:Cx)(id:String)(r:V->List V->Hp->VK->Prop):Prop:=
 ∀(pins:List (Addr×Obj)) (s:Shared) (σ:St) (H:Hp) (x:V) (xs:List V) (v:Value) (us:List Value) (Q:VK),Inv X pins σ H s->RelV x v->Vals xs us->r x xs H Q->
  wpAny (model X.prog X.w) X.A (call (.builtin id) (v::us)) (EP X pins σ Q) X.xe s
theorem Vals.one: ∀{x:V} {us:List Value},Vals [x] us-> ∃u,us=[u]/\RelV x u
 |_,_,.cons r .nil=>⟨_,rfl,r⟩
theorem Vals.rep{xs:List V}{us:List Value}(h:Vals xs us): ∀k:Nat,Vals (bC k xs).flatten (bC k us).flatten
 |0=> .nil
 |k + 1=>by
  rw[d8,d8,lh,lh];exact Vals.append h (Vals.rep h k)
theorem foldl_rep(its:List Value): ∀(k:Nat) (acc:List Value),
  P5 (λx1 x2=>x1++x2) acc.toArray (bC k its.toArray)=(acc++(bC k its).flatten).toArray
 |0,acc=>by simp
 |k + 1,acc=>by
  have e:acc.toArray++its.toArray=(acc++its).toArray:=by simp
  have e2:(acc++its)++(bC k its).flatten=acc++(bC (k + 1) its).flatten:=by
   rw[d8,lh,gc]
  rw[<-e2,<-foldl_rep its k (acc++its),<-e,d8,km]
section
variable{X:Cx}{pins:List (Addr×Obj)}{σ:St}{H:Hp}{s:Shared}{l b:Addr}{xs ys zs:List V}
def Inv.Xa{its wc:List Value}{n:Nat}{f:Array Value->Array Value}{t':Nat}(I:Inv X pins σ H s)(hH:H l=some (.lst xs))
  (e:s.heap.get? l=some {cls:= .type "list",data:= .seq its.toArray n}) (hf:f its.toArray=wc.toArray) (hv:Vals ys wc) (hz:ys.length<=sizeLine):
  Inv X pins σ (upd H l (.lst ys)) {s with heap:=s.heap.update l (Obj.mapSeq f),toks:=t'}:=by
 have q:=PySem.IsL.update e f;rw[hf] at q;refine I.write (x:=l) (e:=l) (by rw[hH];exact trivial) (.inl rfl) (λb' u hb hu=>(Heap.get?_update_other s.heap (Obj.mapSeq f) (bG hb)).trans hu) ⟨_,q⟩ ?_;exact⟨hz,wc,_,hv,q⟩
def Inv.Xb{its:List Value}{t':Nat}(I:Inv X pins σ H s)(hv:Vals ys its)(hz:ys.length<=sizeLine):
  Inv X pins σ (upd H s.heap.objs.size (.lst ys)) {s with heap:=s.heap.push {cls:= .type "list",data:= .seq its.toArray},toks:=t'}:=
 I.laid (λ_ _ q=>Heap.get?_push_of_some _ q) (aE _) ⟨hz,its,0,hv,Heap.get?_push_size _ rfl⟩
theorem Inv.fresh(I:Inv X pins σ H s):H s.heap.objs.size=none:=I.eC.fresh (aE _)
def Inv.L0(I:Inv X pins σ H s)(hH:H l=some (.lst xs)):xs.length<=sizeLine/\ ∃(its:List Value) (n:Nat),Vals xs its/\xs.length=its.length/\s.heap.get? l=some {cls:= .type "list",data:= .seq its.toArray n}:=by
 obtain⟨z,its,n,r,e⟩:=I.eC l _ hH;exact⟨z,its,n,r,r.length,e⟩
def G8{n:Nat}(h:n<=sizeLine):Builtin.List.listTooLong n=false:=by
 unfold Builtin.List.listTooLong;exact decide_eq_false (by omega)
end
section
variable{X:Cx}
inductive Kv(x:V)(vs:List V)(H:Hp)(Q:VK):Prop
 |mk (l:Addr) (xs:List V) (y:V) (a:x= .ref l) (b:vs=[y]) (c:H l=some (.lst xs)) (d:xs.length<sizeLine) (q:Q .fC (upd H l (.lst (xs++[y])))):Kv x vs H Q
def iR:MtM X "list.append" Kv:=by
 intro pins s σ H x vs v us Q I rx rv h;obtain⟨l,xs,y,rfl,rfl,hH,hz,q⟩:=h;cases rx;obtain⟨u,rfl,ru⟩:=rv.one;obtain⟨z,its,n,r,hl,e⟩:=I.L0 hH;refine call_meets F.slot_list_append ⟨_,e,rfl⟩ F.entry_list_append (F.args_list_append_2 _ _) (PySem.list_append l its.toArray n u (by rw[bz];omega)) ⟨e,?_⟩;refine⟨.fC,_,I.Xa (wc:=its++[u]) hH e (by simp) (r.append (.cons ru .nil)) ?_,rfl,q⟩;rw[aP,List.length_singleton];omega
def QS:V->List V->Hp->VK->Prop:=λx vs H Q=> ∃l b xs zs,x= .ref l/\vs=[.ref b]/\H l=some (.lst xs)/\H b=some (.lst zs)/\xs.length + zs.length<=sizeLine/\Q .fC (upd H l (.lst (xs++zs)))
def j0:MtM X "list.extend" QS:=by
 intro pins s σ H x vs v us Q I rx rv h;obtain⟨l,b,xs,zs,rfl,rfl,hH,hB,hz,q⟩:=h;cases rx;obtain⟨u,rfl,ru⟩:=rv.one;cases ru;obtain⟨z,its,n,r,hl,e⟩:=I.L0 hH;obtain⟨z2,Bs,n2,r2,K2,e2⟩:=I.L0 hB;have hsz:its.toArray.size + Bs.toArray.size<=sizeLine:=by rw[bz,bz];omega
 have O1: ¬(!its.toArray.isEmpty&&Builtin.List.listTooLong (its.toArray.size + Bs.toArray.size))=true:=by
  rw[G8 hsz,F5];exact bg
 refine call_meets F.slot_list_extend ⟨_,e,rfl⟩ F.entry_list_extend (F.args_list_extend_2 _ _)
  (AutoSeq1.list_extend_list_list_0 l its.toArray n b Bs.toArray n2 O1 (by rw[bz];omega) (by omega)) ⟨e,e2,?_⟩
 refine⟨.fC,_,I.Xa (wc:=its++Bs) hH e (by simp) (r.append r2) ?_,rfl,q⟩;rw[aP];omega
inductive Uv(x y:V)(H:Hp)(Q:VK):Prop
 |mk (l b:Addr) (xs zs:List V) (e:x= .ref l) (f:y= .ref b) (g:H l=some (.lst xs)) (h:H b=some (.lst zs)) (i:xs.length + zs.length<=sizeLine) (q: ∀p,H p=none->Q (.ref p) (upd H p (.lst (xs++zs)))):Uv x y H Q
def ku:xJ X (binaryOp .Add) Uv:=by
 intro pins s σ H x y v u Q I rx ry h;obtain⟨l,b,xs,zs,rfl,rfl,hH,hB,hz,q⟩:=h;cases rx;cases ry;obtain⟨z,its,n,r,hl,e⟩:=I.L0 hH;obtain⟨z2,Bs,n2,r2,K2,e2⟩:=I.L0 hB;refine PySem.P.add_list e e2 ?_ (by rw[bz,bz];omega);have ea:its.toArray++Bs.toArray=(its++Bs).toArray:=by simp
 rw[ea];exact⟨.ref _,_,I.Xb (t':=s.toks) (r.append r2) (by rw[aP];omega),rfl,q _ I.fresh⟩
def ZO:R2:=λx y H Q=> ∃l k xs,x= .ref l/\y= .int k/\H l=some (.lst xs)/\ -(2^63)<=k/\k<2^63/\xs.length*k.toNat<=sizeLine/\
 ∀p,H p=none->Q (.ref p) (upd H p (.lst (bC k.toNat xs).flatten))
def len_rep{α:Type}(xs:List α)(k:Nat):(bC k xs).flatten.length=k*xs.length:=by
 induction k with
 |zero=>simp
 |succ k ih=>rw[d8,lh,aP,ih,jL,tD]
def ES:xJ X (binaryOp .Mult) ZO:=by
 intro pins s σ H x y v u Q I rx ry h;obtain⟨l,k,xs,rfl,rfl,hH,h1,h2,hz,q⟩:=h;cases rx;obtain⟨t,rfl⟩:=ry;obtain⟨z,its,n,r,hl,e⟩:=I.L0 hH;have hlen:its.toArray.size*k.toNat<=sizeLine:=by rw[bz,<-hl];exact hz
 have aa4: ¬its.toArray.size*k.toNat >(2^63 - 1)/ 8:=by
  have:(sizeLine:Nat)<=(2^63 - 1)/ 8:=by decide
  omega
 have aaX: ¬(!Builtin.List.listFitsIndex k)=true:=by
  rw[fitsIndex_both h1 h2];exact bg
 have O1: ¬Builtin.List.listTooLong (its.toArray.size*k.toNat)=true:=by
  rw[G8 hlen];exact bg
 have aaJ:P5 (λx1 x2=>x1++x2) #[] (bC (if its.toArray.isEmpty=true then 0 else k.toNat) its.toArray)=(bC k.toNat its).flatten.toArray:=by
  have f0: ∀m:Nat,P5 (λx1 x2=>x1++x2) #[] (bC m its.toArray)=(bC m its).flatten.toArray:=λm=>by
   have:=foldl_rep its m [];rw[tI] at this;exact this
  rw[f0];cases its with
  |nil=>simp
  |cons a r'=>rw[if_neg (by simp)]
 refine wpAny_binaryOp_repeat_ref (T:="list") (U:="int") (by decide) ⟨_,e,rfl⟩ (λs'=>typeIs_int s' k t) noFill_list_mul F.fills_int_mul F.slot_int_rmul repeat_list F.slot_int_index.lookup
  (call_meets F.slot_int_rmul (typeIs_int s k t) F.entry_int_rmul (F.args_int_rmul_2 _ _) (int___rmul___int_list k t l its.toArray n)
   ⟨e,rfl,⟨_,e,rfl⟩,call_meets F.slot_list_mul ⟨_,e,rfl⟩ F.entry_list_mul (F.args_list_mul_2 _ _) (AutoListH.list___mul___list_int_3 l its.toArray n k t aaX aa4 O1) ⟨e,?_⟩⟩)
 rw[aaJ];exact⟨.ref _,_,I.Xb (t':=s.toks) (r.rep k.toNat) (by rw[len_rep,cj];exact hz),rfl,q _ I.fresh⟩
end
section
variable{prog:Program}{w:World}{A:Around}{E:Value->Shared->Prop}{s:Shared}
end
section
variable{X:Cx}
end
end L2
namespace L2
open PySem PySem.Spec PyProof.Rows
section
variable{prog:Program}{w:World}{A:Around}{E:Value->Shared->Prop}{s:Shared}{l:Addr}{its:List Value}{ns:List Int}{Q:Value->Shared->Prop}
end
section
variable{X:Cx}
end
section
variable{X:Cx}
end
section
variable{X:Cx}
end
section
variable{X:Cx}
end
mutual
inductive Dp(K:ab)(H:Hp):V->PyData->Prop
 |fC:Dp K H .fC .none
 |bl (b:Bool):Dp K H (.bl b) (.bool b)
 |int (i:Int):Dp K H (.int i) (.int i)
 |str (x:Str):Dp K H (.str x) (.str x)
 |lst {a:Addr} {xs:List V} {ds:List PyData}:bw K H a xs->Eu K H xs ds->Dp K H (.ref a) (.list ds)
 |tup {a:Addr} {xs:List V} {ds:List PyData}:gU K H a xs->Eu K H xs ds->Dp K H (.ref a) (.tuple ds)
inductive Eu(K:ab)(H:Hp):List V->List PyData->Prop
 |nil:Eu K H [] []
 |cons {v:V} {vs:List V} {d:PyData} {ds:List PyData}:Dp K H v d->Eu K H vs ds->Eu K H (v::vs) (d::ds)
end
section
variable{X:Cx}{pins:List (Addr×Obj)}{σ:St}{H:Hp}{s:Shared}
mutual
theorem Dp.reads(I:Inv X pins σ H s): ∀(d:PyData) (v:V) (u:Value),Dp X.K H v d->RelV v u-> ∃as,Reads s.heap u d as
 | .none,_,_,h,r=>by
  cases h;cases r;exact⟨_,Reads.none⟩
 | .bool b,_,_,h,r=>by
  cases h;cases r;exact⟨_,Reads.bool b⟩
 | .int i,_,_,h,r=>by
  cases h;obtain⟨t,rfl⟩:=r;exact⟨_,Reads.int i t⟩
 | .str x,_,_,h,r=>by
  cases h;obtain⟨t,rfl⟩:=r;exact⟨_,Reads.str x t⟩
 | .list ds,_,_,h,r=>by
  cases h with
  |lst hs ha=>
   cases r;obtain⟨its,rv,⟨o,n,ho,hc,_,hd⟩,_⟩:=I.list hs;obtain⟨as,hr⟩:=Dp.readsAll I ds _ its ha rv;exact⟨_,Reads.list ho hc hd hr⟩
 | .tuple ds,_,_,h,r=>by
  cases h with
  |tup hs ha=>
   cases r;obtain⟨its,rv,⟨o,ho,hc,n,hd⟩,_⟩:=I.tuple hs;obtain⟨as,hr⟩:=Dp.readsAll I ds _ its ha rv;exact⟨_,Reads.tuple ho hc hd hr⟩
 | .dict _,_,_,h,_=>by cases h
theorem Dp.readsAll(I:Inv X pins σ H s): ∀(ds:List PyData) (vs:List V) (us:List Value),Eu X.K H vs ds->Vals vs us-> ∃as,ReadsAll s.heap us ds as
 | [],_,_,h,r=>by
  cases h;cases r;exact⟨_,ReadsAll.nil⟩
 |d::ds,_,_,h,r=>by
  cases h with
  |cons h1 h2=>
   cases r with
   |cons r1 r2=>
    obtain⟨as,q1⟩:=Dp.reads I d _ _ h1 r1;obtain⟨bs,q2⟩:=Dp.readsAll I ds _ _ h2 r2;exact⟨_,ReadsAll.cons q1 q2⟩
end
end
section
variable{X:Cx}
def ZP(K:ab):R2:=λx y H Q=> ∃d e,Dp K H x d/\Dp K H y e/\SeqAt.shaped d=true/\SeqAt.shaped e=true/\Q (.bl (!PyData.eqv d e)) H
def UC(hu:X.A.units + 64<cLine):xJ X (compareOp .NotEq) (ZP X.K):=by
 intro pins s σ H x y v u Q I rx ry h;obtain⟨d,e,hd,he,sd,se,q⟩:=h;obtain⟨as,r1⟩:=Dp.reads I d x v hd rx;obtain⟨bs,r2⟩:=Dp.reads I e y u he ry;exact SeqAt.compareNe_shaped r1 r2 sd se hu ⟨.bl _,H,I,rfl,q⟩
end
end L2
namespace L2
open PySem PySem.Spec PyProof.Rows
abbrev PX(h:Heap)(c:Addr)(v:Option Value):Prop:=h.IsCell c v
def ZN(scope sc:Scope):Scope:=
 {scope with names:=scope.names.map λ(n,k)=>if(k== .free&&sc.kind== .function&&sc.names.lookup n==some .cell) then(n,.cell) else(n,k)}
noncomputable def fH(cells:List (Str×Addr)):List (Str×NameKind)->List (Str×Addr)->List (Str×Addr)
 | [],acc=>acc
 |(n,k)::r,acc=>if k== .free then fH cells r ((n,(cells.lookup n).getD 0)::acc) else fH cells r acc
theorem wB(env:Env)(f:Str×NameKind->List (Str×Addr)->Sem (ForInStep (List (Str×Addr))))
  (hf: ∀n k c,f (n,k) c=if k== .free then(do let a<-cellOf env n;pure (.yield ((n,a)::c))) else pure (.yield c)):
  ∀(names:List (Str×NameKind)) (acc:List (Str×Addr)),(∀y∈names,y.2= .free-> ∃c,env.cells.lookup y.1=some c)->forIn names acc f=pure (fH env.cells names acc)
 | [],acc,_=>by rw[k9];rfl
 |(n,k)::r,acc,h=>by
  rw[mZ,hf];have ih:=λacc=>wB env f hf r acc λy hy=>h y (aK _ hy);unfold fH;by_cases hk:(k==NameKind.free)=true
  ·rw[if_pos hk,if_pos hk];obtain⟨c,hc⟩:=h (n,k) aY (by simpa using hk);have e:cellOf env n=pure c:=by unfold cellOf;rw[hc]
   rw[e];have e2:(env.cells.lookup n).getD 0=c:=by rw[hc];rfl
   rw[e2];exact ih _
  ·rw[if_neg hk,if_neg hk];exact ih _
def J5{scope:Scope}{env:Env}(h: ∀y∈scope.names,y.2= .free-> ∃c,env.cells.lookup y.1=some c):closureFor scope env=pure (fH env.cells scope.names []):=by
 simp only[closureFor];rw[wB env _ (λn k c=>rfl) scope.names [] h];rfl
theorem mem_lookup{α:Type}: ∀{l:List (Str×α)} {n:Str} {c:α},(n,c)∈l-> ∃c',l.lookup n=some c'
 |(k,v)::r,n,c,h=>by
  rw[gG];cases hb:n==k with
  |true=>exact⟨_,rfl⟩
  |false=>
   rcases aA.mp h with e|h
   ·cases e;simp at hb
   ·exact mem_lookup h
theorem nO{cells:List (Str×Addr)}: ∀{names:List (Str×NameKind)} {acc:List (Str×Addr)} {n:Str} {c:Addr},(n,c)∈fH cells names acc->(n,c)∈acc\/((n,.free)∈names/\c=(cells.lookup n).getD 0)
 | [],_,_,_,h=> .inl h
 |(m,k)::r,acc,n,c,h=>by
  unfold fH at h;split at h
  ·rename_i hk
   have hk:k= .free:=by simpa using hk
   rcases nO h with h|⟨h1,h2⟩
   ·rcases aA.mp h with e|h
    ·cases e;exact .inr ⟨hk▸aY,rfl⟩
    ·exact .inl h
   ·exact .inr ⟨aK _ h1,h2⟩
  ·rcases nO h with h|⟨h1,h2⟩
   ·exact .inl h
   ·exact .inr ⟨aK _ h1,h2⟩
theorem rO{cells:List (Str×Addr)}: ∀{names:List (Str×NameKind)} {acc:List (Str×Addr)} {p:Str×Addr},p∈acc->p∈fH cells names acc
 | [],_,_,h=>h
 |(m,k)::r,acc,p,h=>by
  unfold fH;split
  ·exact rO (aK _ h)
  ·exact rO h
theorem rN{cells:List (Str×Addr)}: ∀{names:List (Str×NameKind)} {acc:List (Str×Addr)} {n:Str},(n,.free)∈names->(n,(cells.lookup n).getD 0)∈fH cells names acc
 |(m,k)::r,acc,n,h=>by
  unfold fH;rcases aA.mp h with e|h
  ·cases e;exact rO aY
  ·split
   ·exact rN h
   ·exact rN h
theorem oS: ∀{names:List (Str×NameKind)} {h:Heap} {acc:List (Str×Addr)} {x:Str} {c:Addr},(x,c)∈cellsFrom h.objs.size names acc->
  (x,c)∈acc\/((x,.cell)∈names/\h.objs.size<=c/\PX (pushCells h names) c none)
 | [],_,_,_,_,h=> .inl h
 |(n,k)::r,h,acc,x,c,hm=>by
  unfold cellsFrom at hm;unfold pushCells;split at hm
  ·rename_i hk
   rw[if_pos hk];have hk:k= .cell:=by simpa using hk
   rw[<-Heap.size_push h {cls:= .type "cell",data:= .cell none}] at hm;rcases oS hm with hm|⟨h1,h2,h3⟩
   ·rcases aA.mp hm with e|hm
    ·cases e;exact .inr ⟨hk▸aY,aE _,_,pushCells_keeps r _ _ _ (Heap.get?_push_size _ rfl),rfl⟩
    ·exact .inl hm
   ·rw[Heap.size_push] at h2;exact .inr ⟨aK _ h1,pR h2,h3⟩
  ·rename_i hk
   rw[if_neg hk];rcases oS hm with hm|⟨h1,h2,h3⟩
   ·exact .inl hm
   ·exact .inr ⟨aK _ h1,h2,h3⟩
theorem sY: ∀{names:List (Str×NameKind)} {n:Nat} {acc:List (Str×Addr)} {p:Str×Addr},p∈acc->p∈cellsFrom n names acc
 | [],_,_,_,h=>h
 |(m,k)::r,n,acc,p,h=>by
  unfold cellsFrom;split
  ·exact sY (aK _ h)
  ·exact sY h
theorem xE: ∀{names:List (Str×NameKind)} {n:Nat} {acc:List (Str×Addr)} {x:Str},(x,.cell)∈names-> ∃c,(x,c)∈cellsFrom n names acc
 |(m,k)::r,n,acc,x,h=>by
  unfold cellsFrom;rcases aA.mp h with e|h
  ·cases e;exact⟨n,sY aY⟩
  ·split
   ·exact xE h
   ·exact xE h
theorem xD: ∀{names:List (Str×NameKind)} {h:Heap} {acc:List (Str×Addr)} {x y:Str} {c:Addr},(∀p∈acc,p.2<h.objs.size)->(∀x y c,(x,c)∈acc->(y,c)∈acc->x=y)->
  (x,c)∈cellsFrom h.objs.size names acc->(y,c)∈cellsFrom h.objs.size names acc->x=y
 | [],_,_,_,_,_,_,hi,h1,h2=>hi _ _ _ h1 h2
 |(n,k)::r,h,acc,x,y,c,hl,hi,h1,h2=>by
  unfold cellsFrom at h1 h2;split at h1
  ·rename_i hk
   rw[if_pos hk] at h2;rw[<-Heap.size_push h {cls:= .type "cell",data:= .cell none}] at h1 h2;refine xD (h:=h.push _) (λp hp=> ?_) (λx y c a b=> ?_) h1 h2
   ·rw[Heap.size_push];rcases aA.mp hp with rfl|hp
    ·exact jM _
    ·exact pQ (hl p hp)
   ·rcases aA.mp a with e|a <;> rcases aA.mp b with e'|b
    ·cases e;cases e';rfl
    ·cases e;exact absurd (hl _ b) (gF _)
    ·cases e';exact absurd (hl _ a) (gF _)
    ·exact hi _ _ _ a b
  ·rename_i hk
   rw[if_neg hk] at h2;exact xD hl hi h1 h2
def Hd{M:Model}{A:Around}{E:Value->Shared->Prop}{s:Shared}{scope:Scope}{globals:Addr}{closure:List (Str×Addr)}{qual:Str}{func:Option Addr}{code:Value}{around:Env}{builtins:Addr}{Q:Env->Shared->Prop}
  (h:Q (newEnv scope s.heap.objs.size globals (cellsFrom (s.heap.objs.size + 1) scope.names closure) qual func code (some around) builtins)
   {s with heap:=pushCells (s.heap.push {cls:= .type "dict",data:= .dict #[]}) scope.names}):
  wpAny M A (newFunctionEnv scope globals closure [] qual func code (some around) builtins) Q E s:=by
 simp only[newFunctionEnv,M6,if_true];refine wpAny_bind (wpAny_alloc ?_);refine wpAny_bind (wpAny_layCells _ (λn k c=>rfl) scope.names closure _ _ ?_);rw[show({s with heap:=s.heap.push {cls:= .type "dict",data:= .dict #[]}}:Shared).heap.objs.size=s.heap.objs.size + 1 from Heap.size_push ..];rw[k9];exact wpAny_bind (wpAny_pure (wpAny_pure h))
theorem rF{sc:Scope}: ∀{names:List (Str×NameKind)} {x:Str} {k:NameKind},
  (names.map λ(n,k)=>if(k==NameKind.free&&sc.kind== .function&&sc.names.lookup n==some .cell) then(n,NameKind.cell) else(n,k)).lookup x=some k->
  ∃k',names.lookup x=some k'/\(k=k'\/(k'= .free/\k= .cell))
 | [],_,_,h=>by simp at h
 |(n,OH)::r,x,k,h=>by
  have ih:= @rF sc r x k;have h':jr x ((if(OH==NameKind.free&&sc.kind== .function&&sc.names.lookup n==some .cell)=true then(n,NameKind.cell) else(n,OH))::(r.map _))=some k:=h;cases hx:x==n with
  |true=>
   simp only[gG,hx];by_cases hc:(OH==NameKind.free&&sc.kind== .function&&sc.names.lookup n==some .cell)=true
   ·rw[if_pos hc] at h';simp only[gG,hx] at h';cases h';simp only[cq,beq_iff_eq] at hc;exact⟨OH,rfl,.inr ⟨hc.1.1,rfl⟩⟩
   ·rw[if_neg hc] at h';simp only[gG,hx] at h';cases h';exact⟨_,rfl,.inl rfl⟩
  |false=>
   simp only[gG,hx];by_cases hc:(OH==NameKind.free&&sc.kind== .function&&sc.names.lookup n==some .cell)=true
   ·rw[if_pos hc] at h';simp only[gG,hx] at h';exact ih h'
   ·rw[if_neg hc] at h';simp only[gG,hx] at h';exact ih h'
structure Iz(N:List Str)(sc scope:Scope)(own:List (Str×Nat)):Prop where
 kind:scope.kind= .function
 uniq: ∀y∈scope.names,scope.names.lookup y.1=some y.2
 ix: ∀p∈own,N[p.2]? =some p.1
 free: ∀y∈scope.names,y.2= .free->sc.names.lookup y.1=some .cell\/sc.names.lookup y.1=some .free
 own: ∀y∈scope.names,y.2= .local\/y.2= .cell->y.1∈own.map (·.1)\/y.1∉N
def wipe(σ:St):List Nat->St
 | []=>σ
 |v::vs=>(wipe σ vs).set v none
theorem qN(σ:St): ∀vs:List Nat,(wipe σ vs).length=σ.length
 | []=>rfl
 |v::vs=>by unfold wipe;rw[dO,qN σ vs]
theorem wU{σ:St}{i:Nat}{x:V}: ∀{vs:List Nat},(wipe σ vs)[i]? =some (some x)->σ[i]? =some (some x)/\i∉vs
 | [],h=>⟨h,by simp⟩
 |v::vs,h=>by
  unfold wipe at h;by_cases hi:v=i
  ·subst hi;by_cases hv:v<(wipe σ vs).length
   ·rw[dW hv] at h;cases h
   ·rw[fK (by simpa using hv)] at h;cases h
  ·rw[dM hi] at h;obtain⟨h1,h2⟩:=wU h;exact⟨h1,by simp only[aA,not_or];exact⟨λe=>hi e.symm,h2⟩⟩
abbrev Cx.qE(X:Cx)(s:Shared)(H:Hp)(scope:Scope)(kf:Env)(fp:List Addr):Cx:={X with DD:=s,VB:=H,env:=kf,outer:=X.stack,ex:=fp,fn:=λx=>scope.names.lookup x==some .cell,pn:=[],xe:=λ_ _=>False}
section
variable{X:Cx}{pins:List (Addr×Obj)}{σ:St}{H:Hp}{s:Shared}
def Im{scope:Scope}{own:List (Str×Nat)}{fp:List Addr}(I:Inv X pins σ H s)(ok:Iz X.N X.env.scope scope own)(hN:X.N.Nodup)(V3: ∀b∈fp,wH X pins H b/\b<s.heap.objs.size):
  Inv (X.qE s H scope (compEnvC scope (cellsFrom (s.heap.objs.size + 1) scope.names (fH X.env.cells scope.names [])) s.heap.objs.size X.env) fp) [] (wipe σ (own.map (·.2))) H {s with heap:=pushCells (s.heap.push {cls:= .type "dict",data:= .dict #[]}) scope.names}:=by
 have Eb: ∀y∈scope.names,y.2= .free-> ∃c,X.env.cells.lookup y.1=some c:=λy hy e=>by
  rcases ok.free y hy e with k|k
  ·exact I.ok.has _ (.inl k)
  ·exact I.ok.has _ (.inr k)
 generalize Hw:compEnvC scope (cellsFrom (s.heap.objs.size + 1) scope.names (fH X.env.cells scope.names [])) s.heap.objs.size X.env=kf;have kp: ∀b o,s.heap.get? b=some o->(pushCells (s.heap.push {cls:= .type "dict",data:= .dict #[]}) scope.names).get? b=some o:=λb o e=>pushCells_keeps _ _ _ _ (Heap.get?_push_of_some _ e);have hL:kf.locals=s.heap.objs.size:=by rw[<-Hw];rfl
 have O6:kf.cells=cellsFrom (s.heap.objs.size + 1) scope.names (fH X.env.cells scope.names []):=by rw[<-Hw];rfl
 have hsc:kf.scope=ZN scope X.env.scope:=by rw[<-Hw];rfl
 rw[<-Heap.size_push s.heap {cls:= .type "dict",data:= .dict #[]}] at O6;have cm: ∀{y c},(y,c)∈fH X.env.cells scope.names []->X.env.cells.lookup y=some c/\c<s.heap.objs.size:=λ{y c} hm=>by
  rcases nO hm with hm|⟨h1,rfl⟩
  ·cases hm
  ·obtain⟨c,hc⟩:=Eb _ h1 rfl;rw[hc];obtain⟨w,z⟩:=I.cell _ _ hc;exact⟨rfl,z.lt⟩
 have mem: ∀{y c},kf.cells.lookup y=some c->(X.env.cells.lookup y=some c/\c<s.heap.objs.size)\/(s.heap.objs.size + 1<=c/\PX (pushCells (s.heap.push {cls:= .type "dict",data:= .dict #[]}) scope.names) c none):=λ{y c} e=>by
  rw[O6] at e;rcases oS (cA e) with hm|⟨_,h2,h3⟩
  ·exact .inl (cm hm)
  ·rw[Heap.size_push] at h2;exact .inr ⟨h2,h3⟩
 have look: ∀{y},scope.names.lookup y=some .free-> ∃c,kf.cells.lookup y=some c/\X.env.cells.lookup y=some c:=λ{y} hl=>by
  have hy:(y,NameKind.free)∈scope.names:=cA hl;obtain⟨c',e'⟩:=mem_lookup (sY (names:=scope.names) (n:=(s.heap.push {cls:= .type "dict",data:= .dict #[]}).objs.size) (rN (cells:=X.env.cells) (acc:=[]) hy));rw[<-O6] at e';refine⟨c',e',?_⟩;rw[O6] at e';rcases oS (cA e') with hm|⟨h1,_,_⟩
  ·exact(cm hm).1
  ·have:=ok.uniq _ h1;rw[hl] at this;cases this
 have okB:(X.qE s H scope kf fp).Ok:=by
  refine⟨I.ok.mod,by show kf.scope.kind=_;rw[hsc];exact ok.kind,by show kf.globals=_;rw[<-Hw];exact I.ok.glob,by show kf.builtins=_;rw[<-Hw];exact I.ok.blt,by show s.heap.objs.size<=kf.locals;rw[hL];exact aE _,
   λy z c e1 e2=> ?_,λy hy=> ?_,λy c z e=> ?_,I.ok.hd,I.ok.frames,.inl rfl,λb hb=>⟨?_,λy c e z=> ?_⟩,I.bs,cH I.ok.R8 I.sz,λb o e hb=> ?_,λb hb z=> ?_,I.stack,I.Ks⟩
  ·have e1:kf.cells.lookup y=some c:=e1;have e2:kf.cells.lookup z=some c:=e2;rw[O6] at e1 e2;refine xD (λp hp=> ?_) (λy z c a b=>I.ok.inj y z c (cm a).1 (cm b).1) (cA e1) (cA e2);rw[Heap.size_push];exact pQ (cm (y:=p.1) (c:=p.2) hp).2
  ·show∃c,kf.cells.lookup y=some c;have key: ∀k,kf.kindOf y=some k->(k= .cell\/k= .free)-> ∃c,kf.cells.lookup y=some c:=λk hk U6=>by
    unfold Env.kindOf at hk;rw[hsc] at hk;obtain⟨k',e,r⟩:=rF hk;have:k'= .cell\/k'= .free:=by
     rcases r with rfl|⟨rfl,_⟩
     ·exact U6
     ·exact .inr rfl
    rcases this with rfl|rfl
    ·obtain⟨c,hm⟩:=xE (n:=(s.heap.push {cls:= .type "dict",data:= .dict #[]}).objs.size) (acc:=fH X.env.cells scope.names []) (cA e);obtain⟨c',e'⟩:=mem_lookup hm;exact⟨c',by rw[O6];exact e'⟩
    ·obtain⟨c,h1,_⟩:=look e;exact⟨c,h1⟩
   rcases hy with hy|hy
   ·exact key _ hy (.inl rfl)
   ·exact key _ hy (.inr rfl)
  ·have z:(scope.names.lookup y==some NameKind.cell)=true:=z;have z:scope.names.lookup y=some .cell:=by simpa using z
   have e:kf.cells.lookup y=some c:=e;rw[O6] at e;rcases oS (cA e) with hm|⟨_,h2,_⟩
   ·rcases nO hm with hm|⟨h1,_⟩
    ·cases hm
    ·have q:=ok.uniq _ h1;rw[z] at q;cases q
   ·rw[Heap.size_push] at h2;exact pR h2
  ·show b≠kf.locals;rw[hL];exact cv (V3 b hb).2
  ·have e:kf.cells.lookup y=some c:=e;rcases mem e with⟨h1,_⟩|⟨h1,_⟩
   ·exact(V3 b hb).1.2.2.2.2.1 y c h1 z
   ·have h2:s.heap.objs.size + 1<=b:=by rw[<-z];exact h1
    exact absurd (cp (V3 b hb).2 (pR h2)) (gF _)
  ·rcases(V3 b hb).1.2.2.2.1 with z|z
   ·exact I.ok.Ot b o e z
   ·exact absurd (cp (Heap.lt_size e) (cH I.ok.R8 z)) (gF _)
  ·rcases aA.mp (I.Jk b z) with z|z
   ·exact(V3 b hb).1.2.1 z
   ·exact(V3 b hb).1.2.2.1 z
 refine⟨okB,rfl,I.bare,Un.kept kp,⟨λ_=>none,?_,λi y av e1 e2 e3=> ?_⟩,λy c e=> ?_,?_,λy c e=> ?_,λp hp=> ?_,I.eC.kept kp,by rw[qN];exact I.len⟩
 ·show Heap.Ns _ kf.locals _;rw[hL];exact Heap.Ns.keeps (Heap.Ns.new ..) λb o e=>pushCells_keeps _ _ _ _ e
 ·obtain⟨e2,pC⟩:=wU e2;have Mg:scope.names.lookup y=some .free/\(kf.kindOf y=some .cell\/kf.kindOf y=some .free):=by
   have key: ∀k,kf.scope.names.lookup y=some k->k= .local\/k= .cell\/k= .free->scope.names.lookup y=some .free/\(kf.kindOf y=some .cell\/kf.kindOf y=some .free):=λk hk U6=>by
    have hk0:=hk;rw[hsc] at hk;obtain⟨k',e,r⟩:=rF hk;have no: ¬(k'= .local\/k'= .cell):=λhh=>by
     rcases ok.own _ (cA e) hh with e'|e'
     ·obtain⟨p,hp,hpy⟩:=aQ.mp e';have e3:=ok.ix p hp;have:p.1=y:=hpy;rw[this] at e3;exact pC (aQ.mpr ⟨p,hp,Bi hN e3 e1⟩)
     ·exact e' (aZ e1)
    rcases r with rfl|⟨rfl,rfl⟩
    ·rcases U6 with rfl|rfl|rfl
     ·exact absurd (.inl rfl) no
     ·exact absurd (.inr rfl) no
     ·exact⟨e,.inr hk0⟩
    ·exact⟨e,.inl hk0⟩
   have e3:Yt kf.scope y:=e3;rcases e3 with e3|e3|e3
   ·exact key _ e3 (.inl rfl)
   ·exact key _ e3 (.inr (.inl rfl))
   ·exact key _ e3 (.inr (.inr rfl))
  obtain⟨m,hn,hl⟩:=I.loc;have aan:Yt X.env.scope y:=(ok.free _ (cA Mg.1) rfl).elim (λk=> .inr (.inl k)) (λk=> .inr (.inr k));obtain⟨w,r,q⟩:=hl i y av e1 e2 aan;refine⟨w,r,.inr ⟨Mg.2,?_⟩⟩;obtain⟨c,h1,h2⟩:=look Mg.1;rcases q with⟨k,_⟩|⟨_,c',e',z⟩
  ·have k:X.env.scope.names.lookup y=some .local:=k;rcases ok.free _ (cA Mg.1) rfl with k'|k' <;> rw[show X.env.scope.names.lookup y=_ from k'] at k <;> cases k
  ·rw[h2] at e';cases e';exact⟨c,h1,z.keeps kp⟩
 ·have e:kf.cells.lookup y=some c:=e;rcases mem e with⟨h1,_⟩|⟨_,z⟩
  ·obtain⟨w,z⟩:=I.cell y c h1;exact⟨w,z.keeps kp⟩
  ·exact⟨_,z⟩
 ·show H kf.locals=none;rw[hL];exact I.eC.fresh (aE _)
 ·have e:kf.cells.lookup y=some c:=e;rcases mem e with⟨h1,_⟩|⟨h1,_⟩
  ·exact I.oP y c h1
  ·exact I.eC.fresh (pR h1)
 ·exact absurd (show p∈([]:List (Addr×Obj))++[] from hp) (by simp)
def Vv{E:Value->Shared->Prop}{D:Addr}{xs:List V}{y:V}{v:Value}{Q:Value->Shared->Prop}(I:Inv X pins σ H s)(hD:H D=some (.lst xs))(hz:xs.length<sizeLine)(r:RelV y v)
  (h: ∀s',Inv X pins σ (upd H D (.lst (xs++[y]))) s'->Q .none s'):wpAny (model X.prog X.w) X.A (call (.builtin "list.append") [.ref D,v]) Q E s:=by
 obtain⟨hz',its,n,ri,e⟩:=I.eC D _ hD;have hl:=ri.length;refine append_at (hsz:=by rw[bz];omega) e λh' sb K1=> ?_;refine h {s with heap:=h'} (I.write (t':=s.toks) (by rw[hD];trivial) (.inl rfl) (λb u hb q=>(sb.2 b hb).trans q) ⟨_,K1⟩ ⟨by rw[aP];exact hz,its++[v],n + 1,ri.append (.cons r .nil),?_⟩);rw[K1];simp
def Zg(X:Cx)(ifs:List Expr)(t:TT):Prop:=
 ∀(pins:List (Addr×Obj)) (s:Shared) (σ:St) (H:Hp) (Q:Bool->Hp->Prop),Inv X pins σ H s->t σ H Q->
  wpAny (model X.prog X.w) X.A (forIn ifs true λc r=>if r=true then do let ok<-isTrue c X.env (eval c X.env);pure (pV ok) else pure (pV r)) (TP X pins σ Q) X.xe s
def lV:TT:=λ_ H Q=>Q true H
def cO:Zg X [] lV:=λ_ _ _ H _ I h=>wpAny_tests_nil ⟨H,I,h⟩
end
def Lx{α:Type}{t:Sem α}{Q Q':α->Shared->Prop}{M:Model}{A:Around}{E:Value->Shared->Prop}{s:Shared}(h:wpAny M A t Q (λ_ _=>False) s)(hQ: ∀a s,Q a s->Q' a s):wpAny M A t Q' E s:=wpAny_mono h hQ λ_ _ z=>d5 z
def FF{prog:Program}{w:World}{A:Around}{R:Result->Shared->Prop}{s:Shared}{elt target iter:Expr}{ifs:List Expr}{scope:Scope}{pos:Pos}{it acc:Value}{env:Env}(I:Nat->Shared->Prop)
  (turn: ∀n s,I n s->wpAny (model prog w) A (pyNext it) (λr gd=>match r with
   |none=>R (.ok .next) gd
   |some v=>wpAny (model prog w) A (letOwnedTupleGo target it v) (λ_ Sw=>wpAny (model prog w) A (assign target env v) (λ_ zX=>
     wpAny (model prog w) A (forIn ifs true λc r=>if r=true then do let ok<-isTrue c env (eval c env);pure (pV ok) else pure (pV r)) (λok Ly=>
      if ok=true then wpAny (model prog w) A (eval elt env) (λx WI=>
       wpAny (model prog w) A (call (.builtin "list.append") [acc,x]) (λ_ WH=> ∃m,m<n/\I m WH) (notedBy (model prog w) A env λe s'=>R (.error e) s') WI) (notedBy (model prog w) A env λe s'=>R (.error e) s') Ly
      else∃m,m<n/\I m Ly) (notedBy (model prog w) A env λe s'=>R (.error e) s') zX) (notedBy (model prog w) A env λe s'=>R (.error e) s') Sw) (notedBy (model prog w) A env λe s'=>R (.error e) s') gd) (notedBy (model prog w) A env λe s'=>R (.error e) s') s)
  (n:Nat) (h:I n s):
  codeAny (model prog w) A (.compLoop (.ListComp elt [⟨target,iter,ifs,0⟩] scope pos) 0 it acc env) R s:=by
 refine codeAny_loop rfl I (λn s hI=> ?_) n h;show wpAny _ A ((compTurn (.ListComp elt [⟨target,iter,ifs,0⟩] scope pos) 0 it acc env).onRaise (λx=>do noteFrame x env;theTreesLotGoes x)) _ _ s;refine wpAny_noted ?_;rw[compTurn_list];refine wpAny_bind (wpAny_standAt (wpAny_bind (wpAny_mono (turn n s hI) (λr gd Ma=> ?_) λ_ _ h'=>h')));cases r with
 |none=>exact wpAny_pure Ma
 |some v=>
  refine wpAny_bind (wpAny_mono Ma (λ_ Sw Xk=> ?_) λ_ _ h'=>h');refine wpAny_bind (wpAny_mono Xk (λ_ zX OR=>wpAny_bind (wpAny_mono OR (λok Ly Rz=> ?_) λ_ _ h'=>h')) λ_ _ h'=>h');cases ok with
  |false=>exact wpAny_pure ⟨rfl,Rz⟩
  |true=>
   exact wpAny_bind (wpAny_bind (wpAny_mono Rz (λx WI aai=>wpAny_bind (wpAny_mono aai (λ_ WH aah=>wpAny_pure (wpAny_pure ⟨rfl,aah⟩)) λ_ _ h'=>h')) λ_ _ h'=>h'))
section
variable{X:Cx}
def YE(wi:TI)(g:TG)(tt:TT)(te:TE)(vs:List Nat):TE:=λσ H Q=>wi σ H λJ H1=> ∀D,H1 D=none-> ∃W:Nat->Nat->Hp->Prop,(∃m,W 0 m (upd H1 D (.lst [])))/\ ∀i m H,W i m H->
 (J.stop i H/\Q (.ref D) H)\/(J.go i H/\ ∃Nx:Hp->Prop,(∀H',Nx H'-> ∃m',m'<m/\W (i + 1) m' H')/\ ∀x H',J.wR i H x H'->g x (wipe σ vs) H' λσ2 H2=>wipe σ2 vs=wipe σ vs/\tt σ2 H2 λb H3=>
  if b=true then te σ2 H3 λy H4=> ∃acc,H4 D=some (.lst acc)/\acc.length<sizeLine/\Nx (upd H4 D (.lst (acc++[y]))) else Nx H3)
def KU{pins:List (Addr×Obj)}{s:Shared}{σ:St}{H:Hp}{Q:VK}{elt tg iter:Expr}{ifs:List Expr}{scope:Scope}{own:List (Str×Nat)}{pos pos':Pos}{wi:TI}{g:TG}{tt:TT}{te:TE}{use:Option (Value->Sem Unit)}{Qf:Value->Shared->Prop}
  (hc:X.calm=true) (hN:X.N.Nodup) (I:Inv X pins σ H s) (hi:PI X tg iter wi) (ok:Iz X.N X.env.scope scope own)
  (hg: ∀(s:Shared) (H:Hp) (C:Addr) (cl:List (Str×Addr)) (fp:List Addr),PG (X.qE s H scope (compEnvC scope cl C X.env) fp) tg g) (ht: ∀(s:Shared) (H:Hp) (C:Addr) (cl:List (Str×Addr)) (fp:List Addr),Zg (X.qE s H scope (compEnvC scope cl C X.env) fp) ifs tt)
  (he: ∀(s:Shared) (H:Hp) (C:Addr) (cl:List (Str×Addr)) (fp:List Addr),PE (X.qE s H scope (compEnvC scope cl C X.env) fp) elt te) (hs: ∀x,foldedSetIterable iter X.env x=pure x)
  (h:YE wi g tt te (own.map (·.2)) σ H Q)
  (hRR: ∀D C s' m H',Inv X pins σ H' s'->Q (.ref D) H'->s'.heap.Ns C m->wH X pins H' C->compPost (model X.prog X.w) X.A X.xe use Qf (.ref D) C (.ok .next) s'):
  wpAny (model X.prog X.w) X.A (comprehension (.ListComp elt [⟨tg,iter,ifs,0⟩] scope pos) scope X.env pos' (newList []) false (eval iter X.env) use) Qf X.xe s:=by
 have Eb: ∀y∈scope.names,y.2= .free-> ∃c,X.env.cells.lookup y.1=some c:=λy hy e=>by
  rcases ok.free y hy e with k|k
  ·exact I.ok.has _ (.inl k)
  ·exact I.ok.has _ (.inr k)
 refine wpAny_comprehension_free (use:=use) rfl hs (J5 Eb) ok.kind (λy hy e=>by rw[ok.uniq y hy,e])
  (gb (hi pins s σ H _ I h) λxv s1 hx=>gb hx λitv s2 h2=> ?_)
 obtain⟨it,fp,tn,J,H2,e,I2,T,YI,f2,q⟩:=h2;subst e;refine wpAny_newObj_type (Hd ?_) (by show 0<=sizeLine;decide);generalize hD:s2.heap.objs.size=D;have hDn:H2 D=none:=I2.eC.fresh (zO hD);obtain⟨W,⟨m0,w0⟩,turn⟩:=q D hDn;generalize D0:({s2 with heap:=s2.heap.push {cls:= .type "list",data:= .seq ([]:List Value).toArray}}:Shared)=s3;have I3:Inv X pins σ (upd H2 D (.lst [])) s3:=by
  rw[<-D0];refine I2.laid (t':=s2.toks) (λb o e=>Heap.get?_push_of_some _ e) (zO hD) ⟨aC _,[],0,.nil,?_⟩;rw[<-hD];exact Heap.get?_push_size _ rfl
 have h3:s3.heap=s2.heap.push {cls:= .type "list",data:= .seq ([]:List Value).toArray}:=by rw[<-D0]
 have sz: ∀b∈fp,b<s2.heap.objs.size:=λb hb=>by
  obtain⟨o,e,_⟩:=T.obj _ _ YI b hb;exact Heap.lt_size e
 have f3: ∀b∈fp,wH X pins (upd H2 D (.lst [])) b/\b<s3.heap.objs.size:=λb hb=>by
  have ig:=sz b hb;refine⟨⟨?_,(f2 b hb).2⟩,by rw[h3,Heap.size_push];exact pQ ig⟩;rw[aJ (by rw[<-hD];exact cv ig)];exact(f2 b hb).1
 have YH:tn 0 s3.heap:=T.keep _ _ _ YI λb _ o e=>by rw[h3];exact Heap.get?_push_of_some _ e
 have I4:=Im I3 ok hN f3;have pg:=hg s3 (upd H2 D (.lst [])) s3.heap.objs.size (cellsFrom (s3.heap.objs.size + 1) scope.names (fH X.env.cells scope.names [])) fp;have pt:=ht s3 (upd H2 D (.lst [])) s3.heap.objs.size (cellsFrom (s3.heap.objs.size + 1) scope.names (fH X.env.cells scope.names [])) fp;have pe:=he s3 (upd H2 D (.lst [])) s3.heap.objs.size (cellsFrom (s3.heap.objs.size + 1) scope.names (fH X.env.cells scope.names [])) fp;show codeAny _ _ (.compStart (.ListComp elt [⟨tg,iter,ifs,0⟩] scope pos) 0 (.ref it) (.ref D) (compEnvC scope (cellsFrom (s3.heap.objs.size + 1) scope.names (fH X.env.cells scope.names [])) s3.heap.objs.size X.env)) (compPost (model X.prog X.w) X.A X.xe use Qf (.ref D) s3.heap.objs.size) {s3 with heap:=pushCells (s3.heap.push {cls:= .type "dict",data:= .dict #[]}) scope.names};have nfp: ∀b∈fp,(upd H2 D (.lst [])) b=none:=λb hb=>(f3 b hb).1.1;generalize U9:compEnvC scope (cellsFrom (s3.heap.objs.size + 1) scope.names (fH X.env.cells scope.names [])) s3.heap.objs.size X.env=ce at I4 pg pt pe ⊢;have cL:ce.locals=s3.heap.objs.size:=by subst U9;rfl
 generalize hH3:upd H2 D (.lst [])=H3 at I3 I4 pg pt pe w0 nfp f3;generalize UW:({s3 with heap:=pushCells (s3.heap.push {cls:= .type "dict",data:= .dict #[]}) scope.names}:Shared)=s4 at I4 ⊢;have st4:tn 0 s4.heap:=T.keep _ _ _ YH λb _ o e=>by rw[<-UW];exact pushCells_keeps _ _ _ _ (Heap.get?_push_of_some _ e)
 have Jl: ∀{σ':St} {H':Hp} {s':Shared},Inv (X.qE s3 H3 scope ce fp) [] σ' H' s'->(∀b∈fp,H' b=none)-> ∀b∈fp,wH (X.qE s3 H3 scope ce fp) [] H' b:=λ{σ' H' s'} I' hn b hb=>
  ⟨hn b hb,(I'.ok.Zc b hb).1,I'.ok.Pj b hb,.inl hb,λx c e=>(I'.ok.Zc b hb).2 x c e,λp hp=>absurd (show p∈([]:List (Addr×Obj))++[] from hp) (by simp)⟩
 have loop:codeAny (model X.prog X.w) X.A (.compLoop (.ListComp elt [⟨tg,iter,ifs,0⟩] scope pos) 0 (.ref it) (.ref D) ce) (compPost (model X.prog X.w) X.A X.xe use Qf (.ref D) s3.heap.objs.size) s4:=by
  refine FF (λn s'=> ∃i H',Inv (X.qE s3 H3 scope ce fp) [] (wipe σ (own.map (·.2))) H' s'/\tn i s'.heap/\(∀b∈fp,H' b=none)/\W i n H') ?_ m0 ⟨0,H3,I4,st4,nfp,w0⟩;rintro n s5 ⟨i,H5,I5,VL,n5,w5⟩;rcases turn i n H5 w5 with⟨stop,qq⟩|⟨go,Nx,hNx,step⟩
  ·have td:=T.done (X.qE s3 H3 scope ce fp) rfl rfl rfl hc i [] s5 _ H5 (λ_ _=>False) I5 (Jl I5 n5) VL stop;refine Lx td λr s6 ⟨hr,I6⟩=> ?_;subst hr;have I7:Inv X pins σ H5 s6:=I3.Ym (ch:=fp) I6.os I6.base I6.eC I6.bare λb hb=>⟨(f3 b hb).1.2.2.2.1,(f3 b hb).1.2.1,(f3 b hb).1.2.2.2.2.1,(f3 b hb).1.2.2.2.2.2⟩;have nC:H5 s3.heap.objs.size=none:=by
    have z:H5 ce.locals=none:=I6.free;rw[cL] at z;exact z
   obtain⟨m,hn,_⟩:=I6.loc;have hn:s6.heap.Ns ce.locals m:=hn;rw[cL] at hn;exact hRR D s3.heap.objs.size s6 m H5 I7 qq hn (I3.Fd (aE _) nC)
  ·have ti:=T.item (X.qE s3 H3 scope ce fp) rfl rfl rfl hc i [] s5 _ H5 (λ_ _=>False) I5 (Jl I5 n5) VL go;refine Lx ti λr s6 ⟨u,hr,h6⟩=> ?_;subst hr;refine Lx h6 λ_ s7 ⟨x,H7,I7,r7,y7,Zz,n7⟩=> ?_;have I7':=I7.pinned (Jl I7 n7) (T.obj _ _ Zz);refine Lx (pg _ s7 _ H7 x u _ I7' r7 (step x H7 y7)) λ_ s8 ⟨σ8,H8,I8,hw8,q8⟩=> ?_;refine Lx (pt _ s8 σ8 H8 _ I8 q8) λb s9 ⟨H9,I9,q9⟩=> ?_;have fin: ∀{s':Shared} {H':Hp},Inv (X.qE s3 H3 scope ce fp) ([]++AH fp s7.heap) σ8 H' s'->Nx H'-> ∃m,m<n/\ ∃i H',Inv (X.qE s3 H3 scope ce fp) [] (wipe σ (own.map (·.2))) H' s'/\tn i s'.heap/\(∀b∈fp,H' b=none)/\W i m H':=λ{s' H'} I' nx=>by
    obtain⟨m',hm,w'⟩:=hNx H' nx;have WX: ∀b∈fp,∀o,s7.heap.get? b=some o->s'.heap.get? b=some o/\H' b=none:=λb hb o e=>
     let z:=I'.pin (b,o) (eD _ (eD _ (uT hb e)))
     ⟨z.1,z.2.1⟩
    have hl:(wipe σ (own.map (·.2))).length=σ8.length:=by rw[<-hw8,qN]
    refine⟨m',hm,i + 1,H',(I'.vh (pins:=[])).weak hl (λj v e=> ?_),T.keep _ _ _ Zz λb hb o e=>(WX b hb o e).1,λb hb=> ?_,w'⟩
    ·rw[<-hw8] at e;exact(wU e).1
    ·obtain⟨o,e,_⟩:=T.obj _ _ Zz b hb;exact(WX b hb o e).2
   cases b with
   |false=>
    simp only[P6,if_false] at q9 ⊢;exact fin I9 q9
   |true=>
    simp only[if_true] at q9 ⊢;refine Lx (pe _ s9 σ8 H9 _ I9 q9) λz WQ ⟨yv,H10,I10,r10,acc,abl,aak,nx⟩=> ?_;exact Vv (X:=X.qE s3 H3 scope ce fp) I10 abl aak r10 λZJ I11=>fin I11 nx
 exact codeAny_compStart_list loop (T.self X.A 0 _ _ _ st4 loop)
def gR{elt tg iter:Expr}{ifs:List Expr}{scope:Scope}{own:List (Str×Nat)}{pos:Pos}{wi:TI}{g:TG}{tt:TT}{te:TE}(hc:X.calm=true)(hN:X.N.Nodup)(hi:PI X tg iter wi)(ok:Iz X.N X.env.scope scope own)
  (hg: ∀(s:Shared) (H:Hp) (C:Addr) (cl:List (Str×Addr)) (fp:List Addr),PG (X.qE s H scope (compEnvC scope cl C X.env) fp) tg g) (ht: ∀(s:Shared) (H:Hp) (C:Addr) (cl:List (Str×Addr)) (fp:List Addr),Zg (X.qE s H scope (compEnvC scope cl C X.env) fp) ifs tt)
  (he: ∀(s:Shared) (H:Hp) (C:Addr) (cl:List (Str×Addr)) (fp:List Addr),PE (X.qE s H scope (compEnvC scope cl C X.env) fp) elt te) (hs: ∀x,foldedSetIterable iter X.env x=pure x:=by intro _;rfl):
  PE X (.ListComp elt [⟨tg,iter,ifs,0⟩] scope pos) (YE wi g tt te (own.map (·.2))):=by
 exists 13;rw[eval_ListComp];refine KU hc hN I hi ok hg ht he hs h λD C s' m H' I' q hn f=>⟨m,hn,λIP sb=> ?_⟩;obtain⟨f0,f1,f2,f3,f4,f5⟩:=f;exact⟨.ref D,H',I'.turned (t':=s'.toks) (λb o hb e=>(sb.2 b hb).trans e) f0 f1 f3 f4 f5,rfl,q⟩
def iK{i:Nat}{y:Str}{py:Pos}{elt tg iter:Expr}{ifs:List Expr}{scope:Scope}{own:List (Str×Nat)}{pos WJ:Pos}{wi:TI}{g:TG}{tt:TT}{te:TE}(hc:X.calm=true)(hN:X.N.Nodup)(hy:X.N[i]? =some y)(YX:X.env.scope.names.lookup y=some .local)
  (hsw:swapsWith (.ListComp elt [⟨tg,iter,ifs,0⟩] scope pos) (some (.Name y py)) WJ.line X.env=pure true) (hi:PI X tg iter wi) (ok:Iz X.N X.env.scope scope own)
  (hg: ∀(s:Shared) (H:Hp) (C:Addr) (cl:List (Str×Addr)) (fp:List Addr),PG (X.qE s H scope (compEnvC scope cl C X.env) fp) tg g) (ht: ∀(s:Shared) (H:Hp) (C:Addr) (cl:List (Str×Addr)) (fp:List Addr),Zg (X.qE s H scope (compEnvC scope cl C X.env) fp) ifs tt)
  (he: ∀(s:Shared) (H:Hp) (C:Addr) (cl:List (Str×Addr)) (fp:List Addr),PE (X.qE s H scope (compEnvC scope cl C X.env) fp) elt te) (hs: ∀x,foldedSetIterable iter X.env x=pure x:=by intro _;rfl):
  PS X (.Assign [.Name y py] (.ListComp elt [⟨tg,iter,ifs,0⟩] scope pos) WJ) (QI (YE wi g tt te (own.map (·.2))) (gq i)):=by
 intro pins s σ H D I h;rw[exec_Assign_Name_used _ _ _ _ hsw];refine wpAny_bind (wpAny_standAt (wpAny_bind ?_));show wpAny _ X.A (do let _<-comprehension (.ListComp elt [⟨tg,iter,ifs,0⟩] scope pos) scope X.env (firstIterPos [⟨tg,iter,ifs,0⟩] pos) (newList []) false (eval iter X.env) (some (assign (.Name y py) X.env))) _ _ s;have h:YE wi g tt te (own.map (·.2)) σ H (λx H1=>gq i x σ H1 D.nx):=h;refine wpAny_bind (gb (KU (Qf:=λ_ s'=>SP X pins D .next s') hc hN I hi ok hg ht he hs h λL C s' m H' I' q hn f=> ?_) λ_ s' hq=>wpAny_pure (wpAny_pure hq));show wpAny _ _ (assign (.Name y py) X.env (.ref L)) _ _ _;refine wpAny_assign_Name (Ds (v:=V.ref L) I' hN hy (.inl YX) rfl (λs2 I2 ⟨a,sb,ha⟩=> ?_) (.inr YX));obtain⟨f0,f1,f2,f3,f4,f5⟩:=f;have haC:C≠a:=by
  rcases ha with z|z
  ·rw[z];exact f1
  ·exact λe=>f4 y a z e.symm
 refine⟨m,hn.sameBut sb haC,λh3 sb3=> ?_⟩;exact⟨_,H',I2.turned (t':=s2.toks) (λb o hb e=>(sb3.2 b hb).trans e) f0 f1 f3 f4 f5,q⟩
def jH{elt:Expr}{gs:List Comprehension}{scope:Scope}{pos py:Pos}{y:Str}{l:Nat}{env:Env}(hk:env.scope.kind= .function)(hy:env.scope.names.lookup y=some .local)(hl:(py.line==pos.line)=true)
  (ha:(scope.names.any λ(n,k)=>n==y&&(k== .local||k== .cell))=false):swapsWith (.ListComp elt gs scope pos) (some (.Name y py)) l env=pure true:=by
 have ky:env.kindOf y=some .local:=hy;have hb:env.blockKind= .function:=by unfold Env.blockKind;rw[hk];rfl
 unfold swapsWith;simp only[hb,ky,ha,Expr.pos,hl];rfl
end
def OE{lo:Int}{n:Nat}{g:TG}{tt:TT}{te:TE}{vs:List Nat}{σ:St}{H1:Hp}{D:Addr}{Qd:Hp->Prop}(Pv:Nat->Hp->Prop)(h0:Pv 0 (upd H1 D (.lst [])))
  (hs: ∀i H,i<n->Pv i H->g (.int (lo + i)) (wipe σ vs) H λσ2 H2=>wipe σ2 vs=wipe σ vs/\tt σ2 H2 λb H3=>
   if b=true then te σ2 H3 λy H4=> ∃acc,H4 D=some (.lst acc)/\acc.length<sizeLine/\Pv (i + 1) (upd H4 D (.lst (acc++[y]))) else Pv (i + 1) H3) (hd: ∀H,Pv n H->Qd H):
  ∃W:Nat->Nat->Hp->Prop,(∃m,W 0 m (upd H1 D (.lst [])))/\ ∀i m H,W i m H->
   ((IQ lo n).stop i H/\Qd H)\/((IQ lo n).go i H/\ ∃Nx:Hp->Prop,(∀H',Nx H'-> ∃m',m'<m/\W (i + 1) m' H')/\ ∀x H',(IQ lo n).wR i H x H'->g x (wipe σ vs) H' λσ2 H2=>wipe σ2 vs=wipe σ vs/\tt σ2 H2 λb H3=>
    if b=true then te σ2 H3 λy H4=> ∃acc,H4 D=some (.lst acc)/\acc.length<sizeLine/\Nx (upd H4 D (.lst (acc++[y]))) else Nx H3):=by
 refine⟨λi m H=>m=n - i/\i<=n/\Pv i H,⟨n,by simp,aC _,h0⟩,?_⟩;rintro i m H ⟨rfl,hi,p⟩;by_cases ig:i<n
 ·refine .inr ⟨ig,Pv (i + 1),λH' p'=>⟨n -(i + 1),by omega,rfl,ig,p'⟩,λx H' y=> ?_⟩;obtain⟨e,y⟩:=y;subst e y;exact hs i _ ig p
 ·have e:i=n:=by omega
  subst e;exact .inl ⟨aE _,hd H p⟩
def E4{K:ab}{a:Addr}{xs:List V}{g:TG}{tt:TT}{te:TE}{vs:List Nat}{σ:St}{H1:Hp}{D:Addr}{Qd:Hp->Prop}(Pv:Nat->Hp->Prop)(h0:Pv 0 (upd H1 D (.lst [])))(hl: ∀i H,i<=xs.length->Pv i H->bw K H a xs)
  (hs: ∀i x H,xs[i]? =some x->Pv i H->g x (wipe σ vs) H λσ2 H2=>wipe σ2 vs=wipe σ vs/\tt σ2 H2 λb H3=>
   if b=true then te σ2 H3 λy H4=> ∃acc,H4 D=some (.lst acc)/\acc.length<sizeLine/\Pv (i + 1) (upd H4 D (.lst (acc++[y]))) else Pv (i + 1) H3) (hd: ∀H,Pv xs.length H->Qd H):
  ∃W:Nat->Nat->Hp->Prop,(∃m,W 0 m (upd H1 D (.lst [])))/\ ∀i m H,W i m H->
   ((zI K a).stop i H/\Qd H)\/((zI K a).go i H/\ ∃Nx:Hp->Prop,(∀H',Nx H'-> ∃m',m'<m/\W (i + 1) m' H')/\ ∀x H',(zI K a).wR i H x H'->g x (wipe σ vs) H' λσ2 H2=>wipe σ2 vs=wipe σ vs/\tt σ2 H2 λb H3=>
    if b=true then te σ2 H3 λy H4=> ∃acc,H4 D=some (.lst acc)/\acc.length<sizeLine/\Nx (upd H4 D (.lst (acc++[y]))) else Nx H3):=by
 refine⟨λi m H=>m=xs.length - i/\i<=xs.length/\Pv i H,⟨xs.length,by simp,aC _,h0⟩,?_⟩;rintro i m H ⟨rfl,hi,p⟩;have q:=hl i H hi p;by_cases ig:i<xs.length
 ·refine .inr ⟨⟨xs,xs[i],q,by simp[ig]⟩,Pv (i + 1),λH' p'=>⟨xs.length -(i + 1),by omega,rfl,ig,p'⟩,λx H' y=> ?_⟩;obtain⟨e,y⟩:=y;subst e;exact hs i x _ (y xs q) p
 ·have e:i=xs.length:=by omega
  subst e;exact .inl ⟨⟨xs,q,aE _⟩,hd H p⟩
def UI{K:ab}{a:Addr}{xs:List V}{g:TG}{tt:TT}{te:TE}{vs:List Nat}{σ:St}{H1:Hp}{D:Addr}{Qd:Hp->Prop}(Pv:Nat->Hp->Prop)(h0:Pv 0 (upd H1 D (.lst [])))(hl: ∀i H,i<=xs.length->Pv i H->gU K H a xs)
  (hs: ∀i x H,xs[i]? =some x->Pv i H->g x (wipe σ vs) H λσ2 H2=>wipe σ2 vs=wipe σ vs/\tt σ2 H2 λb H3=>
   if b=true then te σ2 H3 λy H4=> ∃acc,H4 D=some (.lst acc)/\acc.length<sizeLine/\Pv (i + 1) (upd H4 D (.lst (acc++[y]))) else Pv (i + 1) H3) (hd: ∀H,Pv xs.length H->Qd H):
  ∃W:Nat->Nat->Hp->Prop,(∃m,W 0 m (upd H1 D (.lst [])))/\ ∀i m H,W i m H->
   ((Kb K a).stop i H/\Qd H)\/((Kb K a).go i H/\ ∃Nx:Hp->Prop,(∀H',Nx H'-> ∃m',m'<m/\W (i + 1) m' H')/\ ∀x H',(Kb K a).wR i H x H'->g x (wipe σ vs) H' λσ2 H2=>wipe σ2 vs=wipe σ vs/\tt σ2 H2 λb H3=>
    if b=true then te σ2 H3 λy H4=> ∃acc,H4 D=some (.lst acc)/\acc.length<sizeLine/\Nx (upd H4 D (.lst (acc++[y]))) else Nx H3):=by
 refine⟨λi m H=>m=xs.length - i/\i<=xs.length/\Pv i H,⟨xs.length,by simp,aC _,h0⟩,?_⟩;rintro i m H ⟨rfl,hi,p⟩;have q:=hl i H hi p;by_cases ig:i<xs.length
 ·refine .inr ⟨⟨xs,xs[i],q,by simp[ig]⟩,Pv (i + 1),λH' p'=>⟨xs.length -(i + 1),by omega,rfl,ig,p'⟩,λx H' y=> ?_⟩;obtain⟨e,y⟩:=y;subst e;exact hs i x _ (y xs q) p
 ·have e:i=xs.length:=by omega
  subst e;exact .inl ⟨⟨xs,q,aE _⟩,hd H p⟩
def Yp(N:List Str)(sc scope:Scope)(own:List (Str×Nat)):Bool:=
 (match scope.kind with| .function=>true|_=>false)&&(scope.names.all λy=>decide (scope.names.lookup y.1=some y.2))&&(own.all λp=>decide (N[p.2]? =some p.1))&&
  (scope.names.all λy=>match y.2 with
   | .free=>(match sc.names.lookup y.1 with|some .cell=>true|some .free=>true|_=>false)
   | .local=>decide (y.1∈own.map (·.1))||decide (y.1∉N)
   | .cell=>decide (y.1∈own.map (·.1))||decide (y.1∉N)
   |_=>true)
def cn{N:List Str}{sc scope:Scope}{own:List (Str×Nat)}(h:Yp N sc scope own=true):Iz N sc scope own:=by
 unfold Yp at h;simp only[cq,gI,decide_eq_true_eq] at h;obtain⟨⟨⟨h1,h2⟩,h3⟩,h4⟩:=h;refine⟨?_,h2,h3,λy hy e=> ?_,λy hy e=> ?_⟩
 ·split at h1
  ·assumption
  ·cases h1
 ·have q:=h4 y hy;simp only[e] at q;split at q <;> first|exact .inl (by assumption)|exact .inr (by assumption)|cases q
 ·have q:=h4 y hy;rcases e with e|e <;>(simp only[e,TQ,decide_eq_true_eq] at q;exact q)
end L2
namespace L2
open PySem PySem.Spec PyProof.Rows
section
variable{prog:Program}{w:World}{A:Around}{R:Result->Shared->Prop}{s:Shared}{elt t0 i0 t1 i1:Expr}{aet aes:List Expr}{scope:Scope}{pos:Pos}{it acc:Value}{env:Env}
end
section
variable{X:Cx}
end
end L2
namespace L2
open PySem PySem.Spec PyProof.Rows
section
variable{κ:Type} [DecidableEq κ]
def fL(bE:List (κ×V))(k:κ):Option V:=(bE.find? λkv=>decide (kv.1=k)).map (·.2)
def putK(bE:List (κ×V))(k:κ)(v:V):List (κ×V):=
 if(bE.any λkv=>decide (kv.1=k))=true then bE.map (λkv=>if kv.1=k then(kv.1,v) else kv) else bE++[(k,v)]
def j5(bE:List (κ×V))(k:κ):List (κ×V):=bE.filter λkv=>decide (kv.1≠k)
def gP{p:κ×V}{r:List (κ×V)}{k:κ}(e:p.1=k):fL (p::r) k=some p.2:=by simp[fL,kn,e]
def gQ{p:κ×V}{r:List (κ×V)}{k:κ}(e: ¬p.1=k):fL (p::r) k=fL r k:=by simp[fL,kn,e]
theorem ox(k:κ): ∀bE:List (κ×V),(bE.any λkv=>decide (kv.1=k))=(fL bE k).isSome
 | []=>rfl
 |p::r=>by
  rw[pS];by_cases e:p.1=k
  ·simp only[gP e,decide_eq_true e,Bool.true_or,M6]
  ·rw[gQ e,decide_eq_false e,IH];exact ox k r
theorem Gk(k j:κ)(y:V): ∀bE:List (κ×V),fL (bE.map λkv=>if kv.1=k then(kv.1,y) else kv) j=(fL bE j).map λx=>if j=k then y else x
 | []=>rfl
 |p::r=>by
  have ih:=Gk k j y r;rw[bB];by_cases h:p.1=k
  ·rw[if_pos h];by_cases e:p.1=j
   ·rw[gP (p:=(p.1,y)) e,gP e,qK,if_pos (e.symm.trans h)]
   ·rw[gQ (p:=(p.1,y)) e,gQ e,ih]
  ·rw[if_neg h];by_cases e:p.1=j
   ·rw[gP (p:=p) e,gP e,qK,if_neg (λz=>h (e.trans z))]
   ·rw[gQ (p:=p) e,gQ e,ih]
theorem Dm(k j:κ)(y:V): ∀bE:List (κ×V),fL bE k=none->fL (bE++[(k,y)]) j=if j=k then some y else fL bE j
 | [],_=>by
  by_cases e:k=j
  ·rw[if_pos e.symm];exact gP (p:=(k,y)) e
  ·rw[if_neg (λz=>e z.symm)];exact gQ (p:=(k,y)) e
 |p::r,hn=>by
  rw[Ca];have hk: ¬p.1=k:=λz=>by rw[gP z] at hn;cases hn
  rw[gQ hk] at hn;have ih:=Dm k j y r hn;by_cases e:p.1=j
  ·rw[gP e,gP e,if_neg (λz=>hk (e.trans z))]
  ·rw[gQ e,gQ e,ih]
def zU(bE:List (κ×V))(k j:κ)(y:V):fL (putK bE k y) j=if j=k then some y else fL bE j:=by
 unfold putK;by_cases a:(bE.any λkv=>decide (kv.1=k))=true
 ·rw[if_pos a,Gk];rw[ox] at a;by_cases e:j=k
  ·obtain⟨x,hx⟩:=oZ.mp a;rw[if_pos e,e,hx,qK,if_pos rfl]
  ·rw[if_neg e];cases fL bE j with
   |none=>rfl
   |some x=>rw[qK,if_neg e]
 ·rw[if_neg a];refine Dm k j y bE ?_;rw[ox] at a;cases q:fL bE k with
  |none=>rfl
  |some x=>rw[q] at a;exact(a rfl).elim
def yw(bE:List (κ×V))(k:κ)(v:V):(putK bE k v).length<=bE.length + 1:=by
 unfold putK;split
 ·rw[ag];omega
 ·rw[aP,bV,TN];omega
def GL{bE:List (κ×V)}{k:κ}(v:V)(h:fL bE k=none):putK bE k v=bE++[(k,v)]:=by
 unfold putK;rw[ox,h];exact if_neg (by decide)
def oW.my{o:Option V}{u:Option Value}(r:oW o u):o.isSome=u.isSome:=by
 cases o with
 |none=>cases u with
  |none=>rfl
  |some _=>exact(show False from r).elim
 |some _=>cases u with
  |none=>exact(show False from r).elim
  |some _=>rfl
theorem oW.getD{o:Option V}{u:Option Value}{d:V}{d':Value}(r:oW o u)(rd:RelV d d'):RelV (o.getD d) (u.getD d'):=by
 cases o with
 |none=>cases u with
  |none=>exact rd
  |some _=>exact(show False from r).elim
 |some _=>cases u with
  |none=>exact(show False from r).elim
  |some _=>exact r
def KV.val{bE:List (κ×V)}{vs:List (κ×Value)}(r:KV bE vs)(k:κ):oW (fL bE k) (valueAt vs k):=by
 unfold KV at r
 induction r with
 |nil=>exact om
 | @cons p q ps qs h t ih=>
  obtain⟨h1,h2⟩:=h;by_cases e:p.1=k
  ·have e':q.1=k:=h1.symm.trans e;have b:valueAt (q::qs) k=some q.2:=by simp[valueAt,kn,e']
   rw[gP e,b];exact h2
  ·have e': ¬q.1=k:=λz=>e (h1.trans z);have b:valueAt (q::qs) k=valueAt qs k:=by simp[valueAt,kn,e']
   rw[gQ e,b];exact ih
theorem KV.any{bE:List (κ×V)}{vs:List (κ×Value)}(r:KV bE vs)(k:κ):(bE.any λkv=>decide (kv.1=k))=vs.any λkv=>decide (kv.1=k):=by
 unfold KV at r
 induction r with
 |nil=>rfl
 |cons h t ih=>rw[pS,pS,ih,h.1]
def KV.Uu{bE:List (κ×V)}{vs:List (κ×Value)}(r:KV bE vs)(k:κ){y:V}{u:Value}(ry:RelV y u):
  KV (bE.map λkv=>if kv.1=k then(kv.1,y) else kv) (vs.map λkv=>if kv.1=k then(kv.1,u) else kv):=by
 unfold KV at r ⊢
 induction r with
 |nil=>exact .nil
 | @cons p q ps qs h t ih=>
  rw[bB,bB];refine .cons ?_ ih;obtain⟨h1,h2⟩:=h;by_cases e:p.1=k
  ·rw[if_pos e,if_pos (h1.symm.trans e)];exact⟨h1,ry⟩
  ·rw[if_neg e,if_neg (λz=>e (h1.trans z))];exact⟨h1,h2⟩
def KV.put{bE:List (κ×V)}{vs:List (κ×Value)}(r:KV bE vs)(k:κ){y:V}{u:Value}(ry:RelV y u):KV (putK bE k y) (stored vs k u):=by
 unfold putK stored;rw[r.any k];by_cases e:(vs.any λkv=>decide (kv.1=k))=true
 ·rw[if_pos e,if_pos e];exact r.Uu k ry
 ·rw[if_neg e,if_neg e];exact Paired.snoc r ⟨rfl,ry⟩
def KV.drop{bE:List (κ×V)}{vs:List (κ×Value)}(r:KV bE vs)(k:κ):KV (j5 bE k) (without vs k):=by
 unfold KV at r ⊢;unfold j5 without
 induction r with
 |nil=>exact .nil
 | @cons p q ps qs h t ih=>
  obtain⟨h1,h2⟩:=h;rw[jG,jG];by_cases e:p.1=k
  ·have a: ¬decide (p.1≠k)=true:=by simp[e]
   have b: ¬decide (q.1≠k)=true:=by simp[h1.symm.trans e]
   rw[if_neg a,if_neg b];exact ih
  ·have e': ¬q.1=k:=λz=>e (h1.trans z);have a:decide (p.1≠k)=true:=by simp[e]
   have b:decide (q.1≠k)=true:=by simp[e']
   rw[if_pos a,if_pos b];exact .cons ⟨h1,h2⟩ ih
theorem KV.length{bE:List (κ×V)}{vs:List (κ×Value)}(r:KV bE vs):bE.length=vs.length:=Paired.length r
def Pn(bE:List (κ×V))(k:κ):(j5 bE k).length<=bE.length:=List.length_filter_le _ _
end
def v7{P:Program}{w:World}{k:Key}{u:Value}(r:RelV (kV k) u):(fW P w).is k u=true:=by
 cases k with
 |inl i=>obtain⟨t,e⟩:=(show∃t,u=Value.int i t from r);subst e;exact rD P w i t
 |inr x=>obtain⟨t,e⟩:=(show∃t,u=Value.str x t from r);subst e;exact Hg P w x t
theorem DZ{P:Program}{w:World}: ∀{ks:List Key} {us:List Value},Vals (ks.map kV) us->ItemsAre (fW P w) ks us
 | [],_,r=>by rw[sf] at r;cases r;exact .nil
 |k::ks,_,r=>by
  rw[bB] at r;cases r with
  |cons h t=>exact .cons (v7 h) (DZ t)
abbrev KT(H:Hp):List (List Key×V)->List (List Key×Addr×Value)->Prop:=Paired λp q=>p.1=q.1/\H q.2.1=some (.tup (p.1.map kV))/\RelV p.2 q.2.2
def KT.val{H:Hp}{bE:List (List Key×V)}{xs:List (List Key×Addr×Value)}(r:KT H bE xs)(k:List Key):oW (fL bE k) ((atKey xs k).map (·.2)):=by
 induction r with
 |nil=>exact om
 | @cons p q ps qs h t ih=>
  obtain⟨h1,_,h2⟩:=h;by_cases e:p.1=k
  ·have e':q.1=k:=h1.symm.trans e;have b:atKey (q::qs) k=some q.2:=by simp[atKey,kn,e']
   rw[gP e,b];exact h2
  ·have e': ¬q.1=k:=λz=>e (h1.trans z);have b:atKey (q::qs) k=atKey qs k:=by simp[atKey,kn,e']
   rw[gQ e,b];exact ih
def KT.Uu{H:Hp}{bE:List (List Key×V)}{xs:List (List Key×Addr×Value)}(r:KT H bE xs)(k:List Key){y:V}{u:Value}(ry:RelV y u):
  KT H (bE.map λkv=>if kv.1=k then(kv.1,y) else kv) (xs.map (putAt k u)):=by
 induction r with
 |nil=>exact .nil
 | @cons p q ps qs h t ih=>
  rw[bB,bB];refine .cons ?_ ih;obtain⟨h1,h2,h3⟩:=h;unfold putAt;by_cases e:p.1=k
  ·rw[if_pos e,if_pos (h1.symm.trans e)];exact⟨h1,h2,ry⟩
  ·rw[if_neg e,if_neg (λz=>e (h1.trans z))];exact⟨h1,h2,h3⟩
def KT.put{H:Hp}{bE:List (List Key×V)}{xs:List (List Key×Addr×Value)}(r:KT H bE xs)(k:List Key){b:Addr}{y:V}{u:Value}(hb:H b=some (.tup (k.map kV)))(ry:RelV y u):
  KT H (putK bE k y) (storedH xs k b u):=by
 have e:(bE.any λkv=>decide (kv.1=k))=(atKey xs k).isSome:=by
  rw[ox,(r.val k).my,xM]
 unfold putK storedH;rw[e];by_cases q:(atKey xs k).isSome=true
 ·rw[if_pos q,if_pos q];exact r.Uu k ry
 ·rw[if_neg q,if_neg q];exact Paired.snoc r ⟨rfl,hb,ry⟩
def KT.keeps{H H':Hp}{bE:List (List Key×V)}{xs:List (List Key×Addr×Value)}(r:KT H bE xs)(ht: ∀b ys,H b=some (.tup ys)->H' b=some (.tup ys)):KT H' bE xs:=
 Paired.ja r λ_ _ z=>⟨z.1,ht _ _ z.2.1,z.2.2⟩
section
variable{P:Program}{w:World}{H:Hp}{h:Heap}{a:Addr}
def SE{u:HO}(ok:r9 P w H h)(e:Rd H a u):gJ P w H h a u:=e.ok ok
def yA{bE:List (Key×V)}(ok:r9 P w H h)(e:Rd H a (.dK bE)):bE.length<=sizeLine/\(a==sysModules)=false/\ ∃vs,KV bE vs/\h.DictOf (fW P w) a vs:=
 show gJ P w H h a (.dK bE) from SE ok e
def Tp{bE:List (Key×V)}(ok:r9 P w H h)(e:H a=some (.dK bE)):bE.length<=sizeLine/\(a==sysModules)=false/\ ∃vs,KV bE vs/\h.DictOf (fW P w) a vs:=yA ok (.inl e)
def xp{ks:List Key}(ok:r9 P w H h)(e:H a=some (.tup (ks.map kV))):(tupleKind (fW P w)).is h ks a:=by
 obtain⟨_,its,r,o,h1,h2,n,h3⟩:=(show gJ P w H h a (.tup (ks.map kV)) from ok a _ e);exact⟨o,its.toArray,n,h1,h2,h3,by simpa using DZ r⟩
def BX{bE:List (List Key×V)}(ok:r9 P w H h)(e:Rd H a (.dT bE)):bE.length<=sizeLine/\(a==sysModules)=false/\
  ∃xs,KT H bE xs/\h.DictOfH (tupleKind (fW P w)) a xs:=by
 obtain⟨z,y,xs,r,o,es,ep,h1,h2,h3,h4,h5⟩:=(show gJ P w H h a (.dT bE) from SE ok e);refine⟨z,y,xs,r,o,es,ep,h1,h2,h3,h4,λx hx=> ?_,h5⟩;have all: ∀{l:List (List Key×V)} {m:List (List Key×Addr×Value)},KT H l m-> ∀x∈m,(tupleKind (fW P w)).is h x.1 x.2.1:=by
  intro l m q
  induction q with
  |nil=>intro x hx;exact nomatch hx
  | @cons p q ps qs hq t ih=>
   intro x hx;rcases aA.mp hx with e|hx
   ·subst e;exact xp ok (by rw[<-hq.1];exact hq.2.1)
   ·exact ih x hx
 exact all r x hx
def Ye{bE:List (List Key×V)}(ok:r9 P w H h)(e:H a=some (.dT bE)):bE.length<=sizeLine/\(a==sysModules)=false/\
  ∃xs,KT H bE xs/\h.DictOfH (tupleKind (fW P w)) a xs:=BX ok (.inl e)
end
def ng(H:Hp)(a:Addr)(y:V)(r:Option V):Prop:=
 (∃bE k,Rd H a (.dK bE)/\y=kV k/\r=fL bE k)\/ ∃bE k b,Rd H a (.dT bE)/\y= .ref b/\H b=some (.tup (k.map kV))/\r=fL bE k
def PV(H:Hp)(a:Addr)(y v:V)(H':Hp):Prop:=
 (∃bE k,H a=some (.dK bE)/\y=kV k/\bE.length<sizeLine/\H'=upd H a (.dK (putK bE k v)))\/
 ∃bE k b,H a=some (.dT bE)/\y= .ref b/\H b=some (.tup (k.map kV))/\bE.length<sizeLine/\H'=upd H a (.dT (putK bE k v))
theorem ng.k{H:Hp}{a:Addr}{bE:List (Key×V)}{k:Key}(e:H a=some (.dK bE)):ng H a (kV k) (fL bE k):= .inl ⟨bE,k,.inl e,rfl,rfl⟩
theorem PV.k{H:Hp}{a:Addr}{bE:List (Key×V)}{k:Key}{v:V}(e:H a=some (.dK bE))(hl:bE.length<sizeLine):PV H a (kV k) v (upd H a (.dK (putK bE k v))):= .inl ⟨bE,k,e,rfl,hl,rfl⟩
section
variable{X:Cx}{pins:List (Addr×Obj)}{σ:St}{H:Hp}{s:Shared}{a:Addr}{y v:V}{u r:Value}{o:Option V}{A:Around}{E:Value->Shared->Prop}
def Inv.big(I:Inv X pins σ H s):sysModules<s.heap.objs.size:=by
 have h:mainGlobals<s.heap.objs.size:=(I.mod.glob.keeps I.bk).lt;exact Nat.lt_trans (by decide) h
def MN{Q:Value->Shared->Prop}(hu:A.units + 1<cLine)(I:Inv X pins σ H s)(g:ng H a y (some v))(ry:RelV y u)(h: ∀w' s',Inv X pins σ H s'->RelV v w'->Q w' s'):
  wpAny (model X.prog X.w) A (getItem (.ref a) u) Q E s:=by
 rcases g with⟨bE,k,e,ey,l⟩|⟨bE,k,b,e,ey,eb,l⟩
 ·subst ey;obtain⟨z,hd,vs,rel,dd⟩:=yA I.eC e;obtain⟨w',hw,GG⟩:=oW.some_of (v:=v) (o:=valueAt vs k) (by rw[l];exact rel.val k);exact wpAny_getItem_of (v7 ry) dd.mapOf hw (h w' _ (I.tok _) GG)
 ·subst ey;cases(show u=Value.ref b from ry);obtain⟨z,hd,xs,rel,dd⟩:=BX I.eC e;obtain⟨w',hw,GG⟩:=oW.some_of (v:=v) (o:=(atKey xs k).map (·.2)) (by rw[l];exact rel.val k);obtain⟨p,hp,uV⟩:=Option.map_eq_some_iff.mp hw;refine wpAny_getItem_heap (tupleKind_room_in1 hu) (xp I.eC eb) dd hp ?_;rw[uV];exact h w' _ (I.tok _) GG
def abB{Q:Value->Shared->Prop}(hu:A.units + 1<cLine)(I:Inv X pins σ H s)(g:ng H a y o)(ry:RelV y u)(h: ∀s',Inv X pins σ H s'->Q (.bool o.isSome) s'):
  wpAny (model X.prog X.w) A (compareOp .In u (.ref a)) Q E s:=by
 rcases g with⟨bE,k,e,ey,l⟩|⟨bE,k,b,e,ey,eb,l⟩
 ·subst ey;obtain⟨z,hd,vs,rel,dd⟩:=yA I.eC e;refine wpAny_in_of (v7 ry) hd dd.mapOf ?_;rw[<-(rel.val k).my,<-l];exact h _ (I.tok _)
 ·subst ey;cases(show u=Value.ref b from ry);obtain⟨z,hd,xs,rel,dd⟩:=BX I.eC e;refine wpAny_in_heap (tupleKind_room_in1 hu) (xp I.eC eb) hd dd ?_;have q:=(rel.val k).my;rw[xM] at q;rw[<-q,<-l];exact h _ (I.tok _)
def RZ{Q:Value->Shared->Prop}(hu:A.units + 1<cLine)(I:Inv X pins σ H s)(g:ng H a y o)(ry:RelV y u)(h: ∀s',Inv X pins σ H s'->Q (.bool (!o.isSome)) s'):
  wpAny (model X.prog X.w) A (compareOp .NotIn u (.ref a)) Q E s:=by
 rcases g with⟨bE,k,e,ey,l⟩|⟨bE,k,b,e,ey,eb,l⟩
 ·subst ey;obtain⟨z,hd,vs,rel,dd⟩:=yA I.eC e;refine wpAny_notIn_of (v7 ry) hd dd.mapOf ?_;rw[<-(rel.val k).my,<-l];exact h _ (I.tok _)
 ·subst ey;cases(show u=Value.ref b from ry);obtain⟨z,hd,xs,rel,dd⟩:=BX I.eC e;refine wpAny_notIn_heap (tupleKind_room_in1 hu) (xp I.eC eb) hd dd ?_;have q:=(rel.val k).my;rw[xM] at q;rw[<-q,<-l];exact h _ (I.tok _)
def FE{h':Heap}{t':Nat}{ob:HO}(I:Inv X pins σ H s)(mu:TB (H a))(hs:Heap.SameBut a s.heap h')(he: ∃q,h'.get? a=some q)(new:gJ X.prog X.w (upd H a ob) h' a ob):
  Inv X pins σ (upd H a ob) {s with heap:=h',toks:=t'}:=
 I.write (x:=a) (e:=a) mu (.inl rfl) (λb q hb z=>(hs.2 b hb).trans z) he new
def Pp{P:Program}{w:World}{H':Hp}{h':Heap}{bE:List (Key×V)}{vs:List (Key×Value)}(z:bE.length<=sizeLine)(hd:(a==sysModules)=false)(rel:KV bE vs)(dd:h'.DictOf (fW P w) a vs):
  gJ P w H' h' a (.dK bE):=⟨z,hd,vs,rel,dd⟩
def MM{H':Hp}{Q:Unit->Shared->Prop}(hu:A.units + 1<cLine)(I:Inv X pins σ H s)(g:PV H a y v H')(ry:RelV y u)(rv:RelV v r)(h: ∀s',Inv X pins σ H' s'->Q () s'):
  wpAny (model X.prog X.w) A (setItem (.ref a) u r) Q E s:=by
 rcases g with⟨bE,k,e,ey,l,eH⟩|⟨bE,k,b,e,ey,eb,l,eH⟩
 ·subst ey eH;obtain⟨z,hd,vs,rel,dd⟩:=Tp I.eC e;have hz:vs.length<=sizeLine:=by rw[<-rel.length];exact z
  have hl:(putK bE k v).length<=sizeLine:=by have:=yw bE k v;omega
  refine wpAny_setItem_pairs (hsz:=hz) (v7 ry) dd λh' Vq hs=>h _ ?_;have he: ∃q,h'.get? a=some q:=let ⟨q,_,_,hq,_⟩:=Vq;⟨q,hq⟩;exact FE I (by rw[e];exact om) hs he (Pp hl hd (rel.put k rv) Vq)
 ·subst ey eH;cases(show u=Value.ref b from ry);obtain⟨z,hd,xs,rel,dd⟩:=Ye I.eC e;have hz:xs.length<=sizeLine:=by rw[<-Paired.length rel];exact z
  have hl:(putK bE k v).length<=sizeLine:=by have:=yw bE k v;omega
  refine wpAny_setItem_heap (hsz:=hz) (tupleKind_room_in1 hu) (xp I.eC eb) dd λh' Vq hs=>h _ ?_;obtain⟨q,es,ep,hq,h2,h3,h4,_,h5⟩:=Vq;refine FE I (by rw[e];exact om) hs ⟨q,hq⟩ ⟨hl,hd,_,(rel.put k eb rv).keeps λc ys ec=> ?_,q,es,ep,hq,h2,h3,h4,h5⟩;rw[aJ (jw ec e (λz=>nomatch z))];exact ec
end
section
variable{X:Cx}{pins:List (Addr×Obj)}{σ:St}{H:Hp}{s:Shared}{a:Addr}{bE:List (Key×V)}{k:Key}{u:Value}{A:Around}{E:Value->Shared->Prop}
def Yh{v:V}{more:List Value}{Q:Value->Shared->Prop}(I:Inv X pins σ H s)(e:H a=some (.dK bE))(ry:RelV (kV k) u)(l:fL bE k=some v)(hm:more=[]\/ ∃x,more=[x])
  (h: ∀w' s',Inv X pins σ (upd H a (.dK (j5 bE k))) s'->RelV v w'->Q w' s'):wpAny (model X.prog X.w) A (call (.builtin "dict.pop") (.ref a::u::more)) Q E s:=by
 obtain⟨z,hd,vs,rel,dd⟩:=Tp I.eC e;obtain⟨w',hw,GG⟩:=oW.some_of (v:=v) (o:=valueAt vs k) (by rw[<-l];exact rel.val k);have hp:(keyPart u).isSome=true:=by
  cases k with
  |inl i=>obtain⟨t,q⟩:=(show∃t,u=Value.int i t from ry);subst q;rfl
  |inr x=>obtain⟨t,q⟩:=(show∃t,u=Value.str x t from ry);subst q;rfl
 have ha:argsOk "dict.pop" ⟨.ref a::u::more,[]⟩:=by
  rcases hm with q|⟨x,q⟩
  ·subst q;exact PySem.F.args_dict_pop_2 _ _
  ·subst q;exact PySem.F.args_dict_pop_3 _ _ _
 refine call_meetsIn ID dd.typeIs PySem.F.entry_dict_pop ha (meets_dict_pop_there (fW X.prog X.w) a (v7 ry) more hm hp)
  ⟨vs,w',dd,by rw[<-rel.length];exact z,hw,λh' Vq hs=>h w' _ ?_ GG⟩
 have he: ∃q,h'.get? a=some q:=let ⟨q,_,_,hq,_⟩:=Vq;⟨q,hq⟩;exact FE I (by rw[e];exact om) hs he (Pp (cH (Pn bE k) z) hd (rel.drop k) Vq)
def Yi{Q:Value->Shared->Prop}(I:Inv X pins σ H s)(e:Rd H a (.dK bE))(h: ∀t s',Inv X pins σ H s'->Q (.int bE.length t) s'):wpAny (model X.prog X.w) A (call (.builtin "len") [.ref a]) Q E s:=by
 obtain⟨z,hd,vs,rel,dd⟩:=yA I.eC e;refine call_len_dict hd dd (by rw[<-rel.length];rw[sizeLine_eq] at z;omega) ?_;rw[<-rel.length];exact h _ _ (I.tok _)
end
def VA(i:Expr):Prop:= ∀ov iv,subscripted i false ov iv=operate [ov,iv] (getItem ov iv)
def Kr{prog:Program}{w:World}{A:Around}{E:Value->Shared->Prop}{s:Shared}{env:Env}{value slice:Expr}{pos:Pos}{T id:String}{Q:Value->Shared->Prop}
  (hl:typeLookup (.type T) "__getitem__"=pure (some (.builtin id))) (hs:VA slice)
  (h:wpAny (model prog w) A (eval value env) (λo gd=>wpAny (model prog w) A (eval slice env) (λi zX=>zX.TypeIs o T/\wpAny (model prog w) A (getItem o i) Q E zX) E gd) E s):
  wpAny (model prog w) A (eval (.Subscript value slice pos) env) Q E s:=by
 refine Subscript_ (wpAny_mono h (λo gd Ma=>wpAny_mono Ma (λi zX OR=> ?_) λ_ _ x=>x) λ_ _ x=>x);obtain⟨hT,OR⟩:=OR;unfold subscriptTail;refine wpAny_bind ?_;rw[getitemInPython_of_ne hT.not_modules];refine wpAny_bind (wpAny_specialOf hT hl ?_);have fin:wpAny (model prog w) A (subscripted slice false o i) (λr Ly=>wpAny (model prog w) A (letTemporaryGo value o r >>=λ_=>pure r) Q E Ly) E zX:=by
  rw[hs o i];exact wpAny_operating (wpAny_mono OR (λr Ly Rz=>wpAny_bind (wpAny_letTemporaryGo (wpAny_pure Rz))) λ_ _ x=>x)
 first
  |exact wpAny_pure (wpAny_bind fin)
  |exact wpAny_bind (wpAny_pure (wpAny_bind fin))
  |exact wpAny_bind fin
def HW{X:Cx}{pins:List (Addr×Obj)}{σ:St}{H:Hp}{s:Shared}{a:Addr}{y:V}{o:Option V}(I:Inv X pins σ H s)(g:ng H a y o):s.TypeIs (.ref a) "dict":=by
 rcases g with⟨bE,k,e,_,_⟩|⟨bE,k,b,e,_,_,_⟩
 ·obtain⟨_,_,vs,_,dd⟩:=yA I.eC e;exact dd.typeIs
 ·obtain⟨_,_,xs,_,dd⟩:=BX I.eC e;exact dd.typeIs
def WE(td ty:TE):TE:=λσ H Q=>td σ H λx H1=>ty σ H1 λy H2=> ∃a v,x= .ref a/\ng H2 a y (some v)/\Q v H2
def Zx(ty td:TE):TE:=λσ H Q=>ty σ H λy H1=>td σ H1 λx H2=> ∃a o,x= .ref a/\ng H2 a y o/\Q (.bl o.isSome) H2
def QH(ty td:TE):TE:=λσ H Q=>ty σ H λy H1=>td σ H1 λx H2=> ∃a o,x= .ref a/\ng H2 a y o/\Q (.bl (!o.isSome)) H2
def WM(td ty tv:TE):TS:=λD σ H=>tv σ H λv H1=>td σ H1 λx H2=>ty σ H2 λy H3=> ∃a H4,x= .ref a/\PV H3 a y v H4/\D.nx σ H4
section
variable{X:Cx}{o i e value:Expr}{pos pos' qQ:Pos}{td ty tv:TE}
def Q4(hu:X.A.units + 1<cLine)(ho:PE X o td)(hi:PE X i ty)(hs:VA i):PE X (.Subscript o i pos) (WE td ty):=by
 exists 13;refine Kr Dg.lookup hs (gb (ho pins s σ H _ I h) λu s1 ⟨x,H1,I1,rx,q1⟩=>gb (hi pins s1 σ H1 _ I1 q1) λiv s2 ⟨y,H2,I2,ry,a,v,ex,g,q2⟩=> ?_);subst ex;obtain rfl:u=Value.ref a:=rx;exact⟨HW I2 g,MN hu I2 g ry λw' s3 I3 GG=>⟨v,H2,I3,GG,q2⟩⟩
def Og(hu:X.A.units + 1<cLine)(hi:PE X i ty)(ho:PE X o td):PC X .In i o (Zx ty td):=by
 exists 13;refine gb (hi pins s σ H _ I h) λiv s1 ⟨y,H1,I1,ry,q1⟩=>gb (ho pins s1 σ H1 _ I1 q1) λu s2 ⟨x,H2,I2,rx,a,ov,ex,g,q2⟩=> ?_;subst ex;obtain rfl:u=Value.ref a:=rx;exact abB hu I2 g ry λs3 I3=>⟨.bl ov.isSome,H2,I3,rfl,q2⟩
def LJ(hu:X.A.units + 1<cLine)(hi:PE X i ty)(ho:PE X o td):PC X .NotIn i o (QH ty td):=by
 exists 13;refine gb (hi pins s σ H _ I h) λiv s1 ⟨y,H1,I1,ry,q1⟩=>gb (ho pins s1 σ H1 _ I1 q1) λu s2 ⟨x,H2,I2,rx,a,ov,ex,g,q2⟩=> ?_;subst ex;obtain rfl:u=Value.ref a:=rx;exact RZ hu I2 g ry λs3 I3=>⟨.bl (!ov.isSome),H2,I3,rfl,q2⟩
def QT(hu:X.A.units + 1<cLine)(ho:PE X o td)(hi:PE X i ty)(hv:PE X value tv)(hs:swapsWith value (some (.Subscript o i pos')) pos.line X.env=pure false):
  PS X (.Assign [.Subscript o i pos'] value pos) (WM td ty tv):=by
 intro pins s σ H D I h;refine wpAny_Assign_Subscript (gb (hv pins s σ H _ I h) λr s1 ⟨v,H1,I1,rv,q1⟩=>gb (ho pins s1 σ H1 _ I1 q1) λu s2 ⟨x,H2,I2,rx,q2⟩=>gb (hi pins s2 σ H2 _ I2 q2) λiv s3 ⟨y,H3,I3,ry,a,H4,ex,g,q3⟩=> ?_) hs;subst ex;obtain rfl:u=Value.ref a:=rx;exact MM hu I3 g ry rv λs4 I4=>⟨σ,H4,I4,q3⟩
end
def Pq{P:Program}{w:World}{H:Hp}(h:Heap)(hb:sysModules<h.objs.size):gJ P w H (h.push {cls:= .type "dict",data:= .dict #[]}) h.objs.size (.dK []):=
 ⟨aC _,beq_eq_false_iff_ne.mpr (bG (cv hb)),[],.nil,Heap.DictOf.new h⟩
def Ui:TE:=λ_ H Q=> ∀p,H p=none->Q (.ref p) (upd H p (.dK []))
section
variable{X:Cx}{pos:Pos}
def Od:PE X (.Dict [] [] pos) Ui:=λpins s σ H Q I h=>
 wpAny_Dict_empty ⟨.ref s.heap.objs.size,_,I.laid (a:=s.heap.objs.size) (o:= .dK []) (t':=s.toks) (λ_ _ q=>Heap.get?_push_of_some _ q) (aE _) (Pq s.heap I.big),rfl,h _ (I.eC.fresh (aE _))⟩
end
structure M1(X:Cx)(o:Expr)(m:Str)(apos:Pos)(e:Expr)(qD:Pos):Prop where
 base:attributeBase o m X.env (eval o X.env)=eval o X.env
 few:((backTo qD (starEach [e] X.env)).all (λx=> !x.1)&&(backToKw qD (keywordEach [] X.env)).all (λx=>x.1.isSome)
  &&decide (([e]:List Expr).length +([]:List Keyword).length +(if([]:List Keyword).isEmpty then 0 else 1)<30))=true
 line:(apos.endLine==qD.line)=true
 trees:backTo qD (starEach [e] X.env)=[(false,eval e X.env)]
def IsD(H:Hp)(a:Addr):Prop:=(∃bE,Rd H a (.dK bE))\/ ∃bE,Rd H a (.dT bE)
def OP{X:Cx}{pins:List (Addr×Obj)}{σ:St}{H:Hp}{s:Shared}{a:Addr}(I:Inv X pins σ H s)(d:IsD H a):
  s.TypeIs (.ref a) "dict"/\(∀b,Value.ref a= .ref b-> ∃ob,s.heap.get? b=some ob/\ob.dict=none)/\(a==sysModules)=false:=by
 rcases d with⟨bE,e⟩|⟨bE,e⟩
 ·obtain⟨_,hd,vs,_,dd⟩:=yA I.eC e;refine⟨dd.typeIs,λb q=> ?_,hd⟩;cases q;obtain⟨ob,_,_,h1,h2,_⟩:=dd;exact⟨ob,h1,h2.2.1⟩
 ·obtain⟨_,hd,xs,_,dd⟩:=BX I.eC e;refine⟨dd.typeIs,λb q=> ?_,hd⟩;cases q;obtain⟨ob,_,_,h1,h2,_⟩:=dd;exact⟨ob,h1,h2.2.1⟩
section
variable{X:Cx}{pins:List (Addr×Obj)}{σ:St}{H:Hp}{s:Shared}{a:Addr}{y d:V}{u r:Value}{o:Option V}{A:Around}{E:Value->Shared->Prop}
def Vs{Q:Value->Shared->Prop}(hu:A.units + 1<cLine)(I:Inv X pins σ H s)(g:ng H a y o)(ry:RelV y u)(h: ∀w' s',Inv X pins σ H s'->RelV (o.getD .fC) w'->Q w' s'):
  wpAny (model X.prog X.w) A (call (.builtin "dict.get") [.ref a,u]) Q E s:=by
 rcases g with⟨bE,k,e,ey,l⟩|⟨bE,k,b,e,ey,eb,l⟩
 ·subst ey;obtain⟨z,hd,vs,rel,dd⟩:=yA I.eC e;refine call_meetsIn qJ dd.typeIs Gf (F0 _ _) (meets_dict_get (fW X.prog X.w) a (v7 ry) hd) ⟨_,dd.mapOf,h _ _ (I.tok _) ?_⟩;rw[l];exact(rel.val k).getD rfl
 ·subst ey;cases(show u=Value.ref b from ry);obtain⟨z,hd,xs,rel,dd⟩:=BX I.eC e;refine call_meetsIn qJ dd.typeIs Gf (F0 _ _) (meetsH_dict_get (tupleKind (fW X.prog X.w)) a b hd) ⟨tupleKind_room_in1 hu,k,xs,xp I.eC eb,dd,h _ _ (I.tok _) ?_⟩;rw[l];exact(rel.val k).getD rfl
end
def Uj(td ty:TE):TE:=λσ H Q=>td σ H λx H1=> ∃a,x= .ref a/\IsD H1 a/\ty σ H1 λy H2=> ∃o,ng H2 a y o/\Q (o.getD .fC) H2
def Uh(td ty:TE):TE:=λσ H Q=>td σ H λx H1=> ∃a,x= .ref a/\IsD H1 a/\ty σ H1 λy H2=> ∃bE k v,H2 a=some (.dK bE)/\y=kV k/\fL bE k=some v/\Q v (upd H2 a (.dK (j5 bE k)))
section
variable{X:Cx}{o e f:Expr}{apos qD:Pos}{td ty tx:TE}
def mF(hu:X.A.units + 1<cLine)(ho:PE X o td)(he:PE X e ty)(m:M1 X o "get" apos e qD):PE X (.Call (.Attribute o "get" apos) [e] [] qD) (Uj td ty):=by
 exists 13;refine wpAny_Call_method m.base m.few m.line FZ qJ PySem.F.type_dict_get (gb (ho pins s σ H _ I h) λu s1 ⟨x,H1,I1,rx,a,ex,d,q1⟩=> ?_);subst ex;obtain rfl:u=Value.ref a:=rx;obtain⟨t1,t2,_⟩:=OP I1 d;refine⟨t1,t2,?_⟩;rw[m.trees];refine Calls.callWith_builtin rfl (Calls.evalArgs_plain (Calls.spliced_cons (gb (he pins s1 σ H1 _ I1 q1) λiv s2 ⟨y,H2,I2,ry,ov,g,q2⟩=>Calls.spliced_nil ?_)));exact Vs hu I2 g ry λw' s3 I3 GG=>⟨_,H2,I3,GG,q2⟩
def Oc(ho:PE X o td)(he:PE X e ty)(m:M1 X o "pop" apos e qD):PE X (.Call (.Attribute o "pop" apos) [e] [] qD) (Uh td ty):=by
 exists 13;refine wpAny_Call_method m.base m.few m.line FZ ID PySem.F.type_dict_pop (gb (ho pins s σ H _ I h) λu s1 ⟨x,H1,I1,rx,a,ex,d,q1⟩=> ?_);subst ex;obtain rfl:u=Value.ref a:=rx;obtain⟨t1,t2,_⟩:=OP I1 d;refine⟨t1,t2,?_⟩;rw[m.trees];refine Calls.callWith_builtin rfl (Calls.evalArgs_plain (Calls.spliced_cons (gb (he pins s1 σ H1 _ I1 q1) λiv s2 ⟨y,H2,I2,ry,bE,k,v,ea,ey,l,q2⟩=>Calls.spliced_nil ?_)));subst ey;exact Yh I2 ea ry l (.inl rfl) λw' s3 I3 GG=>⟨v,_,I3,GG,q2⟩
end
section
variable{X:Cx}{pins:List (Addr×Obj)}{σ:St}{H:Hp}{s:Shared}{a:Addr}{bE:List (Key×V)}{A:Around}{E:Value->Shared->Prop}
end
section
variable{X:Cx}{pins:List (Addr×Obj)}{σ:St}{H:Hp}{s:Shared}{a:Addr}{y:V}{u:Value}{A:Around}{E:Value->Shared->Prop}
end
end L2
namespace L2
open PySem PySem.Spec PyProof.Rows
section
variable{prog:Program}{w:World}{A:Around}{E:Value->Shared->Prop}
end
section
variable{X:Cx}
end
end L2
namespace L2
open PySem PySem.Spec PyProof.Rows
def rV:bootBuiltins "reversed"=some (.type "reversed"):=by decide +kernel
section
variable{X:Cx}{pins:List (Addr×Obj)}{σ:St}{H:Hp}{s:Shared}{h':Heap}
def Inv.EC{t':Nat}{ch:List Addr}(I:Inv X pins σ H s)(k: ∀b o,b∉ch->s.heap.get? b=some o->h'.get? b=some o)(hf: ∀b∈ch,wH X pins H b):Inv X pins σ H {s with heap:=h',toks:=t'}:=by
 have SN: ∀b u,H b=some u->b∉ch:=λb u e z=>by
  have q:=(hf b z).1;rw[q] at e;cases e
 refine I.step (g':=s.gens) (d':=s.drawn) (ch:=ch) (λb hb=>⟨(hf b hb).2.2.2.1,(hf b hb).2.1,(hf b hb).2.2.2.2.1,(hf b hb).2.2.2.2.2⟩) (λb o _ _ hc e _=>k b o hc e) (λb o _ _ hc e _=>⟨o.slots,k b o hc e⟩)
  (λ_ _ _ _ n=>n) (λb o hc e=>⟨o,k b o hc e⟩) (λ_ _ e=>e) (λ_ _ _ e=>e) (λb ps e=>⟨#[],by rw[e];simp⟩) (λm hm=> ?_) (λb u e=> ?_) I.bare
 ·obtain⟨o,es,ep,ho,r⟩:=hm;exact⟨o,es,ep,k _ o (λz=>(hf _ z).2.1 rfl) ho,r⟩
 ·refine(I.eC b u e).dA (λc v hc q=>k c v ?_ q) (λ_ q=>q) λ_ _ q=>q;rcases hc with z|z
  ·rw[z];exact SN b u e
  ·exact SN c _ z
def Inv.sr{t':Nat}{ch:List Addr}{T:Addr}{ob:HO}(I:Inv X pins σ H s)(k: ∀b o,b∉ch->s.heap.get? b=some o->h'.get? b=some o)(hf: ∀b∈ch,wH X pins H b)(hT:s.heap.objs.size<=T)
  (new:gJ X.prog X.w (upd H T ob) h' T ob):Inv X pins σ (upd H T ob) {s with heap:=h',toks:=t'}:=by
 have hn:H T=none:=I.eC.fresh hT;have SN: ∀b u,H b=some u->b∉ch:=λb u e z=>by
  have q:=(hf b z).1;rw[q] at e;cases e
 refine I.step (g':=s.gens) (d':=s.drawn) (ch:=ch) (λb hb=>⟨(hf b hb).2.2.2.1,(hf b hb).2.1,(hf b hb).2.2.2.2.1,(hf b hb).2.2.2.2.2⟩) (λb o _ _ hc e _=>k b o hc e) (λb o _ _ hc e _=>⟨o.slots,k b o hc e⟩)
  (λb o _ e n=> ?_) (λb o hc e=>⟨o,k b o hc e⟩) (λb xs e=> ?_) (λb o u e=> ?_) (λb ps e=>⟨#[],?_⟩) (λm hm=> ?_) (λb u e=> ?_) I.bare
 ·rw[aJ (cv (cp (Heap.lt_size e) hT))];exact n
 ·rw[aJ (aO e hn)];exact e
 ·rw[aJ (aO e hn)];exact e
 ·rw[aJ (aO e hn),e];simp
 ·obtain⟨o,es,ep,ho,r⟩:=hm;exact⟨o,es,ep,k _ o (λz=>(hf _ z).2.1 rfl) ho,r⟩
 ·by_cases hb:b=T
  ·subst hb;rw[ak] at e;cases e;exact new
  ·rw[aJ hb] at e;refine(I.eC b u e).dA (λc v hc q=>k c v ?_ q) (λc q=>by rw[aJ (aO q hn)];exact q) λc xs q=>by rw[aJ (aO q hn)];exact q
   rcases hc with z|z
   ·rw[z];exact SN b u e
   ·exact SN c _ z
def Inv.lock{d:Addr}{u:HO}(I:Inv X pins σ H s)(h:H d=some u)(mu:TB (some u)): ∃od,Inv X pins σ (upd H d (.qI od u)) s:=by
 have x:=I.eC d u h;have ex: ∃od,s.heap.get? d=some od:=by
  cases u with
  |lst xs=>obtain⟨_,_,_,_,e⟩:=x;exact⟨_,e⟩
  |dK bE=>obtain⟨_,_,_,_,o,_,_,e,_⟩:=x;exact⟨o,e⟩
  |dT bE=>obtain⟨_,_,_,_,o,_,_,e,_⟩:=x;exact⟨o,e⟩
  |set S n=>obtain⟨o,_,_,_,e,_⟩:=x;exact⟨o,e⟩
  |ins C dx fs=>obtain⟨_,_,_,e,_⟩:=x;exact⟨_,e⟩
  |ext φ=>obtain⟨_,⟨_,e⟩,_⟩:=x;exact⟨_,e⟩
  |_=>exact d5 mu
 obtain⟨od,e⟩:=ex;have new:gJ X.prog X.w (upd H d (.qI od u)) s.heap d (.qI od u):=by
  refine⟨e,x.dA (λb v _ q=>q) (λb q=> ?_) λb xs q=> ?_⟩
  ·rw[aJ (λz=>by rw[z,h] at q;cases q;exact mu)];exact q
  ·rw[aJ (λz=>by rw[z,h] at q;cases q;exact mu)];exact q
 exact⟨od,I.write (x:=d) (e:=d) (t':=s.toks) (h':=s.heap) (by rw[h];exact mu) (.inl rfl) (λb v _ q=>q) ⟨od,e⟩ new⟩
def Inv.W4{d:Addr}{u:HO}(I:Inv X pins σ H s)(h:H d=some u)(mu:TB (some u)): ∀o' u',X.VB d≠some (.qI o' u'):=λo' u' e=>by
 have q:=I.base.Bx d o' u' e;rw[h] at q;cases q;exact mu
def Inv.unlock{d:Addr}{od:Obj}{u:HO}(I:Inv X pins σ H s)(h:H d=some (.qI od u))(hn: ∀o' u',X.VB d≠some (.qI o' u')):Inv X pins σ (upd H d u) s:=by
 have VP: ∀b o,H b=some o->(∀o' u',o≠ .qI o' u')->b≠d:=λb o e pC z=>by
  rw[z,h] at e;cases e;exact pC _ _ rfl
 have neN: ∀b,H b=none->b≠d:=λb e z=>by rw[z,h] at e;cases e
 refine⟨I.ok,I.os,I.bare,⟨I.base.keep,I.base.slot,λb o e n hx=> ?_,I.base.there,λb xs e=> ?_,λb o x e=> ?_,λb ps e=> ?_⟩,I.loc,I.cell,?_,λx c e=> ?_,λp hp=> ?_,λb o e=> ?_,I.len⟩
 ·rw[aJ (neN b (I.base.free b o e n hx))];exact I.base.free b o e n hx
 ·have q:=I.base.ED b xs e;rw[aJ (VP b _ q (λ_ _ z=>nomatch z))];exact q
 ·have q:=I.base.Bx b o x e;rw[aJ (λz=>by rw[z] at e;exact hn _ _ e)];exact q
 ·obtain⟨m,q⟩:=I.base.EE b ps e;exact⟨m,by rw[aJ (VP b _ q (λ_ _ z=>nomatch z))];exact q⟩
 ·rw[aJ (neN _ I.free)];exact I.free
 ·rw[aJ (neN c (I.oP x c e))];exact I.oP x c e
 ·obtain⟨e,n,r⟩:=I.pin p hp;exact⟨e,by rw[aJ (neN _ n)];exact n,r⟩
 ·by_cases hb:b=d
  ·rw[hb,ak] at e;cases e;rw[hb];obtain⟨_,x⟩:=I.eC d _ h;exact x.dA (λc v _ q=>q) (λc q=>by rw[aJ (VP c _ q (λ_ _ z=>nomatch z))];exact q) λc xs q=>by rw[aJ (VP c _ q (λ_ _ z=>nomatch z))];exact q
  ·rw[aJ hb] at e;exact(I.eC b o e).dA (λc v _ q=>q) (λc q=>by rw[aJ (VP c _ q (λ_ _ z=>nomatch z))];exact q) λc xs q=>by rw[aJ (VP c _ q (λ_ _ z=>nomatch z))];exact q
end
def Ug(t:TE):TE:=λσ H Q=> ∃d u,H d=some u/\TB (some u)/\ ∀od,t σ (upd H d (.qI od u)) λv H'=>H' d=some (.qI od u)/\Q v (upd H' d u)
section
variable{X:Cx}
def KC{e:Expr}{t:TE}(h:PE X e t):PE X e (Ug t):=by
 intro pins s σ H Q I hw;obtain⟨d,u,hd,mu,hw⟩:=hw;obtain⟨od,I1⟩:=I.lock hd mu;refine gb (h pins s σ _ _ I1 (hw od)) λv s1 ⟨x,H1,I2,r,e2,q⟩=> ?_;exact⟨x,_,I2.unlock e2 (I.W4 hd mu),r,q⟩
def EN{tg:Expr}{pins:List (Addr×Obj)}{σ:St}{H:Hp}{s:Shared}{R:It->Hp->Prop}{J:It}{tn:Nat->Heap->Prop}{tk:Nat}(I:Inv X pins σ H s)(o:Obj)
  (T:Turn X.prog X.w X.K tg J [s.heap.objs.size] s.heap.objs.size tn) (st:tn 0 (s.heap.push o)) (q:R J H):PIE X pins σ tg R (.ref s.heap.objs.size) {s with heap:=s.heap.push o,toks:=tk}:=by
 refine⟨s.heap.objs.size,[s.heap.objs.size],tn,J,H,rfl,I.kept λb ob e=>Heap.get?_push_of_some _ e,T,st,λb hb=> ?_,q⟩;have e:b=s.heap.objs.size:=by simpa using hb
 subst e;exact I.Fd (aE _) (I.eC.fresh (aE _))
end
def Yz(lo c:Int)(n:Nat):It:=⟨λi _=>i<n,λi H x H'=>H'=H/\x= .int (lo +(i:Nat)*c),λi _=>n<=i⟩
def Gn{P:Program}{w:World}{K:ab}{tg:Expr}(it:Addr)(lo c:Int)(n:Nat):Turn P w K tg (Yz lo c n) [it] it (λi h=>IsRangeIter h it (lo +(i:Nat)*c) ((n:Int)-(i:Nat)) c) where
 mem:=by simp
 obj:=λi h st b hb=>by
  have e:b=it:=by simpa using hb
  subst e;exact⟨_,st,λv z=>nomatch z⟩
 keep:=λi h h' st k=>k it (by simp) _ st
 item:=by
  exists 4;exists 15;have W:=Walks.range (prog:=X.prog) (w:=X.w) (I.ok.hd hc) it lo c n;refine W.item i s _ _ hg st λv h' tk hv Jm kk=> ?_;obtain⟨t,rfl⟩:=hv;have I1:Inv X pins σ H {s with heap:=h',toks:=tk}:=I.turned (λb o hb e=>kk b o (by simpa using hb) e) f0 f1 f3 f4 f5;exact⟨_,rfl,Hy (s:={s with heap:=h',toks:=tk}) (n:="range_iterator") Jm rfl rfl (by decide) ⟨.int (lo +(i:Nat)*c),H,I1,⟨t,rfl⟩,⟨rfl,rfl⟩,Jm,λb hb=>(hf b hb).1⟩⟩
 done:=by
  exists 4;exists 15;exact wpAny_pyNext_range_end (I.ok.hd hc) st (by have:n<=i:=hg;omega) λh' eb=>⟨rfl,I.turned (t':=s.toks) (λb o hb e=>eb b o hb e) f0 f1 f3 f4 f5⟩
 self:=λA i s Q E st h=>wpAny_pyIter_rangeiter st h
def RgC(i j c:Int)(n:Nat):Prop:=c≠0/\c.natAbs<1073741824/\Builtin.Range.small i j c=true/\Builtin.Range.rangeSize i j c=n
def Xg(ta:TA):TI:=λσ H R=>ta σ H λvs H1=> ∃(i j c:Int) (n:Nat),vs=[.int i,.int j,.int c]/\RgC i j c n/\R (Yz i c n) H1
section
variable{X:Cx}{tg:Expr}
def DK{a b c:Expr}{ta:TA}{p pos:Pos}(hg:Gl X "range")(hm:X.mg "range"=none)(ha:PA X [a,b,c] ta)
  (hs:starEach [a,b,c] X.env=(false,eval a X.env)::starEach [b,c] X.env:=by rfl) (m5:(backTo pos (starEach [b,c] X.env)).any (·.1)=false:=by rfl):
  PI X tg (.Call (.Name "range" p) [a,b,c] [] pos) (Xg ta):=by
 intro pins s σ H R I h;refine Call_ (lO I hg hm boot_range (ck (gb (ha pos pins s σ H _ I h) λus s1 ⟨vs,H1,I1,r1,q1⟩=> ?_) hs m5));obtain⟨i,j,k,n,e,⟨c0,c1,c2,c3⟩,q⟩:=q1;subst e;cases r1 with
 |cons r rr=>
  cases rr with
  |cons r' rr=>
   cases rr with
   |cons ZQ rr=>
    cases rr;obtain⟨t,rfl⟩:=r;obtain⟨t',rfl⟩:=r';obtain⟨t'',rfl⟩:=ZQ;refine call_range_3 c0 ?_ (.inl (PyProof.noPylong_small c1));refine wpAny_pyIter_range (IsRange.new ..) c2 ?_;have I2:Inv X pins σ H1 {s1 with heap:=s1.heap.push {cls:= .type "range",data:= .fields #[.int i t,.int j t',.int k t'']}}:=I1.kept (t':=s1.toks) λb o e=>Heap.get?_push_of_some _ e;refine EN (tk:=s1.toks) I2 _ (Gn _ i k n) ?_ q;have e1:i +((0:Nat):Int)*k=i:=by simp
    have e2:(n:Int)-((0:Nat):Int)=Builtin.Range.rangeSize i j k:=by rw[c3];simp
    show IsRangeIter _ _ (i +((0:Nat):Int)*k) ((n:Int)-((0:Nat):Int)) k;rw[e1,e2];exact Heap.get?_push_size _ rfl
end
def TC(K:ab)(a:Addr)(n:Nat):It:=
 ⟨λi H=>i<n/\ ∃(xs:List V) (x:V),bw K H a xs/\xs[n - 1 - i]? =some x,λi H x H'=>H'=H/\ ∀xs,bw K H a xs->xs[n - 1 - i]? =some x,λi _=>n<=i⟩
def NG{P:Program}{w:World}{K:ab}{tg:Expr}(a it:Addr)(n:Nat):Turn P w K tg (TC K a n) [it] it (λi h=>i<=n/\h.IsRevIter it a ((n:Int)- 1 -(i:Nat))) where
 mem:=by simp
 obj:=λi h st b hb=>by
  have e:b=it:=by simpa using hb
  subst e;obtain⟨_,o,e,c,d⟩:=st;exact⟨o,e,λv z=>by rw[d] at z;cases z⟩
 keep:=λi h h' st k=>⟨st.1,st.2.at λo e=>k it (by simp) o e⟩
 item:=by
  exists 4;obtain⟨hin,xs,x,hq,hx⟩:=hg;obtain⟨its,rv,p,hz⟩:=I.list hq;obtain⟨u,hu,ru⟩:=rv.get hx;exists 15;obtain⟨_,hit⟩:=st;have e1:(n:Int)- 1 -((i:Nat):Int)=((n - 1 - i:Nat):Int):=by omega
  rw[e1] at hit;refine wpAny_pyNext_rev_item hit p.isList (x:=u) (by simpa using hu) λh' Jm sb=> ?_;have e2:((n - 1 - i:Nat):Int)- 1=(n:Int)- 1 -((i + 1:Nat):Int):=by omega
  rw[e2] at Jm;have I1:Inv X pins σ H {s with heap:=h'}:=I.turned (t':=s.toks) (λb o hb e=>(sb.2 b hb).trans e) f0 f1 f3 f4 f5;obtain⟨o,e,c,d⟩:=id Jm;exact⟨u,rfl,Hy (s:={s with heap:=h'}) e c d (by decide) ⟨x,H,I1,ru,⟨rfl,λys hy=>by rw[I.mN hy hq];exact hx⟩,⟨hin,Jm⟩,λb hb=>(hf b hb).1⟩⟩
 done:=by
  exists 4;exists 15;obtain⟨hin,hit⟩:=st;have hge:n<=i:=hg;have e1:(n:Int)- 1 -((i:Nat):Int)= -1:=by omega
  rw[e1] at hit;exact wpAny_pyNext_rev_end (I.ok.hd hc) hit λh' eb=>⟨rfl,I.turned (t':=s.toks) (λb o hb e=>eb b o hb e) f0 f1 f3 f4 f5⟩
 self:=λA i s Q E st h=>wpAny_pyIter_revIter st.2 h
def aag(K:ab)(ta:TA):TI:=λσ H R=>ta σ H λvs H1=> ∃(a:Addr) (xs:List V),vs=[.ref a]/\bw K H1 a xs/\R (TC K a xs.length) H1
section
variable{X:Cx}{tg:Expr}
def ym{e:Expr}{ta:TA}{p pos:Pos}(hg:Gl X "reversed")(hm:X.mg "reversed"=none)(ha:PA X [e] ta)(hs:starEach [e] X.env=[(false,eval e X.env)]:=by rfl):PI X tg (.Call (.Name "reversed" p) [e] [] pos) (aag X.K ta):=by
 intro pins s σ H R I h;refine Call_ (lO I hg hm rV (ck (gb (ha pos pins s σ H _ I h) λus s1 ⟨vs,H1,I1,r1,q1⟩=> ?_) hs rfl));obtain⟨a,xs,e,hq,q⟩:=q1;subst e;cases r1 with
 |cons r rr=>
  cases rr;cases r;obtain⟨its,rv,p',hz⟩:=I1.list hq;have hl:=rv.length;have e1:((its.toArray.size:Nat):Int)- 1=(xs.length:Int)- 1 -((0:Nat):Int):=by simp only[bz];omega
  refine call_reversed_list p'.isList (wpAny_pyIter_revIter (l:=a) (i:=((its.toArray.size:Nat):Int)- 1) ⟨_,Heap.get?_push_size _ rfl,rfl,rfl⟩ ?_);refine EN (tk:=s1.toks) I1 _ (NG a _ xs.length) ⟨aC _,?_⟩ q;rw[<-e1];exact⟨_,Heap.get?_push_size _ rfl,rfl,rfl⟩
end
section
variable{prog:Program}{w:World}{A:Around}{E:Value->Shared->Prop}{s:Shared}
end
def cX{α β:Type}{G:α->β->Prop}{LY:List α}{LX:List β}(h:Paired G LY LX): ∀{i:Nat} {a:α},LY[i]? =some a-> ∃b,LX[i]? =some b/\G a b:=by
 induction h with
 |nil=>intro i a e;simp at e
 | @cons a b LY LX r t ih=>
  intro i a' e;cases i with
  |zero=>
   simp only[IV,Option.some.injEq] at e;subst e;exact⟨b,rfl,r⟩
  |succ j=>
   simp only[List.getElem?_cons_succ] at e ⊢;exact ih e
section
variable{X:Cx}{pins:List (Addr×Obj)}{σ:St}{H:Hp}{s:Shared}{d:Addr}{o:Obj}
end
section
variable{P:Program}{w:World}{K:ab}{tg:Expr}{d:Addr}{o:Obj}{es:Array DictEntry}{ep:Nat}
end
section
variable{X:Cx}{tg e:Expr}{td:TE}{apos qD:Pos}
end
def TF(K:ab)(a:Addr):It:=
 ⟨λi H=> ∃(xs:List V) (x:V),bw K H a xs/\xs[i]? =some x,λi H v H'=> ∃T x,v= .ref T/\H T=none/\H'=upd H T (.tup [.int (i:Nat),x])/\ ∀xs,bw K H a xs->xs[i]? =some x,λi H=> ∃xs:List V,bw K H a xs/\xs.length<=i⟩
def Lu{P:Program}{w:World}{K:ab}{elts:List Expr}{kk:Nat}{qQ:Pos}(a e it:Addr):
  Turn P w K (.Tuple elts kk qQ) (TF K a) [e,it] e (λi h=>(∃old,IsEnum h e it ((i:Nat):Int) old)/\h.IsListIter it a i/\e≠it) where
 mem:=by simp
 obj:=λi h st b hb=>by
  obtain⟨⟨old,he⟩,⟨o,ho,hc,hd⟩,_⟩:=st;have e':b=e\/b=it:=by simpa using hb
  rcases e' with z|z
  ·rw[z];exact⟨_,he,λv q=>nomatch q⟩
  ·rw[z];exact⟨o,ho,λv q=>by rw[hd] at q;cases q⟩
 keep:=λi h h' st k=>let ⟨⟨old,he⟩,hi,pC⟩:=st;⟨⟨old,k e (by simp) _ he⟩,hi.at λo q=>k it (by simp) o q,pC⟩
 item:=by
  exists 4;obtain⟨⟨old,he⟩,hit,pC⟩:=st;obtain⟨xs,x,hq,hx⟩:=hg;obtain⟨its,rv,p,hz⟩:=I.list hq;obtain⟨u,hu,ru⟩:=rv.get hx;have Qg:e<s.heap.objs.size:=Heap.lt_size he;have E8:it<s.heap.objs.size:=by obtain⟨_,q,_⟩:=hit;exact Heap.lt_size q
  refine wpAny_pyNext_enum_item he hit p.isList (x:=u) (by simpa using hu) pC λh' ho aaT hT hsz hk=> ?_;refine⟨_,rfl,wpAny_letOwnedTupleGo_enum (s:={s with heap:=h',toks:=s.toks + 1}) ho λIP he' sb=> ?_⟩;have Qj:IP.get? s.heap.objs.size=some {cls:= .type "tuple",data:= .seq #[.int i s.toks,u]}:=(sb.2 _ (gA Qg)).trans hT;have new:gJ X.prog X.w (upd H s.heap.objs.size (.tup [.int (i:Nat),x])) IP s.heap.objs.size (.tup [.int (i:Nat),x]):=
   ⟨by show 2<=sizeLine;decide,[.int i s.toks,u],.cons ⟨_,rfl⟩ (.cons ru .nil),⟨_,Qj,rfl,_,rfl⟩⟩
  have I1:Inv X pins σ (upd H s.heap.objs.size (.tup [.int (i:Nat),x])) {s with heap:=IP,toks:=s.toks + 1}:=
   I.sr (ch:=[e,it]) (λb ob hb q=>(sb.2 b (λz=>hb (by simp[z]))).trans (hk b ob (λz=>hb (by simp[z])) (λz=>hb (by simp[z])) q)) hf (aE _) new
  refine⟨.ref s.heap.objs.size,_,I1,rfl,⟨_,x,rfl,I.eC.fresh (aE _),rfl,λys hy=>by rw[I.mN hy hq];exact hx⟩,⟨⟨u,?_⟩,aaT.at λo q=>(sb.2 it (bG pC)).trans q,pC⟩,λb hb=> ?_⟩
  ·have e1:((i + 1:Nat):Int)=(i:Int)+ 1:=by omega
   rw[e1];exact he'
  ·have Ng:b<s.heap.objs.size:=by
    have e':b=e\/b=it:=by simpa using hb
    rcases e' with z|z
    ·rw[z];exact Qg
    ·rw[z];exact E8
   rw[aJ (cv Ng)];exact(hf b hb).1
 done:=by
  exists 4;obtain⟨⟨old,he⟩,hit,pC⟩:=st;obtain⟨xs,hq,hx⟩:=hg;obtain⟨its,rv,p,hz⟩:=I.list hq;exists 15;have hl:=rv.length;exact wpAny_pyNext_enum_end (I.ok.hd hc) he hit p.isList (by simp;omega) λh' eb=>⟨rfl,I.turned (t':=s.toks) (λb o hb q=>eb b o hb q) f0 f1 f3 f4 f5⟩
 self:=λA i s Q E st h=>let ⟨⟨_,he⟩,_⟩:=st;wpAny_pyIter_enum he h
def Xj(K:ab)(ta:TA):TI:=λσ H R=>ta σ H λvs H1=> ∃a xs,vs=[.ref a]/\bw K H1 a xs/\R (TF K a) H1
def KA{X:Cx}{e:Expr}{ta:TA}{p pos qQ:Pos}{elts:List Expr}{kk:Nat}(hg:Gl X "enumerate")(hm:X.mg "enumerate"=none)(ha:PA X [e] ta)(hs:starEach [e] X.env=[(false,eval e X.env)]:=by rfl):
  PI X (.Tuple elts kk qQ) (.Call (.Name "enumerate" p) [e] [] pos) (Xj X.K ta):=by
 intro pins s σ H R I h;refine Call_ (lO I hg hm boot_enumerate (ck (gb (ha pos pins s σ H _ I h) λus s1 ⟨vs,H1,I1,r1,q1⟩=> ?_) hs rfl));obtain⟨a,xs,ex,hq,q⟩:=q1;subst ex;cases r1 with
 |cons r rr=>
  cases rr;cases r;obtain⟨its,rv,p',hz⟩:=I1.list hq;refine call_enumerate_list p'.isList λh' he hit hsz hk=>wpAny_pyIter_enum he ?_;have I2:Inv X pins σ H1 {s1 with heap:=h'}:=I1.kept (t':=s1.toks) hk;refine⟨s1.heap.objs.size + 1,[s1.heap.objs.size + 1,s1.heap.objs.size],_,_,H1,rfl,I2,Lu a (s1.heap.objs.size + 1) s1.heap.objs.size,⟨⟨.none,he⟩,hit,Nat.succ_ne_self _⟩,λb hb=> ?_,q⟩;have e':b=s1.heap.objs.size + 1\/b=s1.heap.objs.size:=by simpa using hb
  have hle:s1.heap.objs.size<=b:=by
   rcases e' with z|z
   ·rw[z];exact jN _ _
   ·rw[z];exact aE _
  exact I1.Fd hle (I1.eC.fresh hle)
def xG:bootBuiltins "zip"=some (.type "zip"):=by decide +kernel
def Si(K:ab)(a b:Addr):It:=
 ⟨λi H=> ∃(xs ys:List V) (x y:V),bw K H a xs/\bw K H b ys/\xs[i]? =some x/\ys[i]? =some y,
  λi H v H'=> ∃T x y,v= .ref T/\H T=none/\H'=upd H T (.tup [x,y])/\(∀xs,bw K H a xs->xs[i]? =some x)/\ ∀ys,bw K H b ys->ys[i]? =some y,
  λi H=> ∃xs ys:List V,bw K H a xs/\bw K H b ys/\(xs.length<=i\/ys.length<=i)⟩
def Gm{P:Program}{w:World}{K:ab}{elts:List Expr}{kk:Nat}{qQ:Pos}{a b z TI TO i1 i2:Addr}(D:ZipApart z TI TO i1 i2 a b):
  Turn P w K (.Tuple elts kk qQ) (Si K a b) [z,TI,TO,i1,i2] z (λi h=>IsZip h z TI TO .none/\IsPair h TI (.ref i1) (.ref i2)/\(∃x y,IsPair h TO x y)/\h.IsListIter i1 a i/\h.IsListIter i2 b i) where
 mem:=by simp
 obj:=λi h st c hc=>by
  obtain⟨hz,lJ,⟨x,y,o5⟩,⟨o1,e1,_,d1⟩,⟨o2,e2,_,d2⟩⟩:=st;have e':c=z\/c=TI\/c=TO\/c=i1\/c=i2:=by simpa using hc
  rcases e' with q|q|q|q|q
  ·rw[q];exact⟨_,hz,λv q=>nomatch q⟩
  ·rw[q];exact⟨_,lJ,λv q=>nomatch q⟩
  ·rw[q];exact⟨_,o5,λv q=>nomatch q⟩
  ·rw[q];exact⟨o1,e1,λv q=>by rw[d1] at q;cases q⟩
  ·rw[q];exact⟨o2,e2,λv q=>by rw[d2] at q;cases q⟩
 keep:=λi h h' st k=>by
  obtain⟨hz,lJ,⟨x,y,o5⟩,h1,h2⟩:=st;exact⟨k z (by simp) _ hz,k TI (by simp) _ lJ,⟨x,y,k TO (by simp) _ o5⟩,h1.at λo q=>k i1 (by simp) o q,h2.at λo q=>k i2 (by simp) o q⟩
 item:=by
  exists 4;obtain⟨hz,lJ,⟨x0,y0,o5⟩,h1,h2⟩:=st;obtain⟨xs,ys,x,y,D1,F8,hx,hy⟩:=hg;obtain⟨its,rv,p,_⟩:=I.list D1;obtain⟨Bs,NU,p2,_⟩:=I.list F8;obtain⟨u,hu,ru⟩:=rv.get hx;obtain⟨u2,Y1,WR⟩:=NU.get hy;have OS:z<s.heap.objs.size:=Heap.lt_size hz;refine wpAny_pyNext_zip_item D hz lJ o5 h1 h2 p.isList p2.isList (x:=u) (y:=u2) (by simpa using hu) (by simpa using Y1) λh' z' Yv Ti X2 hT hsz hk=> ?_;refine⟨_,rfl,wpAny_letOwnedTupleGo_zip (s:={s with heap:=h'}) z' λIP Ws sb=> ?_⟩;have Qj:IP.get? s.heap.objs.size=some {cls:= .type "tuple",data:= .seq #[u,u2]}:=(sb.2 _ (gA OS)).trans hT;have new:gJ X.prog X.w (upd H s.heap.objs.size (.tup [x,y])) IP s.heap.objs.size (.tup [x,y]):=
   ⟨by show 2<=sizeLine;decide,[u,u2],.cons ru (.cons WR .nil),⟨_,Qj,rfl,_,rfl⟩⟩
  have I1:Inv X pins σ (upd H s.heap.objs.size (.tup [x,y])) {s with heap:=IP}:=
   I.sr (t':=s.toks) (ch:=[z,TI,TO,i1,i2]) (λc o hb q=>(sb.2 c (λq'=>hb (by simp[q']))).trans (hk c o (λq'=>hb (by simp[q'])) (λq'=>hb (by simp[q'])) (λq'=>hb (by simp[q'])) (λq'=>hb (by simp[q'])) q)) hf (aE _) new
  refine⟨.ref s.heap.objs.size,_,I1,rfl,⟨_,x,y,rfl,I.eC.fresh (aE _),rfl,λl hl=>by rw[I.mN hl D1];exact hx,λl hl=>by rw[I.mN hl F8];exact hy⟩,⟨Ws,?_,⟨u,u2,?_⟩,?_,?_⟩,λc IK=> ?_⟩
  ·exact(sb.2 _ D.TIz).trans (hk _ _ D.TIz D.TITO D.TIi1 D.TIi2 lJ)
  ·exact(sb.2 _ D.TOz).trans Yv
  ·exact Ti.at λo q=>(sb.2 _ D.i1z).trans q
  ·exact X2.at λo q=>(sb.2 _ D.i2z).trans q
  ·have ig:c<s.heap.objs.size:=by
    have e':c=z\/c=TI\/c=TO\/c=i1\/c=i2:=by simpa using IK
    rcases e' with q|q|q|q|q
    ·rw[q];exact OS
    ·rw[q];exact Heap.lt_size lJ
    ·rw[q];exact Heap.lt_size o5
    ·rw[q];obtain⟨_,e1,_⟩:=h1;exact Heap.lt_size e1
    ·rw[q];obtain⟨_,e2,_⟩:=h2;exact Heap.lt_size e2
   rw[aJ (cv ig)];exact(hf c IK).1
 done:=by
  exists 4;obtain⟨hz,lJ,⟨x0,y0,o5⟩,h1,h2⟩:=st;obtain⟨xs,ys,D1,F8,U8⟩:=hg;obtain⟨its,rv,p,_⟩:=I.list D1;obtain⟨Bs,NU,p2,_⟩:=I.list F8;have l1:=rv.length;have l2:=NU.length;have he:its.toArray[i]? =none\/Bs.toArray[i]? =none:=by
   rcases U8 with q|q
   ·exact .inl (by simp;omega)
   ·exact .inr (by simp;omega)
  exact wpAny_pyNext_zip_end (I.ok.hd hc) D hz lJ o5 h1 h2 p.isList p2.isList he λh' hk=>⟨rfl,I.EC (t':=s.toks) (ch:=[z,TI,TO,i1,i2]) (λc o hb q=>
   hk c o (λq'=>hb (by simp[q'])) (λq'=>hb (by simp[q'])) (λq'=>hb (by simp[q'])) (λq'=>hb (by simp[q'])) q) hf⟩
 self:=λA i s Q E st h=>wpAny_pyIter_zip st.1 h
def aad(K:ab)(ta:TA):TI:=λσ H R=>ta σ H λvs H1=> ∃a b xs ys,vs=[.ref a,.ref b]/\bw K H1 a xs/\bw K H1 b ys/\R (Si K a b) H1
def EM{X:Cx}{e e2:Expr}{ta:TA}{p pos qQ:Pos}{elts:List Expr}{kk:Nat}(hg:Gl X "zip")(hm:X.mg "zip"=none)(ha:PA X [e,e2] ta)
  (hs:starEach [e,e2] X.env=(false,eval e X.env)::starEach [e2] X.env:=by rfl) (m5:(backTo pos (starEach [e2] X.env)).any (·.1)=false:=by rfl):
  PI X (.Tuple elts kk qQ) (.Call (.Name "zip" p) [e,e2] [] pos) (aad X.K ta):=by
 intro pins s σ H R I h;refine Call_ (lO I hg hm xG (ck (gb (ha pos pins s σ H _ I h) λus s1 ⟨vs,H1,I1,r1,q1⟩=> ?_) hs m5));obtain⟨a,b,xs,ys,ex,D1,F8,q⟩:=q1;subst ex;cases r1 with
 |cons r rr=>
  cases rr with
  |cons r' rr=>
   cases rr;cases r;cases r';obtain⟨its,rv,p1,_⟩:=I1.list D1;obtain⟨Bs,NU,p2,_⟩:=I1.list F8;have la:a<s1.heap.objs.size:=p1.lt;have lb:b<s1.heap.objs.size:=p2.lt;refine call_zip_2 p1.isList p2.isList λh' hz lJ o5 h1 h2 hsz hk=>wpAny_pyIter_zip hz ?_;have I2:Inv X pins σ H1 {s1 with heap:=h'}:=I1.kept (t':=s1.toks) hk;refine⟨s1.heap.objs.size + 4,[s1.heap.objs.size + 4,s1.heap.objs.size + 2,s1.heap.objs.size + 3,s1.heap.objs.size,s1.heap.objs.size + 1],_,_,H1,rfl,I2,Gm (M4 s1.heap.objs.size a b la lb),⟨hz,lJ,⟨_,_,o5⟩,h1,h2⟩,λc IK=> ?_,q⟩;have e':c=s1.heap.objs.size + 4\/c=s1.heap.objs.size + 2\/c=s1.heap.objs.size + 3\/c=s1.heap.objs.size\/c=s1.heap.objs.size + 1:=by simpa using IK
   have hle:s1.heap.objs.size<=c:=by
    rcases e' with z|z|z|z|z
    ·rw[z];exact jN _ _
    ·rw[z];exact jN _ _
    ·rw[z];exact jN _ _
    ·rw[z];exact aE _
    ·rw[z];exact jN _ _
   exact I1.Fd hle (I1.eC.fresh hle)
end L2
section 
namespace abR
open PySem PyProof.Rows
end abR
end
section 
namespace TL
open PySem PySem.Builtin PySem.Builtin.Str PySem.StrLaws
end TL
end
namespace L2
open PySem PySem.Spec PyProof.Rows
section
variable{X:Cx}{pins:List (Addr×Obj)}{σ:St}{H:Hp}{s:Shared}{Q:VK}
end
section
variable{X:Cx}
end
section
variable{X:Cx}{o e:Expr}{to te:TE}
end
end L2
namespace L2
open PySem PySem.Spec PyProof.Rows
section
variable{X:Cx}
end
end L2
namespace Att
open PySem PySem.W PySem.Calls PyProof.Rows
section
variable{prog:Program}{w:World}{A:Around}{E:Value->Shared->Prop}{s:Shared}{K:Frag}
end
end Att
namespace L2
open PySem PySem.Spec PyProof.Rows
end L2
namespace L2
open PySem PySem.Spec PyProof.Rows
abbrev iy{K:ab}{h:Heap}(_:K.In h):ab:=K
end L2
namespace L2
open PySem PySem.Spec PyProof.Rows
def inClass(s:Stmt)(j:Nat):Stmt:=match s with
 | .ClassDef _ _ _ body _ _ _ _ _ _ _=>body.getD j (.Pass ⟨0,0,0,0⟩)
 |_=> .Pass ⟨0,0,0,0⟩
def nN(s:Stmt):Arguments:=match s with
 | .FunctionDef _ a _ _ _ _ _ _ _ _=>a
 |_=>{posonlyargs:=[],args:=[],vararg:=none,kwonlyargs:=[],kw_defaults:=[],kwarg:=none,defaults:=[]}
def lq(s:Stmt):List Stmt:=match s with
 | .FunctionDef _ _ b _ _ _ _ _ _ _=>b
 |_=>[]
def fO(s:Stmt):Scope:=match s with
 | .FunctionDef _ _ _ _ _ _ sc _ _ _=>sc
 |_=>{kind:= .function,names:=[],isGenerator:=false,isCoroutine:=false}
abbrev PY:Lj:=λ_ _ _ _ _ _=>False
abbrev E0:XK:=λ_ _ _=>False
def DL{X:Cx}:Passes PY X E0:=λ_ _ _ _ _ _ _ h=>h.elim
structure TH(K:ab)(x qual:Str)(st:Stmt)(f:Addr)(fd:FuncData):Prop where
 ex: ∃(oc:Value) (od:Option Addr) (kV doc pm:Value) (an:Option Addr) (cdv ct:Value) (Q6:Array (Option Value)),
  fd=gX x qual (nN st) (lq st) (fO st) .none kV doc pm an cdv ct/\K.lookup f=some ⟨oc,od,.func fd,Q6⟩/\kI K cdv qual=true
 kp:d9 K (.ref f)=true
section
variable{P:Program}{w:World}{K:ab}{mg:Str->Option Value}{base:Heap}
def TH.ok{x qual:Str}{st:Stmt}{f:Addr}{fd:FuncData}{N ps:List Str}{k:Nat}{sp:Sp}(F:TH K x qual st f fd)(S:nS N ps (fO st))(len: ∀vs H Q E,sp vs H Q E->vs.length=ps.length)
  (rK: ∀(cdv:Value) (A:Around) (outer:List Env) (s:Shared) (H:Hp) (vs:List V) (Q:VK) (E:XK),jk k (A.deeper (envOfC qual (fO st) s.heap.objs.size f cdv))->sp vs H Q E->
   ∃t,Lh (J3 PY P w K mg base N qual (fO st) f cdv A outer s H E).W2 (lq st) t/\t {nx:=λ_ H'=>Q .fC H',rt:=Q} (start N vs) H):mh P w K mg base PY (k + 1) f fd ps sp:=by
 obtain⟨oc,od,kV,doc,pm,an,cdv,ct,Q6,rfl,lk,Qi⟩:=F.ex;refine X7 lk Qi S len λA outer s H vs Q E hr Qb=> ?_;obtain⟨t,h,q⟩:=rK cdv A outer s H vs Q E hr Qb;exact⟨t,h.W2,q⟩
def TH.binds{x qual:Str}{st:Stmt}{f:Addr}{fd:FuncData}{ps:List Str}(F:TH K x qual st f fd)
  (h: ∀(kV doc pm:Value) (an:Option Addr) (cdv ct:Value) (us:List Value),us.length=ps.length->bindArgs (gX x qual (nN st) (lq st) (fO st) .none kV doc pm an cdv ct) ⟨us,[]⟩=pure (ps.zip us)):Binds K fd ps []:=by
 obtain⟨oc,od,kV,doc,pm,an,cdv,ct,Q6,rfl,lk,Qi⟩:=F.ex;exact .all (h kV doc pm an cdv ct)
def JK{x qual:Str}{st:Stmt}{f:Addr}{oc:Value}{od an:Option Addr}{Q6:Array (Option Value)}{kV doc pm cdv ct:Value}(l:K.lookup f=some ⟨oc,od,.func (gX x qual (nN st) (lq st) (fO st) .none kV doc pm an cdv ct),Q6⟩)
  (c:kI K cdv qual=true) (k:d9 K (.ref f)=true):TH K x qual st f (gX x qual (nN st) (lq st) (fO st) .none kV doc pm an cdv ct):=⟨⟨oc,od,kV,doc,pm,an,cdv,ct,Q6,rfl,l,c⟩,k⟩
end
def rJ{A:Around}{k:Nat}(hr:jk k A):A.units + 1<cLine:=Nat.lt_of_le_of_lt (Nat.add_le_add_left (by decide:1<=64) _) hr.units
section
variable{X:Cx}
def pv(i:Nat){x:Str}{pos:Pos}(hN:X.N[i]? =some x:=by rfl)(hv:Yt X.env.scope x:=by first|exact M5 rfl|exact IE (M5 rfl)|exact IE (IE rfl))(hd:(x==("__debug__":Str))=false:=by decide)
  (Qi:(x==("__classdict__":Str))=false:=by decide):PE X (.Name x pos) (Jh i):=UA hN hv hd Qi
def Ei:qw X (.builtin "len") (λxs H Q=> ∃a bE,xs=[V.ref a]/\H a=some (.dK bE)/\Q (.int bE.length) H):=by
 intro pins s σ H xs us Q I r h;obtain⟨a,bE,rfl,ha,q⟩:=h;obtain⟨u,rfl,ru⟩:=vals1 r;cases ru;exact Yi I (.inl ha) λt s' I'=>⟨.int bE.length,H,I',⟨t,rfl⟩,q⟩
end
def dJ{A B:Prop}(h:B):if false=true then A else B:=by
 rw[if_neg bg];exact h
def cY{A B:Prop}(h:A):if true=true then A else B:=by
 rw[if_pos rfl];exact h
def j9{c A B:Prop} [Decidable c](h1:c->A)(h2: ¬c->B):if c then A else B:=by
 by_cases h:c
 ·rw[if_pos h];exact h1 h
 ·rw[if_neg h];exact h2 h
def au(H H':Hp):Prop:= ∀b o,H b=some o->H' b=some o
def au.refl(H:Hp):au H H:=λ_ _ h=>h
def au.trans{H H1 H2:Hp}(a:au H H1)(b:au H1 H2):au H H2:=λc o h=>b c o (a c o h)
def au.free{H H':Hp}(e:au H H'){l:Addr}(h:H' l=Option.none):H l=Option.none:=by
 cases q:H l with
 |none=>rfl
 |some o=>
  rw[e l o q] at h;cases h
def au.seq{K:ab}{H H':Hp}{a:Addr}{xs:List V}(e:au H H')(h:bw K H a xs):bw K H' a xs:=by
 rcases h with(h|⟨o,h⟩)|h
 ·exact .inl (.inl (e _ _ h))
 ·exact .inl (.inr ⟨o,e _ _ h⟩)
 ·exact .inr h
section
variable{κ:Type} [DecidableEq κ]
def NB{bE:List (κ×V)}{k:κ}(h:fL bE k=none): ¬k∈bE.map (·.1):=by
 intro m;obtain⟨p,hp,e⟩:=aQ.mp m;have q:(bE.any λkv=>decide (kv.1=k))=true:=List.any_eq_true.mpr ⟨p,hp,decide_eq_true e⟩;rw[ox,h] at q;exact absurd q (by simp)
theorem KN: ∀{l:List κ} {k:κ},l.Nodup-> ¬k∈l->(l++[k]).Nodup
 | [],k,_,_=>by simp
 |a::r,k,h,hk=>by
  obtain⟨h1,h2⟩:=bU.mp h;show(a::(r++[k])).Nodup;refine bU.mpr ⟨λm=> ?_,KN h2 λm=>hk (aA.mpr (IE m))⟩;rcases cJ.mp m with q|q
  ·exact h1 q
  ·exact hk (aA.mpr (M5 (br.mp q).symm))
def Rj{bE:List (κ×V)}{k:κ}(v:V)(hn:(bE.map (·.1)).Nodup)(h:fL bE k=none):((putK bE k v).map (·.1)).Nodup:=by
 rw[GL v h,bF];exact KN hn (NB h)
def xC{p:κ×V}{r:List (κ×V)}{k:κ}(e:p.1=k):j5 (p::r) k=j5 r k:=by
 unfold j5;rw[jG,if_neg (by simp[e])]
def sW{p:κ×V}{r:List (κ×V)}{k:κ}(e: ¬p.1=k):j5 (p::r) k=p::j5 r k:=by
 unfold j5;rw[jG,if_pos (by simp[e])]
theorem BY: ∀{bE:List (κ×V)} {k:κ},¬k∈bE.map (·.1)->j5 bE k=bE
 | [],_,_=>rfl
 |p::r,k,h=>by
  have h': ¬k∈r.map (·.1):=λm=>by
   obtain⟨q,hq,e⟩:=aQ.mp m;exact h (aQ.mpr ⟨q,aA.mpr (IE hq),e⟩)
  rw[sW λe=>h (aQ.mpr ⟨p,aA.mpr (M5 rfl),e⟩),BY h']
def ML{bE:List (κ×V)}{k:κ}{p:κ×V}(h:p∈j5 bE k):p∈bE:=(Dh.mp h).1
theorem Bj: ∀{bE:List (κ×V)} {k:κ},(bE.map (·.1)).Nodup->((j5 bE k).map (·.1)).Nodup
 | [],_,_=>oo
 |p::r,k,h=>by
  have h:(p.1::r.map (·.1)).Nodup:=h;obtain⟨h1,h2⟩:=bU.mp h;by_cases e:p.1=k
  ·rw[xC e];exact Bj h2
  ·rw[sW e];show(p.1::(j5 r k).map (·.1)).Nodup;refine bU.mpr ⟨λm=>h1 ?_,Bj h2⟩;obtain⟨q,hq,eq⟩:=aQ.mp m;exact aQ.mpr ⟨q,ML hq,eq⟩
theorem Ee: ∀{bE:List (κ×V)} {k:κ},(bE.map (·.1)).Nodup->k∈bE.map (·.1)->(j5 bE k).length + 1=bE.length
 | [],_,_,m=>by simp at m
 |p::r,k,h,m=>by
  have h:(p.1::r.map (·.1)).Nodup:=h;have m:k=p.1\/k∈r.map (·.1):=aA.mp m;obtain⟨h1,h2⟩:=bU.mp h;by_cases e:p.1=k
  ·subst e;rw[xC rfl,BY h1]
   all_goals rfl
  ·have m':k∈r.map (·.1):=m.resolve_left λz=>e z.symm;have q:=Ee h2 m';rw[sW e,bV,bV];omega
end
def au.made{H H1:Hp}{x dx C:Addr}(nx:H x=Option.none)(nd:H dx=Option.none)(k: ∀b o,(upd (upd H dx (.own x)) x (.ins C dx [])) b=some o->b≠x->H1 b=some o):au H H1:=λb o e=>
 k b o (by rw[aJ (aO e nx),aJ (aO e nd)];exact e) (aO e nx)
end L2
section
set_option maxHeartbeats 2000000
namespace L2
open PySem PySem.Spec PyProof.Rows
open PySem.W (WData Codec OpenSpec Well WellAll ReadsW ReadsAllW)
mutual
inductive Dw(K:ab)(H:Hp):V->WData->Prop
 |fC:Dw K H .fC .none
 |bl (b:Bool):Dw K H (.bl b) (.bool b)
 |int (i:Int):Dw K H (.int i) (.int i)
 |str (x:Str):Dw K H (.str x) (.str x)
 |Ij (b:Array UInt8):Dw K H (.Ij b) (.bytes b.toList)
 |lst {a:Addr} {xs:List V} {ds:List WData}:bw K H a xs->qv K H xs ds->Dw K H (.ref a) (.list ds)
 |tup {a:Addr} {xs:List V} {ds:List WData}:gU K H a xs->qv K H xs ds->Dw K H (.ref a) (.tuple ds)
inductive qv(K:ab)(H:Hp):List V->List WData->Prop
 |nil:qv K H [] []
 |cons {v:V} {vs:List V} {d:WData} {ds:List WData}:Dw K H v d->qv K H vs ds->qv K H (v::vs) (d::ds)
end
theorem K6{K:ab}{H:Hp}: ∀ns:List Int,qv K H (ns.map V.int) (ns.map WData.int)
 | []=> .nil
 |n::r=> .cons (.int n) (K6 r)
theorem KZ{K:ab}{H:Hp}: ∀(ns:List Int) (xs:List V),qv K H xs (ns.map WData.int)->xs=ns.map V.int
 | [],xs,h=>by
  cases h;rfl
 |n::r,xs,h=>by
  cases h with
  |cons h1 h2=>
   cases h1;rw[KZ r _ h2] <;> rfl
section
variable{P:Program}{w:World}{K:ab}{H:Hp}{h:Heap}{R:Nm}{cl:Str->Option Addr}
def Uo{a:Addr}{xs:List V}(eC:r9 P w H h)(KX:K.In h)(q:bw K H a xs): ∃(its:List Value) (o:Obj) (n:Nat),Vals xs its/\h.get? a=some o/\o.cls= .type "list"/\o.data= .seq its.toArray n:=by
 rcases q with q|⟨o,its,n,e,hc,_,hd,_,hv⟩
 ·obtain⟨_,its,n,hv,e⟩:=(show gJ P w H h a (.lst xs) from q.ok eC);exact⟨its,_,n,hv,e,rfl,rfl⟩
 ·exact⟨its.toList,o,n,hv,KX _ _ e,hc,by simp[hd]⟩
def Ul{a:Addr}{xs:List V}(eC:r9 P w H h)(KX:K.In h)(q:gU K H a xs): ∃(its:List Value) (o:Obj) (n:Nat),Vals xs its/\h.get? a=some o/\o.cls= .type "tuple"/\o.data= .seq its.toArray n:=by
 rcases q with q|⟨o,its,n,e,hc,hd,_,hv⟩
 ·obtain⟨_,its,hv,o,e,hc,n,hd⟩:=(show gJ P w H h a (.tup xs) from q.ok eC);exact⟨its,o,n,hv,e,hc,hd⟩
 ·exact⟨its.toList,o,n,hv,KX _ _ e,hc,by simp[hd]⟩
mutual
theorem Dw.reads(eC:r9 P w H h)(KX:K.In h): ∀(d:WData) (v:V) (u:Value),Dw K H v d->RelV v u-> ∃as,ReadsW R cl h u d as
 | .none,_,_,x,r=>by
  cases x;cases r;exact⟨_,ReadsW.none⟩
 | .bool b,_,_,x,r=>by
  cases x;cases r;exact⟨_,ReadsW.bool b⟩
 | .int i,_,_,x,r=>by
  cases x;obtain⟨t,rfl⟩:=r;exact⟨_,ReadsW.int i t⟩
 | .str s,_,_,x,r=>by
  cases x;obtain⟨t,rfl⟩:=r;exact⟨_,ReadsW.str s t⟩
 | .bytes b,_,_,x,r=>by
  cases x;obtain⟨t,rfl⟩:=r;exact⟨_,ReadsW.bytes _ t⟩
 | .list ds,_,_,x,r=>by
  cases x with
  |lst hs ha=>
   cases r;obtain⟨its,o,n,rv,ho,hc,hd⟩:=Uo eC KX hs;obtain⟨as,hr⟩:=Dw.readsAll eC KX ds _ its ha rv;exact⟨_,ReadsW.list ho hc hd hr⟩
 | .tuple ds,_,_,x,r=>by
  cases x with
  |tup hs ha=>
   cases r;obtain⟨its,o,n,rv,ho,hc,hd⟩:=Ul eC KX hs;obtain⟨as,hr⟩:=Dw.readsAll eC KX ds _ its ha rv;exact⟨_,ReadsW.tuple ho hc hd hr⟩
 | .float _,_,_,x,_=>by cases x
 | .dict _,_,_,x,_=>by cases x
 | .bytearray _,_,_,x,_=>by cases x
 | .set _,_,_,x,_=>by cases x
 | .frozenset _,_,_,x,_=>by cases x
 | .obj _ _,_,_,x,_=>by cases x
theorem Dw.readsAll(eC:r9 P w H h)(KX:K.In h): ∀(ds:List WData) (vs:List V) (us:List Value),qv K H vs ds->Vals vs us-> ∃as,ReadsAllW R cl h us ds as
 | [],_,_,x,r=>by
  cases x;cases r;exact⟨_,ReadsAllW.nil⟩
 |d::ds,_,_,x,r=>by
  cases x with
  |cons h1 h2=>
   cases r with
   |cons r1 r2=>
    obtain⟨as,q1⟩:=Dw.reads eC KX d _ _ h1 r1;obtain⟨bs,q2⟩:=Dw.readsAll eC KX ds _ _ h2 r2;exact⟨_,ReadsAllW.cons q1 q2⟩
end
end
mutual
def Ky:WData->Bool
 | .none=>true
 | .bool _=>true
 | .int _=>true
 | .str _=>true
 | .bytes _=>true
 | .list xs=>yK xs
 | .tuple xs=>yK xs
 |_=>false
def yK:List WData->Bool
 | []=>true
 |x::r=>Ky x&&yK r
end
theorem GR{α:Type}{f:α->WData}(h: ∀a,Ky (f a)=true): ∀l:List α,yK (l.map f)=true
 | []=>rfl
 |x::r=>by
  show(Ky (f x)&&yK (r.map f))=true;rw[h x,GR h r] <;> rfl
theorem rg: ∀(c:Codec) (a:c.denote),Ky (c.enc a)=true
 | .unit,_=>rfl
 | .bool,_=>rfl
 | .int _ _,_=>rfl
 | .nat _ _,_=>rfl
 | .u8,_=>rfl
 | .bytes _ _,_=>rfl
 | .text _ _ _ _,_=>rfl
 | .list _ _ c,a=>GR (λx=>rg c x) a
 | .pair c d,a=>by
  show(Ky (c.enc a.1)&&(Ky (d.enc a.2)&&true))=true;rw[rg c a.1,rg d a.2] <;> rfl
 | .triple c d e,a=>by
  show(Ky (c.enc a.1)&&(Ky (d.enc a.2.1)&&(Ky (e.enc a.2.2)&&true)))=true;rw[rg c a.1,rg d a.2.1,rg e a.2.2] <;> rfl
 | .option c,none=>rfl
 | .option c,some x=>rg c x
theorem DJ: ∀(cs:List Codec) (a:Codec.denoteAll cs),yK (Codec.encAll cs a)=true
 | [],_=>rfl
 |c::cs,a=>by
  show(Ky (c.enc a.1)&&yK (Codec.encAll cs a.2))=true;rw[rg c a.1,DJ cs a.2] <;> rfl
theorem uG: ∀{xs:List WData} {d:WData},d∈xs->d.weight<=WData.weightAll xs
 | [],d,h=>absurd h (by simp)
 |x::r,d,h=>by
  show d.weight<=x.weight + 1 + WData.weightAll r;rcases aA.mp h with e|m
  ·rw[e];omega
  ·have z:=uG m;omega
def toV:Value->V
 | .none=> .fC
 | .bool b=> .bl b
 | .int i _=> .int i
 | .str x _=> .str x
 | .bytes b _=> .Ij b
 | .ref a=> .ref a
 |_=> .fC
def MY(A:List Addr):Value->Prop
 | .none=>True
 | .bool _=>True
 | .int _ _=>True
 | .str _ _=>True
 | .bytes _ _=>True
 | .ref a=>a∈A
 |_=>False
def MY.mono{A B:List Addr}(h: ∀a∈A,a∈B): ∀{u:Value},MY A u->MY B u:=λ{u} x=>by
 cases u with
 |ref a=>exact h a x
 |none=>trivial
 |bool b=>trivial
 |int i t=>trivial
 |str s t=>trivial
 |bytes b t=>trivial
 |_=>exact d5 x
def N2{A:List Addr}{u:Value}(x:MY A u):RelV (toV u) u:=by
 cases u with
 |ref a=>rfl
 |none=>rfl
 |bool b=>rfl
 |int i t=>exact⟨t,rfl⟩
 |str s t=>exact⟨t,rfl⟩
 |bytes b t=>exact⟨t,rfl⟩
 |_=>exact d5 x
theorem ow{A:List Addr}: ∀{vs:List Value},(∀u∈vs,MY A u)->Vals (vs.map toV) vs
 | [],_=> .nil
 |u::r,h=> .cons (N2 (h u (aY ..))) (ow λx hx=>h x (aK _ hx))
def qA(h:Heap)(A:List Addr)(a:Addr):Prop:= ∃vs:List Value,vs.length<=sizeLine/\(∀u∈vs,MY A u)/\
 (h.get? a=some {cls:= .type "list",data:= .seq vs.toArray}\/h.get? a=some {cls:= .type "tuple",data:= .seq vs.toArray})
theorem qA.mono{h:Heap}{A B:List Addr}{a:Addr}(k: ∀a∈A,a∈B)(x:qA h A a):qA h B a:=by
 obtain⟨vs,h1,h2,h3⟩:=x;exact⟨vs,h1,λu hu=>(h2 u hu).mono k,h3⟩
theorem nq{P:Params}{h:Heap}: ∀{vs:List Value} {ds:List WData},WellAll P h vs ds->vs.length=ds.length
 |_,_,.nil=>rfl
 |_,_,.cons _ b=>by
  show _ + 1=_ + 1;rw[nq b]
def Dj{P:Params}{h:Heap}{v:Value}{ds:List WData}(x:Well P h v (.list ds)): ∃(a:Addr) (vs:List Value),v= .ref a/\h.get? a=some {cls:= .type "list",data:= .seq vs.toArray}/\WellAll P h vs ds:=by
 cases x with
 |list ho qC=>exact⟨_,_,rfl,ho,qC⟩
def zS{P:Params}{h:Heap}{v:Value}{ds:List WData}(x:Well P h v (.tuple ds)): ∃(a:Addr) (vs:List Value),v= .ref a/\h.get? a=some {cls:= .type "tuple",data:= .seq vs.toArray}/\WellAll P h vs ds:=by
 cases x with
 |tuple ho qC=>exact⟨_,_,rfl,ho,qC⟩
def Dk{P:Params}{h:Heap}{us:List Value}{d:WData}{ds:List WData}(x:WellAll P h us (d::ds)): ∃(v:Value) (vs:List Value),us=v::vs/\Well P h v d/\WellAll P h vs ds:=by
 cases x with
 |cons a b=>exact⟨_,_,rfl,a,b⟩
def KP{n:Nat}(h:n<=1048576):n<=sizeLine:=cH h (by decide)
section
variable{P:Params}{h:Heap}
mutual
theorem PK: ∀(d:WData) (v:Value),Well P h v d->Ky d=true->d.weight<=1048576-> ∃A:List Addr,MY A v/\ ∀a∈A,qA h A a
 | .none,_,x,_,_=>by
  cases x;exact⟨[],trivial,λa m=>absurd m (by simp)⟩
 | .bool b,_,x,_,_=>by
  cases x;exact⟨[],trivial,λa m=>absurd m (by simp)⟩
 | .int i,_,x,_,_=>by
  cases x;exact⟨[],trivial,λa m=>absurd m (by simp)⟩
 | .str s,_,x,_,_=>by
  cases x;exact⟨[],trivial,λa m=>absurd m (by simp)⟩
 | .bytes b,_,x,_,_=>by
  cases x;exact⟨[],trivial,λa m=>absurd m (by simp)⟩
 | .list ds,_,x,p,z=>by
  obtain⟨a,vs,rfl,ho,qC⟩:=Dj x;have z2:WData.weightAll ds<=1048576:=z;obtain⟨A,h1,h2⟩:=wG ds _ qC p λd hd=>cH (uG hd) z2;have k: ∀b∈A,b∈a::A:=λb hb=>aK _ hb;refine⟨a::A,aY ..,λb hb=> ?_⟩;rcases aA.mp hb with e|m
  ·rw[e];exact⟨vs,KP (by rw[nq qC];exact cH (zM ds) z2),λu hu=>(h1 u hu).mono k,.inl ho⟩
  ·exact(h2 b m).mono k
 | .tuple ds,_,x,p,z=>by
  obtain⟨a,vs,rfl,ho,qC⟩:=zS x;have z2:WData.weightAll ds<=1048576:=z;obtain⟨A,h1,h2⟩:=wG ds _ qC p λd hd=>cH (uG hd) z2;have k: ∀b∈A,b∈a::A:=λb hb=>aK _ hb;refine⟨a::A,aY ..,λb hb=> ?_⟩;rcases aA.mp hb with e|m
  ·rw[e];exact⟨vs,KP (by rw[nq qC];exact cH (zM ds) z2),λu hu=>(h1 u hu).mono k,.inr ho⟩
  ·exact(h2 b m).mono k
 | .float _,_,_,p,_=>dk (show false=true from p)
 | .dict _,_,_,p,_=>dk (show false=true from p)
 | .bytearray _,_,_,p,_=>dk (show false=true from p)
 | .set _,_,_,p,_=>dk (show false=true from p)
 | .frozenset _,_,_,p,_=>dk (show false=true from p)
 | .obj _ _,_,_,p,_=>dk (show false=true from p)
theorem wG: ∀(ds:List WData) (vs:List Value),WellAll P h vs ds->yK ds=true->(∀d∈ds,d.weight<=1048576)-> ∃A:List Addr,(∀u∈vs,MY A u)/\ ∀a∈A,qA h A a
 | [],_,x,_,_=>by
  cases x;exact⟨[],λu m=>absurd m (by simp),λa m=>absurd m (by simp)⟩
 |d::ds,_,x,p,z=>by
  obtain⟨v,vs,rfl,x1,x2⟩:=Dk x;have q:Ky d=true/\yK ds=true:=a8.mp p;obtain⟨A,a1,a2⟩:=PK d v x1 q.1 (z d (aY ..));obtain⟨B,b1,b2⟩:=wG ds vs x2 q.2 λe he=>z e (aK _ he);have kA: ∀b∈A,b∈A++B:=λb hb=>cJ.mpr (.inl hb);have kB: ∀b∈B,b∈A++B:=λb hb=>cJ.mpr (.inr hb);refine⟨A++B,λu hu=> ?_,λb hb=> ?_⟩
  ·rcases aA.mp hu with e|m
   ·rw[e];exact a1.mono kA
   ·exact(b1 u m).mono kB
  ·rcases cJ.mp hb with m|m
   ·exact(a2 b m).mono kA
   ·exact(b2 b m).mono kB
end
end
noncomputable def RI(o:Obj):Option HO:=match o.data with
 | .seq vs _=>if(o.cls==Value.type "list")=true then some (.qI o (.lst (vs.toList.map toV))) else some (.qI o (.tup (vs.toList.map toV)))
 |_=>none
def pL(K:ab)(h:Heap)(A:List Addr):Hp:=λb=>if b∈A then(if(K.lookup b).isNone=true then(h.get? b).bind RI else none) else none
def Iw(H:Hp):Prop:= ∀b,H b=none\/ ∃o u,H b=some (.qI o u)
def Ht(vs:List Value):RI {cls:= .type "list",data:= .seq vs.toArray}=some (.qI {cls:= .type "list",data:= .seq vs.toArray} (.lst (vs.map toV))):=by
 show(if(Value.type "list"==Value.type "list")=true then some (HO.qI {cls:= .type "list",data:= .seq vs.toArray} (.lst (vs.toArray.toList.map toV))) else some (HO.qI {cls:= .type "list",data:= .seq vs.toArray} (.tup (vs.toArray.toList.map toV))))=_;rw[if_pos (beq_self_eq_true _)]
def Hs(vs:List Value):RI {cls:= .type "tuple",data:= .seq vs.toArray}=some (.qI {cls:= .type "tuple",data:= .seq vs.toArray} (.tup (vs.map toV))):=by
 show(if(Value.type "tuple"==Value.type "list")=true then some (HO.qI {cls:= .type "tuple",data:= .seq vs.toArray} (.lst (vs.toArray.toList.map toV))) else some (HO.qI {cls:= .type "tuple",data:= .seq vs.toArray} (.tup (vs.toArray.toList.map toV))))=_;rw[if_neg (by decide)]
section
variable{P:Program}{w:World}{K:ab}{h:Heap}{A:List Addr}
def zF{b:Addr}{o:Obj}(hb:b∈A)(hk:K.lookup b=none)(e:h.get? b=some o):pL K h A b=RI o:=by
 unfold pL;rw[if_pos hb,hk,if_pos (show(none:Option Obj).isNone=true from rfl),e] <;> rfl
def Ra{b:Addr}{u:HO}(q:pL K h A b=some u):b∈A/\K.lookup b=none:=by
 unfold pL at q;by_cases hb:b∈A
 ·rw[if_pos hb] at q;cases hk:K.lookup b with
  |none=>exact⟨hb,rfl⟩
  |some o=>
   rw[hk,if_neg (by simp)] at q;cases q
 ·rw[if_neg hb] at q;cases q
def zE(ar: ∀a∈A,qA h A a){b:Addr}{u:HO}(q:pL K h A b=some u):K.lookup b=none/\ ∃vs:List Value,vs.length<=sizeLine/\(∀u∈vs,MY A u)/\
  ((h.get? b=some {cls:= .type "list",data:= .seq vs.toArray}/\u= .qI {cls:= .type "list",data:= .seq vs.toArray} (.lst (vs.map toV)))\/
   (h.get? b=some {cls:= .type "tuple",data:= .seq vs.toArray}/\u= .qI {cls:= .type "tuple",data:= .seq vs.toArray} (.tup (vs.map toV)))):=by
 obtain⟨hb,hk⟩:=Ra q;obtain⟨vs,h1,h2,h3⟩:=ar b hb;refine⟨hk,vs,h1,h2,?_⟩;rcases h3 with e|e
 ·rw[zF hb hk e,Ht] at q;exact .inl ⟨e,(ao q).symm⟩
 ·rw[zF hb hk e,Hs] at q;exact .inr ⟨e,(ao q).symm⟩
def MU(ar: ∀a∈A,qA h A a):Iw (pL K h A):=λb=>by
 cases q:pL K h A b with
 |none=>exact .inl rfl
 |some u=>
  obtain⟨_,vs,_,_,⟨_,e⟩|⟨_,e⟩⟩:=zE ar q
  ·exact .inr ⟨_,_,by rw[e]⟩
  ·exact .inr ⟨_,_,by rw[e]⟩
def Sf(ar: ∀a∈A,qA h A a):r9 P w (pL K h A) h:=λb u q=>by
 obtain⟨_,vs,h1,h2,⟨e,rfl⟩|⟨e,rfl⟩⟩:=zE ar q
 ·exact⟨e,by rw[ag];exact h1,vs,_,ow h2,e⟩
 ·exact⟨e,by rw[ag];exact h1,vs,ow h2,_,e,rfl,_,rfl⟩
def zp{c c':Value}{vs us:List Value}(e:(some {cls:=c,data:= .seq vs.toArray}:Option Obj)=some {cls:=c',data:= .seq us.toArray}):c=c'/\vs=us:=by
 have e1:=ao e;have e2:c=c':=congrArg Obj.cls e1;have e3:Data.seq vs.toArray=Data.seq us.toArray:=congrArg Obj.data e1;injection e3 with e4;refine⟨e2,?_⟩;have e5:=congrArg IX e4;simpa using e5
def abG(KX:K.In h)(ar: ∀a∈A,qA h A a){a:Addr}{vs:List Value}(ha:a∈A)(e:h.get? a=some {cls:= .type "list",data:= .seq vs.toArray}):(∀u∈vs,MY A u)/\bw K (pL K h A) a (vs.map toV):=by
 obtain⟨us,h1,h2,h3⟩:=ar a ha;have hu:us=vs:=by
  rcases h3 with q|q
  ·rw[e] at q;exact(zp q).2.symm
  ·rw[e] at q;exact absurd (Value.type.inj (zp q).1) (by decide)
 subst hu;refine⟨h2,?_⟩;cases hk:K.lookup a with
 |none=>exact .inl (.inr ⟨_,by rw[zF ha hk e,Ht]⟩)
 |some o=>
  have e2:=KX a o hk;rw[e] at e2;obtain rfl:=ao e2;exact .inr ⟨_,us.toArray,_,hk,rfl,rfl,rfl,by rw[bz];exact h1,by simpa using ow h2⟩
def abF(KX:K.In h)(ar: ∀a∈A,qA h A a){a:Addr}{vs:List Value}(ha:a∈A)(e:h.get? a=some {cls:= .type "tuple",data:= .seq vs.toArray}):(∀u∈vs,MY A u)/\gU K (pL K h A) a (vs.map toV):=by
 obtain⟨us,h1,h2,h3⟩:=ar a ha;have hu:us=vs:=by
  rcases h3 with q|q
  ·rw[e] at q;exact absurd (Value.type.inj (zp q).1) (by decide)
  ·rw[e] at q;exact(zp q).2.symm
 subst hu;refine⟨h2,?_⟩;cases hk:K.lookup a with
 |none=>exact .inl (.inr ⟨_,by rw[zF ha hk e,Hs]⟩)
 |some o=>
  have e2:=KX a o hk;rw[e] at e2;obtain rfl:=ao e2;exact .inr ⟨_,us.toArray,_,hk,rfl,rfl,by rw[bz];exact h1,by simpa using ow h2⟩
mutual
theorem Vp{Pm:Params}(KX:K.In h)(ar: ∀a∈A,qA h A a): ∀(d:WData) (v:Value),Well Pm h v d->Ky d=true->MY A v->Dw K (pL K h A) (toV v) d
 | .none,_,x,_,_=>by
  cases x;exact .fC
 | .bool b,_,x,_,_=>by
  cases x;exact .bl b
 | .int i,_,x,_,_=>by
  cases x;exact .int i
 | .str s,_,x,_,_=>by
  cases x;exact .str s
 | .bytes b,_,x,_,_=>by
  cases x;have z:=Dw.Ij (K:=K) (H:=pL K h A) b.toArray;exact z
 | .list ds,_,x,p,hu=>by
  obtain⟨a,vs,rfl,ho,qC⟩:=Dj x;obtain⟨h2,hs⟩:=abG KX ar hu ho;exact .lst hs (FD KX ar ds _ qC p h2)
 | .tuple ds,_,x,p,hu=>by
  obtain⟨a,vs,rfl,ho,qC⟩:=zS x;obtain⟨h2,hs⟩:=abF KX ar hu ho;exact .tup hs (FD KX ar ds _ qC p h2)
 | .float _,_,_,p,_=>dk (show false=true from p)
 | .dict _,_,_,p,_=>dk (show false=true from p)
 | .bytearray _,_,_,p,_=>dk (show false=true from p)
 | .set _,_,_,p,_=>dk (show false=true from p)
 | .frozenset _,_,_,p,_=>dk (show false=true from p)
 | .obj _ _,_,_,p,_=>dk (show false=true from p)
theorem FD{Pm:Params}(KX:K.In h)(ar: ∀a∈A,qA h A a): ∀(ds:List WData) (vs:List Value),WellAll Pm h vs ds->yK ds=true->(∀u∈vs,MY A u)->qv K (pL K h A) (vs.map toV) ds
 | [],_,x,_,_=>by
  cases x;exact .nil
 |d::ds,_,x,p,hu=>by
  obtain⟨v,vs,rfl,x1,x2⟩:=Dk x;have q:Ky d=true/\yK ds=true:=a8.mp p;exact .cons (Vp KX ar d v x1 q.1 (hu _ (aY ..))) (FD KX ar ds vs x2 q.2 λu m=>hu u (aK _ m))
end
end
def LA{P:Program}{w:World}{K:ab}{mg mb:Str->Option Value}{CX:Lj}{k:Nat}{fa:Addr}{fd:FuncData}{ps:List Str}{sp:Sp}{gd:Shared}{vals:List Value}{ds:List WData}{R:Nm}{cl:Str->Option Addr}{d0:WData}
  (KX:K.In gd.heap) (Xx:gd.heap.Ns mainGlobals mg) (hb:gd.heap.Ns builtinsNs mb) (hbb: ∀x:Str,x≠"__name__"->mb x=bootBuiltins x) (aaM:gd.heap.NoLimit) (hg:gd.gens= #[])
  (VU:WellAll w.params gd.heap vals ds) (m5:yK ds=true) (hwt: ∀d∈ds,d.weight<=1048576) (hr:jk k callerA)
  (F: ∀base:Heap,K.In base->base.Ns mainGlobals mg->mh P w K mg base CX k fa fd ps sp) (XN: ∀(s:Shared) (us:List Value),us.length=ps.length->BindsTo s fd ⟨us,[]⟩ (ps.zip us)) (hlen:ds.length=ps.length)
  (Qb: ∀(H:Hp) (xs:List V),Iw H->qv K H xs ds->sp xs H (λv H'=>Dw K H' v d0) λ_ _ _=>False)
  (XZ: ∀H e s',CX [] H gd (λ_ _ _=>False) e s'->False):
  codeAny (model P w) callerA (.call (.ref fa) ⟨vals,[]⟩) (λr s'=> ∃u as,r= .ok (.ret u)/\ReadsW R cl s'.heap u d0 as/\OldK gd.heap s'.heap/\s'.os=gd.os/\AllBare s'.gens) gd:=by
 obtain⟨A,ho,ar⟩:=wG ds vals VU m5 hwt;have hO:Iw (pL K gd.heap A):=MU ar;have eC:r9 P w (pL K gd.heap A) gd.heap:=Sf ar;have hS:=FD KX ar ds vals VU m5 ho;have hV:=ow ho;have hK: ∀b u,pL K gd.heap A b=some u->K.lookup b=none:=λb u q=>(zE ar q).1;have VO: ∀{b:Addr} {o:Obj} {es:Array DictEntry} {ep:Nat},gd.heap.get? b=some o->o.data= .dict es ep->pL K gd.heap A b=none:=λ{b o es ep} e d=>by
  cases q:pL K gd.heap A b with
  |none=>rfl
  |some u=>
   obtain⟨_,vs,_,_,⟨e2,_⟩|⟨e2,_⟩⟩:=zE ar q
   ·rw[e2] at e;cases e;have d':Data.seq vs.toArray _=Data.dict es ep:=d;cases d'
   ·rw[e2] at e;cases e;have d':Data.seq vs.toArray _=Data.dict es ep:=d;cases d'
 generalize pL K gd.heap A=H at hO eC hS hK VO;have Le: ∀{b:Addr} {o:Obj},gd.heap.get? b=some o->H b=none->(E9 gd.heap H).get? b=some o:=λe n=>O5 e n;have YR: ∀{b:Addr} {m:Str->Option Value},gd.heap.Ns b m->(E9 gd.heap H).Ns b m:=λ{b m} ⟨o,es,ep,e,d,r⟩=>⟨o,es,ep,Le e (VO e d),d,r⟩;have nK: ∀b o,K.lookup b=some o->H b=none:=λb o e=>by
  cases q:H b with
  |none=>rfl
  |some u=>
   rw[hK b u q] at e;cases e
 have hKb:K.In (E9 gd.heap H):=λb o e=>Le (KX b o e) (nK b o e);have hM:Mod K mg (E9 gd.heap H):=⟨hKb,YR Xx,⟨mb,YR hb,hbb⟩,let ⟨mc,h1,h2⟩:=aaM;⟨mc,YR h1,h2⟩⟩;have e0:Kc P w K mg (E9 gd.heap H) callerA [] gd H:=⟨rfl,hM,λb o e=>Q9 e,zO (Mf _ _),trivial,λb hb=>absurd (show b∈([]:List Addr) from hb) (by simp),eC,.of_eq hg⟩;have hl:vals.length=ps.length:=by rw[nq VU];exact hlen
 refine codeAny_mono ((F _ hKb (YR Xx)).run callerA [] gd H ⟨vals,[]⟩ vals (vals.map toV) _ _ hr e0 (XN gd vals hl) hV (Qb H _ hO hS)) λr s' x=> ?_;cases r with
 |error e=>exact(XZ H e s' x).elim
 |ok fl=>
  cases fl with
  |next=>exact d5 x
  |brk=>exact d5 x
  |cont=>exact d5 x
  |ret u=>
   obtain⟨v,H',os,bare,un,Xw,r',q⟩:=x;have kept: ∀b o,gd.heap.get? b=some o->s'.heap.get? b=some o:=λb o e=>by
    cases q2:H b with
    |none=>exact un.keep b o e q2 (by intro z;exact absurd (show b∈([]:List Addr) from z) (by simp)) (by simp)
    |some u2=>
     rcases hO b with z|⟨ob,u3,z⟩
     ·rw[q2] at z;cases z
     ·have z2:=un.Bx b ob _ z;obtain⟨e1,_⟩:=eC b _ z;obtain⟨e2,_⟩:=Xw b _ z2;rw[e] at e1;cases e1;exact e2
   have KX':K.In s'.heap:=λb o e=>kept b o (KX b o e);obtain⟨as,hrd⟩:=Dw.reads (R:=R) (cl:=cl) Xw KX' d0 v u q r';exact⟨u,as,rfl,hrd,OldK.of_keep kept,os,bare⟩
def Bp{ds:List WData}(h:WData.layableAll ds=true): ∀d∈ds,d.weight<=1048576:=λd hd=>
 (PySem.W.layableW_iff.mp (gI.mp h d hd)).2.2
theorem BV: ∀(cs:List Codec) (a:Codec.denoteAll cs),(Codec.encAll cs a).length=cs.length
 | [],_=>rfl
 |c::cs,a=>by
  show(Codec.encAll cs a.2).length + 1=cs.length + 1;rw[BV cs a.2]
def Ls{r:OpenSpec}{k:Nat}{q:Program}{loose:List Str}{XP:(Str->Option Value)->Heap->Prop}{YP:World->Heap->Prop}{d:DefRec}{K:Params->ab}{CX:World->Lj}{ps:List Str}{sp:World->Sp}
  (OU:r.wellSaid=true) (hdf:d.params.defaults=[]) (hlen:r.args.length=ps.length) (hr:jk k callerA)
  (hY: ∀(w:World) (h:Heap),YP w h->(K w.params).In h)
  (F: ∀(w:World) (mg:Str->Option Value) (fa:Addr) (h:Heap),YP w h->(K w.params).In h->h.Ns mainGlobals mg->mg d.name=some (.ref fa)->
   ∃fd:FuncData,(∀(s:Shared) (us:List Value),us.length=ps.length->BindsTo s fd ⟨us,[]⟩ (ps.zip us))/\
    ∀base:Heap,(K w.params).In base->base.Ns mainGlobals mg->mh r.prog w (K w.params) mg base (CX w) k fa fd ps (sp w))
  (Qb: ∀(w:World) (H:Hp) (xs:List V) (a:Codec.denoteAll r.args),Iw H->Codec.withinAll r.args a=true->Codec.app r.args r.asked a=true->qv (K w.params) H xs (Codec.encAll r.args a)->
   sp w xs H (λv H'=>Dw (K w.params) H' v (r.ret.enc (Codec.app r.args r.f a))) λ_ _ _=>False)
  (XZ: ∀(w:World) (H:Hp) (s:Shared) (e:Value) (s':Shared),CX w [] H s (λ_ _ _=>False) e s'->False):
  Qm q loose XP YP r d [] (λf vs=>PySem.call f vs):=by
 intro w DD gd mg mb G Y fa o pm cd doc dV kV ho hd Qi hD Nc hg args vals as UZ aaN hrd VU hlo;obtain⟨a,e1,e2⟩:=PySem.W.os_pre_some UZ;obtain⟨e3,YY⟩:=Codec.encAll_of_decAll r.args args a e1;subst e3;have KX:=hY w _ Y;obtain⟨fd,hb,hF⟩:=F w mg fa _ Y KX G.T.g Nc;refine PySem.W.enter_call (codeAny_mono (LA (R:=[]) (cl:=classAt DD.heap) (d0:=r.ret.enc (Codec.app r.args r.f a)) KX G.T.g G.T.b G.T.builtins G.T.nolimit hg VU (DJ _ _) (Bp aaN) hr hF hb (by rw[BV];exact hlen)
  (λH xs hO hS=>Qb w H xs a hO YY e2 hS) λH e s'=>XZ w H gd e s') λr' s' hq=> ?_)
 obtain⟨u,as',rfl,h1,h2,h3,h4⟩:=hq;exact⟨.inl ⟨u,_,as',rfl,λ_=>rfl,h1,(OpenSpec.post_iff OU YY _ _).mpr rfl,λz=>dk (show false=true from z)⟩,h2,h3,h4⟩
def IZ{r:OpenSpec}{k:Nat}{q:Program}{loose:List Str}{XP:(Str->Option Value)->Heap->Prop}{YP:World->Heap->Prop}{d:DefRec}{K:Params->ab}{CX:Lj}{ps:List Str}{sp:ab->Sp}
  (OU:r.wellSaid=true) (hdf:d.params.defaults=[]) (hlen:r.args.length=ps.length) (hr:jk k callerA)
  (hY: ∀(w:World) (h:Heap),YP w h->(K w.params).In h)
  (F: ∀(w:World) (mg:Str->Option Value) (fa:Addr) (h:Heap),YP w h->(K w.params).In h->h.Ns mainGlobals mg->mg d.name=some (.ref fa)->
   ∃fd:FuncData,(∀(s:Shared) (us:List Value),us.length=ps.length->BindsTo s fd ⟨us,[]⟩ (ps.zip us))/\
    ∀base:Heap,(K w.params).In base->base.Ns mainGlobals mg->mh r.prog w (K w.params) mg base CX k fa fd ps (sp (K w.params)))
  (Qb: ∀(K:ab) (H:Hp) (xs:List V) (a:Codec.denoteAll r.args),Iw H->Codec.withinAll r.args a=true->Codec.app r.args r.asked a=true->qv K H xs (Codec.encAll r.args a)->
   sp K xs H (λv H'=>Dw K H' v (r.ret.enc (Codec.app r.args r.f a))) λ_ _ _=>False)
  (XZ: ∀(H:Hp) (s:Shared) (e:Value) (s':Shared),CX [] H s (λ_ _ _=>False) e s'->False):
  Qm q loose XP YP r d [] (λf vs=>PySem.call f vs):=
 Ls (K:=K) (CX:=λ_=>CX) (sp:=λw=>sp (K w.params)) OU hdf hlen hr hY F (λw H xs a h1 h2 h3 h4=>Qb (K w.params) H xs a h1 h2 h3 h4) λ_ H s e s'=>XZ H s e s'
end L2
end
namespace Sb
open Wqarav
def jm(f:Nat->Int):Nat->Int
 |0=>0
 |n + 1=>jm f n + f n
theorem kR{f g:Nat->Int}: ∀{n:Nat},(∀i,i<n->f i=g i)->jm f n=jm g n
 |0,_=>rfl
 |n + 1,h=>by
  show jm f n + f n=jm g n + g n;rw[kR λi hi=>h i (pQ hi),h n (jM n)]
theorem vi(f:Nat->Int)(m:Nat): ∀n,jm f (m + n)=jm f m + jm (λi=>f (m + i)) n
 |0=>by show jm f m=jm f m + 0;omega
 |n + 1=>by
  show jm f (m + n)+ f (m + n)=jm f m +(jm (λi=>f (m + i)) n + f (m + n));rw[vi f m n];omega
def Jj(f:Nat->Int)(n:Nat):jm f (n + 1)=f 0 + jm (λi=>f (i + 1)) n:=by
 have h:=vi f 1 n;rw[tD 1 n] at h;rw[h];have e:jm f 1=f 0:=by show(0:Int)+ f 0=f 0;omega
 rw[e,kR (f:=λi=>f (1 + i)) (g:=λi=>f (i + 1)) λi _=>by rw[tD 1 i]]
theorem zZ(f:Nat->Int): ∀n,jm f n=jm (λi=>f (n - 1 - i)) n
 |0=>rfl
 |n + 1=>by
  rw[Jj (λi=>f (n + 1 - 1 - i)) n];show jm f n + f n=f (n + 1 - 1 - 0)+ _;rw[zZ f n,kR (f:=λi=>f (n - 1 - i)) (g:=λi=>f (n + 1 - 1 -(i + 1))) λi hi=>by
   have:n - 1 - i=n + 1 - 1 -(i + 1):=by omega
   rw[this]]
  have:n + 1 - 1 - 0=n:=by omega
  rw[this];omega
def wY(b:List Int)(i k:Nat):Int:=if i<=k then b.getD (k - i) 0 else - b.getD (b.length + k - i) 0
def conv(a b:List Int)(k:Nat):Int:=jm (λi=>a.getD i 0*wY b i k) a.length
def MP{a b:List Int}(h:a.length=b.length){k:Nat}(hk:k<a.length):conv a b k=conv b a k:=by
 unfold conv;rw[<-h];obtain⟨m,hm⟩: ∃m,a.length=(k + 1)+ m:=⟨a.length -(k + 1),by omega⟩;rw[hm,vi _ (k + 1) m,vi _ (k + 1) m];have q1:jm (λi=>a.getD i 0*wY b i k) (k + 1)=jm (λi=>b.getD i 0*wY a i k) (k + 1):=by
  rw[zZ];refine kR λi hi=> ?_;have e1:k + 1 - 1 - i=k - i:=by omega
  rw[e1];unfold wY;rw[if_pos (by omega:k - i<=k),if_pos (by omega:i<=k)];have e2:k -(k - i)=i:=by omega
  rw[e2,zQ]
 have q2:jm (λi=>a.getD (k + 1 + i) 0*wY b (k + 1 + i) k) m=jm (λi=>b.getD (k + 1 + i) 0*wY a (k + 1 + i) k) m:=by
  rw[zZ];refine kR λi hi=> ?_;unfold wY;rw[if_neg (by omega),if_neg (by omega)];have e1:b.length + k -(k + 1 +(m - 1 - i))=k + 1 + i:=by omega
  have e2:a.length + k -(k + 1 + i)=k + 1 +(m - 1 - i):=by omega
  rw[e1,e2,Int.mul_neg,Int.mul_neg,zQ]
 rw[q1,q2]
def FL(l:List Int):(byX l).length=l.length:=by
 unfold byX;cases l with
 |nil=>rfl
 |cons x r=>
  rw[Ce (List.cons_ne_nil x r)];simp
def Lb{l:List Int}(hl:l≠[])(k:Nat)(hk:k<l.length):(byX l).getD k 0=if k=0 then(- l.getD (l.length - 1) 0)% BIG else l.getD (k - 1) 0:=by
 unfold byX;rw[Ce hl];cases k with
 |zero=>
  rw[if_pos rfl];show(-l.getLast hl)% BIG=_;rw[IU,ae,af (by omega)];rfl
 |succ k=>
  rw[if_neg (by omega)];show(l.dropLast).getD k 0=l.getD (k + 1 - 1) 0;rw[ae,ae,Ki];rw[if_pos (by omega)];rfl
def vg(f:Int->Int->Int){a b:List Int}{k:Nat}(ha:k<a.length)(hb:k<b.length):(jF f a b).getD k 0=f (a.getD k 0) (b.getD k 0):=by
 simp[ae,List.getElem?_zipWith,af ha,af hb]
def oG{a b:List Int}{k:Nat}(ha:k<a.length)(hb:k<b.length):(plus a b).getD k 0=(a.getD k 0 + b.getD k 0)% BIG:=vg _ ha hb
def mD{a b:List Int}:(plus a b).length=min a.length b.length:=by simp[plus]
def oK{a b:List Int}:(minus a b).length=min a.length b.length:=by simp[minus]
def Au{x:Int}{a:List Int}:(scaled x a).length=a.length:=by simp[scaled]
def GC{x:Int}{a:List Int}{k:Nat}(ha:k<a.length):(scaled x a).getD k 0=x*a.getD k 0 % BIG:=by
 simp[scaled,ae,af ha]
def lD(N:Nat):(nothing N).length=N:=by simp[nothing]
def l9(N k:Nat):(nothing N).getD k 0=0:=by
 unfold nothing;rw[ae,qH];split <;> rfl
def oQ{a b:List Int}(h:a.length=b.length)(e: ∀k,k<a.length->a.getD k 0=b.getD k 0):a=b:=by
 refine bW h λk h1 h2=> ?_;have:=e k h1;rw[ae,ae,af h1,af h2] at this;exact this
def Ax(b:List Int)(k:Nat):wY b 0 k=b.getD k 0:=by
 unfold wY;rw[if_pos (aC k)];rfl
def uj{b:List Int}{m:Nat}(h:m<b.length):wY b (m + 1) 0= - wY b m (b.length - 1):=by
 unfold wY;rw[if_neg (by omega),if_pos (by omega)];have:b.length + 0 -(m + 1)=b.length - 1 - m:=by omega
 rw[this]
def uk(b:List Int)(m k:Nat):wY b (m + 1) (k + 1)=wY b m k:=by
 unfold wY;by_cases h:m<=k
 ·rw[if_pos h,if_pos (by omega)];have:k + 1 -(m + 1)=k - m:=by omega
  rw[this]
 ·rw[if_neg h,if_neg (by omega)];have:b.length +(k + 1)-(m + 1)=b.length + k - m:=by omega
  rw[this]
theorem uI{b:List Int}: ∀(a:List Int) (pre:List Int) (z:Poly×Poly),pre.length + a.length<=b.length->z.1.length=b.length->z.2.length=b.length->
  (∀k,k<b.length->z.1.getD k 0=jm (λi=>pre.getD i 0*wY b i k) pre.length % BIG)->
  (∀k,k<b.length->z.2.getD k 0 % BIG=wY b pre.length k % BIG)->
  let r:=a.foldl (λ(z:Poly×Poly) (x:Int)=>(plus z.1 (scaled x z.2),byX z.2)) z
  r.1.length=b.length/\ ∀k,k<b.length->r.1.getD k 0=jm (λi=>(pre++a).getD i 0*wY b i k) (pre++a).length % BIG
 | [],pre,z,_,h1,_,e1,_=>by
  simp only[List.foldl_nil,dz];exact⟨h1,e1⟩
 |x::a,pre,z,hl,h1,h2,e1,e2=>by
  have JI:(pre++[x]).length + a.length<=b.length:=by simp at hl ⊢;omega
  have hp:pre.length<b.length:=by simp at hl;omega
  have hb:z.2≠[]:=by
   intro q;rw[q] at h2;simp at h2;omega
  have ih:=uI (b:=b) a (pre++[x]) (plus z.1 (scaled x z.2),byX z.2) JI
   (by rw[mD,Au,h1,h2];omega) (by rw[FL,h2])
   (λk hk=>by
    rw[oG (by omega) (by rw[Au];omega),GC (by omega),e1 k hk];have:(pre++[x]).length=pre.length + 1:=by simp
    rw[this];show _=(jm _ pre.length + _)% BIG;have s1:jm (λi=>(pre++[x]).getD i 0*wY b i k) pre.length=jm (λi=>pre.getD i 0*wY b i k) pre.length:=kR λi hi=>by
     rw[ae,hZ hi,<-ae]
    have s2:(pre++[x]).getD pre.length 0=x:=by
     rw[ae,dN (aE _),lu];rfl
    show _=(jm (λi=>(pre++[x]).getD i 0*wY b i k) pre.length +(pre++[x]).getD pre.length 0*wY b pre.length k)% BIG;rw[s1,s2];have:=e2 k hk;rw[Sn,zR,Zn,Zl x (z.2.getD k 0),this,<-Zl,<-Zn])
   (λk hk=>by
    have IJ:k<z.2.length:=by omega
    show(byX z.2).getD k 0 % BIG=wY b (pre++[x]).length k % BIG;have:(pre++[x]).length=pre.length + 1:=by simp
    rw[this,Lb hb k IJ];cases k with
    |zero=>
     rw[if_pos rfl,uj hp,h2,vf _ (Lp _),IW,IW (a:=wY b pre.length (b.length - 1))];have:=e2 (b.length - 1) (by omega);rw[Zk,this,<-Zk]
    |succ k=>
     rw[if_neg (by omega),uk];exact e2 k (by omega))
  simp only[km];rw[gc] at ih;exact ih
def fg{a b:List Int}(h:a.length=b.length):(times a b).length=b.length:=by
 have:=uI (b:=b) a [] (nothing b.length,b) (by simp[h]) (lD _) rfl (λk hk=>by rw[l9];rfl) (λk hk=>by rw[show([]:List Int).length=0 from rfl,Ax]);exact this.1
def uH{a b:List Int}(h:a.length=b.length){k:Nat}(hk:k<b.length):(times a b).getD k 0=conv a b k % BIG:=by
 have:=uI (b:=b) a [] (nothing b.length,b) (by simp[h]) (lD _) rfl (λk hk=>by rw[l9];rfl) (λk hk=>by rw[show([]:List Int).length=0 from rfl,Ax]);exact this.2 k hk
def Jd{a b:List Int}(h:a.length=b.length):times a b=times b a:=by
 refine oQ (by rw[fg h,fg h.symm,h]) λk hk=> ?_;rw[fg h] at hk;rw[uH h hk,uH h.symm (by omega),MP h (by omega)]
def PM(f:Nat->Nat):Nat->Nat->Nat
 |0,x=>x
 |m + 1,x=>PM f m (f x)
def Vw(f:Nat->Nat)(x:Nat):PM f 0 x=x:=rfl
def Vx(f:Nat->Nat)(m x:Nat):PM f (m + 1) x=PM f m (f x):=rfl
def jc(m x:Nat):Nat:=PM lucky m x
def Bl(x:Nat):luck 0 x=[]:=by unfold luck;exact Eq.refl _
def Bm(m x:Nat):luck (m + 1) x=lucky x / 2^56::luck m (lucky x):=by rw[luck]
def uE(x:Nat):jc 0 x=x:=by unfold jc;exact Vw _ _
def Lg(m x:Nat):jc (m + 1) x=jc m (lucky x):=by unfold jc;exact Vx _ _ _
def eM(m:Nat): ∀x:Nat,(luck m x).length=m:=by
 induction m with
 |zero=>intro x;rw[Bl,TN]
 |succ m ih=>intro x;rw[Bm,bV,ih]
def Bn(a:Nat): ∀(b x:Nat),luck (a + b) x=luck a x++luck b (jc a x):=by
 induction a with
 |zero=>intro b x;rw[nW,Bl,uE,tI]
 |succ a ih=>intro b x;rw[Zh,P1,Bm,Bm,Lg,ih,Ca]
def mf(a:Nat): ∀(b x:Nat),jc (a + b) x=jc b (jc a x):=by
 induction a with
 |zero=>intro b x;rw[nW,uE]
 |succ a ih=>intro b x;rw[Zh,P1,Lg,Lg,ih]
def B8(m x:Nat):jc (m + 1) x=lucky (jc m x):=by rw[mf,Lg,uE]
def DU(m x:Nat):luck (m + 1) x=luck m x++[lucky (jc m x)/ 2^56]:=by rw[Bn,Bm,Bl]
def OA(x:Nat):lucky x<2^64:=Qn _ (by decide)
def R6(x:Nat):lucky x / 2^56<256:=by
 have:=OA x;exact Nat.div_lt_of_lt_mul (by omega)
def JC(m:Nat): ∀(x:Nat),∀b∈luck m x,b<256:=by
 induction m with
 |zero=>intro x b h;rw[Bl] at h;exact absurd h bM
 |succ m ih=>
  intro x b h;rw[Bm] at h;rcases aA.mp h with e|h
  ·rw[e];exact R6 x
  ·exact ih _ b h
def xm{a m:Nat}(h:a<=m)(x:Nat):(luck m x).take a=luck a x:=by
 obtain⟨b,rfl⟩: ∃b,m=a + b:=⟨m - a,by omega⟩;rw[Bn,Cd (by rw[eM];exact aE _),aU (by rw[eM];exact aE _)]
def mw{a m:Nat}(h:a<=m)(x:Nat):(luck m x).drop a=luck (m - a) (jc a x):=by
 obtain⟨b,rfl⟩: ∃b,m=a + b:=⟨m - a,by omega⟩;rw[Bn,List.drop_append_of_le_length (by rw[eM];exact aE _),cK (by rw[eM];exact aE _),qL,tI]
def AA{α:Type}(c:Nat)(f:Nat->α):(List.range (c + 1)).map f=f 0::(List.range c).map λi=>f (i + 1):=by
 rw[List.range_succ_eq_map,bB,bP];rfl
theorem oF(n:Nat): ∀(c m x:Nat),n*c<=m->rowsOf n c (luck m x)=(List.range c).map λi=>luck n (jc (n*i) x)
 |0,_,_,_=>rfl
 |c + 1,m,x,h=>by
  have h1:n<=m:=cH (by rw[gB];omega) h;rw[rowsOf,xm h1,mw h1,oF n c (m - n) (jc n x) (by rw[gB] at h;omega),AA];congr 1;refine cC λi _=> ?_;rw[<-mf,gB,tD]
def ou{α β:Type}(c:Nat)(f:Nat->α)(g:α×Nat->β):(((List.range c).map f).zipIdx).map g=(List.range c).map λi=>g (f i,i):=by
 refine bW (by simp) λi h1 h2=> ?_;simp
def Lr(f:Form)(x:Nat):
  workOf f (luck (need f) x)=⟨f,(List.range (2*f.n*f.digits)).map (λt=>turningOf f (secretOf f (luck (need f) x)) t (luck (9*f.ring) (jc (9*f.ring*t) (jc (f.n + f.ring) x)))),
   (List.range (f.ring*f.kdigits)).map (λt=>changingOf f (secretOf f (luck (need f) x)) t (luck (2*f.n + 1) (jc ((2*f.n + 1)*t) (jc (18*(f.n*f.digits*f.ring)) (jc (f.n + f.ring) x)))))⟩:=by
 unfold workOf;have e1:need f -(f.n + f.ring)=18*(f.n*f.digits*f.ring)+ f.ring*f.kdigits*(2*f.n + 1):=by unfold need;omega
 have h9:9*f.ring*(2*f.n*f.digits)=18*(f.n*f.digits*f.ring):=by
  rw[cj (9*f.ring),cc 2,<-cc,cj _ 9,<-cc,cc (9*2)]
 simp only[];rw[mw (by unfold need;omega),e1,oF _ _ _ _ (by omega),ou,mw (by omega),oF _ _ _ _ (by rw[qL,cj];exact aE _),ou]
def Aq(f:Form)(x:Nat):(secretOf f (luck (need f) x)).s=(luck f.n x).map λc=>c % 2:=by
 unfold secretOf;simp only[];rw[xm (by unfold need;omega)]
def vH(f:Form)(x:Nat):(secretOf f (luck (need f) x)).z=(luck f.ring (jc f.n x)).map λc=>((c % 2:Nat):Int):=by
 unfold secretOf;simp only[];rw[mw (by unfold need;omega),xm (by unfold need;omega)]
def G7(c:Nat)(r:List Nat):num (c::r)=c + 256*num r:=rfl
theorem Jw: ∀{l:List Nat},(∀b∈l,b<256)->num l<256^l.length
 | [],_=>by decide
 |c::r,h=>by
  have ih:=Jw (l:=r) λb hb=>h b (aK _ hb);have hc:=h c (aY ..);rw[G7,bV,zN];omega
theorem E3: ∀(k x:Nat),(le k x).length=k
 |0,_=>rfl
 |k + 1,x=>by show(le k (x / 256)).length + 1=k + 1;rw[E3 k]
theorem uM(n:Nat): ∀(c:Nat) (l:List Nat),(rowsOf n c l).length=c
 |0,_=>rfl
 |c + 1,l=>by show(rowsOf n c (l.drop n)).length + 1=c + 1;rw[uM n c]
end Sb
namespace Sb
open PyFlat
def wy{l:List Int}{e:Nat}{n:Int}{r:List Int}(h:l.drop e=n::r):l[e]? =some n/\r=l.drop (e + 1)/\e<l.length:=by
 have ig:e<l.length:=by
  rcases Nat.lt_or_ge e l.length with q|q
  ·exact q
  ·rw[cK q] at h;cases h
 rw[fG ig] at h;injection h with h1 h2;exact⟨by rw[af ig,h1],h2.symm,ig⟩
def Ur{l:List Int}{e:Nat}{x s:List Int}(h:row (l.drop e)=some (x,s)):
  ∃n:Nat,l[e]? =some (n:Int)/\x=(l.drop (e + 1)).take n/\s=l.drop (e + 1 + n)/\e + 1 + n<=l.length/\x.length=n:=by
 cases q:l.drop e with
 |nil=>rw[q] at h;cases h
 |cons m r=>
  rw[q] at h;obtain⟨h1,h2,h3⟩:=wy q;rw[row] at h;split at h
  ·rename_i hc
   have hm:((m.toNat:Nat):Int)=m:=aR hc.1;injection h with h;injection h with hx hs;have hl:r.length=l.length -(e + 1):=by rw[h2,bT]
   refine⟨m.toNat,by rw[hm];exact h1,by rw[<-hx,h2],by rw[<-hs,h2,gM],by omega,?_⟩;rw[<-hx,bo];omega
  ·cases h
def R5{shape:Int->Option (Nat×Nat)}{l:List Int}{e:Nat}{c:List (List Int)}{t:List Int}(h:call shape (l.drop e)=some (c,t)):
  ∃(z:Int) (n k:Nat) (xs:List (List Int)),l[e]? =some z/\shape z=some (n,k)/\e + 1 + n<=l.length/\c=(z::(l.drop (e + 1)).take n)::xs/\rows k (l.drop (e + 1 + n))=some (xs,t):=by
 cases q:l.drop e with
 |nil=>rw[q] at h;cases h
 |cons z r=>
  rw[q] at h;obtain⟨h1,h2,h3⟩:=wy q;rw[call] at h;split at h
  ·cases h
  ·rename_i n k hs
   have hl:r.length=l.length -(e + 1):=by rw[h2,bT]
   split at h
   ·cases h
   ·split at h
    ·cases h
    ·rename_i xs t' hr
     injection h with h;injection h with hc ht;refine⟨z,n,k,xs,h1,hs,by omega,by rw[<-hc,h2],?_⟩;rw[h2,gM] at hr;rw[<-ht];exact hr
def fM{k:Nat}: ∀{r:List Int} {xs:List (List Int)} {t:List Int},rows k r=some (xs,t)->xs.length=k:=by
 induction k with
 |zero=>intro r xs t h;unfold rows at h;injection h with h;injection h with h1 h2;rw[<-h1];rfl
 |succ k ih=>
  intro r xs t h;unfold rows at h;split at h
  ·cases h
  ·split at h
   ·cases h
   ·rename_i ys t' hr
    injection h with h;injection h with h1 h2;rw[<-h1,bV,ih hr]
def LF{k:Nat}{r:List Int}{xs:List (List Int)}{t:List Int}(h:rows (k + 1) r=some (xs,t)): ∃x s ys,xs=x::ys/\row r=some (x,s)/\rows k s=some (ys,t):=by
 unfold rows at h;split at h
 ·cases h
 ·rename_i x s hx
  split at h
  ·cases h
  ·rename_i ys t' hr
   injection h with h;injection h with h1 h2;exact⟨x,s,ys,h1.symm,hx,by rw[hr,h2]⟩
def one{z i:Int}{n k a b:Nat}{o:Option (Nat×Nat)}{R:Prop}(h:(if z=i then some (a,b) else o)=some (n,k))(r:o=some (n,k)->R):(z=i/\n=a/\k=b)\/R:=by
 split at h
 ·cases h;exact .inl ⟨‹_›,rfl,rfl⟩
 ·exact .inr (r h)
def lB{z:Int}{n k:Nat}(h:PyWqarav.shape z=some (n,k)):(z=1/\n=0/\k=1)\/(z=2/\n=0/\k=1)\/(z=3/\n=3/\k=0)\/(z=4/\n=2/\k=1)\/(z=5/\n=2/\k=0)\/(z=6/\n=1/\k=0)\/(z=7/\n=1/\k=1)\/(z=8/\n=1/\k=0)\/(z=9/\n=2/\k=0)\/(z=10/\n=1/\k=0)\/(z=11/\n=3/\k=0)\/(z=12/\n=2/\k=0)\/(z=13/\n=3/\k=0)\/(z=14/\n=2/\k=0)\/(z=15/\n=2/\k=0)\/(z=16/\n=2/\k=1)\/(z=17/\n=3/\k=0)\/(z=18/\n=2/\k=0)\/(z=19/\n=1/\k=0)\/(z=20/\n=3/\k=0)\/(z=21/\n=3/\k=0)\/(z=22/\n=3/\k=0)\/(z=23/\n=3/\k=0)\/(z=24/\n=1/\k=2)\/(z=25/\n=2/\k=0)\/(z=26/\n=2/\k=1)\/(z=27/\n=4/\k=0)\/(z=28/\n=1/\k=2)\/(z=29/\n=1/\k=1)\/(z=30/\n=0/\k=2):=
 one h λh=>one h λh=>one h λh=>one h λh=>one h λh=>one h λh=>one h λh=>one h λh=>one h λh=>one h λh=>one h λh=>one h λh=>one h λh=>one h λh=>one h λh=>one h λh=>one h λh=>one h λh=>one h λh=>one h λh=>one h λh=>one h λh=>one h λh=>one h λh=>one h λh=>one h λh=>one h λh=>one h λh=>one h λh=>(one h λh=>nomatch h).elim id d5
def len0{α:Type}{l:List α}(h:l.length=0):l=[]:=eU.mp h
theorem mO{α:Type}: ∀{l:List α},l.length=1-> ∃a,l=[a]
 | [a],_=>⟨a,rfl⟩
theorem m9{α:Type}: ∀{l:List α},l.length=2-> ∃a b,l=[a,b]
 | [a,b],_=>⟨a,b,rfl⟩
theorem uU{α:Type}: ∀{l:List α},l.length=3-> ∃a b c,l=[a,b,c]
 | [a,b,c],_=>⟨a,b,c,rfl⟩
theorem CC{α:Type}: ∀{l:List α},l.length=4-> ∃a b c d,l=[a,b,c,d]
 | [a,b,c,d],_=>⟨a,b,c,d,rfl⟩
theorem Rn{α:Type}: ∀{l:List α},l.length=5-> ∃a b c d e,l=[a,b,c,d,e]
 | [a,b,c,d,e],_=>⟨a,b,c,d,e,rfl⟩
def Nw{z:Int}{n k:Nat}{nums:List Int}{rs:List (List Int)}(h:PyWqarav.shape z=some (n,k))(hn:nums.length=n)(hk:rs.length=k):d7 ((z::nums)::rs)=(z::nums)::rs:=by
 rcases lB h with⟨rfl,rfl,rfl⟩|⟨rfl,rfl,rfl⟩|⟨rfl,rfl,rfl⟩|⟨rfl,rfl,rfl⟩|⟨rfl,rfl,rfl⟩|⟨rfl,rfl,rfl⟩|⟨rfl,rfl,rfl⟩|⟨rfl,rfl,rfl⟩|⟨rfl,rfl,rfl⟩|⟨rfl,rfl,rfl⟩|⟨rfl,rfl,rfl⟩|⟨rfl,rfl,rfl⟩|⟨rfl,rfl,rfl⟩|⟨rfl,rfl,rfl⟩|⟨rfl,rfl,rfl⟩|⟨rfl,rfl,rfl⟩|⟨rfl,rfl,rfl⟩|⟨rfl,rfl,rfl⟩|⟨rfl,rfl,rfl⟩|⟨rfl,rfl,rfl⟩|⟨rfl,rfl,rfl⟩|⟨rfl,rfl,rfl⟩|⟨rfl,rfl,rfl⟩|⟨rfl,rfl,rfl⟩|⟨rfl,rfl,rfl⟩|⟨rfl,rfl,rfl⟩|⟨rfl,rfl,rfl⟩|⟨rfl,rfl,rfl⟩|⟨rfl,rfl,rfl⟩|⟨rfl,rfl,rfl⟩
 all_goals ((first|obtain rfl:=len0 hn|obtain⟨_,rfl⟩:=mO hn|obtain⟨_,_,rfl⟩:=m9 hn|obtain⟨_,_,_,rfl⟩:=uU hn|obtain⟨_,_,_,_,rfl⟩:=CC hn);(first|obtain rfl:=len0 hk|obtain⟨_,rfl⟩:=mO hk|obtain⟨_,_,rfl⟩:=m9 hk|obtain⟨_,_,_,rfl⟩:=uU hk|obtain⟨_,_,_,_,rfl⟩:=CC hk);rfl)
def B1{shape:Int->Option (Nat×Nat)}{f:Nat}{r:List Int}{cs:List (List (List Int))}(h:kN shape f r=some cs):
  (r=[]/\cs=[])\/ ∃f' c t Nj,f=f' + 1/\cs=c::Nj/\call shape r=some (c,t)/\kN shape f' t=some Nj:=by
 cases r with
 |nil=>cases f <;>(unfold kN at h;injection h with h;exact .inl ⟨rfl,h.symm⟩)
 |cons p r=>
  cases f with
  |zero=>unfold kN at h;cases h
  |succ f=>
   unfold kN at h;split at h
   ·cases h
   ·rename_i c t hc
    split at h
    ·cases h
    ·rename_i Nj XH
     injection h with h;exact .inr ⟨f,c,t,Nj,rfl,h.symm,hc,XH⟩
end Sb
namespace Sb
open Wqarav
def ir:List (Nat×Nat):=[(2,65),(2,17)]
def jB(m:Nat):Nat->Nat->List (Nat×Nat)
 |0,_=>[]
 |c + 1,t=>(1,16)::(2,m + t)::(2,m + t)::jB m c (t + 1)
def jC(s:List Nat)(m:Nat):List (Nat×Nat):=jB m (two s 0) 0++bC (two s 2) (2,m + two s 0)
def de(s:List Nat):List (Nat×Nat)->Nat->Option Nat
 | [],_=>none
 |f::r,i=>if s.length<i + f.1 then some s.length else if f.2<=num ((s.drop i).take f.1) then some i else de s r (i + f.1)
def iD(l:List (Nat×Nat)):Nat:=(l.map (·.1)).sum
theorem jA(s:List Nat): ∀(a b:List (Nat×Nat)) (i:Nat),de s (a++b) i=match de s a i with
  |some e=>some e
  |none=>de s b (i + iD a)
 | [],b,i=>rfl
 |f::r,b,i=>by
  have u1:de s (f::r++b) i=if s.length<i + f.1 then some s.length else if f.2<=num ((s.drop i).take f.1) then some i else de s (r++b) (i + f.1):=rfl;have u2:de s (f::r) i=if s.length<i + f.1 then some s.length else if f.2<=num ((s.drop i).take f.1) then some i else de s r (i + f.1):=rfl;rw[u1,u2];have e:iD (f::r)=f.1 + iD r:=by simp[iD]
  by_cases h1:s.length<i + f.1
  ·rw[if_pos h1,if_pos h1]
  ·rw[if_neg h1,if_neg h1];by_cases h2:f.2<=num ((s.drop i).take f.1)
   ·rw[if_pos h2,if_pos h2]
   ·rw[if_neg h2,if_neg h2,jA s r b,e,mj]
def KJ{s:List Nat}{i:Nat}(h:i<s.length):num ((s.drop i).take 1)=s.getD i 0:=by
 rw[ae,af h,fG h];show s[i] + 256*num []=s[i];show s[i] + 256*0=s[i];omega
def lP(s:List Nat):Nat->Nat->List Gate
 |0,_=>[]
 |c + 1,i=>⟨s.getD i 0,two s (i + 1),two s (i + 3)⟩::lP s c (i + 5)
def qm(s:List Nat):Nat->Nat->List Nat
 |0,_=>[]
 |c + 1,i=>two s i::qm s c (i + 2)
theorem pD(s:List Nat): ∀c i,(lP s c i).length=c
 |0,_=>rfl
 |c + 1,i=>by show(lP s c (i + 5)).length + 1=c + 1;rw[pD s c]
theorem DN(s:List Nat): ∀c i,(qm s c i).length=c
 |0,_=>rfl
 |c + 1,i=>by show(qm s c (i + 2)).length + 1=c + 1;rw[DN s c]
theorem j4(s:List Nat)(m i:Nat)(r:List (Nat×Nat)):de s ((2,m)::r) i=match wireAt s i m with
  | .error e=>some e
  | .ok _=>de s r (i + 2):=by
 unfold wireAt;show(if s.length<i + 2 then some s.length else if m<=num ((s.drop i).take 2) then some i else de s r (i + 2))=_;by_cases h1:s.length<i + 2
 ·rw[if_pos h1,if_pos h1]
 ·rw[if_neg h1,if_neg h1];by_cases h2:m<=two s i
  ·rw[if_pos (show m<=num ((s.drop i).take 2) from h2),if_pos h2]
  ·rw[if_neg (show¬m<=num ((s.drop i).take 2) from h2),if_neg h2]
def ml{s:List Nat}{i m a:Nat}(h:wireAt s i m= .ok a):a=two s i/\a<m/\i + 2<=s.length:=by
 unfold wireAt at h;by_cases h1:s.length<i + 2
 ·rw[if_pos h1] at h;cases h
 ·rw[if_neg h1] at h;by_cases h2:m<=two s i
  ·rw[if_pos h2] at h;cases h
  ·rw[if_neg h2] at h;injection h with h;exact⟨h.symm,by omega,by omega⟩
theorem Bw(s:List Nat)(m:Nat): ∀c t i,gatesAt s m c t i=match de s (jB m c t) i with
  |some e=> .error e
  |none=> .ok (lP s c i)
 |0,t,i=>rfl
 |c + 1,t,i=>by
  unfold gatesAt;show _=match de s ((1,16)::(2,m + t)::(2,m + t)::jB m c (t + 1)) i with
   |some e=>Except.error e
   |none=>Except.ok (lP s (c + 1) i)
  have e0:de s ((1,16)::(2,m + t)::(2,m + t)::jB m c (t + 1)) i=if s.length<i + 1 then some s.length else if 16<=num ((s.drop i).take 1) then some i else de s ((2,m + t)::(2,m + t)::jB m c (t + 1)) (i + 1):=rfl;rw[e0];by_cases h1:s.length<=i
  ·rw[if_pos h1,if_pos (show s.length<i + 1 by omega)]
  ·rw[if_neg h1,if_neg (show¬s.length<i + 1 by omega),KJ (by omega)];by_cases h2:15<s.getD i 0
   ·rw[if_pos h2,if_pos (show 16<=s.getD i 0 by omega)]
   ·rw[if_neg h2,if_neg (show¬16<=s.getD i 0 by omega),j4];cases h3:wireAt s (i + 1) (m + t) with
    |error e=>rfl
    |ok a=>
     dsimp only;rw[j4];cases h4:wireAt s (i + 3) (m + t) with
     |error e=>rfl
     |ok b=>
      dsimp only;rw[Bw s m c (t + 1) (i + 5),show i + 3 + 2=i + 5 from rfl];cases de s (jB m c (t + 1)) (i + 5) with
      |some e=>rfl
      |none=>
       dsimp only;rw[(ml h3).1,(ml h4).1];rfl
theorem DP(s:List Nat)(m:Nat): ∀c i,outsAt s m c i=match de s (bC c (2,m)) i with
  |some e=> .error e
  |none=>if i + 2*c<s.length then .error (i + 2*c) else .ok (qm s c i)
 |0,i=>by
  show outsAt s m 0 i=if i + 2*0<s.length then .error (i + 2*0) else .ok (qm s 0 i);rfl
 |c + 1,i=>by
  unfold outsAt;rw[d8,j4];cases h:wireAt s i m with
  |error e=>rfl
  |ok a=>
   dsimp only;rw[DP s m c (i + 2)];cases de s (bC c (2,m)) (i + 2) with
   |some e=>rfl
   |none=>
    dsimp only;rw[show i + 2 + 2*c=i + 2*(c + 1) by omega];by_cases h2:i + 2*(c + 1)<s.length
    ·rw[if_pos h2,if_pos h2]
    ·rw[if_neg h2,if_neg h2,(ml h).1];rfl
theorem pK(m:Nat): ∀c t,iD (jB m c t)=5*c
 |0,t=>rfl
 |c + 1,t=>by
  have e:iD (jB m (c + 1) t)=1 +(2 +(2 + iD (jB m c (t + 1)))):=rfl;rw[e,pK m c];omega
def N0(m:Nat)(c:Nat):iD (bC c (2,m))=2*c:=by
 unfold iD;rw[oq,List.sum_replicate_nat];omega
def wm(a b:List (Nat×Nat)):iD (a++b)=iD a + iD b:=by simp[iD]
def Ek(s:List Nat)(m:Nat):iD (ir++jC s m)=4 + 5*two s 0 + 2*two s 2:=by
 unfold jC;rw[wm,wm,pK,N0];show 4 + _=_;omega
def lQ(s:List Nat)(m:Nat):Option Nat:=match de s ir 0 with
 |some e=>some e
 |none=>match de s (ir++jC s m) 0 with
  |some e=>some e
  |none=>if iD (ir++jC s m)<s.length then some (iD (ir++jC s m)) else none
def uz(s:List Nat):Circuit:=⟨lP s (two s 0) 4,qm s (two s 2) (4 + 5*two s 0)⟩
theorem zt(s:List Nat)(m:Nat):readCircuit s m=match lQ s m with
  |some e=> .error e
  |none=> .ok (uz s):=by
 unfold readCircuit lQ;rw[Ek,jA];have e0:de s ir 0=if s.length<2 then some s.length else if 65<=two s 0 then some 0 else if s.length<4 then some s.length else if 17<=two s 2 then some 2 else none:=rfl;have hG:GATES=64:=rfl;have hO:OUTS=16:=rfl;rw[hG,hO];by_cases h1:s.length<2
 ·rw[if_pos h1,e0,if_pos h1]
 by_cases h2:65<=two s 0
 ·rw[if_neg h1,if_pos (by omega),e0,if_neg h1,if_pos h2]
 by_cases h3:s.length<4
 ·rw[if_neg h1,if_neg (by omega),if_pos h3,e0,if_neg h1,if_neg h2,if_pos h3]
 by_cases h4:17<=two s 2
 ·rw[if_neg h1,if_neg (by omega),if_neg h3,if_pos (by omega),e0,if_neg h1,if_neg h2,if_neg h3,if_pos h4]
 rw[if_neg h1,if_neg (by omega),if_neg h3,if_neg (by omega),e0,if_neg h1,if_neg h2,if_neg h3,if_neg h4];dsimp only;rw[Bw];unfold jC;rw[jA,show 0 + iD ir=4 from rfl];cases de s (jB m (two s 0) 0) 4 with
 |some e=>rfl
 |none=>
  dsimp only;rw[DP,pK];cases de s (bC (two s 2) (2,m + two s 0)) (4 + 5*two s 0) with
  |some e=>rfl
  |none=>
   dsimp only;by_cases h5:4 + 5*two s 0 + 2*two s 2<s.length
   ·rw[if_pos h5,if_pos h5]
   ·rw[if_neg h5,if_neg h5];rfl
theorem BA(s:List Nat): ∀(l:List (Nat×Nat)) (i:Nat),l≠[]->de s l i=none->i + iD l<=s.length
 | [],i,h,_=>absurd rfl h
 |f::r,i,_,h=>by
  unfold de at h;by_cases h1:s.length<i + f.1
  ·rw[if_pos h1] at h;cases h
  ·rw[if_neg h1] at h;by_cases h2:f.2<=num ((s.drop i).take f.1)
   ·rw[if_pos h2] at h;cases h
   ·rw[if_neg h2] at h;have e:iD (f::r)=f.1 + iD r:=by simp[iD]
    rw[e];by_cases hr:r=[]
    ·subst hr;show i +(f.1 + 0)<=_;omega
    ·have:=BA s r (i + f.1) hr h;omega
structure Kd(s:List Nat)(m:Nat):Prop where
 len:s.length=4 + 5*two s 0 + 2*two s 2
 gates:two s 0<=64
 outs:two s 2<=16
 kinds: ∀t,t<two s 0->s.getD (4 + 5*t) 0<16
 Vh: ∀t,t<two s 0->two s (4 + 5*t + 1)<m + t
 seconds: ∀t,t<two s 0->two s (4 + 5*t + 3)<m + t
 wires: ∀t,t<two s 2->two s (4 + 5*two s 0 + 2*t)<m + two s 0
theorem Il(s:List Nat)(m:Nat): ∀c t i,de s (jB m c t) i=none-> ∀j,j<c->s.getD (i + 5*j) 0<16/\two s (i + 5*j + 1)<m +(t + j)/\two s (i + 5*j + 3)<m +(t + j)
 |0,t,i,_,j,hj=>absurd hj (by omega)
 |c + 1,t,i,h,j,hj=>by
  have e0:de s (jB m (c + 1) t) i=if s.length<i + 1 then some s.length else if 16<=num ((s.drop i).take 1) then some i else de s ((2,m + t)::(2,m + t)::jB m c (t + 1)) (i + 1):=rfl;rw[e0] at h;by_cases h1:s.length<i + 1
  ·rw[if_pos h1] at h;cases h
  rw[if_neg h1,KJ (by omega)] at h;by_cases h2:16<=s.getD i 0
  ·rw[if_pos h2] at h;cases h
  rw[if_neg h2,j4] at h;cases h3:wireAt s (i + 1) (m + t) with
  |error e=>rw[h3] at h;cases h
  |ok a=>
   rw[h3] at h;dsimp only at h;rw[j4] at h;cases h4:wireAt s (i + 1 + 2) (m + t) with
   |error e=>rw[h4] at h;cases h
   |ok b=>
    rw[h4] at h;dsimp only at h;obtain⟨a1,a2,a3⟩:=ml h3;obtain⟨b1,b2,b3⟩:=ml h4;cases j with
    |zero=>exact⟨by show s.getD i 0<16;omega,by show two s (i + 1)<m + t;omega,by show two s (i + 3)<m + t;rw[show i + 3=i + 1 + 2 from rfl];omega⟩
    |succ j=>
     have ih:=Il s m c (t + 1) (i + 5) h j (by omega);rw[show i + 5 + 5*j=i + 5*(j + 1) by omega,show t + 1 + j=t +(j + 1) by omega] at ih;exact ih
theorem N1(s:List Nat)(m:Nat): ∀c i,de s (bC c (2,m)) i=none-> ∀j,j<c->two s (i + 2*j)<m
 |0,i,_,j,hj=>absurd hj (by omega)
 |c + 1,i,h,j,hj=>by
  rw[d8,j4] at h;cases h3:wireAt s i m with
  |error e=>rw[h3] at h;cases h
  |ok a=>
   rw[h3] at h;dsimp only at h;obtain⟨a1,a2,a3⟩:=ml h3;cases j with
   |zero=>show two s i<m;omega
   |succ j=>
    have ih:=N1 s m c (i + 2) h j (by omega);rw[show i + 2 + 2*j=i + 2*(j + 1) by omega] at ih;exact ih
def sX{s:List Nat}{m:Nat}(h:lQ s m=none):Kd s m:=by
 unfold lQ at h;have e0:de s ir 0=if s.length<2 then some s.length else if 65<=two s 0 then some 0 else if s.length<4 then some s.length else if 17<=two s 2 then some 2 else none:=rfl;cases h0:de s ir 0 with
 |some e=>rw[h0] at h;cases h
 |none=>
  rw[h0] at h;dsimp only at h;cases h1:de s (ir++jC s m) 0 with
  |some e=>rw[h1] at h;cases h
  |none=>
   rw[h1] at h;dsimp only at h;have hl:=BA s (ir++jC s m) 0 (by simp[ir]) h1;rw[Ek] at h hl;have hle: ¬4 + 5*two s 0 + 2*two s 2<s.length:=λz=>by rw[if_pos z] at h;cases h
   rw[jA,h0] at h1;dsimp only at h1;unfold jC at h1;rw[jA,show 0 + iD ir=4 from rfl] at h1;have hg:two s 0<=64/\two s 2<=16:=by
    rw[e0] at h0;by_cases h3:s.length<2
    ·rw[if_pos h3] at h0;cases h0
    rw[if_neg h3] at h0;by_cases h4:65<=two s 0
    ·rw[if_pos h4] at h0;cases h0
    rw[if_neg h4] at h0;by_cases h5:s.length<4
    ·rw[if_pos h5] at h0;cases h0
    rw[if_neg h5] at h0;by_cases h6:17<=two s 2
    ·rw[if_pos h6] at h0;cases h0
    omega
   cases h2:de s (jB m (two s 0) 0) 4 with
   |some e=>rw[h2] at h1;cases h1
   |none=>
    rw[h2] at h1;dsimp only at h1;rw[pK] at h1;have k1:=Il s m _ _ _ h2;have k2:=N1 s _ _ _ h1;exact⟨by omega,hg.1,hg.2,λt ht=>(k1 t ht).1,λt ht=>by have:=(k1 t ht).2.1;omega,λt ht=>by have:=(k1 t ht).2.2;omega,λt ht=>k2 t ht⟩
def xS(l:List Int):List Int:=(- l.getD (l.length - 1) 0)::l.dropLast
def nI:Nat->List Int->List Int
 |0,a=>a
 |e + 1,a=>nI e (xS a)
theorem Bt: ∀(e:Nat) (a:List Int),xS (nI e a)=nI (e + 1) a
 |0,a=>rfl
 |e + 1,a=>by show xS (nI e (xS a))=nI (e + 1) (xS a);exact Bt e (xS a)
def Nv{l:List Int}(h:l≠[]):(xS l).length=l.length:=by
 have:=iE.mpr h;simp[xS];omega
def So(l:List Int):xS l≠[]:=by simp[xS]
theorem sU: ∀(e:Nat) (a:List Int),a≠[]->(nI e a).length=a.length
 |0,a,_=>rfl
 |e + 1,a,h=>by show(nI e (xS a)).length=a.length;rw[sU e (xS a) (So a),Nv h]
def red(l:List Int):List Int:=l.map λx=>x % BIG
def Red(l:List Int):Prop:= ∀x∈l,0<=x/\x<BIG
def mi:(0:Int)<BIG:=by decide +kernel
def N3{l:List Int}(h:Red l):red l=l:=by
 unfold red
 conv=>rhs;rw[<-Zj l]
 exact cC λx hx=>Sm (h x hx).1 (h x hx).2
def QQ(l:List Int):Red (red l):=λx hx=>by
 obtain⟨y,_,rfl⟩:=aQ.mp hx;exact⟨kH _ (by have:=mi;omega),kJ _ mi⟩
def vK(l:List Int):(red l).length=l.length:=by simp[red]
def N4(l:List Int)(k:Nat):(red l).getD k 0=l.getD k 0 % BIG:=by
 unfold red;rw[ae,ae,aI];cases l[k]? <;> simp
def R7{l:List Int}(h:l≠[]):byX (red l)=red (xS l):=by
 have hr:red l≠[]:=by simpa [red] using h
 refine oQ (by rw[FL,vK,vK,Nv h]) λk hk=> ?_;rw[FL] at hk;rw[Lb hr k hk];simp only[N4,vK];rw[vK] at hk;cases k with
 |zero=>
  rw[if_pos rfl];show(-(l.getD (l.length - 1) 0 % BIG))% BIG=(-(l.getD (l.length - 1) 0))% BIG;rw[show BIG=4503599627370496 by decide +kernel];omega
 |succ k=>
  rw[if_neg (by omega)];show l.getD k 0 % BIG=(l.dropLast).getD k 0 % BIG;rw[ae,ae,Ki,if_pos (by omega)]
theorem zV: ∀(e:Nat) {l:List Int},l≠[]->turned e (red l)=red (nI e l)
 |0,l,h=>rfl
 |e + 1,l,h=>by
  show turned e (byX (red l))=red (nI e (xS l));rw[R7 h,zV e (So l)]
def wV(e:Nat){l:List Int}(h:l≠[])(hr:Red l):turned e l=red (nI e l):=by
 rw[<-zV e h,N3 hr]
def i5(e:Nat){l:List Int}(h:l≠[])(hr:Red l):(turned e l).length=l.length:=by
 rw[wV e h hr,vK,sU e l h]
def Jb(e:Nat){l:List Int}(h:l≠[])(hr:Red l):Red (turned e l):=by
 rw[wV e h hr];exact QQ _
def Nt(f:Int->Int->Int)(a b:List Int):Red (jF (λx y=>f x y % BIG) a b):=λx hx=>by
 obtain⟨i,hi,rfl⟩:=vb.mp hx;simp only[M8];exact⟨kH _ (by have:=mi;omega),kJ _ mi⟩
def N9(a b:List Int):Red (plus a b):=Nt (λx y=>x + y) a b
def LW(a b:List Int):Red (minus a b):=Nt (λx y=>x - y) a b
def PQ{l:List Int}(h:Red l)(k:Nat):l.getD k 0 % BIG=l.getD k 0:=by
 rw[ae];cases e:l[k]? with
 |none=>show(0:Int)% BIG=0;exact Int.zero_emod _
 |some x=>exact Sm (h x (aZ e)).1 (h x (aZ e)).2
theorem mR{N:Nat}: ∀(l:List (List Int)) (a:List Int),a.length=N->Red a->(∀x∈l,x.length=N)->(l.foldl plus a).length=N/\Red (l.foldl plus a)/\ ∀k,k<N->(l.foldl plus a).getD k 0=(a.getD k 0 +(l.map λx=>x.getD k 0).sum)% BIG
 | [],a,h1,h2,_=>⟨h1,h2,λk _=>by
   show a.getD k 0=(a.getD k 0 + 0)% BIG;rw[Zm,PQ h2]⟩
 |x::r,a,h1,h2,h3=>by
  have hx:=h3 x (aY ..);obtain⟨q1,q2,q3⟩:=mR r (plus a x) (by rw[mD,h1,hx];omega) (N9 a x) (λy hy=>h3 y (aK _ hy));refine⟨q1,q2,λk hk=> ?_⟩;rw[km,q3 k hk,oG (by omega) (by omega),bB,fw];rw[Sn];congr 1;omega
def yq(N:Nat):Red (nothing N):=λx hx=>by
 have:x=0:=by unfold nothing at hx;exact(List.mem_replicate.mp hx).2
 subst this;exact⟨Int.le_refl _,mi⟩
def zY{N:Nat}{l:List (List Int)}{a:List Int}(h1:a.length=N)(h2:Red a)(h3: ∀x∈l,x.length=N):l.foldl plus a=plus a (sumPoly N l):=by
 obtain⟨q1,q2,q3⟩:=mR l a h1 h2 h3;obtain⟨p1,p2,p3⟩:=mR l (nothing N) (lD N) (yq N) h3;refine oQ (by unfold sumPoly;rw[q1,mD,h1,p1];omega) λk hk=> ?_;rw[q1] at hk;unfold sumPoly;rw[q3 k hk,oG (by omega) (by omega),p3 k hk,l9,zR,gC]
def uL(d:Nat)(u:Int):Int:=if(2:Int)^(d - 1)<=u % 2^d then u % 2^d - 2^d else u % 2^d
def KI(d:Nat)(u:Int):Int:=(u - uL d u)/ 2^d
def um(d:Nat):Nat->Int->Int
 |0,u=>u
 |i + 1,u=>um d i (KI d u)
def kX(d:Nat):Nat->Int->List Int
 |0,_=>[]
 |c + 1,u=>uL d u::kX d c (KI d u)
theorem Ay(d:Nat): ∀i u,um d (i + 1) u=KI d (um d i u)
 |0,u=>rfl
 |i + 1,u=>by show um d (i + 1) (KI d u)=KI d (um d i (KI d u));exact Ay d i (KI d u)
theorem yC(d:Nat): ∀i u,kX d (i + 1) u=kX d i u++[uL d (um d i u)]
 |0,u=>rfl
 |i + 1,u=>by
  show uL d u::kX d (i + 1) (KI d u)=(uL d u::kX d i (KI d u))++[uL d (um d i (KI d u))];rw[yC d i (KI d u)];rfl
theorem nM(d:Nat): ∀c u,digitsOf d c u=(kX d c u).reverse
 |0,u=>rfl
 |c + 1,u=>by
  show digitsOf d c ((u - uL d u)/ 2^d)++[uL d u]=(uL d u::kX d c (KI d u)).reverse;rw[nM d c,zo];rfl
theorem u9(d:Nat): ∀c u,(kX d c u).length=c
 |0,u=>rfl
 |c + 1,u=>by show(kX d c (KI d u)).length + 1=c + 1;rw[u9 d c]
def GQ(d:Nat):(0:Int)<2^d:=Int.pow_pos (by decide)
def QL(d:Nat)(u:Int): -(2^d)<=uL d u/\uL d u<2^d:=by
 unfold uL;have h1:=kH u (b:=2^d) (by have:=GQ d;omega);have h2:=kJ u (GQ d);split <;> omega
theorem Ef(d:Nat): ∀c u,∀x∈kX d c u,-(2^d)<=x/\x<2^d
 |0,u,x,hx=>by simp[kX] at hx
 |c + 1,u,x,hx=>by
  rcases aA.mp hx with e|e
  ·subst e;exact QL d u
  ·exact Ef d c _ x e
def u7(w c d v:Nat):(digits w c d v).length=c:=by
 unfold digits;rw[nM,m7,u9]
def digits_le(w c d v:Nat): ∀x∈digits w c d v,-(2^d)<=x/\x<2^d:=λx hx=>by
 unfold digits at hx;rw[nM] at hx;exact Ef d c _ x (List.mem_reverse.mp hx)
def wW(l:List Int):total l=l.sum:=by
 unfold total
 suffices h: ∀(l:List Int) (a:Int),l.foldl (λ(a x:Int)=>a + x) a=a + l.sum by rw[h,gC]
 intro l
 induction l with
 |nil=>intro a;simp
 |cons x r ih=>intro a;rw[km,ih,fw];omega
def wsum(l m:List Int):Int:=(jF (λ(x y:Int)=>x*y) l m).sum
def sy{α:Type}(g:α->Int): ∀(fs:List Int) (ls:List α),total ((fs.zip ls).map λx=>x.1*g x.2)=wsum (ls.map g) fs:=by
 intro fs ls;rw[wW];unfold wsum
 induction fs generalizing ls with
 |nil=>cases ls <;> rfl
 |cons f r ih=>
  cases ls with
  |nil=>rfl
  |cons x t=>
   rw[P2,bB,fw,ih t,bB,iU,fw,zQ]
def NO(l:List Nat):((Wqarav.sum l:Nat):Int)=(l.map λ(n:Nat)=>(n:Int)).sum:=by
 unfold Wqarav.sum
 suffices h: ∀(l:List Nat) (a:Nat),((l.foldl (λ(a x:Nat)=>a + x) a:Nat):Int)=(a:Int)+(l.map λ(n:Nat)=>(n:Int)).sum by rw[h];simp
 intro l
 induction l with
 |nil=>intro a;simp
 |cons x r ih=>intro a;rw[km,ih,bB,fw,bh];omega
def MT: ∀(fs:List Int) (ls:List Seal),((Wqarav.sum ((fs.zip ls).map λx=>x.1.natAbs*x.2.bound):Nat):Int)=wsum (ls.map λs=>(s.bound:Int)) (fs.map λf=>((f.natAbs:Nat):Int)):=by
 intro fs ls;rw[NO];unfold wsum
 induction fs generalizing ls with
 |nil=>cases ls <;> rfl
 |cons f r ih=>
  cases ls with
  |nil=>rfl
  |cons x t=>
   rw[P2,bB,bB,fw,ih t,bB,bB,iU,fw,bf,zQ]
def EA{z:Int}{n:Nat}(h:(n:Int)=z % 65536):word z=n:=by
 unfold word;omega
def LV{n:Nat}{c:Seal}(h1:c.a.length=n)(h2: ∀x∈c.a,x<65536)(h3:c.b<65536)(h4:c.bound<=32768):mixed n [((1:Int),c)]=c:=by
 have e1:(List.range n).map (λ(i:Nat)=>word (total ([((1:Int),c)].map λ(x:Int×Seal)=>x.1*(x.2.a.getD i 0:Nat))))=c.a:=by
  refine bW (by simp[h1]) λi hi hj=> ?_;have e:total ([((1:Int),c)].map λ(x:Int×Seal)=>x.1*(x.2.a.getD i 0:Nat))=((c.a.getD i 0:Nat):Int):=by
   rw[wW];simp
  rw[lR,xN,e,ae,af hj,iA];exact EA (by have:=h2 _ (gH hj);omega)
 have e2:word (total ([((1:Int),c)].map λ(x:Int×Seal)=>x.1*(x.2.b:Nat)))=c.b:=by
  have e:total ([((1:Int),c)].map λ(x:Int×Seal)=>x.1*(x.2.b:Nat))=((c.b:Nat):Int):=by
   rw[wW];simp
  rw[e];exact EA (by omega)
 have e3:min NOTHING (Wqarav.sum ([((1:Int),c)].map λ(x:Int×Seal)=>x.1.natAbs*x.2.bound))=c.bound:=by
  have e:Wqarav.sum ([((1:Int),c)].map λ(x:Int×Seal)=>x.1.natAbs*x.2.bound)=c.bound:=by
   show 0 +(1:Int).natAbs*c.bound=c.bound;show 0 + 1*c.bound=c.bound;omega
  rw[e];show min 32768 c.bound=c.bound;omega
 unfold mixed;rw[e1,e2,e3]
def nk(z:Int):word z<65536:=by unfold word;omega
def vW(n:Nat)(l:List (Int×Seal)):(mixed n l).a.length=n/\(∀x∈(mixed n l).a,x<65536)/\(mixed n l).b<65536/\(mixed n l).bound<=32768:=by
 refine⟨by simp[mixed],λx hx=> ?_,nk _,Ey ..⟩;obtain⟨i,_,rfl⟩:=aQ.mp hx;exact nk _
def lj(f:Form):List Gate->List Nat->Bool
 | [],_=>true
 |g::r,l=>if sure f (min NOTHING (l.getD g.a NOTHING + 2*l.getD g.b NOTHING))=true then lj f r (l++[min NOTHING (tableBound f)]) else false
def dI:Seal:=⟨[],0,NOTHING⟩
def j8(w:Work):List Gate->List Seal->List Seal
 | [],l=>l
 |g::r,l=>j8 w r (l++[gate w g.kind (l.getD g.a dI) (l.getD g.b dI)])
def map_getD{α β:Type}(f:α->β)(l:List α)(i:Nat)(d:α):(l.map f).getD i (f d)=f (l.getD i d):=by
 rw[ae,ae,aI];cases l[i]? <;> rfl
def CF(f:Form)(x y:Seal):(gateSum f x y).bound=min NOTHING (x.bound + 2*y.bound):=by
 show min NOTHING (Wqarav.sum [1*x.bound,2*y.bound])=_;show min NOTHING (0 + 1*x.bound + 2*y.bound)=_;congr 1;omega
theorem Gi(w:Work): ∀(gs:List Gate) (l:List Seal),wires w gs l=if lj w.form gs (l.map λs=>s.bound)=true then some (j8 w gs l) else none
 | [],l=>rfl
 |g::r,l=>by
  show(if sure w.form (gateSum w.form (l.getD g.a dI) (l.getD g.b dI)).bound=true then wires w r (l++[gate w g.kind (l.getD g.a dI) (l.getD g.b dI)]) else none)=_;have e1:(l.map λs=>s.bound).getD g.a NOTHING=(l.getD g.a dI).bound:=map_getD (λ(s:Seal)=>s.bound) l g.a dI;have e2:(l.map λs=>s.bound).getD g.b NOTHING=(l.getD g.b dI).bound:=map_getD (λ(s:Seal)=>s.bound) l g.b dI;have e3:lj w.form (g::r) (l.map λs=>s.bound)=if sure w.form (min NOTHING ((l.map λs=>s.bound).getD g.a NOTHING + 2*(l.map λs=>s.bound).getD g.b NOTHING))=true then lj w.form r ((l.map λs=>s.bound)++[min NOTHING (tableBound w.form)]) else false:=rfl;rw[e3,e1,e2,CF];by_cases h:sure w.form (min NOTHING ((l.getD g.a dI).bound + 2*(l.getD g.b dI).bound))=true
  ·rw[if_pos h,if_pos h,Gi w r,bF];rfl
  ·rw[if_neg h,if_neg h];rfl
theorem putAll_snoc: ∀(l:List Seal) (b:Box) (s:Seal),l.length<b.free-> ∃h,(b.putAll l).1.seals.findIdx? (λx=>x.isNone)=some h/\
  b.putAll (l++[s])=(⟨(b.putAll l).1.work,(b.putAll l).1.secret,(b.putAll l).1.seals.set h (some s),(b.putAll l).1.uses,(b.putAll l).1.cap⟩,(b.putAll l).2++[h])
 |l,b,s,hf=>by
  have hex: ∃i,b.seals.findIdx? (λx=>x.isNone)=some i:=by
   cases e:b.seals.findIdx? (λx=>x.isNone) with
   |some i=>exact⟨i,rfl⟩
   |none=>
    rw[jO] at e;have:b.free=0:=by
     unfold Wqarav.Box.free;rw[eU,Kk];intro x hx;simp[e x hx]
    omega
  obtain⟨i,hi⟩:=hex;cases l with
  |nil=>
   refine⟨i,hi,?_⟩;rw[tI];unfold Box.putAll;rw[hi];rfl
  |cons c r=>
   have Mg:r.length<(⟨b.work,b.secret,b.seals.set i (some c),b.uses,b.cap⟩:Box).free:=by
    have ig:b.free<=(⟨b.work,b.secret,b.seals.set i (some c),b.uses,b.cap⟩:Box).free + 1:=by
     obtain⟨hl,hn,hx⟩:=kO.mp hi;clear hx;unfold Box.free;dsimp only;generalize b.seals=z at hl hn;clear hi hf
     induction z generalizing i with
     |nil=>simp at hl
     |cons y t ih=>
      cases i with
      |zero=>
       rw[List.set_cons_zero];simp only[jG,Option.isNone_some];split <;> simp
      |succ i=>
       rw[List.set_cons_succ];have:=ih i (by simpa using hl) (by simpa using hn);simp only[jG];split
       ·rw[bV,bV];omega
       ·exact this
    simp at hf;omega
   obtain⟨h,h1,h2⟩:=putAll_snoc r ⟨b.work,b.secret,b.seals.set i (some c),b.uses,b.cap⟩ s Mg;have e1:b.putAll (c::r)=((Box.putAll ⟨b.work,b.secret,b.seals.set i (some c),b.uses,b.cap⟩ r).1,i::(Box.putAll ⟨b.work,b.secret,b.seals.set i (some c),b.uses,b.cap⟩ r).2):=by
    rw[Box.putAll,hi]
   have e2:b.putAll (c::r++[s])=((Box.putAll ⟨b.work,b.secret,b.seals.set i (some c),b.uses,b.cap⟩ (r++[s])).1,i::(Box.putAll ⟨b.work,b.secret,b.seals.set i (some c),b.uses,b.cap⟩ (r++[s])).2):=by
    rw[Ca,Box.putAll,hi]
   refine⟨h,by rw[e1];exact h1,?_⟩;rw[e2,h2,e1];rfl
 termination_by l=>l.length
end Sb
namespace Sb
open Wqarav
def gw(f:Form)(a:Poly):(digitPolys f a).length=f.digits:=by simp[digitPolys]
def fZ{f:Form}{a:Poly}: ∀l∈digitPolys f a,l.length=a.length:=λl hl=>by
 unfold digitPolys at hl;obtain⟨k,_,rfl⟩:=aQ.mp hl;simp
def oR{f:Form}{a:Poly}(hw:f.width<=8): ∀l∈digitPolys f a,∀x∈l,-(2^64)<x/\x<2^64:=λl hl x hx=>by
 unfold digitPolys at hl;obtain⟨k,_,rfl⟩:=aQ.mp hl;rw[aQ] at hx;obtain⟨r,hr,rfl⟩:=hx;rw[aQ] at hr;obtain⟨y,_,rfl⟩:=hr;have h2:(2:Int)^f.width<=2^8:=by
  have:2^f.width<=2^8:=mB (by decide) hw;have e1:((2^f.width:Nat):Int)=(2:Int)^f.width:=by rw[m8];rfl
  rw[<-e1];exact Int.ofNat_le.mpr this
 rw[ae];cases e:(digits 52 f.digits f.width y.toNat)[k]? with
 |none=>show -(2^64)<(0:Int)/\(0:Int)<2^64;decide
 |some z=>
  have:=digits_le _ _ _ _ z (aZ e);show -(2^64)<z/\z<2^64;generalize (2:Int)^f.width=B at h2 this;omega
def turns(w:Work)(i:Nat):List Pair:=(w.turning.drop (i*(2*w.form.digits))).take (2*w.form.digits)
def so{w:Work}(h:w.turning.length=2*w.form.n*w.form.digits){i:Nat}(hi:i<w.form.n):(turns w i).length=2*w.form.digits:=by
 unfold turns;rw[bo,bT,h];have:(i + 1)*(2*w.form.digits)<=w.form.n*(2*w.form.digits):=jt _ hi;rw[jL] at this;rw[show 2*w.form.n*w.form.digits=w.form.n*(2*w.form.digits) by rw[cj 2,cc]];omega
def NF{w:Work}(h:w.turning.length=2*w.form.n*w.form.digits){i k:Nat}(hi:i<w.form.n)(hk:k<2*w.form.digits):(turns w i)[k]? =some (w.turning.getD (i*(2*w.form.digits)+ k) ⟨[],[]⟩):=by
 have hl:=so h hi;unfold turns at hl ⊢;rw[xO,if_pos hk,kG,ae];have ig:i*(2*w.form.digits)+ k<w.turning.length:=by
  rw[bo,bT] at hl;omega
 rw[af ig];rfl
def LK{w:Work}(h:w.turning.length=2*w.form.n*w.form.digits){i:Nat}(hi:i<w.form.n)(a b:Poly):
  ((digitPolys w.form a).zipIdx.map λ(y:Poly×Nat)=>(y.1,w.turn i 0 y.2))++((digitPolys w.form b).zipIdx.map λ(y:Poly×Nat)=>(y.1,w.turn i 1 y.2))=(digitPolys w.form a++digitPolys w.form b).zip (turns w i):=by
 have hl:=so h hi;have la:=gw w.form a;have lb:=gw w.form b;have tk: ∀(k:Nat) (hk:k<(turns w i).length),(turns w i)[k]=w.turning.getD (i*(2*w.form.digits)+ k) ⟨[],[]⟩:=λk hk=>by
  have:=NF h hi (k:=k) (by omega);rw[af hk] at this;exact ao this
 refine bW (by simp[la,lb,hl];omega) λk h1 h2=> ?_;rw[List.getElem_zip,tk];by_cases hk:k<w.form.digits
 ·rw[IG (by simp;omega),IG (by omega)];simp only[lR,Nq];unfold Work.turn;congr 2;rw[nW,zP,cj 2 i,cc]
 ·rw[Gg (by simp;omega),Gg (by omega)];simp only[lR,Nq,ag,List.length_zipIdx];unfold Work.turn;congr 2;rw[nW,la];rw[ve,Nat.one_mul,cj 2 i,cc];omega
def z0{w:Work}(h:w.turning.length=2*w.form.n*w.form.digits){i:Nat}(hi:i<w.form.n)(e:Nat)(c:Pair)(hr:8<=w.form.ring)(la:c.a.length=w.form.ring)(lb:c.b.length=w.form.ring)(ra:Red c.a)(rb:Red c.b)(ht: ∀p∈w.turning,p.a.length=w.form.ring/\p.b.length=w.form.ring):
  stepped w i e c=⟨(((digitPolys w.form (minus (turned e c.a) c.a)++digitPolys w.form (minus (turned e c.b) c.b)).zip (turns w i)).map λy=>times y.1 y.2.a).foldl plus c.a,
   (((digitPolys w.form (minus (turned e c.a) c.a)++digitPolys w.form (minus (turned e c.b) c.b)).zip (turns w i)).map λy=>times y.1 y.2.b).foldl plus c.b⟩:=by
 have na:c.a≠[]:=λz=>by rw[z] at la;have:(0:Nat)=w.form.ring:=la;omega
 have nb:c.b≠[]:=λz=>by rw[z] at lb;have:(0:Nat)=w.form.ring:=lb;omega
 have l1: ∀l∈digitPolys w.form (minus (turned e c.a) c.a)++digitPolys w.form (minus (turned e c.b) c.b),l.length=w.form.ring:=λl hl=>by
  rcases cJ.mp hl with hl|hl
  ·rw[fZ l hl,oK,i5 e na ra,la,ly]
  ·rw[fZ l hl,oK,i5 e nb rb,lb,ly]
 have mem: ∀y∈(digitPolys w.form (minus (turned e c.a) c.a)++digitPolys w.form (minus (turned e c.b) c.b)).zip (turns w i),y.1.length=w.form.ring/\y.2.a.length=w.form.ring/\y.2.b.length=w.form.ring:=λy hy=>by
  obtain⟨y1,y2⟩:=y;have:=kj hy;exact⟨l1 y1 this.1,ht y2 (eT (cM this.2))⟩
 rw[zY la ra,zY lb rb]
 ·unfold stepped outer;dsimp only;rw[LK h hi]
 ·intro x hx;obtain⟨y,hy,rfl⟩:=aQ.mp hx;have:=mem y hy;rw[fg (by omega)];omega
 ·intro x hx;obtain⟨y,hy,rfl⟩:=aQ.mp hx;have:=mem y hy;rw[fg (by omega)];omega
end Sb
namespace Sb
open Wqarav
def stN(k:Work)(l:List Nat)(c:Pair):Nat->Pair
 |0=>c
 |m + 1=>stepped k m (l.getD m 0) (stN k l c m)
theorem pW(k:Work)(l:List Nat)(c:Pair): ∀(j i:Nat),i + j=l.length->steppedAll k i (l.drop i) (stN k l c i)=stN k l c l.length
 |0,i,h=>by
  rw[cK (by omega)];show stN k l c i=_;rw[show i=l.length by omega]
 |j + 1,i,h=>by
  have hi:i<l.length:=by omega
  rw[fG hi];show steppedAll k (i + 1) (l.drop (i + 1)) (stepped k i l[i] (stN k l c i))=_;have e:stepped k i l[i] (stN k l c i)=stN k l c (i + 1):=by
   show _=stepped k i (l.getD i 0) (stN k l c i);rw[ae,af hi];rfl
  rw[e];exact pW k l c j (i + 1) (by omega)
def Cg(k:Work)(l:List Nat)(c:Pair):steppedAll k 0 l c=stN k l c l.length:=by
 have:=pW k l c l.length 0 (by omega);rwa[js] at this
def Gw{w:Work}(h:w.turning.length=2*w.form.n*w.form.digits){i:Nat}(hi:i<w.form.n)(e:Nat)(c:Pair)(hr:8<=w.form.ring)(la:c.a.length=w.form.ring)(lb:c.b.length=w.form.ring)(ra:Red c.a)(rb:Red c.b)(ht: ∀p∈w.turning,p.a.length=w.form.ring/\p.b.length=w.form.ring):
  (stepped w i e c).a.length=w.form.ring/\(stepped w i e c).b.length=w.form.ring/\Red (stepped w i e c).a/\Red (stepped w i e c).b:=by
 have na:c.a≠[]:=λz=>by rw[z] at la;have:(0:Nat)=w.form.ring:=la;omega
 have nb:c.b≠[]:=λz=>by rw[z] at lb;have:(0:Nat)=w.form.ring:=lb;omega
 have mem: ∀y∈(digitPolys w.form (minus (turned e c.a) c.a)++digitPolys w.form (minus (turned e c.b) c.b)).zip (turns w i),y.1.length=w.form.ring/\y.2.a.length=w.form.ring/\y.2.b.length=w.form.ring:=λy hy=>by
  obtain⟨y1,y2⟩:=y;have:=kj hy;refine⟨?_,ht y2 (eT (cM this.2))⟩;rcases cJ.mp this.1 with hl|hl
  ·rw[fZ _ hl,oK,i5 e na ra,la,ly]
  ·rw[fZ _ hl,oK,i5 e nb rb,lb,ly]
 rw[z0 h hi e c hr la lb ra rb ht];have q1:=mR (((digitPolys w.form (minus (turned e c.a) c.a)++digitPolys w.form (minus (turned e c.b) c.b)).zip (turns w i)).map λy=>times y.1 y.2.a) c.a la ra (λx hx=>by
  obtain⟨y,hy,rfl⟩:=aQ.mp hx;have:=mem y hy;rw[fg (by omega)];omega)
 have q2:=mR (((digitPolys w.form (minus (turned e c.a) c.a)++digitPolys w.form (minus (turned e c.b) c.b)).zip (turns w i)).map λy=>times y.1 y.2.b) c.b lb rb (λx hx=>by
  obtain⟨y,hy,rfl⟩:=aQ.mp hx;have:=mem y hy;rw[fg (by omega)];omega)
 exact⟨q1.1,q2.1,q1.2.1,q2.2.1⟩
theorem uW(s:List Nat): ∀(c i m:Nat),m<c->(lP s c i)[m]? =some ⟨s.getD (i + 5*m) 0,two s (i + 5*m + 1),two s (i + 5*m + 3)⟩
 |0,i,m,h=>absurd h (by omega)
 |c + 1,i,0,h=>rfl
 |c + 1,i,m + 1,h=>by
  show(lP s c (i + 5))[m]? =_;rw[uW s c (i + 5) m (by omega),show i + 5 + 5*m=i + 5*(m + 1) by omega]
theorem AM(s:List Nat): ∀(c i:Nat),(rowsOf 2 c (s.drop i)).map num=qm s c i
 |0,i=>rfl
 |c + 1,i=>by
  show num ((s.drop i).take 2)::(rowsOf 2 c ((s.drop i).drop 2)).map num=two s i::qm s c (i + 2);rw[gM,AM s c (i + 2)];rfl
theorem DO(s:List Nat): ∀(c i m:Nat),m<c->(qm s c i)[m]? =some (two s (i + 2*m))
 |0,i,m,h=>absurd h (by omega)
 |c + 1,i,0,h=>rfl
 |c + 1,i,m + 1,h=>by
  show(qm s c (i + 2))[m]? =_;rw[DO s c (i + 2) m (by omega),show i + 2 + 2*m=i + 2*(m + 1) by omega]
structure Iy(x:Circuit)(m:Nat):Prop where
 kinds: ∀(t:Nat) (g:Gate),x.gates[t]? =some g->g.kind<16
 a: ∀(t:Nat) (g:Gate),x.gates[t]? =some g->g.a<m + t
 b: ∀(t:Nat) (g:Gate),x.gates[t]? =some g->g.b<m + t
 outs: ∀o∈x.outs,o<m + x.gates.length
 lg:x.gates.length<=64
 lo:x.outs.length<=16
def FG{s:List Nat}{m:Nat}(h:Kd s m):Iy (uz s) m:=by
 have e: ∀t g,(uz s).gates[t]? =some g->t<two s 0/\g=⟨s.getD (4 + 5*t) 0,two s (4 + 5*t + 1),two s (4 + 5*t + 3)⟩:=λt g hg=>by
  have ht:t<(lP s (two s 0) 4).length:=(aD.mp hg).1;rw[pD] at ht;have h2:(lP s (two s 0) 4)[t]? =some g:=hg;rw[uW s _ _ _ ht] at h2;exact⟨ht,(ao h2).symm⟩
 have lg:(uz s).gates.length=two s 0:=pD s _ _;have lo:(uz s).outs.length=two s 2:=DN s _ _;refine⟨λt g hg=> ?_,λt g hg=> ?_,λt g hg=> ?_,λo ho=> ?_,by rw[lg];exact h.gates,by rw[lo];exact h.outs⟩
 ·obtain⟨ht,rfl⟩:=e t g hg;exact h.kinds t ht
 ·obtain⟨ht,rfl⟩:=e t g hg;exact h.Vh t ht
 ·obtain⟨ht,rfl⟩:=e t g hg;exact h.seconds t ht
 ·obtain⟨i,hi,rfl⟩:=vb.mp ho;rw[lo] at hi;have h2:(qm s (two s 2) (4 + 5*two s 0))[i]? =some ((uz s).outs[i]):=af _;rw[DO s _ _ _ hi] at h2;rw[<-ao h2,lg];exact h.wires i hi
theorem AG: ∀(gs:List Gate) (g:Gate) (l:List Bool),plainWires (gs++[g]) l=plainWires gs l++[g.kind.testBit (((plainWires gs l).getD g.a false).toNat + 2*((plainWires gs l).getD g.b false).toNat)]
 | [],g,l=>rfl
 |x::r,g,l=>by
  show plainWires (r++[g]) _=plainWires r _++_;rw[AG r g];rfl
theorem plain_len: ∀(gs:List Gate) (l:List Bool),(plainWires gs l).length=l.length + gs.length
 | [],l=>rfl
 |x::r,l=>by
  show(plainWires r (l++[_])).length=_;rw[plain_len r,aP,bV];simp;omega
theorem GH(k:Work): ∀(gs:List Gate) (g:Gate) (l:List Seal),j8 k (gs++[g]) l=j8 k gs l++[gate k g.kind ((j8 k gs l).getD g.a dI) ((j8 k gs l).getD g.b dI)]
 | [],g,l=>rfl
 |x::r,g,l=>by
  show j8 k (r++[g]) _=j8 k r _++_;rw[GH k r g];rfl
theorem zq(k:Work): ∀(gs:List Gate) (l:List Seal),(j8 k gs l).length=l.length + gs.length
 | [],l=>rfl
 |x::r,l=>by
  show(j8 k r (l++[_])).length=_;rw[zq k r,aP,bV];simp;omega
def xR(k n:Nat):(k.testBit n).toNat=k / 2^n % 2:=by
 rw[Nat.testBit_eq_decide_div_mod_eq];rcases Nat.mod_two_eq_zero_or_one (k / 2^n) with h|h <;> rw[h] <;> rfl
end Sb
namespace Sb
open Wqarav
theorem i7(b:Box)(ls:List Seal)(hf:ls.length<=b.free): ∀n,n<=ls.length->(b.putAll (ls.take n)).2.length=n
 |0,_=>rfl
 |n + 1,h=>by
  have hn:n<ls.length:=h;obtain⟨x,_,e⟩:=putAll_snoc (ls.take n) b ls[n] (by rw[bo];omega);rw[ib hn,e,aP,i7 b ls hf n (by omega)];rfl
theorem yl(b:Box)(ls:List Seal)(hf:ls.length<=b.free)(n:Nat): ∀m,n + m<=ls.length->(b.putAll (ls.take (n + m))).2.take n=(b.putAll (ls.take n)).2
 |0,h=>by
  show(b.putAll (ls.take n)).2.take n=_;exact aU (by rw[i7 b ls hf n (by omega)];exact aE _)
 |m + 1,h=>by
  have hn:n + m<ls.length:=by omega
  obtain⟨x,_,e⟩:=putAll_snoc (ls.take (n + m)) b ls[n + m] (by rw[bo];omega);rw[<-mj,ib hn,e];dsimp only;rw[Cd (by rw[i7 b ls hf (n + m) (by omega)];omega)];exact yl b ls hf n m (by omega)
def LH(b:Box)(ls:List Seal)(hf:ls.length<=b.free){n:Nat}{s:Seal}(hs:ls[n]? =some s): ∃h,(b.putAll (ls.take n)).1.seals.findIdx? (λx=>x.isNone)=some h/\
  (b.putAll (ls.take (n + 1))).1=⟨(b.putAll (ls.take n)).1.work,(b.putAll (ls.take n)).1.secret,(b.putAll (ls.take n)).1.seals.set h (some s),(b.putAll (ls.take n)).1.uses,(b.putAll (ls.take n)).1.cap⟩/\(b.putAll ls).2.getD n 0=h:=by
 have hn:n<ls.length:=(aD.mp hs).1;have es:ls[n]=s:=by rw[af hn] at hs;exact ao hs
 obtain⟨h,h1,e⟩:=putAll_snoc (ls.take n) b s (by rw[bo];omega);have e2:ls.take (n + 1)=ls.take n++[s]:=by rw[ib hn,es]
 refine⟨h,h1,by rw[e2,e],?_⟩;have t:=yl b ls hf (n + 1) (ls.length -(n + 1)) (by omega);rw[show n + 1 +(ls.length -(n + 1))=ls.length by omega,aU (aE _)] at t;have l:=i7 b ls hf n (by omega);have g:(b.putAll ls).2[n]? =some h:=by
  have:((b.putAll ls).2.take (n + 1))[n]? =some h:=by
   rw[t,e2,e];dsimp only;rw[dN (by omega),l,lu];rfl
  rw[xO,if_pos (jM n)] at this;exact this
 rw[ae,g];rfl
theorem yk: ∀(ls:List Seal) (b:Box),(b.putAll ls).1.work=b.work
 | [],b=>rfl
 |s::r,b=>by
  unfold Box.putAll;cases b.seals.findIdx? (λx=>x.isNone) with
  |none=>rfl
  |some h=>
   show(Box.putAll ⟨b.work,b.secret,b.seals.set h (some s),b.uses,b.cap⟩ r).1.work=b.work;exact yk r ⟨b.work,b.secret,b.seals.set h (some s),b.uses,b.cap⟩
def uD{b:Box}{h:Nat}{r:List Nat}(e:b.get h=none):b.all (h::r)=none:=by
 unfold Box.all;rw[e]
def B7{b:Box}{h:Nat}{r:List Nat}(e:b.all r=none):b.all (h::r)=none:=by
 unfold Box.all;rw[e];cases b.get h <;> rfl
def uC{b:Box}{h:Nat}{r:List Nat}{s:Seal}{l:List Seal}(e:b.get h=some s)(e2:b.all r=some l):b.all (h::r)=some (s::l):=by
 unfold Box.all;rw[e,e2]
end Sb
namespace Q
open PySem PySem.Spec PyProof.Rows L2
def GI(mg:Str->Option Value)(x:Str)(i:Int):Prop:= ∃t,mg x=some (.int i t)
def Callee(P:Program)(w:World)(K:ab)(mg:Str->Option Value)(base:Heap)(x:Str)(k:Nat)(ps:List Str)(sp:Sp):Prop:=
 ∃f fd,mg x=some (.ref f)/\d9 K (.ref f)=true/\Binds K fd ps []/\mh P w K mg base PY k f fd ps sp
def Maker(P:Program)(w:World)(K:ab)(mg:Str->Option Value)(base:Heap)(x:Str)(C:Addr)(k:Nat)(ps:List Str)(sp:Sp):Prop:=
 ∃f fd,mg x=some (.ref C)/\Mk K C f/\Binds K fd ps []/\mh P w K mg base PY k f fd ps sp
def Method(P:Program)(w:World)(K:ab)(mg:Str->Option Value)(base:Heap)(C:Addr)(m:Str)(k:Nat)(ps:List Str)(sp:Sp):Prop:=
 ∃f fd,wI K C/\Meth K C m f/\Binds K fd ps []/\mh P w K mg base PY k f fd ps sp
section
variable{X:Cx}{pos pos' p apos:Pos}{x m:Str}{e o:Expr}{es:List Expr}{te ta:TE}{t:TA}{k j:Nat}{ps:List Str}{sp:Sp}{C a:Addr}{i:Int}
def qg(h:GI X.mg x i)(hg:Gl X x:=by rfl)(hd:(x==("__debug__":Str))=false:=by decide):PE X (.Name x pos) (tC (.int i)):=by
 obtain⟨t,h⟩:=h;exact KD hg h ⟨t,rfl⟩ hd
def qr(h:X.mg x=some (.ref a))(hg:Gl X x:=by rfl)(hd:(x==("__debug__":Str))=false:=by decide):PE X (.Name x pos) (tC (.ref a)):=KD hg h rfl hd
def qn(n:Nat)(hN:X.N.Nodup)(hi:X.N[n]? =some x:=by rfl)(hx:Loc X.env.scope x:=by first|exact M5 rfl|exact IE rfl)
  (hf:X.fn x=true\/X.env.scope.names.lookup x=some .local:=by first|exact .inl rfl|exact .inr rfl|assumption):PG X (.Name x pos) (gq n):=QY hN hi hx hf
def bS(n:Nat)(hN:X.N.Nodup)(he:PE X e te)(hi:X.N[n]? =some x:=by rfl)(hx:Loc X.env.scope x:=by first|exact M5 rfl|exact IE rfl)
  (hs:swapsWith e (some (.Name x pos')) pos.line X.env=pure false:=by rfl)
  (hf:X.fn x=true\/X.env.scope.names.lookup x=some .local:=by first|exact .inl rfl|exact .inr rfl|assumption):PS X (.Assign [.Name x pos'] e pos) (QI te (gq n)):=Ux hN hi hx he hs hf
def aF(G:Callee X.prog X.w X.K X.mg X.base x k ps sp)(hr:jk j X.A)(ha:PA X (e::es) t)(hj:k<=j:=by decide)(hg:Gl X x:=by rfl)(Hv:(x==("__debug__":Str))=false:=by decide)
  (he:starEach (e::es) X.env=(false,eval e X.env)::starEach es X.env:=by rfl) (m5:(backTo pos (starEach es X.env)).any (·.1)=false:=by rfl):PE X (.Call (.Name x p) (e::es) [] pos) (Kq sp [] E0 t):=by
 obtain⟨f,fd,hm,hk,hb,F⟩:=G;exact Q5 F (hr.mono hj) hg hm hk hb .nil DL ha Hv he m5
def Uw(G:Callee X.prog X.w X.K X.mg X.base x k ps sp)(hr:jk j X.A)(hj:k<=j:=by decide)(hg:Gl X x:=by rfl)(Hv:(x==("__debug__":Str))=false:=by decide):PE X (.Call (.Name x p) [] [] pos) (Kq sp [] E0 Ji):=by
 obtain⟨f,fd,hm,hk,hb,F⟩:=G;exact Oe F (hr.mono hj) hg hm hk hb .nil DL Hv
def i6(G:Maker X.prog X.w X.K X.mg X.base x C k ps sp)(hr:jk j X.A)(ha:PA X (e::es) t)(hj:k + 1<=j:=by decide)(hg:Gl X x:=by rfl)(Hv:(x==("__debug__":Str))=false:=by decide)
  (he:starEach (e::es) X.env=(false,eval e X.env)::starEach es X.env:=by rfl) (m5:(backTo pos (starEach es X.env)).any (·.1)=false:=by rfl):PE X (.Call (.Name x p) (e::es) [] pos) (Sv C sp [] E0 t):=by
 obtain⟨f,fd,hm,hk,hb,F⟩:=G;exact Q3 hk F (hr.mono hj) hg hm hb .nil DL ha Hv he m5
def yj{pl:Sem Bool}(G:Method X.prog X.w X.K X.mg X.base C m k ps sp)(hr:jk j X.A)(ho:PE X o ta)(ha:PA X (e::es) t)(hj:k<=j:=by decide)
  (RF:starEach (e::es) X.env=(false,eval e X.env)::starEach es X.env:=by rfl) (m5:(backTo pos (starEach es X.env)).any (·.1)=false:=by rfl)
  (ht:eval (.Call (.Attribute o m apos) (e::es) [] pos) X.env=(do
   let ov<-eval o X.env
   standAt apos.atName
   let (f,first)<-holding [ov] (getMethod ov m pl)
   callWith pos f first (backTo pos (starEach (e::es) X.env)) (backToKw pos (keywordEach [] X.env))):=by rfl):
  PE X (.Call (.Attribute o m apos) (e::es) [] pos) (Ko C m sp [] E0 ta t):=by
 obtain⟨f,fd,hc,hm,hb,F⟩:=G;exact Q0 ho hc hm F (hr.mono hj) hb .nil DL ha RF m5 ht
def EK{pl:Sem Bool}(G:Method X.prog X.w X.K X.mg X.base C m k ps sp)(hr:jk j X.A)(ho:PE X o ta)(hj:k<=j:=by decide)
  (ht:eval (.Call (.Attribute o m apos) [] [] pos) X.env=(do
   let ov<-eval o X.env
   standAt apos.atName
   let (f,first)<-holding [ov] (getMethod ov m pl)
   callWith pos f first (backTo pos (starEach [] X.env)) (backToKw pos (keywordEach [] X.env))):=by rfl):
  PE X (.Call (.Attribute o m apos) [] [] pos) (Ko C m sp [] E0 ta Ji):=by
 obtain⟨f,fd,hc,hm,hb,F⟩:=G;exact Ob ho hc hm F (hr.mono hj) hb .nil DL ht
def QZ(K:ab){es:List Expr}{kk:Nat}{u:Tx}{n:Nat}(hc:X.calm=true)(h:Yx X es u)(hK:X.K=K:=by rfl)
  (hn:(assignEach es X.env).length=n:=by rfl) (RF:(assignEach es X.env).findIdx? (·.1)=none:=by rfl):PG X (.Tuple es kk pos) (Mr K n u):=by
 subst hK;exact Uz hc h hn RF
def fld(K:ab){f:Str}(he:PE X e ta)(hK:X.K=K:=by rfl)(hb:attributeBase e f X.env (eval e X.env)=eval e X.env:=by rfl):PE X (.Attribute e f pos) (NL K ta f):=by
 subst hK;exact UB he hb
def gT(K:ab){b:Expr}{tb:TE}(he:PE X e ta)(hb:PE X b tb)(hK:X.K=K:=by rfl)(hs:FR b:=by intro _ _;rfl):PE X (.Subscript e b pos) (Su (WW K) ta tb):=by
 subst hK;exact SI Rx he hb hs
def Nb(K:ab){b:Expr}{tb:TE}(he:PE X e ta)(hb:PE X b tb)(hK:X.K=K:=by rfl)(hs:FR b:=by intro _ _;rfl):PE X (.Subscript e b pos) (Su (WV K) ta tb):=by
 subst hK;exact SI UN he hb hs
def Cb(K:ab){lo hi:Option Expr}{tl th:TO}{p2:Pos}(he:PE X e te)(hl:PO X lo tl)(hu:PO X hi th)(hK:X.K=K:=by rfl):PE X (.Subscript e (.Slice lo hi none p2) pos) (tSl (WT K) te tl th):=by
 subst hK;exact Oa QJ he hl hu
def cI(K:ab)(hK:X.K=K:=by rfl):qw X (.builtin "len") (λxs H Q=> ∃p ys,xs=[.ref p]/\(bw K H p ys\/gU K H p ys)/\Q (.int ys.length) H):=by
 subst hK;exact FJ
def jU(K:ab)(hK:X.K=K:=by rfl):qw X (.type "list") (λxs H Q=> ∃p ys,xs=[.ref p]/\(bw K H p ys\/gU K H p ys)/\ ∀l,H l=none->Q (.ref l) (upd H l (.lst ys))):=by
 subst hK;exact FI
def sI(K:ab){tg:Expr}(hl:PE X e ta)(hK:X.K=K:=by rfl):PI X tg e (SU K ta):=by
 subst hK;exact QX hl
def YC(i j:Int):Prop:=0<j/\j<2^200
def eX:xJ X (binaryOp .FloorDiv) (rI YC λi j=> .int (i / j)):=W0 λi j _ _ _ _ _ hc q=>by
 have h1:(0:Int)<j:=hc.1;have h2:j<2^200:=hc.2;refine floordiv_int (by omega) ?_ (.inl (PyProof.noPylong_of_log2 ?_))
 ·rw[Gh _ (by omega)];exact q
 ·have h3:j.natAbs<2^200:=by
   have e:((j.natAbs:Nat):Int)=j:=Int.natAbs_of_nonneg (by omega);have e2:((2^200:Nat):Int)=(2:Int)^200:=by decide +kernel
   omega
  have h4:j.natAbs.log2<200:=(Nat.log2_lt (by omega)).mpr h3;omega
theorem Dl: ∀{ns:List Int} {us:List Value},Vals (ns.map V.int) us->IntsAre us ns
 | [],_,.nil=> .nil
 |n::r,_,.cons h t=>by
  obtain⟨k,rfl⟩:=h;exact .cons n k (Dl t)
theorem zT: ∀{bs:List Bool} {us:List Value},Vals (bs.map V.bl) us->LSm.BoolsAre us bs
 | [],_,.nil=> .nil
 |n::r,_,.cons h t=>by
  cases(show _=Value.bool n from h);exact .cons n (zT t)
def Eg(hc:X.calm=true):qw X (.builtin "sum") (λxs H Q=> ∃(p:Addr) (ns:List Int),xs=[.ref p]/\bw X.K H p (ns.map V.int)/\Q (.int ns.sum) H):=by
 intro pins s σ H xs us Q I r h;obtain⟨p,ns,rfl,hq,q⟩:=h;obtain⟨u,rfl,rx⟩:=vals1 r;cases rx;obtain⟨its,rv,pl,hz⟩:=I.list hq;have hi:=Dl rv;obtain⟨ys,hx⟩:=hi.allInts.items;have JI:s.heap.IsList p (intItems ys):=hx▸pl.isList;refine sum_intListG (I.ok.hd hc) JI λh' tk t' hk=> ?_;have e1:ns=ys.toList.map (·.1):=by
  rw[<-nums_intItems,<-hx];exact(show numsOf its.toArray.toList=ns from hi.numsOf).symm
 have e2:preSum (numAt ys) ys.size=ns.sum:=by rw[preSum_eq,aU (by simp),e1]
 rw[e2];exact⟨.int ns.sum,H,I.kept (t':=tk) hk,⟨t',rfl⟩,q⟩
def oT(hc:X.calm=true):qw X (.builtin "all") (λxs H Q=> ∃(p:Addr) (bs:List Bool),xs=[.ref p]/\bw X.K H p (bs.map V.bl)/\Q (.bl (bs.all id)) H):=by
 intro pins s σ H xs us Q I r h;obtain⟨p,bs,rfl,hq,q⟩:=h;obtain⟨u,rfl,rx⟩:=vals1 r;cases rx;obtain⟨its,rv,pl,hz⟩:=I.list hq;have hb:=zT rv;have hl:=pl.isList;have ig:p<s.heap.objs.size:=by obtain⟨_,e,_⟩:=hl;exact Heap.lt_size e
 refine call_all_walk (wpAny_pyIter_list hl ?_);refine⟨s.heap.objs.size,[s.heap.objs.size,p],[s.heap.objs.size],its.toArray.size,_,_,λi=>(bs[i]?).getD true,rfl,Walks.list (A:=X.A.in1) (I.ok.hd hc) _ p (cv ig) its.toArray,
  ⟨⟨_,Heap.get?_push_size _ rfl,rfl,rfl⟩,hl.push _⟩,λi v s' Q' E' hv S5=> ?_,λh' tk hk=> ?_⟩
 ·obtain⟨b,e,rfl⟩:=hb.get i v (by simpa using hv);simp only[e,iA] at S5;exact wpAny_truthy_bool S5
 ·have e:((List.range its.toArray.size).all λi=>(bs[i]?).getD true)=bs.all id:=by
   rw[bz,hb.length];exact LSm.range_all bs
  rw[e];exact⟨.bl (bs.all id),H,I.kept (t':=tk) (LSm.kept_iter hk),rfl,q⟩
end
def au.new{H:Hp}{q:Addr}{o:HO}(h:H q=Option.none):au H (upd H q o):=λb u e=>by
 rw[aJ (aO e h)];exact e
def au.gv{H0 H:Hp}{q:Addr}{o:HO}(s:au H0 H)(h:H q=Option.none):au H0 (upd H q o):=s.trans (au.new h)
def au.at'{H0 H:Hp}{q:Addr}{o:HO}(s:au H0 H)(h:H0 q=Option.none):au H0 (upd H q o):=λb u e=>by
 rw[aJ (aO e h)];exact s b u e
def au.but{H0 H H':Hp}{l:Addr}(s:au H0 H)(h:H0 l=Option.none)(k: ∀b o,H b=some o->b≠l->H' b=some o):au H0 H':=λb o e=>k b o (s b o e) (aO e h)
def jS(n:Nat)(f:Nat->V):(List.range (n + 1)).map f=(List.range n).map f++[f n]:=by
 rw[tF,bF];rfl
section
variable{K:ab}{a b:Addr}{xs ys:List V}{i j:Nat}{te:TE}{σ:L2.St}{H1:Hp}{Qd:Addr->Hp->Prop}
def ff(val:Nat->V)(J:Nat->Hp->Prop)(hl:xs.length<=sizeLine)(h0:J 0 H1)(hJ: ∀n H D o,J n H->H1 D=none->J n (upd H D o))(RG: ∀n H,n<=xs.length->J n H->bw K H a xs)
  (hs: ∀n x H Q',xs[n]? =some x->J n H->(∀H4,J (n + 1) H4->(∀D acc,H1 D=none->H D=some (.lst acc)->H4 D=some (.lst acc))->Q' (val n) H4)->te ((wipe σ [i]).set i (some x)) H Q')
  (hq: ∀D H,H1 D=none->J xs.length H->H D=some (.lst ((List.range xs.length).map val))->Qd D H):
  ∀D,H1 D=none-> ∃W:Nat->Nat->Hp->Prop,(∃m,W 0 m (upd H1 D (.lst [])))/\ ∀n m H,W n m H->
   ((zI K a).stop n H/\Qd D H)\/((zI K a).go n H/\ ∃Nx:Hp->Prop,(∀H',Nx H'-> ∃m',m'<m/\W (n + 1) m' H')/\ ∀x H',(zI K a).wR n H x H'->gq i x (wipe σ [i]) H' λσ2 H2=>wipe σ2 [i]=wipe σ [i]/\lV σ2 H2 λb H3=>
    if b=true then te σ2 H3 λy H4=> ∃acc,H4 D=some (.lst acc)/\acc.length<sizeLine/\Nx (upd H4 D (.lst (acc++[y]))) else Nx H3):=by
 intro D hD;refine E4 (K:=K) (a:=a) (xs:=xs) (Qd:=λH=>Qd D H) (λn H=>J n H/\H D=some (.lst ((List.range n).map val))) ⟨hJ 0 H1 D _ h0 hD,ak⟩ (λn H hn h=>RG n H hn h.1) (λn x H hx h=> ?_) (λH h=>hq D H hD h.1 h.2);unfold gq lV;have hn:n<xs.length:=(aD.mp hx).1;refine⟨by simp[wipe,ic],cY (hs n x H _ hx h.1 λH4 hj hk=>⟨_,hk D _ hD h.2,?_,hJ _ _ D _ hj hD,?_⟩)⟩
 ·rw[ag,dE];omega
 ·rw[ak,jS]
def kW{lo:Int}{N:Nat}(val:Nat->V)(J:Nat->Hp->Prop)(hl:N<=sizeLine)(h0:J 0 H1)(hJ: ∀n H D o,J n H->H1 D=none->J n (upd H D o))
  (hs: ∀n H Q',n<N->J n H->(∀H4,J (n + 1) H4->(∀D acc,H1 D=none->H D=some (.lst acc)->H4 D=some (.lst acc))->Q' (val n) H4)->te ((wipe σ [i]).set i (some (.int (lo + n)))) H Q')
  (hq: ∀D H,H1 D=none->J N H->H D=some (.lst ((List.range N).map val))->Qd D H):
  ∀D,H1 D=none-> ∃W:Nat->Nat->Hp->Prop,(∃m,W 0 m (upd H1 D (.lst [])))/\ ∀n m H,W n m H->
   ((IQ lo N).stop n H/\Qd D H)\/((IQ lo N).go n H/\ ∃Nx:Hp->Prop,(∀H',Nx H'-> ∃m',m'<m/\W (n + 1) m' H')/\ ∀x H',(IQ lo N).wR n H x H'->gq i x (wipe σ [i]) H' λσ2 H2=>wipe σ2 [i]=wipe σ [i]/\lV σ2 H2 λb H3=>
    if b=true then te σ2 H3 λy H4=> ∃acc,H4 D=some (.lst acc)/\acc.length<sizeLine/\Nx (upd H4 D (.lst (acc++[y]))) else Nx H3):=by
 intro D hD;refine OE (lo:=lo) (n:=N) (Qd:=λH=>Qd D H) (λn H=>J n H/\H D=some (.lst ((List.range n).map val))) ⟨hJ 0 H1 D _ h0 hD,ak⟩ (λn H hn h=> ?_) (λH h=>hq D H hD h.1 h.2);unfold gq lV;refine⟨by simp[wipe,ic],cY (hs n H _ hn h.1 λH4 hj hk=>⟨_,hk D _ hD h.2,?_,hJ _ _ D _ hj hD,?_⟩)⟩
 ·rw[ag,dE];omega
 ·rw[ak,jS]
def zA(val:Nat->V)(J:Nat->Hp->Prop)(hl:xs.length<=sizeLine)(hxy:xs.length=ys.length)(RJ:i≠j)(h0:J 0 H1)(hJ: ∀n H D o,J n H->H1 D=none->J n (upd H D o))(hJ2: ∀n H D o,J n H->H D=none->J n (upd H D o))
  (SY: ∀n H,n<=xs.length->J n H->bw K H a xs) (UT: ∀n H,n<=xs.length->J n H->bw K H b ys)
  (hs: ∀n x y H Q',xs[n]? =some x->ys[n]? =some y->J n H->(∀H4,J (n + 1) H4->(∀D acc,H1 D=none->H D=some (.lst acc)->H4 D=some (.lst acc))->Q' (val n) H4)->te (((wipe σ [i,j]).set i (some x)).set j (some y)) H Q')
  (hq: ∀D H,H1 D=none->J xs.length H->H D=some (.lst ((List.range xs.length).map val))->Qd D H):
  ∀D,H1 D=none-> ∃W:Nat->Nat->Hp->Prop,(∃m,W 0 m (upd H1 D (.lst [])))/\ ∀n m H,W n m H->
   ((Si K a b).stop n H/\Qd D H)\/((Si K a b).go n H/\ ∃Nx:Hp->Prop,(∀H',Nx H'-> ∃m',m'<m/\W (n + 1) m' H')/\ ∀x H',(Si K a b).wR n H x H'->Mr K 2 (ux (gq i) (ux (gq j) Pb)) x (wipe σ [i,j]) H' λσ2 H2=>wipe σ2 [i,j]=wipe σ [i,j]/\lV σ2 H2 λb H3=>
    if b=true then te σ2 H3 λy H4=> ∃acc,H4 D=some (.lst acc)/\acc.length<sizeLine/\Nx (upd H4 D (.lst (acc++[y]))) else Nx H3):=by
 intro D hD;let Pv:Nat->Hp->Prop:=λn H=>J n H/\H D=some (.lst ((List.range n).map val));refine⟨λn m H=>m=xs.length - n/\n<=xs.length/\Pv n H,⟨xs.length,by simp,aC _,hJ 0 H1 D _ h0 hD,ak⟩,?_⟩;rintro n m H ⟨rfl,hn,hj,hd⟩;have qx:=SY n H hn hj;have qy:=UT n H hn hj;by_cases ig:n<xs.length
 ·have U5:n<ys.length:=by omega
  refine .inr ⟨⟨xs,ys,xs[n],ys[n],qx,qy,af ig,af U5⟩,Pv (n + 1),λH' p'=>⟨xs.length -(n + 1),by omega,rfl,ig,p'⟩,λx H' hy=> ?_⟩;obtain⟨T,u,v,rfl,hT,rfl,hu,hv⟩:=hy;refine⟨T,[u,v],rfl,gU.of ak,rfl,u,[v],rfl,v,[],rfl,rfl,?_,?_⟩
  ·simp only[wipe];rw[ic];refine ie λn=> ?_;simp only[o8,dO];by_cases h1:i=n <;> by_cases h2:j=n <;> simp_all
  ·have XX:D≠T:=aO hd hT;unfold lV;refine cY (hs n u v _ _ (hu xs qx) (hv ys qy) (hJ2 _ _ T _ hj hT) λH4 XD hk=>⟨_,hk D _ hD (by rw[aJ XX];exact hd),?_,hJ _ _ D _ XD hD,?_⟩)
   ·rw[ag,dE];omega
   ·rw[ak,jS]
 ·have e:n=xs.length:=by omega
  subst e;exact .inl ⟨⟨xs,ys,qx,qy,.inl (aE _)⟩,hq D H hD hj hd⟩
end
def cg(D:Addr)(H H':Hp):Prop:= ∀b o,H b=some o->b≠D->H' b=some o
def au.Rw{D:Addr}{H H':Hp}(s:au H H'):cg D H H':=λb o e _=>s b o e
theorem cg.upd{D:Addr}{H:Hp}{o:HO}:cg D H (upd H D o):=λb u e n=>by rw[aJ n];exact e
def cg.trans{D:Addr}{H H1 H2:Hp}(a:cg D H H1)(b:cg D H1 H2):cg D H H2:=λc o e n=>b c o (a c o e n) n
section
variable{K:ab}{a b:Addr}{xs ys:List V}{i j:Nat}{te:TE}{σ:L2.St}{H1:Hp}{Qd:Addr->Hp->Prop}
def vZ{D:Addr}{n:Nat}{R:Addr->Nat->V->Hp->Prop}(hR: ∀D n y H H',R D n y H->cg D H H'->R D n y H')(hn:n<sizeLine){H H4:Hp}{acc:List V}{y:V}(hD1:H1 D=none)
  (hs:au H1 H) (hd:H D=some (.lst acc)) (ha:acc.length=n) (hr: ∀m z,acc[m]? =some z->R D m z H) (h4:au H H4) (hy:R D n y H4):
  ∃ac,H4 D=some (.lst ac)/\ac.length<sizeLine/\(au H1 (upd H4 D (.lst (ac++[y])))/\ ∃tT,(upd H4 D (.lst (ac++[y]))) D=some (.lst tT)/\tT.length=n + 1/\ ∀m z,tT[m]? =some z->R D m z (upd H4 D (.lst (ac++[y])))):=by
 refine⟨acc,h4 _ _ hd,by omega,au.at' (hs.trans h4) hD1,acc++[y],ak,by simp[ha],λm z hz=> ?_⟩;by_cases hm:m<acc.length
 ·rw[hZ hm] at hz;exact hR _ _ _ _ _ (hr m z hz) (cg.trans (au.Rw h4) cg.upd)
 ·rw[dN (by omega)] at hz;have e:m - acc.length=0:=by
   rcases Nat.eq_zero_or_pos (m - acc.length) with q|q
   ·exact q
   ·rw[fK (by simp;omega)] at hz;cases hz
  rw[e] at hz;have ez:y=z:=ao hz;have em:m=n:=by omega
  subst ez em;exact hR _ _ _ _ _ hy cg.upd
def Hn(R:Addr->Nat->V->Hp->Prop)(hR: ∀D n y H H',R D n y H->cg D H H'->R D n y H')(hl:xs.length<=sizeLine)(RG:bw K H1 a xs)
  (hs: ∀D n x H Q',H1 D=none->xs[n]? =some x->au H1 H->(∃acc,H D=some (.lst acc))->(∀y H4,au H H4->R D n y H4->Q' y H4)->te ((wipe σ [i]).set i (some x)) H Q')
  (hq: ∀D H zs,H1 D=none->au H1 H->zs.length=xs.length->(∀n z,zs[n]? =some z->R D n z H)->H D=some (.lst zs)->Qd D H):
  ∀D,H1 D=none-> ∃W:Nat->Nat->Hp->Prop,(∃m,W 0 m (upd H1 D (.lst [])))/\ ∀n m H,W n m H->
   ((zI K a).stop n H/\Qd D H)\/((zI K a).go n H/\ ∃Nx:Hp->Prop,(∀H',Nx H'-> ∃m',m'<m/\W (n + 1) m' H')/\ ∀x H',(zI K a).wR n H x H'->gq i x (wipe σ [i]) H' λσ2 H2=>wipe σ2 [i]=wipe σ [i]/\lV σ2 H2 λb H3=>
    if b=true then te σ2 H3 λy H4=> ∃acc,H4 D=some (.lst acc)/\acc.length<sizeLine/\Nx (upd H4 D (.lst (acc++[y]))) else Nx H3):=by
 intro D hD;refine E4 (K:=K) (a:=a) (xs:=xs) (Qd:=λH=>Qd D H) (λn H=>au H1 H/\ ∃acc,H D=some (.lst acc)/\acc.length=n/\ ∀m z,acc[m]? =some z->R D m z H) ⟨au.new hD,[],ak,rfl,λm z h=>by simp at h⟩ (λn H hn h=>h.1.seq RG) (λn x H hx h=> ?_)
  (λH ⟨h1,zs,h2,h3,h4⟩=>hq D H zs hD h1 h3 h4 h2)
 unfold gq lV;have hn:n<xs.length:=(aD.mp hx).1;obtain⟨h1,acc,h2,h3,h4⟩:=h;exact⟨by simp[wipe,ic],cY (hs D n x H _ hD hx h1 ⟨acc,h2⟩ λy H4 hj hk=>vZ hR (by omega) hD h1 h2 h3 h4 hj hk)⟩
def Bo{lo c:Int}{N:Nat}(R:Addr->Nat->V->Hp->Prop)(hR: ∀D n y H H',R D n y H->cg D H H'->R D n y H')(hl:N<=sizeLine)
  (hs: ∀D n H Q',H1 D=none->n<N->au H1 H->(∃acc,H D=some (.lst acc))->(∀y H4,au H H4->R D n y H4->Q' y H4)->te ((wipe σ [i]).set i (some (.int (lo +(n:Nat)*c)))) H Q')
  (hq: ∀D H zs,H1 D=none->au H1 H->zs.length=N->(∀n z,zs[n]? =some z->R D n z H)->H D=some (.lst zs)->Qd D H):
  ∀D,H1 D=none-> ∃W:Nat->Nat->Hp->Prop,(∃m,W 0 m (upd H1 D (.lst [])))/\ ∀n m H,W n m H->
   ((Yz lo c N).stop n H/\Qd D H)\/((Yz lo c N).go n H/\ ∃Nx:Hp->Prop,(∀H',Nx H'-> ∃m',m'<m/\W (n + 1) m' H')/\ ∀x H',(Yz lo c N).wR n H x H'->gq i x (wipe σ [i]) H' λσ2 H2=>wipe σ2 [i]=wipe σ [i]/\lV σ2 H2 λb H3=>
    if b=true then te σ2 H3 λy H4=> ∃acc,H4 D=some (.lst acc)/\acc.length<sizeLine/\Nx (upd H4 D (.lst (acc++[y]))) else Nx H3):=by
 intro D hD;let Pv:Nat->Hp->Prop:=λn H=>au H1 H/\ ∃acc,H D=some (.lst acc)/\acc.length=n/\ ∀m z,acc[m]? =some z->R D m z H;refine⟨λn m H=>m=N - n/\n<=N/\Pv n H,⟨N,by simp,aC _,au.new hD,[],ak,rfl,λm z h=>by simp at h⟩,?_⟩;rintro n m H ⟨rfl,hn,h1,acc,h2,h3,h4⟩;by_cases ig:n<N
 ·refine .inr ⟨ig,Pv (n + 1),λH' p'=>⟨N -(n + 1),by omega,rfl,ig,p'⟩,λx H' hy=> ?_⟩;obtain⟨e1,e2⟩:=hy;subst e1 e2;unfold gq lV;exact⟨by simp[wipe,ic],cY (hs D n _ _ hD ig h1 ⟨acc,h2⟩ λy H4 hj hk=>vZ hR (by omega) hD h1 h2 h3 h4 hj hk)⟩
 ·have e:n=N:=by omega
  subst e;exact .inl ⟨aE _,hq D H acc hD h1 h3 h4 h2⟩
def RS{g:TG}{tb:TS}{D:Ends}{H:Hp}(Pv:Nat->L2.St->Hp->Prop)(h0:Pv 0 σ H)(hl: ∀i σ H,i<=xs.length->Pv i σ H->bw K H a xs)
  (hs: ∀i x σ H,i<xs.length->xs[xs.length - 1 - i]? =some x->Pv i σ H->g x σ H λσ2 H2=>tb {D with nx:=Pv (i + 1),ct:=Pv (i + 1),bk:=D.nx} σ2 H2) (hd: ∀σ H,Pv xs.length σ H->D.nx σ H):
  ∃W:Nat->Nat->L2.St->Hp->Prop,(∃m,W 0 m σ H)/\ ∀i m σ H,W i m σ H->
   ((TC K a xs.length).stop i H/\D.nx σ H)\/((TC K a xs.length).go i H/\ ∃N:L2.St->Hp->Prop,(∀σ' H',N σ' H'-> ∃m',m'<m/\W (i + 1) m' σ' H')/\ ∀x H',(TC K a xs.length).wR i H x H'->g x σ H' λσ2 H2=>tb {D with nx:=N,ct:=N,bk:=D.nx} σ2 H2):=by
 exists 6;have q:=hl i σ H hi p;by_cases ig:i<xs.length
 ·refine .inr ⟨⟨ig,xs,xs[xs.length - 1 - i],q,af (by omega)⟩,Pv (i + 1),λσ' H' p'=>⟨xs.length -(i + 1),by omega,rfl,ig,p'⟩,λx H' y=> ?_⟩;obtain⟨e,y⟩:=y;subst e;exact hs i x σ _ ig (y xs q) p
 ·have e:i=xs.length:=by omega
  subst e;exact .inl ⟨aE _,hd σ H p⟩
end
def Callee.weak{P:Program}{w:World}{K:ab}{mg:Str->Option Value}{base:Heap}{x:Str}{k:Nat}{ps:List Str}{sp WK:Sp}(G:Callee P w K mg base x k ps sp)(h: ∀vs H Q E,WK vs H Q E->sp vs H Q E):Callee P w K mg base x k ps WK:=by
 obtain⟨f,fd,a,b,c,F⟩:=G;exact⟨f,fd,a,b,c,F.imp h⟩
def Bd(x qual:Str)(st:Stmt)(ps:List Str):Prop:= ∀(kV doc pm:Value) (an:Option Addr) (cdv ct:Value) (us:List Value),us.length=ps.length->
 bindArgs (gX x qual (nN st) (lq st) (fO st) .none kV doc pm an cdv ct) ⟨us,[]⟩=pure (ps.zip us)
def bq(K:ab)(mg:Str->Option Value)(x:Str)(st:Stmt):Prop:= ∃f fd,mg x=some (.ref f)/\TH K x x st f fd
def oi(K:ab)(C:Addr)(qual:Str)(st:Stmt):Prop:= ∃f fd,Mk K C f/\TH K "__init__" qual st f fd
def pN(K:ab)(C:Addr)(x qual:Str)(st:Stmt):Prop:= ∃f fd,Meth K C x f/\TH K x qual st f fd
def Yu(K:ab)(mg:Str->Option Value)(x:Str)(l:List (Int×Int)):Prop:= ∃(a:Addr) (ts:List Addr),mg x=some (.ref a)/\(∀H:Hp,gU K H a (ts.map V.ref))/\ts.length=l.length/\ ∀(i:Nat) (t:Addr) (p:Int×Int),ts[i]? =some t->l[i]? =some p-> ∀H:Hp,gU K H t [.int p.1,.int p.2]
def Iv(K:ab)(mg:Str->Option Value)(x:Str)(l:List Int):Prop:= ∃a,mg x=some (.ref a)/\ ∀H:Hp,gU K H a (l.map V.int)
def YJ{N ps:List Str}{sc:Scope}(a:sc.kind= .function:=by rfl)(b:sc.isCoroutine=false:=by rfl)(d:sc.isGenerator=false:=by rfl)(e:N.Nodup:=by decide +kernel)(f:N.take ps.length=ps:=by rfl)(g: ∀x∈ps,sc.names.lookup x=some .local\/sc.names.lookup x=some .cell:=by decide +kernel)(i: ∀y∈sc.names,y.2≠ .free:=by decide +kernel):nS N ps sc:=⟨a,b,d,e,f,g,i⟩
section
variable{P:Program}{w:World}{K:ab}{mg:Str->Option Value}{base:Heap}
def BodyOk(P:Program)(w:World)(K:ab)(mg:Str->Option Value)(base:Heap)(qual:Str)(st:Stmt)(N:List Str)(k:Nat)(sp:Sp):Prop:=
 ∀(f:Addr) (cdv:Value) (A:Around) (outer:List Env) (s:Shared) (H:Hp) (vs:List V) (Q:VK) (E:XK),N.Nodup->jk k (A.deeper (envOfC qual (fO st) s.heap.objs.size f cdv))->sp vs H Q E->
  ∃t,Lh (J3 PY P w K mg base N qual (fO st) f cdv A outer s H E).W2 (lq st) t/\t {nx:=λ_ H'=>Q .fC H',rt:=Q} (start N vs) H
theorem bq.ok{x:Str}{st:Stmt}{ps:List Str}{k:Nat}{sp:Sp}(F:bq K mg x st)(N:List Str)
  (rK:BodyOk P w K mg base x st N k sp) (S:nS N ps (fO st):=by exact YJ) (hb:Bd x x st ps:=by intro _ _ _ _ _ _ _ h;first|(obtain⟨_,rfl⟩:=Sb.mO h;rfl)|(obtain⟨_,_,rfl⟩:=Sb.m9 h;rfl)|(obtain⟨_,_,_,rfl⟩:=Sb.uU h;rfl)|(obtain⟨_,_,_,_,rfl⟩:=Sb.CC h;rfl)|(obtain⟨_,_,_,_,_,rfl⟩:=Sb.Rn h;rfl)|(obtain rfl:=Sb.len0 h;rfl)) (len: ∀vs H Q E,sp vs H Q E->vs.length=ps.length:=by intro _ _ _ _ h;first|(cases h;subst_vars;rfl)|(repeat (first|exact congrArg List.length h.1|obtain⟨_,h⟩:=h))):Callee P w K mg base x (k + 1) ps sp:=by
 obtain⟨f,fd,hm,F⟩:=F;exact⟨f,fd,hm,F.kp,F.binds hb,F.ok S len λcdv A outer s H vs Q E=>rK f cdv A outer s H vs Q E S.nd⟩
def bq.all{x:Str}{st:Stmt}{ps:List Str}{k:Nat}{sp:Sp}{fa:Addr}(F:bq K mg x st)(N:List Str)(hm:mg x=some (.ref fa))(rK: ∀base,BodyOk P w K mg base x st N k sp)(S:nS N ps (fO st):=by exact YJ)(hb:Bd x x st ps:=by intro _ _ _ _ _ _ _ h;first|(obtain⟨_,rfl⟩:=Sb.mO h;rfl)|(obtain⟨_,_,rfl⟩:=Sb.m9 h;rfl)|(obtain⟨_,_,_,rfl⟩:=Sb.uU h;rfl)|(obtain⟨_,_,_,_,rfl⟩:=Sb.CC h;rfl)|(obtain⟨_,_,_,_,_,rfl⟩:=Sb.Rn h;rfl)|(obtain rfl:=Sb.len0 h;rfl))(len: ∀vs H Q E,sp vs H Q E->vs.length=ps.length:=by intro _ _ _ _ h;first|(cases h;subst_vars;rfl)|(repeat (first|exact congrArg List.length h.1|obtain⟨_,h⟩:=h))):
  ∃fd:FuncData,(∀(s:Shared) (us:List Value),us.length=ps.length->BindsTo s fd ⟨us,[]⟩ (ps.zip us))/\ ∀base:Heap,mh P w K mg base PY (k + 1) fa fd ps sp:=by
 obtain⟨f,fd,hf,F⟩:=F;obtain rfl:f=fa:=Value.ref.inj (ao (hf.symm.trans hm));refine⟨fd,λs us hl=> ?_,λbase=>F.ok S len λcdv A outer s H vs Q E=>rK base f cdv A outer s H vs Q E S.nd⟩;obtain⟨oc,od,kV,doc,pm,an,cdv,ct,Q6,rfl,lk,Qi⟩:=F.ex;exact .of_eq (hb kV doc pm an cdv ct us hl)
theorem oi.ok{x qual:Str}{C:Addr}{st:Stmt}{ps:List Str}{k:Nat}{sp:Sp}(F:oi K C qual st)(hm:mg x=some (.ref C))(N:List Str)
  (rK:BodyOk P w K mg base qual st N k sp) (S:nS N ps (fO st):=by exact YJ) (hb:Bd "__init__" qual st ps:=by intro _ _ _ _ _ _ _ h;first|(obtain⟨_,rfl⟩:=Sb.mO h;rfl)|(obtain⟨_,_,rfl⟩:=Sb.m9 h;rfl)|(obtain⟨_,_,_,rfl⟩:=Sb.uU h;rfl)|(obtain⟨_,_,_,_,rfl⟩:=Sb.CC h;rfl)|(obtain⟨_,_,_,_,_,rfl⟩:=Sb.Rn h;rfl)|(obtain rfl:=Sb.len0 h;rfl)) (len: ∀vs H Q E,sp vs H Q E->vs.length=ps.length:=by intro _ _ _ _ h;first|(cases h;subst_vars;rfl)|(repeat (first|exact congrArg List.length h.1|obtain⟨_,h⟩:=h))):Maker P w K mg base x C (k + 1) ps sp:=by
 obtain⟨f,fd,mk,F⟩:=F;exact⟨f,fd,hm,mk,F.binds hb,F.ok S len λcdv A outer s H vs Q E=>rK f cdv A outer s H vs Q E S.nd⟩
theorem pN.ok{x qual:Str}{C:Addr}{st:Stmt}{ps:List Str}{k:Nat}{sp:Sp}(F:pN K C x qual st)(hc:wI K C)(N:List Str)
  (rK:BodyOk P w K mg base qual st N k sp) (S:nS N ps (fO st):=by exact YJ) (hb:Bd x qual st ps:=by intro _ _ _ _ _ _ _ h;first|(obtain⟨_,rfl⟩:=Sb.mO h;rfl)|(obtain⟨_,_,rfl⟩:=Sb.m9 h;rfl)|(obtain⟨_,_,_,rfl⟩:=Sb.uU h;rfl)|(obtain⟨_,_,_,_,rfl⟩:=Sb.CC h;rfl)|(obtain⟨_,_,_,_,_,rfl⟩:=Sb.Rn h;rfl)|(obtain rfl:=Sb.len0 h;rfl)) (len: ∀vs H Q E,sp vs H Q E->vs.length=ps.length:=by intro _ _ _ _ h;first|(cases h;subst_vars;rfl)|(repeat (first|exact congrArg List.length h.1|obtain⟨_,h⟩:=h))):Method P w K mg base C x (k + 1) ps sp:=by
 obtain⟨f,fd,hm,F⟩:=F;exact⟨f,fd,hc,hm,F.binds hb,F.ok S len λcdv A outer s H vs Q E=>rK f cdv A outer s H vs Q E S.nd⟩
end
end Q
namespace Z3
open PySem PySem.Spec PyProof.Rows L2
section
variable{s:Shared}{prog:Program}{w:World}{A:Around}{E:Value->Shared->Prop}
def nextT{it t:Addr}{i:Nat}{its:Array Value}{x:Value}{Q:Value->Shared->Prop}(hi:s.heap.IsTupleIter it t i)(ht:s.heap.IsTuple t its)(hx:its[i]? =some x)
  (hQ: ∀h',h'.IsTupleIter it t (i + 1)->Heap.SameBut it s.heap h'->Q x {s with heap:=h'}):wpAny (model prog w) A (Builtin.SmallTypes.nextOf (.ref it)) Q E s:=by
 obtain⟨o,ho,hc,hd⟩:=id hi;obtain⟨ol,hol,_,nl,V6⟩:=ht;unfold Builtin.SmallTypes.nextOf;refine wpAny_bind (wpAny_callSpecial?_slot (name:=Str.ofString "__next__") hi.typeIs F.slot_tuple_iterator_next (wpAny_call_entry F.slot_tuple_iterator_next hi.typeIs F.entry_tuple_iterator_next ?_ (F.args_tuple_iterator_next_1 _)));show wpAny _ _ (field (.ref it) 0 >>=_) _ _ s;refine wpAny_bind (wpAny_field ho hd (x:= .ref t) rfl ?_);show wpAny _ _ (if(Value.ref t==Value.none)=true then _ else _) _ _ s;rw[if_neg (show¬((Value.ref t==Value.none)=true) from bg)];show wpAny _ _ (field (.ref it) 1 >>=_) _ _ s;refine wpAny_bind (wpAny_field ho hd (x:= .int i 0) rfl ?_);show wpAny _ _ (seqItems? (.ref t)>>=_) _ _ s;refine wpAny_bind (wpAny_seqItems hol V6 ?_);simp only[bb,hx];refine wpAny_bind (wpAny_setField ho hd (by simp) (wpAny_pure ⟨x,rfl,wpAny_pure (hQ _ ?_ (Heap.SameBut.update ..))⟩));exact⟨_,Heap.get?_update_self _ ho (Obj.isFreed_of_fields (Obj.data_mapFields hd _)),(Obj.cls_mapFields ..).trans hc,by rw[Obj.data_mapFields hd];simp[rawInt]⟩
def abu{it t:Addr}{i:Nat}{its:Array Value}{Q:Value->Shared->Prop}(hh:A.handled=none)(hi:s.heap.IsTupleIter it t i)(ht:s.heap.IsTuple t its)(hx:its[i]? =none)
  (hE: ∀h' e,Heap.ExtBut it s.heap h'->(∃o,h'.get? e=some o/\o.cls= .type "StopIteration")->E (.ref e) {s with heap:=h'}):wpAny (model prog w) A (Builtin.SmallTypes.nextOf (.ref it)) Q E s:=by
 obtain⟨o,ho,hc,hd⟩:=id hi;obtain⟨ol,hol,_,nl,V6⟩:=ht;unfold Builtin.SmallTypes.nextOf;refine wpAny_bind (wpAny_callSpecial?_slot (name:=Str.ofString "__next__") hi.typeIs F.slot_tuple_iterator_next (wpAny_call_entry F.slot_tuple_iterator_next hi.typeIs F.entry_tuple_iterator_next ?_ (F.args_tuple_iterator_next_1 _)));show wpAny _ _ (field (.ref it) 0 >>=_) _ _ s;refine wpAny_bind (wpAny_field ho hd (x:= .ref t) rfl ?_);show wpAny _ _ (if(Value.ref t==Value.none)=true then _ else _) _ _ s;rw[if_neg (show¬((Value.ref t==Value.none)=true) from bg)];show wpAny _ _ (field (.ref it) 1 >>=_) _ _ s;refine wpAny_bind (wpAny_field ho hd (x:= .int i 0) rfl ?_);show wpAny _ _ (seqItems? (.ref t)>>=_) _ _ s;refine wpAny_bind (wpAny_seqItems hol V6 ?_);simp only[bb,hx];refine wpAny_bind (wpAny_rule (wpAny_bind (wpAny_setField ho hd (by simp) ?_)));show wpAny _ _ (newExc (.type "StopIteration") [] >>=_) _ _ _;refine wpAny_bind ?_;simp only[newExc,newTuple];refine wpAny_bind (wpAny_newObj_type ?_ (by size_fits));refine wpAny_bind (m:=firstArgMember _ _) (wpAny_of_eq (a:=Value.none) (by first|rfl|(simp only[firstArgMember];rfl)) ?_);refine wpAny_newObj_type ?_ (by size_fits);simp only[raiseNew];refine wpAny_bind (wpAny_handled ?_)
 first|rw[hh]|rw[show A.in1.handled=none from hh]
 refine wpAny_bind (wpAny_pure (wpAny_throw ?_));exact hE _ _ (((Heap.SameBut.update ..).extBut.push _).push _) ⟨_,Heap.get?_push_size _ rfl,rfl⟩
abbrev gL(h:Heap)(T:Addr)(a b d:Value):Prop:=h.get? T=some {cls:= .type "tuple",data:= .seq #[a,b,d]}
def EH{T:Addr}{a b d x:Value}{k:Nat}{Q:Unit->Shared->Prop}(hT:gL s.heap T a b d)
  (h: ∀h',h'.get? T=some {cls:= .type "tuple",data:= .seq ((#[a,b,d]:Array Value).setIfInBounds k x)}->Heap.SameBut T s.heap h'->Q () {s with heap:=h'}):wpAny (model prog w) A (updateSeq T (·.setIfInBounds k x)) Q E s:=by
 refine wpAny_updateSeq hT rfl (h _ ?_ (Heap.SameBut.update ..));rw[Heap.get?_update_self _ hT rfl];simp[Obj.mapSeq]
structure Ap(z TI TO i1 i2 i3 l1 l2 l3:Addr):Prop where
 nd:[z,TI,TO,i1,i2,i3].Nodup
 n1:l1∉[z,TI,TO,i1,i2,i3]
 n2:l2∉[z,TI,TO,i1,i2,i3]
 n3:l3∉[z,TI,TO,i1,i2,i3]
def item{z TI TO i1 i2 i3 l1 l2 l3:Addr}{k:Nat}{xs ys zs:Array Value}{x y u a b d:Value}{Q:Value->Shared->Prop}(D:Ap z TI TO i1 i2 i3 l1 l2 l3)
  (hz:IsZip s.heap z TI TO .none) (lJ:gL s.heap TI (.ref i1) (.ref i2) (.ref i3)) (o5:gL s.heap TO a b d) (h1:s.heap.IsTupleIter i1 l1 k) (h2:s.heap.IsListIter i2 l2 k) (h3:s.heap.IsTupleIter i3 l3 k)
  (yZ:s.heap.IsTuple l1 xs) (K2:s.heap.IsList l2 ys) (hl3:s.heap.IsTuple l3 zs) (hx:xs[k]? =some x) (hy:ys[k]? =some y) (hu:zs[k]? =some u)
  (hQ: ∀h',IsZip h' z TI TO (rawInt s.heap.objs.size)->gL h' TO x y u->h'.IsTupleIter i1 l1 (k + 1)->h'.IsListIter i2 l2 (k + 1)->h'.IsTupleIter i3 l3 (k + 1)->gL h' s.heap.objs.size x y u->h'.objs.size=s.heap.objs.size + 1->
   (∀c o,c∉[z,TO,i1,i2,i3]->s.heap.get? c=some o->h'.get? c=some o)->Q (.ref s.heap.objs.size) {s with heap:=h'}):
  wpAny (model prog w) A (Builtin.«zip.__next__» ⟨[.ref z],[]⟩) (λfin t=> ∃v,fin= .done (.ret v)/\Q v t) E s:=by
 have nd:=D.nd;have m1:=D.n1;have m2:=D.n2;have m3:=D.n3;simp only[bU,aA,bM,or_false,not_or] at nd m1 m2 m3;obtain⟨⟨a1,a2,a3,a4,a5⟩,⟨b1,b2,b3,b4⟩,⟨c1,c2,c3⟩,⟨d1,d2⟩,e1,_⟩:=nd;obtain⟨p1,p2,p3,p4,p5,p6⟩:=m1;obtain⟨q1,q2,q3,q4,q5,q6⟩:=m2;obtain⟨r1,r2,r3,r4,r5,r6⟩:=m3;exists 0;exists 3;refine wpAny_bind (nextT (h1.extBut s1.extBut (bG a3)) (yZ.extBut s1.extBut p1) hx λg2 j1 s2=>wpAny_pure ?_);have t2:gL g2 TO a b d:=s2.extBut _ _ c1 (s1.extBut _ _ (bG a2) o5);refine wpAny_bind (wpAny_seqItems t2 rfl ?_);refine wpAny_bind (EH t2 λg3 t3 s3=> ?_);replace t3:gL g3 TO x b d:=t3;refine wpAny_bind (wpAny_letGo (wpAny_pure ?_));refine wpAny_bind (wpAny_bind (wpAny_onRaise ?_));show wpAny _ _ (Builtin.SmallTypes.nextOf (.ref i2)>>=_) _ _ _;have k2:g3.IsListIter i2 l2 k:=((h2.extBut s1.extBut (bG a4)).extBut s2.extBut (bG d1)).extBut s3.extBut (bG c2);have n2:g3.IsList l2 ys:=((K2.extBut s1.extBut q1).extBut s2.extBut q4).extBut s3.extBut q3;refine wpAny_bind (wpAny_nextOf_list_item k2 n2 hy λg4 j2 s4=>wpAny_pure ?_);have t4:gL g4 TO x b d:=s4.extBut _ _ c2 t3;refine wpAny_bind (wpAny_seqItems t4 rfl ?_);refine wpAny_bind (EH t4 λg5 t5 s5=> ?_);replace t5:gL g5 TO x y d:=t5;refine wpAny_bind (wpAny_letGo (wpAny_pure ?_));refine wpAny_bind (wpAny_bind (wpAny_onRaise ?_));show wpAny _ _ (Builtin.SmallTypes.nextOf (.ref i3)>>=_) _ _ _;have k3:g5.IsTupleIter i3 l3 k:=((((h3.extBut s1.extBut (bG a5)).extBut s2.extBut (bG d2)).extBut s3.extBut (bG c3)).extBut s4.extBut (bG e1)).extBut s5.extBut (bG c3);have n3:g5.IsTuple l3 zs:=((((hl3.extBut s1.extBut r1).extBut s2.extBut r4).extBut s3.extBut r3).extBut s4.extBut r5).extBut s5.extBut r3;refine wpAny_bind (nextT k3 n3 hu λg6 j3 s6=>wpAny_pure ?_);have t6:gL g6 TO x y d:=s6.extBut _ _ c3 t5;refine wpAny_bind (wpAny_seqItems t6 rfl ?_);refine wpAny_bind (EH t6 λg7 t7 s7=> ?_);replace t7:gL g7 TO x y u:=t7;refine wpAny_bind (wpAny_letGo (wpAny_pure (wpAny_pure ?_)));refine wpAny_bind (wpAny_seqItems t7 rfl ?_);refine wpAny_bind (wpAny_newTuple ?_);have hsz:g7.objs.size=s.heap.objs.size:=by rw[s7.1,s6.1,s5.1,s4.1,s3.1,s2.1,s1.1]
 have all: ∀e o,e∉[z,TO,i1,i2,i3]->s.heap.get? e=some o->g7.get? e=some o:=λe o he q=>by
  simp only[aA,bM,or_false,not_or] at he;obtain⟨v1,v2,v3,v4,v5⟩:=he;exact s7.extBut _ _ v2 (s6.extBut _ _ v5 (s5.extBut _ _ v2 (s4.extBut _ _ v4 (s3.extBut _ _ v2 (s2.extBut _ _ v3 (s1.extBut _ _ v1 q))))))
 have hz7:IsZip g7 z TI TO .ellipsis:=s7.extBut _ _ a2 (s6.extBut _ _ a5 (s5.extBut _ _ a2 (s4.extBut _ _ a4 (s3.extBut _ _ a2 (s2.extBut _ _ a3 JE)))));have o1:g7.IsTupleIter i1 l1 (k + 1):=((((j1.extBut s3.extBut (bG c1)).extBut s4.extBut d1).extBut s5.extBut (bG c1)).extBut s6.extBut d2).extBut s7.extBut (bG c1);have o2:g7.IsListIter i2 l2 (k + 1):=((j2.extBut s5.extBut (bG c2)).extBut s6.extBut e1).extBut s7.extBut (bG c2);have o3:g7.IsTupleIter i3 l3 (k + 1):=j3.extBut s7.extBut (bG c3);have Wj:z<g7.objs.size:=Heap.lt_size hz7;show wpAny _ _ (Builtin.SmallTypes.ownedTupleHandOut (.ref z) (.ref g7.objs.size)>>=_) _ _ _;refine wpAny_bind ?_;unfold Builtin.SmallTypes.ownedTupleHandOut;have hz8:IsZip (g7.push {cls:= .type "tuple",data:= .seq #[x,y,u]}) z TI TO .ellipsis:=Heap.get?_push_of_some _ hz7;refine wpAny_bind (wpAny_setField_rec hz8 (by simp) λg9 UQ s9=> ?_);replace UQ:IsZip g9 z TI TO (rawInt g7.objs.size):=UQ;refine wpAny_setField_rec UQ (by simp) λga RA sa=> ?_;replace RA:IsZip ga z TI TO (rawInt g7.objs.size):=RA;have up: ∀e o,e≠z->g7.get? e=some o->ga.get? e=some o:=λe o v q=>sa.extBut _ _ v (s9.extBut _ _ v (Heap.get?_push_of_some _ q));have XR:gL ga g7.objs.size x y u:=sa.extBut _ _ (gA Wj) (s9.extBut _ _ (gA Wj) (Heap.get?_push_size _ rfl));have za:ga.objs.size=g7.objs.size + 1:=by rw[sa.1,s9.1,Heap.size_push]
 rw[hsz] at RA XR za;refine wpAny_pure ⟨_,rfl,?_⟩;show Q (.ref g7.objs.size) _;rw[hsz];exact hQ ga RA (up _ _ (bG a2) t7) (o1.at λo q=>up _ o (bG a3) q) (o2.at λo q=>up _ o (bG a4) q) (o3.at λo q=>up _ o (bG a5) q) XR za λe o he q=>up e o (λv=>he (by simp[v])) (all e o he q)
def stop{z TI TO i1 i2 i3 l1 l2 l3:Addr}{k:Nat}{xs:Array Value}{Q:Fin->Shared->Prop}(hh:A.handled=none)(D:Ap z TI TO i1 i2 i3 l1 l2 l3)
  (hz:IsZip s.heap z TI TO .none) (lJ:gL s.heap TI (.ref i1) (.ref i2) (.ref i3)) (h1:s.heap.IsTupleIter i1 l1 k) (yZ:s.heap.IsTuple l1 xs) (hx:xs[k]? =none)
  (hE: ∀h' e,(∀c o,c∉[z,TO,i1,i2,i3]->s.heap.get? c=some o->h'.get? c=some o)->(∃o,h'.get? e=some o/\o.cls= .type "StopIteration")->E (.ref e) {s with heap:=h'}):
  wpAny (model prog w) A (Builtin.«zip.__next__» ⟨[.ref z],[]⟩) Q E s:=by
 have nd:=D.nd;have m1:=D.n1;simp only[bU,aA,bM,or_false,not_or] at nd m1;obtain⟨⟨a1,a2,a3,a4,a5⟩,_⟩:=nd;obtain⟨p1,_⟩:=m1;exists 0;exists 3;refine wpAny_bind (abu hh (h1.extBut s1.extBut (bG a3)) (yZ.extBut s1.extBut p1) hx λg2 e s2 he=> ?_);obtain⟨oe,U3,U9⟩:=he;have SV:IsZip g2 z TI TO .ellipsis:=s2 _ _ a3 JE;have hez:e≠z:=λv=>by subst v;rw[SV] at U3;cases U3;simp at U9
 refine wpAny_setField_rec SV (by simp) λg3 _ s3=>hE g3 e (λc o hc v=> ?_) ⟨oe,s3.extBut _ _ hez U3,U9⟩;simp only[aA,bM,or_false,not_or] at hc;exact s3.extBut _ _ hc.1 (s2 _ _ hc.2.2.1 (s1.extBut _ _ hc.1 v))
def next_item{z TI TO i1 i2 i3 l1 l2 l3:Addr}{k:Nat}{xs ys zs:Array Value}{x y u a b d:Value}{Q:Option Value->Shared->Prop}(D:Ap z TI TO i1 i2 i3 l1 l2 l3)
  (hz:IsZip s.heap z TI TO .none) (lJ:gL s.heap TI (.ref i1) (.ref i2) (.ref i3)) (o5:gL s.heap TO a b d) (h1:s.heap.IsTupleIter i1 l1 k) (h2:s.heap.IsListIter i2 l2 k) (h3:s.heap.IsTupleIter i3 l3 k)
  (yZ:s.heap.IsTuple l1 xs) (K2:s.heap.IsList l2 ys) (hl3:s.heap.IsTuple l3 zs) (hx:xs[k]? =some x) (hy:ys[k]? =some y) (hu:zs[k]? =some u)
  (hQ: ∀h',IsZip h' z TI TO (rawInt s.heap.objs.size)->gL h' TO x y u->h'.IsTupleIter i1 l1 (k + 1)->h'.IsListIter i2 l2 (k + 1)->h'.IsTupleIter i3 l3 (k + 1)->gL h' s.heap.objs.size x y u->h'.objs.size=s.heap.objs.size + 1->
   (∀c o,c∉[z,TO,i1,i2,i3]->s.heap.get? c=some o->h'.get? c=some o)->Q (some (.ref s.heap.objs.size)) {s with heap:=h'}):wpAny (model prog w) A (pyNext (.ref z)) Q E s:=by
 have hT:s.TypeIs (.ref z) "zip":=⟨_,hz,rfl⟩;unfold pyNext;refine wpAny_bind (wpAny_attempt (wpAny_callSpecial?_slot (name:=Str.ofString "__next__") hT F.slot_zip_next (wpAny_call_entry F.slot_zip_next hT F.entry_zip_next ?_ (F.args_zip_next_1 _))));exact item D hz lJ o5 h1 h2 h3 yZ K2 hl3 hx hy hu λh' b1 b2 b3 b4 b5 b6 b7 b8=>wpAny_pure (hQ h' b1 b2 b3 b4 b5 b6 b7 b8)
def xk{z TI TO i1 i2 i3 l1 l2 l3:Addr}{k:Nat}{xs:Array Value}{Q:Option Value->Shared->Prop}(hh:A.handled=none)(D:Ap z TI TO i1 i2 i3 l1 l2 l3)
  (hz:IsZip s.heap z TI TO .none) (lJ:gL s.heap TI (.ref i1) (.ref i2) (.ref i3)) (h1:s.heap.IsTupleIter i1 l1 k) (yZ:s.heap.IsTuple l1 xs) (hx:xs[k]? =none)
  (hQ: ∀h',(∀c o,c∉[z,TO,i1,i2,i3]->s.heap.get? c=some o->h'.get? c=some o)->Q none {s with heap:=h'}):wpAny (model prog w) A (pyNext (.ref z)) Q E s:=by
 have hT:s.TypeIs (.ref z) "zip":=⟨_,hz,rfl⟩;unfold pyNext;refine wpAny_bind (wpAny_attempt (wpAny_callSpecial?_slot (name:=Str.ofString "__next__") hT F.slot_zip_next (wpAny_call_entry F.slot_zip_next hT F.entry_zip_next (stop hh D hz lJ h1 yZ hx λh' e hk he=> ?_) (F.args_zip_next_1 _))));obtain⟨o,ho,hc⟩:=he;refine wpAny_bind (wpAny_isInstance (T:="StopIteration") (b:=true) ⟨o,ho,hc⟩ isSubtype_stop ?_);exact wpAny_pure (hQ _ hk)
end
def tc3(a b d:Value):checkTypeCall "zip" ⟨[a,b,d],[]⟩=pure ():=by kernel_rfl
def nc3(a b d:Value):checkBuiltinCall "zip.__new__" ⟨[.type "zip",a,b,d],[]⟩=pure ():=by kernel_rfl
def oi4(a b d e:Value):argsOk "object.__init__" ⟨[a,b,d,e],[]⟩:=by
 unfold argsOk;rw[signature?_of (id:="object.__init__") (n:=['_','_','t','i','n','i','_','_']) (o:=['t','c','e','j','b','o']) (by kernel_rfl) F.owner_object];kernel_rfl
abbrev H1(h:Heap)(l:Addr):Heap:=h.push {cls:= .type "tuple_iterator",data:= .fields #[.ref l,.int 0 0]}
abbrev H2(h:Heap)(l m:Addr):Heap:=(H1 h l).push {cls:= .type "list_iterator",data:= .fields #[.ref m,.int 0 0]}
abbrev H3(h:Heap)(l m n:Addr):Heap:=(H2 h l m).push {cls:= .type "tuple_iterator",data:= .fields #[.ref n,.int 0 0]}
abbrev H4(h:Heap)(l m n:Addr):Heap:=(H3 h l m n).push {cls:= .type "tuple",data:= .seq #[.ref h.objs.size,.ref (H1 h l).objs.size,.ref (H2 h l m).objs.size]}
abbrev H5(h:Heap)(l m n:Addr):Heap:=(H4 h l m n).push {cls:= .type "tuple",data:= .seq #[.none,.none,.none]}
noncomputable abbrev H6(h:Heap)(l m n:Addr):Heap:=(H5 h l m n).push {cls:= .type "zip",data:= .fields #[.none,.bool false,.bool false,.ref (H3 h l m n).objs.size,.ref (H4 h l m n).objs.size]}
set_option maxHeartbeats 2000000 in
def ZZ(l m n:Addr)(xs ys zs:Array Value):
  Meets (Builtin.«zip.__new__» ⟨[.type "zip",.ref l,.ref m,.ref n],[]⟩) (λ_ R s=>s.heap.IsTuple l xs/\s.heap.IsList m ys/\s.heap.IsTuple n zs/\R (.ok (.ret (.ref (H5 s.heap l m n).objs.size))) {s with heap:=H6 s.heap l m n}):=
 .of_wp λprog w A R s h=>by
  obtain⟨hp,g,d,tk,os⟩:=s;obtain⟨hl,hm,hn,h⟩:=h;have aas:=sub_zip;have q1:Heap.IsTuple (Shared.heap ⟨hp,g,d,tk,os⟩) l xs:=hl;have q2:Heap.IsList (Shared.heap ⟨hp.push {cls:= .type "tuple_iterator",data:= .fields #[.ref l,.int 0 0]},g,d,tk,os⟩) m ys:=Heap.IsList.push hm _;have q3:Heap.IsTuple (Shared.heap ⟨(hp.push {cls:= .type "tuple_iterator",data:= .fields #[.ref l,.int 0 0]}).push {cls:= .type "list_iterator",data:= .fields #[.ref m,.int 0 0]},g,d,tk,os⟩) n zs:=Heap.IsTuple.push (Heap.IsTuple.push hn _) _
  wp_walk using wpAny_pyIter_tuple q1,wpAny_pyIter_list q2,wpAny_pyIter_tuple q3
  exact⟨_,rfl,h⟩
section
variable{s:Shared}{prog:Program}{w:World}{A:Around}{E:Value->Shared->Prop}
def Yl{l m n:Addr}{xs ys zs:Array Value}{Q:Value->Shared->Prop}(hl:s.heap.IsTuple l xs)(hm:s.heap.IsList m ys)(hn:s.heap.IsTuple n zs)
  (h: ∀h',IsZip h' (s.heap.objs.size + 5) (s.heap.objs.size + 3) (s.heap.objs.size + 4) .none->gL h' (s.heap.objs.size + 3) (.ref s.heap.objs.size) (.ref (s.heap.objs.size + 1)) (.ref (s.heap.objs.size + 2))->
   gL h' (s.heap.objs.size + 4) .none .none .none->h'.IsTupleIter s.heap.objs.size l 0->h'.IsListIter (s.heap.objs.size + 1) m 0->h'.IsTupleIter (s.heap.objs.size + 2) n 0->
   (∀c o,s.heap.get? c=some o->h'.get? c=some o)->Q (.ref (s.heap.objs.size + 5)) {s with heap:=h'}):wpAny (model prog w) A (call (.type "zip") [.ref l,.ref m,.ref n]) Q E s:=by
 refine callType_new F.called_zip (by decide) (tc3 _ _ _) (nc3 _ _ _) (λobj=>oi4 obj _ _ _) F.entry_zip_new (ZZ l m n xs ys zs) ⟨hl,hm,hn,?_⟩;have z1:(H1 s.heap l).objs.size=s.heap.objs.size + 1:=Heap.size_push ..;have z2:(H2 s.heap l m).objs.size=s.heap.objs.size + 2:=by rw[Heap.size_push,z1]
 have z3:(H3 s.heap l m n).objs.size=s.heap.objs.size + 3:=by rw[Heap.size_push,z2]
 have z4:(H4 s.heap l m n).objs.size=s.heap.objs.size + 4:=by rw[Heap.size_push,z3]
 have z5:(H5 s.heap l m n).objs.size=s.heap.objs.size + 5:=by rw[Heap.size_push,z4]
 have g6:(H6 s.heap l m n).get? (H5 s.heap l m n).objs.size=some _:=Heap.get?_push_size _ rfl;have g5:(H6 s.heap l m n).get? (H4 s.heap l m n).objs.size=some _:=Heap.get?_push_of_some _ (Heap.get?_push_size _ rfl);have g4:(H6 s.heap l m n).get? (H3 s.heap l m n).objs.size=some _:=Heap.get?_push_of_some _ (Heap.get?_push_of_some _ (Heap.get?_push_size _ rfl));have u3: ∀c o,(H3 s.heap l m n).get? c=some o->(H6 s.heap l m n).get? c=some o:=λc o e=>Heap.get?_push_of_some _ (Heap.get?_push_of_some _ (Heap.get?_push_of_some _ e));have g3:(H6 s.heap l m n).get? (H2 s.heap l m).objs.size=some _:=u3 _ _ (Heap.get?_push_size _ rfl);have g2:(H6 s.heap l m n).get? (H1 s.heap l).objs.size=some _:=u3 _ _ (Heap.get?_push_of_some _ (Heap.get?_push_size _ rfl));have g1:(H6 s.heap l m n).get? s.heap.objs.size=some _:=u3 _ _ (Heap.get?_push_of_some _ (Heap.get?_push_of_some _ (Heap.get?_push_size _ rfl)));show _/\_;rw[z3,z4,z5] at g6;rw[z1,z2,z3] at g4;rw[z4] at g5;rw[z2] at g3;rw[z1] at g2;rw[z5];exact⟨⟨_,g6,rfl⟩,h _ g6 g4 g5 ⟨_,g1,rfl,rfl⟩ ⟨_,g2,rfl,rfl⟩ ⟨_,g3,rfl,rfl⟩ λc o e=>u3 c o (Heap.get?_push_of_some _ (Heap.get?_push_of_some _ (Heap.get?_push_of_some _ e)))⟩
end
def PR(K:ab)(a b d:Addr):It:=
 ⟨λi H=> ∃(xs ys zs:List V) (x y u:V),gU K H a xs/\bw K H b ys/\gU K H d zs/\xs[i]? =some x/\ys[i]? =some y/\zs[i]? =some u,
  λi H v H'=> ∃T x y u,v= .ref T/\H T=none/\H'=upd H T (.tup [x,y,u])/\(∀xs,gU K H a xs->xs[i]? =some x)/\(∀ys,bw K H b ys->ys[i]? =some y)/\ ∀zs,gU K H d zs->zs[i]? =some u,
  λi H=> ∃xs:List V,gU K H a xs/\xs.length<=i⟩
def Wu{P:Program}{w:World}{K:ab}{elts:List Expr}{kk:Nat}{qQ:Pos}{a b d z TI TO i1 i2 i3:Addr}(D:Ap z TI TO i1 i2 i3 a b d):
  Turn P w K (.Tuple elts kk qQ) (PR K a b d) [z,TI,TO,i1,i2,i3] z
   (λi h=>IsZip h z TI TO .none/\gL h TI (.ref i1) (.ref i2) (.ref i3)/\(∃x y u,gL h TO x y u)/\h.IsTupleIter i1 a i/\h.IsListIter i2 b i/\h.IsTupleIter i3 d i) where
 mem:=by simp
 obj:=λi h st c hc=>by
  obtain⟨hz,lJ,⟨x,y,u,o5⟩,⟨o1,e1,_,d1⟩,⟨o2,e2,_,d2⟩,⟨o3,e3,_,d3⟩⟩:=st;have e':c=z\/c=TI\/c=TO\/c=i1\/c=i2\/c=i3:=by simpa using hc
  rcases e' with q|q|q|q|q|q <;> rw[q]
  ·exact⟨_,hz,λv q=>nomatch q⟩
  ·exact⟨_,lJ,λv q=>nomatch q⟩
  ·exact⟨_,o5,λv q=>nomatch q⟩
  ·exact⟨o1,e1,λv q=>by rw[d1] at q;cases q⟩
  ·exact⟨o2,e2,λv q=>by rw[d2] at q;cases q⟩
  ·exact⟨o3,e3,λv q=>by rw[d3] at q;cases q⟩
 keep:=λi h h' st k=>by
  obtain⟨hz,lJ,⟨x,y,u,o5⟩,h1,h2,h3⟩:=st;exact⟨k z (by simp) _ hz,k TI (by simp) _ lJ,⟨x,y,u,k TO (by simp) _ o5⟩,h1.at λo q=>k i1 (by simp) o q,h2.at λo q=>k i2 (by simp) o q,h3.at λo q=>k i3 (by simp) o q⟩
 item:=by
  exists 4;obtain⟨hz,lJ,⟨x0,y0,u0,o5⟩,h1,h2,h3⟩:=st;obtain⟨xs,ys,zs,x,y,u,D1,F8,Y4,hx,hy,hu⟩:=hg;obtain⟨SS,QM,p1,_⟩:=I.tuple D1;obtain⟨VS,NU,p2,_⟩:=I.list F8;obtain⟨is3,rv3,p3,_⟩:=I.tuple Y4;obtain⟨v1,VW,ZL⟩:=QM.get hx;obtain⟨v2,VV,WR⟩:=NU.get hy;obtain⟨v3,hv3,ru3⟩:=rv3.get hu;have OS:z<s.heap.objs.size:=Heap.lt_size hz;refine next_item D hz lJ o5 h1 h2 h3 (show s.heap.IsTuple a SS.toArray from p1) p2.isList (show s.heap.IsTuple d is3.toArray from p3) (x:=v1) (y:=v2) (u:=v3) (by simpa using VW) (by simpa using VV) (by simpa using hv3) λh' z' Yv Ti X2 h3' hT hsz hk=> ?_;refine⟨_,rfl,wpAny_letOwnedTupleGo_zip (s:={s with heap:=h'}) z' λIP Ws sb=> ?_⟩;have nd:=D.nd;simp only[bU,aA,bM,or_false,not_or] at nd;obtain⟨⟨a1,a2,a3,a4,a5⟩,⟨b1,b2,b3,b4⟩,_⟩:=nd;have Qj:IP.get? s.heap.objs.size=some {cls:= .type "tuple",data:= .seq #[v1,v2,v3]}:=(sb.2 _ (gA OS)).trans hT;have new:gJ X.prog X.w (upd H s.heap.objs.size (.tup [x,y,u])) IP s.heap.objs.size (.tup [x,y,u]):=
   ⟨by show 3<=sizeLine;decide,[v1,v2,v3],.cons ZL (.cons WR (.cons ru3 .nil)),⟨_,Qj,rfl,_,rfl⟩⟩
  have I1:Inv X pins σ (upd H s.heap.objs.size (.tup [x,y,u])) {s with heap:=IP}:=
   I.sr (t':=s.toks) (ch:=[z,TI,TO,i1,i2,i3]) (λc o hb q=>(sb.2 c (λq'=>hb (by simp[q']))).trans (hk c o (λq'=>hb (by simp at q' ⊢;rcases q' with v|v|v|v|v <;> simp[v])) q)) hf (aE _) new
  refine⟨.ref s.heap.objs.size,_,I1,rfl,⟨_,x,y,u,rfl,I.eC.fresh (aE _),rfl,λl hl=>by rw[I.su hl D1];exact hx,λl hl=>by rw[I.mN hl F8];exact hy,λl hl=>by rw[I.su hl Y4];exact hu⟩,⟨Ws,?_,⟨v1,v2,v3,?_⟩,?_,?_,?_⟩,λc IK=> ?_⟩
  ·exact(sb.2 _ (bG a1)).trans (hk _ _ (by simp[bG a1,b1,b2,b3,b4]) lJ)
  ·exact(sb.2 _ (bG a2)).trans Yv
  ·exact Ti.at λo q=>(sb.2 _ (bG a3)).trans q
  ·exact X2.at λo q=>(sb.2 _ (bG a4)).trans q
  ·exact h3'.at λo q=>(sb.2 _ (bG a5)).trans q
  ·have ig:c<s.heap.objs.size:=by
    have e':c=z\/c=TI\/c=TO\/c=i1\/c=i2\/c=i3:=by simpa using IK
    rcases e' with q|q|q|q|q|q <;> rw[q]
    ·exact OS
    ·exact Heap.lt_size lJ
    ·exact Heap.lt_size o5
    ·obtain⟨_,e1,_⟩:=h1;exact Heap.lt_size e1
    ·obtain⟨_,e2,_⟩:=h2;exact Heap.lt_size e2
    ·obtain⟨_,e3,_⟩:=h3;exact Heap.lt_size e3
   rw[aJ (cv ig)];exact(hf c IK).1
 done:=by
  intro X hP hw hK hc i pins s σ H E I hf st hg;subst hP hw hK;obtain⟨hz,lJ,⟨x0,y0,u0,o5⟩,h1,h2,h3⟩:=st;obtain⟨xs,D1,U8⟩:=hg;obtain⟨SS,QM,p1,_⟩:=I.tuple D1;have l1:=QM.length;exact xk (I.ok.hd hc) D hz lJ h1 (show s.heap.IsTuple a SS.toArray from p1) (by simp;omega) λh' hk=>⟨rfl,I.EC (t':=s.toks) (ch:=[z,TI,TO,i1,i2,i3]) (λc o hb q=>
   hk c o (λq'=>hb (by simp at q' ⊢;rcases q' with v|v|v|v|v <;> simp[v])) q) hf⟩
 self:=λA i s Q E st h=>wpAny_pyIter_zip st.1 h
def Jx(m:Nat):[m + 5,m + 3,m + 4,m,m + 1,m + 2].Nodup:=by
 simp only[bU,aA,bM,or_false,not_or];refine⟨?_,?_,?_,?_,?_,?_,oo⟩<;> first|omega|exact not_false|trivial|simp
def sQ{m a:Nat}(h:a<m):a∉[m + 5,m + 3,m + 4,m,m + 1,m + 2]:=by
 simp only[aA,bM,or_false,not_or];omega
def EY{m a:Nat}(h:a∈[m + 5,m + 3,m + 4,m,m + 1,m + 2]):m<=a:=by
 simp only[aA,bM,or_false] at h;omega
def Xf(K:ab)(ta:TA):TI:=λσ H R=>ta σ H λvs H1=> ∃a b d xs ys zs,vs=[.ref a,.ref b,.ref d]/\gU K H1 a xs/\bw K H1 b ys/\gU K H1 d zs/\R (PR K a b d) H1
def QW(K:ab){X:Cx}{e e2 e3:Expr}{ta:TA}{p pos qQ:Pos}{elts:List Expr}{kk:Nat}(hg:Gl X "zip")(hm:X.mg "zip"=none)(ha:PA X [e,e2,e3] ta)(hK:X.K=K:=by rfl)
  (hs:starEach [e,e2,e3] X.env=(false,eval e X.env)::starEach [e2,e3] X.env:=by rfl) (m5:(backTo pos (starEach [e2,e3] X.env)).any (·.1)=false:=by rfl):
  PI X (.Tuple elts kk qQ) (.Call (.Name "zip" p) [e,e2,e3] [] pos) (Xf K ta):=by
 subst hK;intro pins s σ H R I h;refine Call_ (lO I hg hm xG (ck (gb (ha pos pins s σ H _ I h) λus s1 ⟨vs,H1,I1,r1,q1⟩=> ?_) hs m5));obtain⟨a,b,d,xs,ys,zs,ex,D1,F8,Y4,q⟩:=q1;subst ex;obtain⟨Qz,rfl,r2⟩: ∃l,us=Value.ref a::Value.ref b::Value.ref d::l/\l=[]:=by
  cases r1 with
  |cons r rr=>
   cases rr with
   |cons r' rr=>
    cases rr with
    |cons ZQ rr=>cases rr;cases r;cases r';cases ZQ;exact⟨[],rfl,rfl⟩
 subst r2;obtain⟨SS,QM,p1,_⟩:=I1.tuple D1;obtain⟨VS,NU,p2,_⟩:=I1.list F8;obtain⟨is3,rv3,p3,_⟩:=I1.tuple Y4;have la:a<s1.heap.objs.size:=p1.lt;have lb:b<s1.heap.objs.size:=p2.lt;have ld:d<s1.heap.objs.size:=p3.lt;refine Yl (show s1.heap.IsTuple a SS.toArray from p1) p2.isList (show s1.heap.IsTuple d is3.toArray from p3) λh' hz lJ o5 h1 h2 h3 hk=>wpAny_pyIter_zip hz ?_;have I2:Inv X pins σ H1 {s1 with heap:=h'}:=I1.kept (t':=s1.toks) hk;have hle: ∀c,s1.heap.objs.size<=c->wH X pins H1 c:=λc h=>I1.Fd h (I1.eC.fresh h);generalize s1.heap.objs.size=m at*;have D:Ap (m + 5) (m + 3) (m + 4) m (m + 1) (m + 2) a b d:=⟨Jx m,sQ la,sQ lb,sQ ld⟩;refine⟨m + 5,[m + 5,m + 3,m + 4,m,m + 1,m + 2],_,_,H1,rfl,I2,Wu D,⟨hz,lJ,⟨_,_,_,o5⟩,h1,h2,h3⟩,λc IK=> ?_,q⟩;exact hle c (EY IK)
end Z3
namespace Z2
open PySem PySem.Spec PyProof.Rows L2
section
variable{s:Shared}{prog:Program}{w:World}{A:Around}{E:Value->Shared->Prop}
abbrev j7(h:Heap)(T:Addr)(a b:Value):Prop:=h.get? T=some {cls:= .type "tuple",data:= .seq #[a,b]}
def NT{T:Addr}{a b x:Value}{k:Nat}{Q:Unit->Shared->Prop}(hT:j7 s.heap T a b)
  (h: ∀h',h'.get? T=some {cls:= .type "tuple",data:= .seq ((#[a,b]:Array Value).setIfInBounds k x)}->Heap.SameBut T s.heap h'->Q () {s with heap:=h'}):wpAny (model prog w) A (updateSeq T (·.setIfInBounds k x)) Q E s:=by
 refine wpAny_updateSeq hT rfl (h _ ?_ (Heap.SameBut.update ..));rw[Heap.get?_update_self _ hT rfl];simp[Obj.mapSeq]
structure Ap(z TI TO i1 i2 l1 l2:Addr):Prop where
 nd:[z,TI,TO,i1,i2].Nodup
 n1:l1∉[z,TI,TO,i1,i2]
 n2:l2∉[z,TI,TO,i1,i2]
def item{z TI TO i1 i2 l1 l2:Addr}{k:Nat}{xs ys:Array Value}{x y a b:Value}{Q:Value->Shared->Prop}(D:Ap z TI TO i1 i2 l1 l2)
  (hz:IsZip s.heap z TI TO .none) (lJ:j7 s.heap TI (.ref i1) (.ref i2)) (o5:j7 s.heap TO a b) (h1:s.heap.IsListIter i1 l1 k) (h2:s.heap.IsTupleIter i2 l2 k)
  (yZ:s.heap.IsList l1 xs) (K2:s.heap.IsTuple l2 ys) (hx:xs[k]? =some x) (hy:ys[k]? =some y)
  (hQ: ∀h',IsZip h' z TI TO (rawInt s.heap.objs.size)->j7 h' TO x y->h'.IsListIter i1 l1 (k + 1)->h'.IsTupleIter i2 l2 (k + 1)->j7 h' s.heap.objs.size x y->h'.objs.size=s.heap.objs.size + 1->
   (∀c o,c∉[z,TO,i1,i2]->s.heap.get? c=some o->h'.get? c=some o)->Q (.ref s.heap.objs.size) {s with heap:=h'}):
  wpAny (model prog w) A (Builtin.«zip.__next__» ⟨[.ref z],[]⟩) (λfin t=> ∃v,fin= .done (.ret v)/\Q v t) E s:=by
 have nd:=D.nd;have m1:=D.n1;have m2:=D.n2;simp only[bU,aA,bM,or_false,not_or] at nd m1 m2;obtain⟨⟨a1,a2,a3,a4⟩,⟨b1,b2,b3⟩,⟨c1,c2⟩,d1,_⟩:=nd;obtain⟨p1,p2,p3,p4,p5⟩:=m1;obtain⟨q1,q2,q3,q4,q5⟩:=m2;exists 0;exists 3;refine wpAny_bind (wpAny_nextOf_list_item (h1.extBut s1.extBut (bG a3)) (yZ.extBut s1.extBut p1) hx λg2 j1 s2=>wpAny_pure ?_);have t2:j7 g2 TO a b:=s2.extBut _ _ c1 (s1.extBut _ _ (bG a2) o5);refine wpAny_bind (wpAny_seqItems t2 rfl ?_);refine wpAny_bind (NT t2 λg3 t3 s3=> ?_);replace t3:j7 g3 TO x b:=t3;refine wpAny_bind (wpAny_letGo (wpAny_pure ?_));refine wpAny_bind (wpAny_bind (wpAny_onRaise ?_));show wpAny _ _ (Builtin.SmallTypes.nextOf (.ref i2)>>=_) _ _ _;have k2:g3.IsTupleIter i2 l2 k:=((h2.extBut s1.extBut (bG a4)).extBut s2.extBut (bG d1)).extBut s3.extBut (bG c2);have n2:g3.IsTuple l2 ys:=((K2.extBut s1.extBut q1).extBut s2.extBut q4).extBut s3.extBut q3;refine wpAny_bind (Z3.nextT k2 n2 hy λg4 j2 s4=>wpAny_pure ?_);have t4:j7 g4 TO x b:=s4.extBut _ _ c2 t3;refine wpAny_bind (wpAny_seqItems t4 rfl ?_);refine wpAny_bind (NT t4 λg5 t5 s5=> ?_);replace t5:j7 g5 TO x y:=t5;refine wpAny_bind (wpAny_letGo (wpAny_pure (wpAny_pure ?_)));refine wpAny_bind (wpAny_seqItems t5 rfl ?_);refine wpAny_bind (wpAny_newTuple ?_);have hsz:g5.objs.size=s.heap.objs.size:=by rw[s5.1,s4.1,s3.1,s2.1,s1.1]
 have all: ∀e o,e∉[z,TO,i1,i2]->s.heap.get? e=some o->g5.get? e=some o:=λe o he q=>by
  simp only[aA,bM,or_false,not_or] at he;obtain⟨v1,v2,v3,v4⟩:=he;exact s5.extBut _ _ v2 (s4.extBut _ _ v4 (s3.extBut _ _ v2 (s2.extBut _ _ v3 (s1.extBut _ _ v1 q))))
 have hz5:IsZip g5 z TI TO .ellipsis:=s5.extBut _ _ a2 (s4.extBut _ _ a4 (s3.extBut _ _ a2 (s2.extBut _ _ a3 JE)));have o1:g5.IsListIter i1 l1 (k + 1):=((j1.extBut s3.extBut (bG c1)).extBut s4.extBut d1).extBut s5.extBut (bG c1);have o2:g5.IsTupleIter i2 l2 (k + 1):=j2.extBut s5.extBut (bG c2);have Wj:z<g5.objs.size:=Heap.lt_size hz5;show wpAny _ _ (Builtin.SmallTypes.ownedTupleHandOut (.ref z) (.ref g5.objs.size)>>=_) _ _ _;refine wpAny_bind ?_;unfold Builtin.SmallTypes.ownedTupleHandOut;have hz8:IsZip (g5.push {cls:= .type "tuple",data:= .seq #[x,y]}) z TI TO .ellipsis:=Heap.get?_push_of_some _ hz5;refine wpAny_bind (wpAny_setField_rec hz8 (by simp) λg9 UQ s9=> ?_);replace UQ:IsZip g9 z TI TO (rawInt g5.objs.size):=UQ;refine wpAny_setField_rec UQ (by simp) λga RA sa=> ?_;replace RA:IsZip ga z TI TO (rawInt g5.objs.size):=RA;have up: ∀e o,e≠z->g5.get? e=some o->ga.get? e=some o:=λe o v q=>sa.extBut _ _ v (s9.extBut _ _ v (Heap.get?_push_of_some _ q));have XR:j7 ga g5.objs.size x y:=sa.extBut _ _ (gA Wj) (s9.extBut _ _ (gA Wj) (Heap.get?_push_size _ rfl));have za:ga.objs.size=g5.objs.size + 1:=by rw[sa.1,s9.1,Heap.size_push]
 rw[hsz] at RA XR za;refine wpAny_pure ⟨_,rfl,?_⟩;show Q (.ref g5.objs.size) _;rw[hsz];exact hQ ga RA (up _ _ (bG a2) t5) (o1.at λo q=>up _ o (bG a3) q) (o2.at λo q=>up _ o (bG a4) q) XR za λe o he q=>up e o (λv=>he (by simp[v])) (all e o he q)
def stop{z TI TO i1 i2 l1 l2:Addr}{k:Nat}{xs:Array Value}{Q:Fin->Shared->Prop}(hh:A.handled=none)(D:Ap z TI TO i1 i2 l1 l2)
  (hz:IsZip s.heap z TI TO .none) (lJ:j7 s.heap TI (.ref i1) (.ref i2)) (h1:s.heap.IsListIter i1 l1 k) (yZ:s.heap.IsList l1 xs) (hx:xs[k]? =none)
  (hE: ∀h' e,(∀c o,c∉[z,TO,i1,i2]->s.heap.get? c=some o->h'.get? c=some o)->(∃o,h'.get? e=some o/\o.cls= .type "StopIteration")->E (.ref e) {s with heap:=h'}):
  wpAny (model prog w) A (Builtin.«zip.__next__» ⟨[.ref z],[]⟩) Q E s:=by
 have nd:=D.nd;have m1:=D.n1;simp only[bU,aA,bM,or_false,not_or] at nd m1;obtain⟨⟨a1,a2,a3,a4⟩,_⟩:=nd;obtain⟨p1,_⟩:=m1;exists 0;exists 3;refine wpAny_bind (wpAny_nextOf_list_end hh (h1.extBut s1.extBut (bG a3)) (yZ.extBut s1.extBut p1) hx λg2 e s2 he=> ?_);obtain⟨oe,U3,U9⟩:=he;have SV:IsZip g2 z TI TO .ellipsis:=s2 _ _ a3 JE;have hez:e≠z:=λv=>by subst v;rw[SV] at U3;cases U3;simp at U9
 refine wpAny_setField_rec SV (by simp) λg3 _ s3=>hE g3 e (λc o hc v=> ?_) ⟨oe,s3.extBut _ _ hez U3,U9⟩;simp only[aA,bM,or_false,not_or] at hc;exact s3.extBut _ _ hc.1 (s2 _ _ hc.2.2.1 (s1.extBut _ _ hc.1 v))
def next_item{z TI TO i1 i2 l1 l2:Addr}{k:Nat}{xs ys:Array Value}{x y a b:Value}{Q:Option Value->Shared->Prop}(D:Ap z TI TO i1 i2 l1 l2)
  (hz:IsZip s.heap z TI TO .none) (lJ:j7 s.heap TI (.ref i1) (.ref i2)) (o5:j7 s.heap TO a b) (h1:s.heap.IsListIter i1 l1 k) (h2:s.heap.IsTupleIter i2 l2 k)
  (yZ:s.heap.IsList l1 xs) (K2:s.heap.IsTuple l2 ys) (hx:xs[k]? =some x) (hy:ys[k]? =some y)
  (hQ: ∀h',IsZip h' z TI TO (rawInt s.heap.objs.size)->j7 h' TO x y->h'.IsListIter i1 l1 (k + 1)->h'.IsTupleIter i2 l2 (k + 1)->j7 h' s.heap.objs.size x y->h'.objs.size=s.heap.objs.size + 1->
   (∀c o,c∉[z,TO,i1,i2]->s.heap.get? c=some o->h'.get? c=some o)->Q (some (.ref s.heap.objs.size)) {s with heap:=h'}):wpAny (model prog w) A (pyNext (.ref z)) Q E s:=by
 have hT:s.TypeIs (.ref z) "zip":=⟨_,hz,rfl⟩;unfold pyNext;refine wpAny_bind (wpAny_attempt (wpAny_callSpecial?_slot (name:=Str.ofString "__next__") hT F.slot_zip_next (wpAny_call_entry F.slot_zip_next hT F.entry_zip_next ?_ (F.args_zip_next_1 _))));exact item D hz lJ o5 h1 h2 yZ K2 hx hy λh' b1 b2 b3 b4 b5 b6 b7=>wpAny_pure (hQ h' b1 b2 b3 b4 b5 b6 b7)
def xk{z TI TO i1 i2 l1 l2:Addr}{k:Nat}{xs:Array Value}{Q:Option Value->Shared->Prop}(hh:A.handled=none)(D:Ap z TI TO i1 i2 l1 l2)
  (hz:IsZip s.heap z TI TO .none) (lJ:j7 s.heap TI (.ref i1) (.ref i2)) (h1:s.heap.IsListIter i1 l1 k) (yZ:s.heap.IsList l1 xs) (hx:xs[k]? =none)
  (hQ: ∀h',(∀c o,c∉[z,TO,i1,i2]->s.heap.get? c=some o->h'.get? c=some o)->Q none {s with heap:=h'}):wpAny (model prog w) A (pyNext (.ref z)) Q E s:=by
 have hT:s.TypeIs (.ref z) "zip":=⟨_,hz,rfl⟩;unfold pyNext;refine wpAny_bind (wpAny_attempt (wpAny_callSpecial?_slot (name:=Str.ofString "__next__") hT F.slot_zip_next (wpAny_call_entry F.slot_zip_next hT F.entry_zip_next (stop hh D hz lJ h1 yZ hx λh' e hk he=> ?_) (F.args_zip_next_1 _))));obtain⟨o,ho,hc⟩:=he;refine wpAny_bind (wpAny_isInstance (T:="StopIteration") (b:=true) ⟨o,ho,hc⟩ isSubtype_stop ?_);exact wpAny_pure (hQ _ hk)
end
abbrev H1(h:Heap)(l:Addr):Heap:=h.push {cls:= .type "list_iterator",data:= .fields #[.ref l,.int 0 0]}
abbrev H2(h:Heap)(l m:Addr):Heap:=(H1 h l).push {cls:= .type "tuple_iterator",data:= .fields #[.ref m,.int 0 0]}
abbrev H4(h:Heap)(l m:Addr):Heap:=(H2 h l m).push {cls:= .type "tuple",data:= .seq #[.ref h.objs.size,.ref (H1 h l).objs.size]}
abbrev H5(h:Heap)(l m:Addr):Heap:=(H4 h l m).push {cls:= .type "tuple",data:= .seq #[.none,.none]}
noncomputable abbrev H6(h:Heap)(l m:Addr):Heap:=(H5 h l m).push {cls:= .type "zip",data:= .fields #[.none,.bool false,.bool false,.ref (H2 h l m).objs.size,.ref (H4 h l m).objs.size]}
def tc2(a b:Value):checkTypeCall "zip" ⟨[a,b],[]⟩=pure ():=by kernel_rfl
def nc2(a b:Value):checkBuiltinCall "zip.__new__" ⟨[.type "zip",a,b],[]⟩=pure ():=by kernel_rfl
def oi3(a b e:Value):argsOk "object.__init__" ⟨[a,b,e],[]⟩:=by
 unfold argsOk;rw[signature?_of (id:="object.__init__") (n:=['_','_','t','i','n','i','_','_']) (o:=['t','c','e','j','b','o']) (by kernel_rfl) F.owner_object];kernel_rfl
set_option maxHeartbeats 2000000 in
def Z0(l m:Addr)(xs ys:Array Value):
  Meets (Builtin.«zip.__new__» ⟨[.type "zip",.ref l,.ref m],[]⟩) (λ_ R s=>s.heap.IsList l xs/\s.heap.IsTuple m ys/\R (.ok (.ret (.ref (H5 s.heap l m).objs.size))) {s with heap:=H6 s.heap l m}):=
 .of_wp λprog w A R s h=>by
  obtain⟨hp,g,d,tk,os⟩:=s;obtain⟨hl,hm,h⟩:=h;have aas:=sub_zip;have q1:Heap.IsList (Shared.heap ⟨hp,g,d,tk,os⟩) l xs:=hl;have q2:Heap.IsTuple (Shared.heap ⟨hp.push {cls:= .type "list_iterator",data:= .fields #[.ref l,.int 0 0]},g,d,tk,os⟩) m ys:=Heap.IsTuple.push hm _
  wp_walk using wpAny_pyIter_list q1,wpAny_pyIter_tuple q2
  exact⟨_,rfl,h⟩
section
variable{s:Shared}{prog:Program}{w:World}{A:Around}{E:Value->Shared->Prop}
def call2{l m:Addr}{xs ys:Array Value}{Q:Value->Shared->Prop}(hl:s.heap.IsList l xs)(hm:s.heap.IsTuple m ys)
  (h: ∀h',IsZip h' (s.heap.objs.size + 4) (s.heap.objs.size + 2) (s.heap.objs.size + 3) .none->j7 h' (s.heap.objs.size + 2) (.ref s.heap.objs.size) (.ref (s.heap.objs.size + 1))->
   j7 h' (s.heap.objs.size + 3) .none .none->h'.IsListIter s.heap.objs.size l 0->h'.IsTupleIter (s.heap.objs.size + 1) m 0->
   (∀c o,s.heap.get? c=some o->h'.get? c=some o)->Q (.ref (s.heap.objs.size + 4)) {s with heap:=h'}):wpAny (model prog w) A (call (.type "zip") [.ref l,.ref m]) Q E s:=by
 refine callType_new F.called_zip (by decide) (tc2 _ _) (nc2 _ _) (λobj=>oi3 obj _ _) F.entry_zip_new (Z0 l m xs ys) ⟨hl,hm,?_⟩;have z1:(H1 s.heap l).objs.size=s.heap.objs.size + 1:=Heap.size_push ..;have z2:(H2 s.heap l m).objs.size=s.heap.objs.size + 2:=by rw[Heap.size_push,z1]
 have z4:(H4 s.heap l m).objs.size=s.heap.objs.size + 3:=by rw[Heap.size_push,z2]
 have z5:(H5 s.heap l m).objs.size=s.heap.objs.size + 4:=by rw[Heap.size_push,z4]
 have g6:(H6 s.heap l m).get? (H5 s.heap l m).objs.size=some _:=Heap.get?_push_size _ rfl;have g5:(H6 s.heap l m).get? (H4 s.heap l m).objs.size=some _:=Heap.get?_push_of_some _ (Heap.get?_push_size _ rfl);have g4:(H6 s.heap l m).get? (H2 s.heap l m).objs.size=some _:=Heap.get?_push_of_some _ (Heap.get?_push_of_some _ (Heap.get?_push_size _ rfl));have u3: ∀c o,(H2 s.heap l m).get? c=some o->(H6 s.heap l m).get? c=some o:=λc o e=>Heap.get?_push_of_some _ (Heap.get?_push_of_some _ (Heap.get?_push_of_some _ e));have g2:(H6 s.heap l m).get? (H1 s.heap l).objs.size=some _:=u3 _ _ (Heap.get?_push_size _ rfl);have g1:(H6 s.heap l m).get? s.heap.objs.size=some _:=u3 _ _ (Heap.get?_push_of_some _ (Heap.get?_push_size _ rfl));show _/\_;rw[z2,z4,z5] at g6;rw[z1,z2] at g4;rw[z4] at g5;rw[z1] at g2;rw[z5];exact⟨⟨_,g6,rfl⟩,h _ g6 g4 g5 ⟨_,g1,rfl,rfl⟩ ⟨_,g2,rfl,rfl⟩ λc o e=>u3 c o (Heap.get?_push_of_some _ (Heap.get?_push_of_some _ e))⟩
end
def PU(K:ab)(a b:Addr):It:=
 ⟨λi H=> ∃(xs ys:List V) (x y:V),bw K H a xs/\gU K H b ys/\xs[i]? =some x/\ys[i]? =some y,
  λi H v H'=> ∃T x y,v= .ref T/\H T=none/\H'=upd H T (.tup [x,y])/\(∀xs,bw K H a xs->xs[i]? =some x)/\(∀ys,gU K H b ys->ys[i]? =some y),
  λi H=> ∃xs:List V,bw K H a xs/\xs.length<=i⟩
def Wv{P:Program}{w:World}{K:ab}{elts:List Expr}{kk:Nat}{qQ:Pos}{a b z TI TO i1 i2:Addr}(D:Ap z TI TO i1 i2 a b):
  Turn P w K (.Tuple elts kk qQ) (PU K a b) [z,TI,TO,i1,i2] z
   (λi h=>IsZip h z TI TO .none/\j7 h TI (.ref i1) (.ref i2)/\(∃x y,j7 h TO x y)/\h.IsListIter i1 a i/\h.IsTupleIter i2 b i) where
 mem:=by simp
 obj:=λi h st c hc=>by
  obtain⟨hz,lJ,⟨x,y,o5⟩,⟨o1,e1,_,d1⟩,⟨o2,e2,_,d2⟩⟩:=st;have e':c=z\/c=TI\/c=TO\/c=i1\/c=i2:=by simpa using hc
  rcases e' with q|q|q|q|q <;> rw[q]
  ·exact⟨_,hz,λv q=>nomatch q⟩
  ·exact⟨_,lJ,λv q=>nomatch q⟩
  ·exact⟨_,o5,λv q=>nomatch q⟩
  ·exact⟨o1,e1,λv q=>by rw[d1] at q;cases q⟩
  ·exact⟨o2,e2,λv q=>by rw[d2] at q;cases q⟩
 keep:=λi h h' st k=>by
  obtain⟨hz,lJ,⟨x,y,o5⟩,h1,h2⟩:=st;exact⟨k z (by simp) _ hz,k TI (by simp) _ lJ,⟨x,y,k TO (by simp) _ o5⟩,h1.at λo q=>k i1 (by simp) o q,h2.at λo q=>k i2 (by simp) o q⟩
 item:=by
  exists 4;obtain⟨hz,lJ,⟨x0,y0,o5⟩,h1,h2⟩:=st;obtain⟨xs,ys,x,y,D1,F8,hx,hy⟩:=hg;obtain⟨SS,QM,p1,_⟩:=I.list D1;obtain⟨VS,NU,p2,_⟩:=I.tuple F8;obtain⟨v1,VW,ZL⟩:=QM.get hx;obtain⟨v2,VV,WR⟩:=NU.get hy;have OS:z<s.heap.objs.size:=Heap.lt_size hz;refine next_item D hz lJ o5 h1 h2 p1.isList (show s.heap.IsTuple b VS.toArray from p2) (x:=v1) (y:=v2) (by simpa using VW) (by simpa using VV) λh' z' Yv Ti X2 hT hsz hk=> ?_;refine⟨_,rfl,wpAny_letOwnedTupleGo_zip (s:={s with heap:=h'}) z' λIP Ws sb=> ?_⟩;have nd:=D.nd;simp only[bU,aA,bM,or_false,not_or] at nd;obtain⟨⟨a1,a2,a3,a4⟩,⟨b1,b2,b3⟩,_⟩:=nd;have Qj:IP.get? s.heap.objs.size=some {cls:= .type "tuple",data:= .seq #[v1,v2]}:=(sb.2 _ (gA OS)).trans hT;have new:gJ X.prog X.w (upd H s.heap.objs.size (.tup [x,y])) IP s.heap.objs.size (.tup [x,y]):=
   ⟨by show 2<=sizeLine;decide,[v1,v2],.cons ZL (.cons WR .nil),⟨_,Qj,rfl,_,rfl⟩⟩
  have I1:Inv X pins σ (upd H s.heap.objs.size (.tup [x,y])) {s with heap:=IP}:=
   I.sr (t':=s.toks) (ch:=[z,TI,TO,i1,i2]) (λc o hb q=>(sb.2 c (λq'=>hb (by simp[q']))).trans (hk c o (λq'=>hb (by simp at q' ⊢;rcases q' with v|v|v|v <;> simp[v])) q)) hf (aE _) new
  refine⟨.ref s.heap.objs.size,_,I1,rfl,⟨_,x,y,rfl,I.eC.fresh (aE _),rfl,λl hl=>by rw[I.mN hl D1];exact hx,λl hl=>by rw[I.su hl F8];exact hy⟩,⟨Ws,?_,⟨v1,v2,?_⟩,?_,?_⟩,λc IK=> ?_⟩
  ·exact(sb.2 _ (bG a1)).trans (hk _ _ (by simp[bG a1,b1,b2,b3]) lJ)
  ·exact(sb.2 _ (bG a2)).trans Yv
  ·exact Ti.at λo q=>(sb.2 _ (bG a3)).trans q
  ·exact X2.at λo q=>(sb.2 _ (bG a4)).trans q
  ·have ig:c<s.heap.objs.size:=by
    have e':c=z\/c=TI\/c=TO\/c=i1\/c=i2:=by simpa using IK
    rcases e' with q|q|q|q|q <;> rw[q]
    ·exact OS
    ·exact Heap.lt_size lJ
    ·exact Heap.lt_size o5
    ·obtain⟨_,e1,_⟩:=h1;exact Heap.lt_size e1
    ·obtain⟨_,e2,_⟩:=h2;exact Heap.lt_size e2
   rw[aJ (cv ig)];exact(hf c IK).1
 done:=by
  intro X hP hw hK hc i pins s σ H E I hf st hg;subst hP hw hK;obtain⟨hz,lJ,⟨x0,y0,o5⟩,h1,h2⟩:=st;obtain⟨xs,D1,U8⟩:=hg;obtain⟨SS,QM,p1,_⟩:=I.list D1;have l1:=QM.length;exact xk (I.ok.hd hc) D hz lJ h1 p1.isList (by simp;omega) λh' hk=>⟨rfl,I.EC (t':=s.toks) (ch:=[z,TI,TO,i1,i2]) (λc o hb q=>
   hk c o (λq'=>hb (by simp at q' ⊢;rcases q' with v|v|v|v <;> simp[v])) q) hf⟩
 self:=λA i s Q E st h=>wpAny_pyIter_zip st.1 h
def Jx(m:Nat):[m + 4,m + 2,m + 3,m,m + 1].Nodup:=by
 simp only[bU,aA,bM,or_false,not_or];refine⟨?_,?_,?_,?_,?_,oo⟩<;> first|omega|exact not_false|trivial|simp
def sQ{m a:Nat}(h:a<m):a∉[m + 4,m + 2,m + 3,m,m + 1]:=by
 simp only[aA,bM,or_false,not_or];omega
def EY{m a:Nat}(h:a∈[m + 4,m + 2,m + 3,m,m + 1]):m<=a:=by
 simp only[aA,bM,or_false] at h;omega
def Xe(K:ab)(ta:TA):TI:=λσ H R=>ta σ H λvs H1=> ∃a b xs ys,vs=[.ref a,.ref b]/\bw K H1 a xs/\((bw K H1 b ys/\R (Si K a b) H1)\/(gU K H1 b ys/\R (PU K a b) H1))
def QV(K:ab){X:Cx}{e e2:Expr}{ta:TA}{p pos qQ:Pos}{elts:List Expr}{kk:Nat}(hg:Gl X "zip")(hm:X.mg "zip"=none)(ha:PA X [e,e2] ta)(hK:X.K=K:=by rfl)
  (hs:starEach [e,e2] X.env=(false,eval e X.env)::starEach [e2] X.env:=by rfl) (m5:(backTo pos (starEach [e2] X.env)).any (·.1)=false:=by rfl):
  PI X (.Tuple elts kk qQ) (.Call (.Name "zip" p) [e,e2] [] pos) (Xe K ta):=by
 subst hK;intro pins s σ H R I h;refine Call_ (lO I hg hm xG (ck (gb (ha pos pins s σ H _ I h) λus s1 ⟨vs,H1,I1,r1,q1⟩=> ?_) hs m5));obtain⟨a,b,xs,ys,ex,D1,hor⟩:=q1;subst ex;obtain⟨Qz,rfl,r2⟩: ∃l,us=Value.ref a::Value.ref b::l/\l=[]:=by
  cases r1 with
  |cons r rr=>
   cases rr with
   |cons r' rr=>cases rr;cases r;cases r';exact⟨[],rfl,rfl⟩
 subst r2;obtain⟨SS,QM,p1,_⟩:=I1.list D1;have la:a<s1.heap.objs.size:=p1.lt;have hle: ∀c,s1.heap.objs.size<=c->wH X pins H1 c:=λc h=>I1.Fd h (I1.eC.fresh h);rcases hor with⟨F8,q⟩|⟨F8,q⟩
 ·obtain⟨VS,NU,p2,_⟩:=I1.list F8;have lb:b<s1.heap.objs.size:=p2.lt;refine call_zip_2 p1.isList p2.isList λh' hz lJ o5 h1 h2 hsz hk=>wpAny_pyIter_zip hz ?_;have I2:Inv X pins σ H1 {s1 with heap:=h'}:=I1.kept (t':=s1.toks) hk;have D:=M4 s1.heap.objs.size a b la lb;generalize s1.heap.objs.size=m at*;exact⟨m + 4,[m + 4,m + 2,m + 3,m,m + 1],_,_,H1,rfl,I2,Gm D,⟨hz,lJ,⟨_,_,o5⟩,h1,h2⟩,λc IK=>hle c (EY IK),q⟩
 ·obtain⟨VS,NU,p2,_⟩:=I1.tuple F8;have lb:b<s1.heap.objs.size:=p2.lt;refine call2 p1.isList (show s1.heap.IsTuple b VS.toArray from p2) λh' hz lJ o5 h1 h2 hk=>wpAny_pyIter_zip hz ?_;have I2:Inv X pins σ H1 {s1 with heap:=h'}:=I1.kept (t':=s1.toks) hk;generalize s1.heap.objs.size=m at*;have D:Ap (m + 4) (m + 2) (m + 3) m (m + 1) a b:=⟨Jx m,sQ la,sQ lb⟩;exact⟨m + 4,[m + 4,m + 2,m + 3,m,m + 1],_,_,H1,rfl,I2,Wv D,⟨hz,lJ,⟨_,_,o5⟩,h1,h2⟩,λc IK=>hle c (EY IK),q⟩
end Z2
namespace RL
open PySem PySem.Spec PyProof.Rows L2 Q
def _root_.L2.au.Cj{K:ab}{H H':Hp}{a:Addr}{xs:List V}(e:au H H')(h:gU K H a xs):gU K H' a xs:=by
 rcases h with(h|⟨o,h⟩)|h
 ·exact .inl (.inl (e _ _ h))
 ·exact .inl (.inr ⟨o,e _ _ h⟩)
 ·exact .inr h
def LR:typeLookup (.type "list_reverseiterator") "__len__"=pure none:=by rw[typeLookup_type,builtinLookup_eq_fast];kernel_rfl
def O4:typeLookup (.type "list_reverseiterator") "__length_hint__"=pure (some (.builtin "list_reverseiterator.__length_hint__")):=by rw[typeLookup_type,builtinLookup_eq_fast];kernel_rfl
section
variable{prog:Program}{w:World}{A:Around}{E:Value->Shared->Prop}{s:Shared}
def J1{R:Result->Shared->Prop}{I l:Addr}{items:Array Value}(hh:A.handled=none)(hit:s.heap.IsRevIter I l ((items.size:Int)- 1))(hl:s.heap.IsList l items)(pC:l≠I)(hn:items.size<=sizeLine)
  (S:Addr) (res:Value) (c₀:Nat) (hSI:S≠I) (hSl:S≠l) (hS:s.heap.get? S=some {cls:= .type "list",data:= .seq #[] c₀})
  (hR: ∀h' tk tT c',(∀b o,b≠S->b≠I->s.heap.get? b=some o->h'.get? b=some o)->h'.get? S=some {cls:= .type "list",dict:=none,data:= .seq tT c',slots:= #[]}->
   ItemsOf (λi v=>items[items.size - 1 - i]? =some v) tT items.size->R (.ok (.ret res)) {s with heap:=h',toks:=tk}):
  wpAny (model prog w) A.in1 (Builtin.List.listExtendWith (.ref S) (.ref I) res)
   (λfin s'=>match fin with| .done f=>R (.ok f) s'| .again c'=>c'.quiet=true/\codeAny (model prog w) A c' R s') (λe s'=>R (.error e) s') s:=by
 have W:=(Walks.listRev (prog:=prog) (w:=w) (A:=A.in1) hh I l pC items).toS;have hT:s.TypeIs (.ref I) "list_reverseiterator":=hit.typeIs;have hSf:S∉[I,l]:=by simp[hSI,hSl]
 have RF:0<=items.size/\s.heap.IsRevIter I l ((items.size:Int)- 1 -((0:Nat):Int))/\s.heap.IsList l items:=⟨aC _,by simpa using hit,hl⟩;unfold Builtin.List.listExtendWith;refine wpAny_bind (wpAny_typeOf hT ?_);have h1:Builtin.List.listSameRef (.ref S) (.ref I)=false:=by simp[Builtin.List.listSameRef,hSI]
 have h2:(Value.type "list_reverseiterator"==Value.type "list")=false:=by decide
 have h3:(Value.type "list_reverseiterator"==Value.type "tuple")=false:=by decide
 simp only[h1,h2,h3,Bool.or_false,P6,if_false];refine wpAny_bind (wpAny_pyIter_revIter hit ?_);refine wpAny_bind (wpAny_holding ?_);unfold Builtin.List.listLengthHint;refine wpAny_bind (wpAny_specialOf hT LR ?_);show wpAny _ A.in1 (specialOf (Value.ref I) (Str.ofString "__length_hint__")>>=_) _ _ _;refine wpAny_bind (wpAny_specialOf hT O4 ?_)
 (generalize hid:("list_reverseiterator.__length_hint__":String)=id0;(fail_if_success (clear hid id0));wp_delta;rw[show splitId id0=some ("list_reverseiterator","__length_hint__") from by subst hid;decide +kernel];subst hid)
 refine wpAny_bind (wpAny_isInstance (b:=true) hT (by rw[isSubtype_type];kernel_rfl) ?_);refine wpAny_pure ?_;rw[if_neg (by decide)];refine wpAny_pure ⟨plainId_quiet F.plain_extend_loop _,codeAny_extend_loopS W hn _ hSf _ items.size 0 _ _ _ rfl (aC _) RF hS (ItemsOf.nil _) λs' tT c' hm hS' Hx=> ?_⟩;rw[Moved.eq_with hm];exact hR s'.heap s'.toks tT c' (λb o hb hi e=>hm.heap b o (by simp[hb,hi]) e) hS' Hx
def C5{I l:Addr}{items:Array Value}{Q:Value->Shared->Prop}(hh:A.handled=none)(hit:s.heap.IsRevIter I l ((items.size:Int)- 1))(hl:s.heap.IsList l items)(pC:l≠I)(hn:items.size<=sizeLine)
  (hQ: ∀h' tk tT c',(∀b o,b≠I->s.heap.get? b=some o->h'.get? b=some o)->h'.get? s.heap.objs.size=some {cls:= .type "list",dict:=none,data:= .seq tT c',slots:= #[]}->
   ItemsOf (λi v=>items[items.size - 1 - i]? =some v) tT items.size->Q (.ref s.heap.objs.size) {s with heap:=h',toks:=tk}):
  wpAny (model prog w) A (call (.type "list") [.ref I]) Q E s:=by
 refine callType_codes (Q₁:=λobj gd=>obj= .ref s.heap.objs.size/\gd={s with heap:=s.heap.push {cls:= .type "list",data:= .seq #[]}}) F.called_list (F.typeCall_list_1 _) F.entry_list_init
  (code_list_new _ ⟨rfl,rfl⟩) λobj gd Ma=> ?_
 obtain⟨rfl,rfl⟩:=Ma;have hS:(s.heap.push {cls:= .type "list",data:= .seq #[]}).get? s.heap.objs.size=some {cls:= .type "list",data:= .seq #[]}:=Heap.get?_push_size _ rfl;have ltI:I<s.heap.objs.size:=by obtain⟨o,e,_⟩:=hit;exact Heap.lt_size e
 have ltl:l<s.heap.objs.size:=by obtain⟨o,e,_⟩:=hl;exact Heap.lt_size e
 refine⟨⟨_,hS,rfl⟩,F.args_list_init_2 _ _,?_⟩;show wpAny _ _ (do let old<-Builtin.List.listItems (.ref s.heap.objs.size);Builtin.List.listUpdate (.ref s.heap.objs.size) (λ_=> #[]);letGo old.toList.reverse;Builtin.List.listExtendWith (.ref s.heap.objs.size) (.ref I) .none) _ _ _;refine wpAny_bind ?_;unfold Builtin.List.listItems;refine wpAny_bind (wpAny_seqItems hS rfl (wpAny_pure ?_));show wpAny _ _ (updateSeq s.heap.objs.size (λ_=> #[])>>=λ_=>letGo (#[]:Array Value).toList.reverse >>=λ_=>Builtin.List.listExtendWith (.ref s.heap.objs.size) (.ref I) .none) _ _ _;refine wpAny_bind (wpAny_updateSeq hS rfl ?_);have XS:=Heap.get?_update_self (Obj.mapSeq (λ_=>(#[]:Array Value))) hS rfl;have ZR: ∀b o,b≠s.heap.objs.size->s.heap.get? b=some o->((s.heap.push {cls:= .type "list",data:= .seq #[]}).update s.heap.objs.size (Obj.mapSeq (λ_=>(#[]:Array Value)))).get? b=some o:=
  λb o hb e=>(Heap.get?_update_other _ _ (bG hb)).trans (Heap.get?_push_of_some _ e)
 refine wpAny_bind (wpAny_letGo ?_);refine J1 (A:=A.in1) hh (hit.at λo e=>ZR I o (cv ltI) e) (hl.at λo e=>ZR l o (cv ltl) e) pC hn _ _ _ (gA ltI) (gA ltl) XS λh' tk tT c' hk hS' Hx=> ?_;exact⟨rfl,hQ h' tk tT c' (λb o hb e=>hk b o (cv (Heap.lt_size e)) hb (ZR b o (cv (Heap.lt_size e)) e)) hS' Hx⟩
end
section
variable{X:Cx}
def NA{ys:List V}{its:List Value}(h:Vals ys its){acc:Array Value}(ha:ItemsOf (λi v=>its.toArray[its.toArray.size - 1 - i]? =some v) acc its.toArray.size):Vals ys.reverse acc.toList:=by
 have e:acc.toList=its.reverse:=by
  refine ie λi=> ?_;rw[Array.getElem?_toList];by_cases hi:i<acc.size
  ·have h1:=ha.2 i acc[i] (F6 hi);rw[F6 hi];have h0:=ha.1;simp at h1 h0;rw[Ln (by omega),h1]
  ·have h0:=ha.1;simp at h0;rw[Array.getElem?_eq_none (by omega),fK (by simp;omega)]
 rw[e];clear e ha
 induction h with
 |nil=>exact .nil
 |cons h t ih=>
  rw[zo,zo];exact ih.append (.cons h .nil)
def NK(K:ab)(ta:TA):TE:=λσ H Q=>ta σ H λvs H1=> ∃(a:Addr) (xs:List V),vs=[.ref a]/\bw K H1 a xs/\ ∀p,H1 p=none->Q (.ref p) (upd H1 p (.lst xs.reverse))
def Jq(K:ab){e:Expr}{ta:TA}{p p2 pos N8:Pos}(hc:X.calm=true)(V2:Gl X "list")(hml:X.mg "list"=none)(hg:Gl X "reversed")(hm:X.mg "reversed"=none)(ha:PA X [e] ta)(hK:X.K=K:=by rfl)
  (hs:starEach [e] X.env=[(false,eval e X.env)]:=by rfl)
  (fX:starEach [.Call (.Name "reversed" p2) [e] [] N8] X.env=[(false,eval (.Call (.Name "reversed" p2) [e] [] N8) X.env)]:=by rfl):
  PE X (.Call (.Name "list" p) [.Call (.Name "reversed" p2) [e] [] N8] [] pos) (NK K ta):=by
 subst hK;exists 13;refine Call_ (lO I V2 hml boot_list (ck ?_ fX rfl));rw[fX];show wpAny _ _ (spliced ((false,eval (.Call (.Name "reversed" p2) [e] [] N8) X.env)::[])) _ _ s;refine Calls.spliced_cons (Call_ (lO I hg hm rV (ck (gb (ha N8 pins s σ H _ I h) λus s1 ⟨vs,H1,I1,r1,q1⟩=> ?_) hs rfl)));obtain⟨a,xs,ex,hq,q⟩:=q1;subst ex;cases r1 with
 |cons r rr=>
  cases rr;cases r;obtain⟨its,rv,p',hz⟩:=I1.list hq;have hl:=rv.length;have la:a<s1.heap.objs.size:=p'.lt;refine call_reversed_list p'.isList ?_;refine Calls.spliced_nil ?_;refine C5 (items:=its.toArray) (l:=a) (I1.ok.hd hc) ⟨_,Heap.get?_push_size _ rfl,rfl,rfl⟩ (p'.isList.push _) (cv la) (by simp only[bz];omega) λh' tk tT c' hk hS Hx=> ?_;have hsz: ∀o,(s1.heap.push o).objs.size=s1.heap.objs.size + 1:=λo=>Heap.size_push ..;rw[hsz] at hS;have kp: ∀b o,s1.heap.get? b=some o->h'.get? b=some o:=λb o eo=>hk b o (cv (Heap.lt_size eo)) (Heap.get?_push_of_some _ eo);have hv:Vals xs.reverse tT.toList:=NA rv Hx;refine⟨.ref (s1.heap.objs.size + 1),_,I1.laid (t':=tk) (a:=s1.heap.objs.size + 1) (o:= .lst xs.reverse) kp (Nn _) (show gJ X.prog X.w _ h' _ (.lst xs.reverse) from⟨by simpa using hz,tT.toList,c',hv,by simpa using hS⟩),by rw[hsz];rfl,q _ (I1.eC.fresh (Nn _))⟩
def aaf(K:ab)(tl:TE):TI:=λσ H R=>tl σ H λx H1=> ∃a,x= .ref a/\(((∃xs,bw K H1 a xs)/\R (zI K a) H1)\/((∃xs,gU K H1 a xs)/\R (Kb K a) H1))
def YQ(K:ab){tg l:Expr}{tl:TE}(hl:PE X l tl)(hK:X.K=K:=by rfl):PI X tg l (aaf K tl):=by
 subst hK;intro pins s σ H R I h;refine gb (hl pins s σ H _ I h) λv s1 ⟨x,H1,I1,r1,q1⟩=> ?_;obtain⟨a,e,q1⟩:=q1;subst e;rcases q1 with⟨hx,q⟩|⟨hx,q⟩
 ·cases r1;obtain⟨xs,hq⟩:=hx;obtain⟨its,rv,p,hz⟩:=I1.list hq;refine wpAny_pyIter_list p.isList ?_;exact EN (tk:=s1.toks) I1 _ (Dn a _) ⟨_,Heap.get?_push_size _ rfl,rfl,rfl⟩ q
 ·cases r1;obtain⟨xs,hq⟩:=hx;obtain⟨its,rv,p,hz⟩:=I1.tuple hq;refine wpAny_pyIter_tuple (show s1.heap.IsTuple a its.toArray from p) ?_;exact EN (tk:=s1.toks) I1 _ (zW a _) ⟨_,Heap.get?_push_size _ rfl,rfl,rfl⟩ q
end
section
variable{K:ab}{a b:Addr}{xs ys:List V}{i j:Nat}{te:TE}{σ:L2.St}{H1:Hp}{Qd:Addr->Hp->Prop}
def OG(val:Nat->V)(J:Nat->Hp->Prop)(hl:xs.length<=sizeLine)(hxy:xs.length=ys.length)(RJ:i≠j)(h0:J 0 H1)(hJ: ∀n H D o,J n H->H1 D=none->J n (upd H D o))(hJ2: ∀n H D o,J n H->H D=none->J n (upd H D o))
  (SY: ∀n H,n<=xs.length->J n H->bw K H a xs) (UT: ∀n H,n<=xs.length->J n H->gU K H b ys)
  (hs: ∀n x y H Q',xs[n]? =some x->ys[n]? =some y->J n H->(∀H4,J (n + 1) H4->(∀D acc,H1 D=none->H D=some (.lst acc)->H4 D=some (.lst acc))->Q' (val n) H4)->te (((wipe σ [i,j]).set i (some x)).set j (some y)) H Q')
  (hq: ∀D H,H1 D=none->J xs.length H->H D=some (.lst ((List.range xs.length).map val))->Qd D H):
  ∀D,H1 D=none-> ∃W:Nat->Nat->Hp->Prop,(∃m,W 0 m (upd H1 D (.lst [])))/\ ∀n m H,W n m H->
   ((Z2.PU K a b).stop n H/\Qd D H)\/((Z2.PU K a b).go n H/\ ∃Nx:Hp->Prop,(∀H',Nx H'-> ∃m',m'<m/\W (n + 1) m' H')/\ ∀x H',(Z2.PU K a b).wR n H x H'->Mr K 2 (ux (gq i) (ux (gq j) Pb)) x (wipe σ [i,j]) H' λσ2 H2=>wipe σ2 [i,j]=wipe σ [i,j]/\lV σ2 H2 λb H3=>
    if b=true then te σ2 H3 λy H4=> ∃acc,H4 D=some (.lst acc)/\acc.length<sizeLine/\Nx (upd H4 D (.lst (acc++[y]))) else Nx H3):=by
 intro D hD;let Pv:Nat->Hp->Prop:=λn H=>J n H/\H D=some (.lst ((List.range n).map val));refine⟨λn m H=>m=xs.length - n/\n<=xs.length/\Pv n H,⟨xs.length,by simp,aC _,hJ 0 H1 D _ h0 hD,ak⟩,?_⟩;rintro n m H ⟨rfl,hn,hj,hd⟩;have qx:=SY n H hn hj;have qy:=UT n H hn hj;by_cases ig:n<xs.length
 ·have U5:n<ys.length:=by omega
  refine .inr ⟨⟨xs,ys,xs[n],ys[n],qx,qy,af ig,af U5⟩,Pv (n + 1),λH' p'=>⟨xs.length -(n + 1),by omega,rfl,ig,p'⟩,λx H' hy=> ?_⟩;obtain⟨T,u,v,rfl,hT,rfl,hu,hv⟩:=hy;refine⟨T,[u,v],rfl,gU.of ak,rfl,u,[v],rfl,v,[],rfl,rfl,?_,?_⟩
  ·simp only[wipe];rw[ic];refine ie λn=> ?_;simp only[o8,dO];by_cases h1:i=n <;> by_cases h2:j=n <;> simp_all
  ·have XX:D≠T:=aO hd hT;unfold lV;refine cY (hs n u v _ _ (hu xs qx) (hv ys qy) (hJ2 _ _ T _ hj hT) λH4 XD hk=>⟨_,hk D _ hD (by rw[aJ XX];exact hd),?_,hJ _ _ D _ XD hD,?_⟩)
   ·rw[ag,dE];omega
   ·rw[ak,jS]
 ·have e:n=xs.length:=by omega
  subst e;exact .inl ⟨⟨xs,qx,aE _⟩,hq D H hD hj hd⟩
def Rp(val:Nat->V)(J:Nat->Hp->Prop)(hl:xs.length<=sizeLine)(h0:J 0 H1)(hJ: ∀n H D o,J n H->H1 D=none->J n (upd H D o))(RG: ∀n H,n<=xs.length->J n H->bw K H a xs)
  (hs: ∀n x H Q',n<xs.length->xs[xs.length - 1 - n]? =some x->J n H->(∀H4,J (n + 1) H4->(∀D acc,H1 D=none->H D=some (.lst acc)->H4 D=some (.lst acc))->Q' (val n) H4)->te ((wipe σ [i]).set i (some x)) H Q')
  (hq: ∀D H,H1 D=none->J xs.length H->H D=some (.lst ((List.range xs.length).map val))->Qd D H):
  ∀D,H1 D=none-> ∃W:Nat->Nat->Hp->Prop,(∃m,W 0 m (upd H1 D (.lst [])))/\ ∀n m H,W n m H->
   ((TC K a xs.length).stop n H/\Qd D H)\/((TC K a xs.length).go n H/\ ∃Nx:Hp->Prop,(∀H',Nx H'-> ∃m',m'<m/\W (n + 1) m' H')/\ ∀x H',(TC K a xs.length).wR n H x H'->gq i x (wipe σ [i]) H' λσ2 H2=>wipe σ2 [i]=wipe σ [i]/\lV σ2 H2 λb H3=>
    if b=true then te σ2 H3 λy H4=> ∃acc,H4 D=some (.lst acc)/\acc.length<sizeLine/\Nx (upd H4 D (.lst (acc++[y]))) else Nx H3):=by
 intro D hD;let Pv:Nat->Hp->Prop:=λn H=>J n H/\H D=some (.lst ((List.range n).map val));refine⟨λn m H=>m=xs.length - n/\n<=xs.length/\Pv n H,⟨xs.length,by simp,aC _,hJ 0 H1 D _ h0 hD,ak⟩,?_⟩;rintro n m H ⟨rfl,hn,hj,hd⟩;have qx:=RG n H hn hj;by_cases ig:n<xs.length
 ·refine .inr ⟨⟨ig,xs,xs[xs.length - 1 - n],qx,af (by omega)⟩,Pv (n + 1),λH' p'=>⟨xs.length -(n + 1),by omega,rfl,ig,p'⟩,λx H' hy=> ?_⟩;obtain⟨e1,hx⟩:=hy;subst e1;unfold gq lV;refine⟨by simp[wipe,ic],cY (hs n x _ _ ig (hx xs qx) hj λH4 XD hk=>⟨_,hk D _ hD hd,?_,hJ _ _ D _ XD hD,?_⟩)⟩
  ·rw[ag,dE];omega
  ·rw[ak,jS]
 ·have e:n=xs.length:=by omega
  subst e;exact .inl ⟨aE _,hq D H hD hj hd⟩
def Ro(val:Nat->V)(J:Nat->Hp->Prop)(hl:xs.length<=sizeLine)(h0:J 0 H1)(hJ: ∀n H D o,J n H->H1 D=none->J n (upd H D o))(RG: ∀n H,n<=xs.length->J n H->gU K H a xs)
  (hs: ∀n x H Q',xs[n]? =some x->J n H->(∀H4,J (n + 1) H4->(∀D acc,H1 D=none->H D=some (.lst acc)->H4 D=some (.lst acc))->Q' (val n) H4)->te ((wipe σ [i]).set i (some x)) H Q')
  (hq: ∀D H,H1 D=none->J xs.length H->H D=some (.lst ((List.range xs.length).map val))->Qd D H):
  ∀D,H1 D=none-> ∃W:Nat->Nat->Hp->Prop,(∃m,W 0 m (upd H1 D (.lst [])))/\ ∀n m H,W n m H->
   ((Kb K a).stop n H/\Qd D H)\/((Kb K a).go n H/\ ∃Nx:Hp->Prop,(∀H',Nx H'-> ∃m',m'<m/\W (n + 1) m' H')/\ ∀x H',(Kb K a).wR n H x H'->gq i x (wipe σ [i]) H' λσ2 H2=>wipe σ2 [i]=wipe σ [i]/\lV σ2 H2 λb H3=>
    if b=true then te σ2 H3 λy H4=> ∃acc,H4 D=some (.lst acc)/\acc.length<sizeLine/\Nx (upd H4 D (.lst (acc++[y]))) else Nx H3):=by
 intro D hD;refine UI (K:=K) (a:=a) (xs:=xs) (Qd:=λH=>Qd D H) (λn H=>J n H/\H D=some (.lst ((List.range n).map val))) ⟨hJ 0 H1 D _ h0 hD,ak⟩ (λn H hn h=>RG n H hn h.1) (λn x H hx h=> ?_) (λH h=>hq D H hD h.1 h.2);unfold gq lV;have hn:n<xs.length:=(aD.mp hx).1;refine⟨by simp[wipe,ic],cY (hs n x H _ hx h.1 λH4 hj hk=>⟨_,hk D _ hD h.2,?_,hJ _ _ D _ hj hD,?_⟩)⟩
 ·rw[ag,dE];omega
 ·rw[ak,jS]
def RQ{g:TG}{tb:TS}{D:Ends}{H:Hp}(Pv:Nat->L2.St->Hp->Prop)(hxy:xs.length=ys.length)(h0:Pv 0 σ H)(SY: ∀i σ H,i<=xs.length->Pv i σ H->bw K H a xs)(UT: ∀i σ H,i<=xs.length->Pv i σ H->bw K H b ys)
  (hs: ∀i x y T σ H,xs[i]? =some x->ys[i]? =some y->Pv i σ H->H T=none->g (.ref T) σ (upd H T (.tup [x,y])) λσ2 H2=>tb {D with nx:=Pv (i + 1),ct:=Pv (i + 1),bk:=D.nx} σ2 H2) (hd: ∀σ H,Pv xs.length σ H->D.nx σ H):
  ∃W:Nat->Nat->L2.St->Hp->Prop,(∃m,W 0 m σ H)/\ ∀i m σ H,W i m σ H->
   ((Si K a b).stop i H/\D.nx σ H)\/((Si K a b).go i H/\ ∃N:L2.St->Hp->Prop,(∀σ' H',N σ' H'-> ∃m',m'<m/\W (i + 1) m' σ' H')/\ ∀x H',(Si K a b).wR i H x H'->g x σ H' λσ2 H2=>tb {D with nx:=N,ct:=N,bk:=D.nx} σ2 H2):=by
 exists 6;have qx:=SY i σ H hi p;have qy:=UT i σ H hi p;by_cases ig:i<xs.length
 ·refine .inr ⟨⟨xs,ys,xs[i],ys[i]'(by omega),qx,qy,af ig,af (by omega)⟩,Pv (i + 1),λσ' H' p'=>⟨xs.length -(i + 1),by omega,rfl,ig,p'⟩,λx H' hy=> ?_⟩;obtain⟨T,u,v,rfl,hT,rfl,hu,hv⟩:=hy;exact hs i u v T σ H (hu xs qx) (hv ys qy) p hT
 ·have e:i=xs.length:=by omega
  subst e;exact .inl ⟨⟨xs,ys,qx,qy,.inl (aE _)⟩,hd σ H p⟩
def By{g:TG}{tb:TS}{D:Ends}{H:Hp}(Pv:Nat->L2.St->Hp->Prop)(h0:Pv 0 σ H)(SY: ∀i σ H,i<=xs.length->Pv i σ H->bw K H a xs)
  (hs: ∀i x T σ H,xs[i]? =some x->Pv i σ H->H T=none->g (.ref T) σ (upd H T (.tup [.int (i:Nat),x])) λσ2 H2=>tb {D with nx:=Pv (i + 1),ct:=Pv (i + 1),bk:=D.nx} σ2 H2) (hd: ∀σ H,Pv xs.length σ H->D.nx σ H):
  ∃W:Nat->Nat->L2.St->Hp->Prop,(∃m,W 0 m σ H)/\ ∀i m σ H,W i m σ H->
   ((TF K a).stop i H/\D.nx σ H)\/((TF K a).go i H/\ ∃N:L2.St->Hp->Prop,(∀σ' H',N σ' H'-> ∃m',m'<m/\W (i + 1) m' σ' H')/\ ∀x H',(TF K a).wR i H x H'->g x σ H' λσ2 H2=>tb {D with nx:=N,ct:=N,bk:=D.nx} σ2 H2):=by
 exists 6;have qx:=SY i σ H hi p;by_cases ig:i<xs.length
 ·refine .inr ⟨⟨xs,xs[i],qx,af ig⟩,Pv (i + 1),λσ' H' p'=>⟨xs.length -(i + 1),by omega,rfl,ig,p'⟩,λx H' hy=> ?_⟩;obtain⟨T,u,rfl,hT,rfl,hu⟩:=hy;exact hs i u T σ H (hu xs qx) p hT
 ·have e:i=xs.length:=by omega
  subst e;exact .inl ⟨⟨xs,qx,aE _⟩,hd σ H p⟩
def L4{lo:Int}{N:Nat}(R:Addr->Nat->V->Hp->Prop)(hR: ∀D n y H H',R D n y H->cg D H H'->R D n y H')(hl:N<=sizeLine)
  (hs: ∀D n H Q',H1 D=none->n<N->au H1 H->(∃acc,H D=some (.lst acc))->(∀y H4,au H H4->R D n y H4->Q' y H4)->te ((wipe σ [i]).set i (some (.int (lo + n)))) H Q')
  (hq: ∀D H zs,H1 D=none->au H1 H->zs.length=N->(∀n z,zs[n]? =some z->R D n z H)->H D=some (.lst zs)->Qd D H):
  ∀D,H1 D=none-> ∃W:Nat->Nat->Hp->Prop,(∃m,W 0 m (upd H1 D (.lst [])))/\ ∀n m H,W n m H->
   ((IQ lo N).stop n H/\Qd D H)\/((IQ lo N).go n H/\ ∃Nx:Hp->Prop,(∀H',Nx H'-> ∃m',m'<m/\W (n + 1) m' H')/\ ∀x H',(IQ lo N).wR n H x H'->gq i x (wipe σ [i]) H' λσ2 H2=>wipe σ2 [i]=wipe σ [i]/\lV σ2 H2 λb H3=>
    if b=true then te σ2 H3 λy H4=> ∃acc,H4 D=some (.lst acc)/\acc.length<sizeLine/\Nx (upd H4 D (.lst (acc++[y]))) else Nx H3):=by
 intro D hD;let Pv:Nat->Hp->Prop:=λn H=>au H1 H/\ ∃acc,H D=some (.lst acc)/\acc.length=n/\ ∀m z,acc[m]? =some z->R D m z H;refine⟨λn m H=>m=N - n/\n<=N/\Pv n H,⟨N,by simp,aC _,au.new hD,[],ak,rfl,λm z h=>by simp at h⟩,?_⟩;rintro n m H ⟨rfl,hn,h1,acc,h2,h3,h4⟩;by_cases ig:n<N
 ·refine .inr ⟨ig,Pv (n + 1),λH' p'=>⟨N -(n + 1),by omega,rfl,ig,p'⟩,λx H' hy=> ?_⟩;obtain⟨e1,e2⟩:=hy;subst e1 e2;unfold gq lV;exact⟨by simp[wipe,ic],cY (hs D n _ _ hD ig h1 ⟨acc,h2⟩ λy H4 hj hk=>vZ hR (by omega) hD h1 h2 h3 h4 hj hk)⟩
 ·have e:n=N:=by omega
  subst e;exact .inl ⟨aE _,hq D H acc hD h1 h3 h4 h2⟩
def RR{g:TG}{tb:TS}{D:Ends}{H:Hp}(Pv:Nat->L2.St->Hp->Prop)(h0:Pv 0 σ H)(hl:(∀i σ H,i<=xs.length->Pv i σ H->bw K H a xs)\/(∀i σ H,i<=xs.length->Pv i σ H->gU K H a xs))
  (hs: ∀i x σ H,xs[i]? =some x->Pv i σ H->g x σ H λσ2 H2=>tb {D with nx:=Pv (i + 1),ct:=Pv (i + 1),bk:=D.nx} σ2 H2) (hd: ∀σ H,Pv xs.length σ H->D.nx σ H):
  ((∃ys,bw K H a ys)/\ ∃W:Nat->Nat->L2.St->Hp->Prop,(∃m,W 0 m σ H)/\ ∀i m σ H,W i m σ H->
   ((zI K a).stop i H/\D.nx σ H)\/((zI K a).go i H/\ ∃N:L2.St->Hp->Prop,(∀σ' H',N σ' H'-> ∃m',m'<m/\W (i + 1) m' σ' H')/\ ∀x H',(zI K a).wR i H x H'->g x σ H' λσ2 H2=>tb {D with nx:=N,ct:=N,bk:=D.nx} σ2 H2))\/
  ((∃ys,gU K H a ys)/\ ∃W:Nat->Nat->L2.St->Hp->Prop,(∃m,W 0 m σ H)/\ ∀i m σ H,W i m σ H->
   ((Kb K a).stop i H/\D.nx σ H)\/((Kb K a).go i H/\ ∃N:L2.St->Hp->Prop,(∀σ' H',N σ' H'-> ∃m',m'<m/\W (i + 1) m' σ' H')/\ ∀x H',(Kb K a).wR i H x H'->g x σ H' λσ2 H2=>tb {D with nx:=N,ct:=N,bk:=D.nx} σ2 H2)):=
 hl.imp (λh=>⟨⟨xs,h 0 σ H (aC _) h0⟩,jb Pv h0 h hs hd⟩) (λh=>⟨⟨xs,h 0 σ H (aC _) h0⟩,zD Pv h0 h hs hd⟩)
def L5(R:Addr->Nat->V->Hp->Prop)(hR: ∀D n y H H',R D n y H->cg D H H'->R D n y H')(hl:xs.length<=sizeLine)(RG:bw K H1 a xs)
  (hs: ∀D n x H Q' acc,H1 D=none->xs[n]? =some x->au H1 H->H D=some (.lst acc)->(∀m z,acc[m]? =some z->R D m z H)->(∀y H4,au H H4->R D n y H4->Q' y H4)->te ((wipe σ [i]).set i (some x)) H Q')
  (hq: ∀D H zs,H1 D=none->au H1 H->zs.length=xs.length->(∀n z,zs[n]? =some z->R D n z H)->H D=some (.lst zs)->Qd D H):
  ∀D,H1 D=none-> ∃W:Nat->Nat->Hp->Prop,(∃m,W 0 m (upd H1 D (.lst [])))/\ ∀n m H,W n m H->
   ((zI K a).stop n H/\Qd D H)\/((zI K a).go n H/\ ∃Nx:Hp->Prop,(∀H',Nx H'-> ∃m',m'<m/\W (n + 1) m' H')/\ ∀x H',(zI K a).wR n H x H'->gq i x (wipe σ [i]) H' λσ2 H2=>wipe σ2 [i]=wipe σ [i]/\lV σ2 H2 λb H3=>
    if b=true then te σ2 H3 λy H4=> ∃acc,H4 D=some (.lst acc)/\acc.length<sizeLine/\Nx (upd H4 D (.lst (acc++[y]))) else Nx H3):=by
 intro D hD;refine E4 (K:=K) (a:=a) (xs:=xs) (Qd:=λH=>Qd D H) (λn H=>au H1 H/\ ∃acc,H D=some (.lst acc)/\acc.length=n/\ ∀m z,acc[m]? =some z->R D m z H) ⟨au.new hD,[],ak,rfl,λm z h=>by simp at h⟩ (λn H hn h=>h.1.seq RG) (λn x H hx h=> ?_)
  (λH ⟨h1,zs,h2,h3,h4⟩=>hq D H zs hD h1 h3 h4 h2)
 unfold gq lV;have hn:n<xs.length:=(aD.mp hx).1;obtain⟨h1,acc,h2,h3,h4⟩:=h;exact⟨by simp[wipe,ic],cY (hs D n x H _ acc hD hx h1 h2 h4 λy H4 hj hk=>vZ hR (by omega) hD h1 h2 h3 h4 hj hk)⟩
end
end RL
namespace Q
open PySem PySem.Spec PyProof.Rows L2
inductive Dc:List DictEntry->List (Int×V)->Prop
 |nil:Dc [] []
 |cons {i:Int} {t:Tok} {v:V} {u:Value} {es:List DictEntry} {bE:List (Int×V)}:RelV v u->Dc es bE->Dc (⟨hashInt i,.int i t,u⟩::es) ((i,v)::bE)
def keyed(bE:List (Int×V)):List (Key×V):=bE.map λp=>((bQ p.1:Key),p.2)
structure yF(K:ab)(a:Addr)(bE:List (Int×V)):Prop where
 ex: ∃(es:Array DictEntry) (ep:Nat),K.lookup a=some ⟨.type "dict",none,.dict es ep,#[]⟩/\Dc es.toList bE
 nd:(bE.map (·.1)).Nodup
 ns:(a==sysModules)=false
theorem Dc.pairs{P:Program}{w:World}: ∀{es:List DictEntry} {bE:List (Int×V)},Dc es bE-> ∃vs:List (Key×Value),KV (keyed bE) vs/\Pairs (fW P w) es vs/\(∀e∈es,∃k,(fW P w).is k e.key=true/\e.hash=(fW P w).hash k)/\vs.map (·.1)=(keyed bE).map (·.1)
 |_,_,.nil=>⟨[],.nil,.nil,(λ_ h=>nomatch h),rfl⟩
 |_,_,.cons (i:=i) (t:=t) (u:=u) r q=>by
  obtain⟨vs,h1,h2,h3,h4⟩:=Dc.pairs (P:=P) (w:=w) q;refine⟨(bQ i,u)::vs,.cons ⟨rfl,r⟩ h1,.cons (rD P w i t) rfl h2,λe he=> ?_,?_⟩
  ·rcases aA.mp he with rfl|he
   ·exact⟨bQ i,rD P w i t,rfl⟩
   ·exact h3 e he
  ·show(bQ i:Key)::vs.map (·.1)=(bQ i:Key)::(keyed _).map (·.1);rw[h4]
theorem Ho: ∀{bE:List (Int×V)},(bE.map (·.1)).Nodup->((keyed bE).map (·.1)).Nodup
 | [],_=>oo
 |p::r,h=>by
  have h:(p.1::r.map (·.1)).Nodup:=h;obtain⟨h1,h2⟩:=bU.mp h;show((bQ p.1:Key)::(keyed r).map (·.1)).Nodup;refine bU.mpr ⟨λm=>h1 ?_,Ho h2⟩;rw[keyed,bP] at m;obtain⟨z,hz,e⟩:=aQ.mp m;exact aQ.mpr ⟨z,hz,jd e⟩
section
variable{X:Cx}{pins:List (Addr×Obj)}{σ:L2.St}{H:Hp}{s:Shared}{a:Addr}{bE:List (Int×V)}
def yF.here(I:L2.Inv X pins σ H s)(d:yF X.K a bE): ∃vs,KV (keyed bE) vs/\s.heap.DictOf (fW X.prog X.w) a vs:=by
 obtain⟨es,ep,h1,h2⟩:=d.ex;obtain⟨vs,q1,q2,q3,q4⟩:=Dc.pairs (P:=X.prog) (w:=X.w) h2;exact⟨vs,q1,_,es,ep,I.Hq a _ h1,⟨rfl,rfl,rfl⟩,rfl,λe he=>q3 e (by simpa using he),q2,by rw[q4];exact Ho d.nd⟩
def WC(bE:List (Int×V))(ty:TE):TE:=λσ H Q=>ty σ H λy H1=> ∃i v,y= .int i/\fL (keyed bE) (bQ i)=some v/\Q v H1
def VN{x:Str}{i:Expr}{ty:TE}{p pos:Pos}(d:yF X.K a bE)(hm:X.mg x=some (.ref a))(hi:PE X i ty)(hg:Gl X x:=by rfl)(hd:(x==("__debug__":Str))=false:=by decide)(hs:VA i:=by intro _ _;rfl):PE X (.Subscript (.Name x p) i pos) (WC bE ty):=by
 exists 13;refine Kr Dg.lookup hs (sS I hg hm (gb (hi pins s σ H _ I h) λiv s2 ⟨y,H2,I2,ry,i,v,ey,g,q2⟩=> ?_) hd);subst ey;obtain⟨vs,rel,dd⟩:=yF.here I2 d;obtain⟨w',hw,GG⟩:=oW.some_of (v:=v) (o:=valueAt vs (bQ i)) (by rw[<-g];exact rel.val (bQ i));exact⟨dd.typeIs,wpAny_getItem_of (v7 (k:=bQ i) ry) dd.mapOf hw ⟨v,H2,I2.tok _,GG,q2⟩⟩
def Zt(bE:List (Int×V))(ty:TE):TE:=λσ H Q=>ty σ H λy H1=> ∃i,y= .int i/\Q (.bl (fL (keyed bE) (bQ i)).isSome) H1
def Kw{x:Str}{i:Expr}{ty:TE}{p:Pos}(d:yF X.K a bE)(hm:X.mg x=some (.ref a))(hi:PE X i ty)(hg:Gl X x:=by rfl)(hd:(x==("__debug__":Str))=false:=by decide):PC X .In i (.Name x p) (Zt bE ty):=by
 exists 13;refine gb (hi pins s σ H _ I h) λiv s1 ⟨y,H1,I1,ry,i,ey,q1⟩=>sS I1 hg hm ?_ hd;subst ey;obtain⟨vs,rel,dd⟩:=yF.here I1 d;refine wpAny_in_of (v7 (k:=bQ i) ry) d.ns dd.mapOf ?_;rw[<-(rel.val (bQ i)).my];exact⟨.bl _,H1,I1.tok _,rfl,q1⟩
def Yy(P:Program)(w:World)(K:ab)(mg:Str->Option Value)(base:Heap)(f:Addr)(k:Nat)(ps:List Str)(sp:Sp):Prop:=
 d9 K (.ref f)=true/\ ∃fd,Binds K fd ps []/\mh P w K mg base PY k f fd ps sp
def Callee.Om{P:Program}{w:World}{K:ab}{mg:Str->Option Value}{base:Heap}{x:Str}{k:Nat}{ps:List Str}{sp:Sp}{f:Addr}(G:Callee P w K mg base x k ps sp)(hm:mg x=some (.ref f)):Yy P w K mg base f k ps sp:=by
 obtain⟨f',fd,h1,h2,h3,h4⟩:=G;rw[hm] at h1;cases h1;exact⟨h2,fd,h3,h4⟩
def Uk(P:Program)(w:World)(K:ab)(mg:Str->Option Value)(base:Heap)(j:Nat)(tf:TE)(t:TA):TE:=λσ H Q=>tf σ H λx H1=> ∃f k ps sp,x= .ref f/\Yy P w K mg base f k ps sp/\k<=j/\t σ H1 λvs H2=>sp vs H2 Q E0
def AD{fe:Expr}{e:Expr}{es:List Expr}{tf:TE}{t:TA}{pos:Pos}{j:Nat}(hr:jk j X.A)(hf:PE X fe tf)(ha:PA X (e::es) t)
  (hc: ∀{Q:Value->Shared->Prop} {s:Shared},wpAny (model X.prog X.w) X.A (eval fe X.env) (λf gd=>wpAny (model X.prog X.w) X.A (callWith pos f [] (backTo pos (starEach (e::es) X.env)) (backToKw pos (keywordEach [] X.env))) Q X.xe gd) X.xe s->wpAny (model X.prog X.w) X.A (eval (.Call fe (e::es) [] pos) X.env) Q X.xe s:=by intro Q s h;exact PyProof.Rows.Call_ h)
  (he:starEach (e::es) X.env=(false,eval e X.env)::starEach es X.env:=by rfl) (m5:(backTo pos (starEach es X.env)).any (·.1)=false:=by rfl):
  PE X (.Call fe (e::es) [] pos) (Uk X.prog X.w X.K X.mg X.base j tf t):=by
 exists 13;refine hc (gb (hf pins s σ H _ I h) λu s1 ⟨x,H1,I1,rx,f,k,ps,sp,ex,⟨hk,fd,hb,F⟩,hle,q⟩=> ?_);subst ex;obtain rfl:u=Value.ref f:=rx;refine m6 (h₀:=X.base) I1.ok.mod.VR hk (gb (ha pos pins s1 σ H1 _ I1 q) λus s2 ⟨vs,H2,I2,r,q2⟩=>⟨I2.Hq,?_⟩) he m5;exact Av F (hr.mono hle) hb .nil DL I2 r (by rw[dz];exact q2)
end
end Q
namespace SB
open PySem PySem.Spec PyProof.Rows L2 Q
def top(i:Nat):Stmt:=PySem.Challenge.pw_sealedbox_s01_answers.main.body.getD i (.Pass ⟨0,0,0,0⟩)
structure Cs where
 Box:Addr
 Form:Addr
 rY:Addr
 cB:Addr
 gz:Addr
 Seal:Addr
 Gate:Addr
 Circuit:Addr
 Call:Addr
structure Txt(K:ab)(mg:Str->Option Value)(c:Cs):Prop where
 og:GI mg "WORD" 65536
 rR:GI mg "HALF_WORD" 32768
 rQ:GI mg "QUARTER_WORD" 16384
 j6:GI mg "WORD_BITS" 16
 Pe:bq K mg "signed" (top 5)
 Mu:bq K mg "weighed" (top 6)
 Ie:GI mg "TWO_TO_35" 34359738368
 Ic:GI mg "TWO_TO_36" 68719476736
 oU:GI mg "GREATEST_BOUND" 32768
 CI:bq K mg "table_bound" (top 11)
 Fp:bq K mg "made_bound" (top 12)
 X9:bq K mg "cut" (top 13)
 y8:bq K mg "turning_bound" (top 14)
 xA:bq K mg "changing_bound" (top 15)
 zi:bq K mg "changing_loss" (top 16)
 zg:bq K mg "greatest_sure" (top 17)
 MF:bq K mg "is_sure" (top 18)
 cF:GI mg "WRONG_NUMBER" 1
 kE:GI mg "WRONG_LENGTH" 2
 kY:GI mg "NO_ROOM" 3
 Ig:GI mg "NOT_BEGUN" 4
 ip:GI mg "NO_SEAL" 5
 pG:GI mg "NO_SECRETS" 6
 uA:GI mg "NO_USE_MORE" 7
 B2:GI mg "NOT_SURE" 8
 B3:GI mg "FAULTY_BYTES" 9
 xF:GI mg "TOO_MANY_BYTES" 10
 Mz:bq K mg "refused" (top 30)
 Fg:bq K mg "refused_at" (top 31)
 yD:GI mg "BOX_COUNT" 3
 FK:GI mg "SEAL_COUNT" 32
 SQ:mg "Box"=some (.ref c.Box)
 cE:wI K c.Box
 xl:oi K c.Box "Box.__init__" (inClass (top 35) 0)
 lG:bN K c.Box "most"
 cR:bN K c.Box "part"
 cZ:bN K c.Box "seals"
 fb:bN K c.Box "secrets"
 iB:bN K c.Box "uses"
 JU:bq K mg "no_boxes" (top 36)
 ze:bq K mg "is_box_number" (top 37)
 HS:bq K mg "box_fault" (top 38)
 JY:bq K mg "has_room" (top 39)
 ME:bq K mg "may_use" (top 40)
 JN:bq K mg "seals_at" (top 41)
 JR:bq K mg "put_seal" (top 42)
 HH:bq K mg "put_seals" (top 43)
 C6:GI mg "FORM_LENGTH" 8
 iI:GI mg "FORM_BYTES" 32
 QF:Iv K mg "LEAST" [1,8,2,1,1,1,1,0]
 Jg:Iv K mg "GREATEST" [4,32,8,4,8,16,8,127]
 QE:Iv K mg "SIZES" [8,16,32]
 NI:Iv K mg "HALVES" [2,4,8]
 OM:mg "Form"=some (.ref c.Form)
 bc:wI K c.Form
 md:oi K c.Form "Form.__init__" (inClass (top 51) 0)
 dR:bN K c.Form "change_bits"
 df:bN K c.Form "change_digits"
 eY:bN K c.Form "half"
 gp:bN K c.Form "noise"
 gN:bN K c.Form "numbers"
 b9:bN K c.Form "size"
 gg:bN K c.Form "step"
 fV:bN K c.Form "turn_bits"
 dQ:bN K c.Form "turn_digits"
 dj:bN K c.Form "words"
 MG:bq K mg "is_form" (top 52)
 BM:bq K mg "are_in_range" (top 53)
 BI:bq K mg "fit_together" (top 54)
 CK:bq K mg "is_sealable" (top 55)
 Fm:bq K mg "pair_count" (top 56)
 HE:bq K mg "row_count" (top 57)
 zc:bq K mg "key_luck_size" (top 58)
 Fj:bq K mg "pairs_size" (top 59)
 HI:bq K mg "part_size" (top 60)
 HD:bq K mg "seal_size" (top 61)
 HK:bq K mg "number_of" (top 63)
 J0:bq K mg "bytes_of" (top 64)
 HU:bq K mg "blocks_of" (top 65)
 Fn:bq K mg "numbers_of" (top 66)
 BL:bq K mg "bytes_of_all" (top 67)
 PB:GI mg "FACTOR" 6364136223846793005
 MR:GI mg "SUMMAND" 1442695040888963407
 Ib:GI mg "TWO_TO_56" 72057594037927936
 Ia:GI mg "TWO_TO_64" 18446744073709551616
 OK:mg "Luck"=some (.ref c.rY)
 nP:wI K c.rY
 sR:oi K c.rY "Luck.__init__" (inClass (top 73) 0)
 oM:pN K c.rY "next_byte" "Luck.next_byte" (inClass (top 73) 1)
 nH:pN K c.rY "next_bytes" "Luck.next_bytes" (inClass (top 73) 2)
 mM:pN K c.rY "next_number" "Luck.next_number" (inClass (top 73) 3)
 jx:bN K c.rY "state"
 MA:bq K mg "put_off" (top 74)
 oh:GI mg "RING" 4503599627370496
 rP:GI mg "RING_BITS" 52
 Mw:bq K mg "times_x" (top 78)
 CH:bq K mg "times_power" (top 79)
 RV:bq K mg "added" (top 80)
 JX:bq K mg "lessened" (top 81)
 MB:bq K mg "product" (top 82)
 wD:GI mg "MOST_BYTES" 4000
 Bq:mg "WorkPart"=some (.ref c.cB)
 bY:wI K c.cB
 lH:oi K c.cB "WorkPart.__init__" (inClass (top 85) 0)
 bK:bN K c.cB "form"
 iW:bN K c.cB "pairs"
 ji:bN K c.cB "rows"
 Fi:bq K mg "part_bytes" (top 86)
 BH:bq K mg "form_numbers" (top 87)
 BD:bq K mg "pair_numbers" (top 88)
 Fh:bq K mg "part_fault" (top 89)
 Fl:bq K mg "pair_fault" (top 90)
 MC:bq K mg "part_of" (top 91)
 DX:mg "Secrets"=some (.ref c.gz)
 g8:wI K c.gz
 pz:oi K c.gz "Secrets.__init__" (inClass (top 93) 0)
 fY:bN K c.gz "bits"
 gy:bN K c.gz "polynomial"
 BE:bq K mg "make_secrets" (top 94)
 HM:bq K mg "make_part" (top 95)
 Fo:bq K mg "make_pairs" (top 96)
 HN:bq K mg "make_pair" (top 97)
 HL:bq K mg "make_rows" (top 98)
 JW:bq K mg "make_row" (top 99)
 Ih:GI mg "MOST_LUCK" 100
 Ii:GI mg "LAST_LUCK" 20000
 CW:bq K mg "answer_need" (top 103)
 Fz:bq K mg "answer_can" (top 104)
 CY:bq K mg "answer_luck" (top 105)
 Fx:bq K mg "answer_key" (top 106)
 CZ:bq K mg "answer_hand" (top 107)
 CP:bq K mg "answer_take" (top 108)
 zf:bq K mg "is_begin_call" (top 110)
 tR:bq K mg "answer_begin_call" (top 111)
 OJ:mg "Seal"=some (.ref c.Seal)
 fI:wI K c.Seal
 nE:oi K c.Seal "Seal.__init__" (inClass (top 113) 0)
 gm:bN K c.Seal "bound"
 iG:bN K c.Seal "last"
 gk:bN K c.Seal "words"
 JV:bq K mg "new_seal" (top 114)
 JT:bq K mg "phase_of" (top 115)
 Pf:bq K mg "opened" (top 116)
 Pg:bq K mg "off_by" (top 117)
 Fe:bq K mg "seal_bytes" (top 118)
 Mx:bq K mg "seal_of" (top 119)
 JZ:bq K mg "combined" (top 120)
 xy:bq K mg "combined_bound" (top 121)
 RU:bq K mg "moved" (top 122)
 C0:bq K mg "answer_give" (top 124)
 CO:bq K mg "answer_told" (top 125)
 Fy:bq K mg "answer_cap" (top 126)
 CN:bq K mg "answer_uses" (top 127)
 CT:bq K mg "answer_seal" (top 128)
 zj:bq K mg "answer_opened" (top 129)
 Fv:bq K mg "answer_off" (top 130)
 BU:bq K mg "answer_bound" (top 131)
 BN:bq K mg "answer_write" (top 132)
 wx:bq K mg "answer_box_call" (top 134)
 pH:GI mg "MOST_WIRES" 16
 wF:GI mg "KIND_COUNT" 16
 Ue:Yu K mg "HEAD" [(2,65),(2,17)]
 pI:GI mg "HEAD_BYTES" 4
 pJ:GI mg "GATE_BYTES" 5
 OL:mg "Gate"=some (.ref c.Gate)
 jJ:wI K c.Gate
 zw:oi K c.Gate "Gate.__init__" (inClass (top 141) 0)
 jy:bN K c.Gate "first"
 ma:bN K c.Gate "kind"
 i9:bN K c.Gate "second"
 DY:mg "Circuit"=some (.ref c.Circuit)
 f6:wI K c.Circuit
 pA:oi K c.Circuit "Circuit.__init__" (inClass (top 142) 0)
 eK:bN K c.Circuit "gates"
 iM:bN K c.Circuit "outs"
 zh:bq K mg "circuit_fault" (top 143)
 BJ:bq K mg "fields_fault" (top 144)
 CL:bq K mg "body_fields" (top 145)
 Ft:bq K mg "circuit_of" (top 146)
 MH:bq K mg "gate_of" (top 147)
 MD:bq K mg "outs_of" (top 148)
 JO:bq K mg "run_open" (top 149)
 HJ:bq K mg "open_gate" (top 150)
 CS:bq K mg "answer_send" (top 152)
 JQ:bq K mg "put_sent" (top 153)
 BR:bq K mg "answer_judge" (top 154)
 BQ:bq K mg "answer_plain" (top 155)
 zd:bq K mg "is_loose_call" (top 157)
 tQ:bq K mg "answer_loose_call" (top 158)
 rS:GI mg "FACTOR_LIMIT" 128
 wC:GI mg "MOST_MIXED" 8
 CU:bq K mg "answer_read" (top 162)
 C2:bq K mg "answer_drop" (top 163)
 BS:bq K mg "answer_count" (top 164)
 FA:bq K mg "answer_add" (top 165)
 Fu:bq K mg "answer_sub" (top 166)
 BO:bq K mg "answer_times" (top 167)
 CV:bq K mg "answer_plus" (top 168)
 Fw:bq K mg "answer_mix" (top 169)
 CQ:bq K mg "answer_sure" (top 170)
 HP:bq K mg "is_factor" (top 171)
 CM:bq K mg "are_mixable" (top 172)
 JP:bq K mg "put_sums" (top 173)
 BF:bq K mg "is_seal_call" (top 175)
 uZ:bq K mg "answer_seal_call" (top 176)
 My:bq K mg "rounded" (top 178)
 HR:bq K mg "digits_of" (top 179)
 BC:bq K mg "signed_digit" (top 180)
 y9:bq K mg "through_table" (top 182)
 Mv:bq K mg "to_ring" (top 183)
 uY:bq K mg "table_polynomial" (top 184)
 Fs:bq K mg "first_pair" (top 185)
 CG:bq K mg "turned_pair" (top 186)
 tO:bq K mg "digit_polynomials" (top 187)
 Ph:bq K mg "column" (top 188)
 JM:bq K mg "word_out" (top 189)
 BG:bq K mg "hiding_words" (top 190)
 BK:bq K mg "changed_seal" (top 191)
 wX:Iv K mg "WEIGHTS" [1,2]
 HQ:bq K mg "has_gates" (top 194)
 Fq:bq K mg "gate_table" (top 195)
 xw:bq K mg "gates_are_sure" (top 196)
 Ff:bq K mg "run_sealed" (top 197)
 BP:bq K mg "answer_table" (top 199)
 C1:bq K mg "answer_gate" (top 200)
 xB:bq K mg "answer_circuit" (top 201)
 tN:bq K mg "put_through_table" (top 202)
 JS:bq K mg "put_outs" (top 203)
 CJ:bq K mg "is_use_call" (top 205)
 wu:bq K mg "answer_use_call" (top 206)
 ON:mg "Call"=some (.ref c.Call)
 dX:wI K c.Call
 zx:oi K c.Call "Call.__init__" (inClass (top 209) 0)
 rC:bN K c.Call "end"
 eZ:bN K c.Call "kind"
 ft:bN K c.Call "numbers"
 iH:bN K c.Call "rows"
 MI:bq K mg "answers" (top 210)
 HF:bq K mg "read_call" (top 211)
 C3:bq K mg "answer_call" (top 212)
 zk:bq K mg "answer_on_box" (top 213)
 Yr:mg "abs"=none
 gj:mg "range"=none
 f7:mg "len"=none
 Ep:mg "zip"=none
 Tt:mg "sum"=none
 Io:mg "all"=none
 Yq:mg "max"=none
 Tu:mg "min"=none
 rX:mg "list"=none
 va:mg "reversed"=none
 yE:mg "enumerate"=none
abbrev iv(l:List Nat):List V:=l.map λ(n:Nat)=>V.int (n:Int)
abbrev ii(l:List Int):List V:=l.map V.int
def jT{l:List Nat}{n:Nat}{x:V}(h:(iv l)[n]? =some x): ∃z:Nat,l[n]? =some z/\x= .int (z:Int):=by
 rw[aI] at h;cases e:l[n]? with
 |none=>rw[e] at h;cases h
 |some z=>rw[e] at h;exact⟨z,rfl,(ao h).symm⟩
def UP{l:List Int}{n:Nat}{x:V}(h:(ii l)[n]? =some x): ∃z:Int,l[n]? =some z/\x= .int z:=by
 rw[aI] at h;cases e:l[n]? with
 |none=>rw[e] at h;cases h
 |some z=>rw[e] at h;exact⟨z,rfl,(ao h).symm⟩
def bR(l:List Nat):(iv l).length=l.length:=by simp
def bI:(8000000:Nat)<=sizeLine:=by decide
variable{P:Program}{w:World}{K:ab}{mg:Str->Option Value}{base:Heap}{c:Cs}
inductive vn(K:ab)(vs:List V)(H:Hp)(Q:VK)(E:XK):Prop
 |mk (a:Addr) (l:List Nat):vs=[.ref a]->bw K H a (iv l)->Q (.int (bJ l:Nat)) H->vn K vs H Q E
def Oq{l:List Nat}{i z:Nat}(h:l[i]? =some z):bJ (l.drop i)=bJ (l.drop (i + 1))*256 + z:=by
 obtain⟨hi,e⟩:=aD.mp h;rw[fG hi,Sb.G7,e];omega
def jg(T:Txt K mg c):Callee P w K mg base "number_of" 1 ["octets"] (vn K):=by
 exists T.HK.ok ["octets","number","octet"]
 ·obtain⟨a,l,rfl,ha,q⟩:=h;refine⟨_,(aj (bS 1 nd ay)
   (aj (fD PassesOwn.never rfl (ym rfl T.va (aa (pv 0) ai)) (qn 2 nd) (aq (bS 1 nd (aM cz (aM cP (pv 1) ay) (pv 2)))))
   (aq (az (pv 1))))),?_⟩
  refine⟨_,rfl,a,_,rfl,ha,?_⟩;refine RS (λi σ H'=>H'=H/\ ∃v,σ=[some (.ref a),some (.int (bJ (l.drop (l.length - i)):Nat)),v]) ⟨rfl,none,?_⟩ (λi σ H' _ h=>by rw[h.1];exact ha) (λi x σ H' hi hx h=> ?_) (λσ H' h=> ?_)
  ·rw[tq,cK (aE _)];rfl
  ·obtain⟨rfl,v,rfl⟩:=h;rw[bR] at hi hx;obtain⟨z,hz,rfl⟩:=jT hx;refine⟨_,rfl,_,_,rfl,rfl,.inr (by decide),_,rfl,_,_,rfl,rfl,rfl,some (.int (z:Int)),?_⟩;have e1:l.length - 1 - i=l.length -(i + 1):=by omega
   have e2:l.length -(i + 1)+ 1=l.length - i:=by omega
   rw[e1] at hz;have e3:=Oq hz;rw[e2] at e3;rw[e3];show _=[some (V.ref a),some (V.int ((bJ (l.drop (l.length - i))*256 + z:Nat):Int)),_];rw[bh,bf];rfl
  ·obtain⟨rfl,v,rfl⟩:=h;rw[bR,lu,js];exact⟨_,rfl,q⟩
theorem OD: ∀{k x i:Nat},i<k->(Wqarav.le k x)[i]? =some (x / 256^i % 256)
 |0,_,_,h=>absurd h (Ex _)
 |k + 1,x,0,_=>by rw[Zi,Nat.div_one];rfl
 |k + 1,x,i + 1,h=>by
  have ih:=OD (k:=k) (x:=x / 256) (i:=i) (by omega);show(Wqarav.le k (x / 256))[i]? =_;rw[ih,tw,zN,cj]
def take_snoc{α:Type}{l:List α}{i:Nat}{x:α}(h:l[i]? =some x):l.take (i + 1)=l.take i++[x]:=by
 obtain⟨hi,e⟩:=aD.mp h;rw[ib hi,e]
inductive yh(vs:List V)(H:Hp)(Q:VK)(E:XK):Prop
 |mk (x k:Nat):vs=[.int x,.int k]->k<=1000->(∀(p:Addr) (H':Hp),au H H'->H p=none->H' p=some (.lst (iv (Wqarav.le k x)))->Q (.ref p) H')->yh vs H Q E
def G6(T:Txt K mg c):Callee P w K mg base "bytes_of" 1 ["number","size"] yh:=by
 exists T.J0.ok ["number","size","octets","rest","place"]
 ·obtain⟨x,k,rfl,hk,q⟩:=h;refine⟨_,(aj (bS 2 nd (cx ai))
   (aj (bS 3 nd (pv 0))
   (aj (fD PassesOwn.never rfl (fh rfl T.gj (aa (pv 1) ai)) (qn 4 nd) (aj (fU (kP bH cT cS iR (pv 2) (aa (aM eW (pv 3) ay) ai)))
   (aq (bS 3 nd (aM eX (pv 3) ay)))))
   (aq (az (pv 2)))))),?_⟩
  refine⟨aC _,λp hp=>⟨_,rfl,_,rfl,(k:Int),rfl,by omega,by omega,?_⟩⟩;rw[bb];refine jj (λi σ H'=>au H H'/\H' p=some (.lst (iv ((Wqarav.le k x).take i)))/\ ∃v,σ=[some (.int x),some (.int k),some (.ref p),some (.int ((x / 256^i:Nat):Int)),v]) ⟨au.new hp,ak,none,by rw[Zi,Nat.div_one];rfl⟩ (λi σ H' hi h=> ?_) (λσ H' h=> ?_)
  ·obtain⟨h1,h2,v,rfl⟩:=h;refine⟨_,rfl,.inl ⟨rfl,_,bw.of h2⟩,_,rfl,_,_,rfl,rfl,(by show(0:Int)<256;decide),p,_,_,rfl,rfl,h2,?_,?_⟩
   ·have:=bI;rw[ag,bo];omega
   refine⟨_,rfl,_,_,rfl,rfl,⟨by decide,by decide⟩,au.at' h1 hp,?_,some (.int (0 +(i:Int))),?_⟩
   ·rw[ak,take_snoc (OD hi)];show _=some (HO.lst (List.map (λ(n:Nat)=>V.int (n:Int)) (_++[x / 256^i % 256])));rw[bF,bB,sf,dn];rfl
   ·rw[zN,<-tw,cu (x / 256^i)];rfl
  ·obtain⟨h1,h2,v,rfl⟩:=h;rw[aU (by rw[Sb.E3];exact aE _)] at h2;exact⟨_,rfl,q p H' h1 hp h2⟩
inductive qe(K:ab)(vs:List V)(H:Hp)(Q:VK)(E:XK):Prop
 |mk (a:Addr) (l:List Nat) (k:Nat):vs=[.ref a,.int k]->bw K H a (iv l)->k<=1000->l.length<=1000->(∀(p:Addr) (H':Hp),au H H'->H p=none->H' p=some (.lst (iv (l.flatMap (Wqarav.le k))))->Q (.ref p) H')->qe K vs H Q E
theorem il(k:Nat): ∀l:List Nat,(l.flatMap (Wqarav.le k)).length=l.length*k
 | []=>by simp
 |x::r=>by rw[dF,aP,Sb.E3,il k r,bV,ve];omega
def iL(T:Txt K mg c):Callee P w K mg base "bytes_of_all" 2 ["numbers","size"] (qe K):=by
 exists T.BL.ok ["numbers","size","octets","number"]
 ·obtain⟨a,l,k,rfl,ha,hk,hl,q⟩:=h;refine⟨_,(aj (bS 2 nd (cx ai))
   (aj (fD PassesOwn.never rfl (sI K (pv 0)) (qn 3 nd) (aq (fU (kP bH dv du j0 (pv 2) (aa (aF (G6 T) hr (aa (pv 3) (aa (pv 1) ai))) ai)))))
   (aq (az (pv 2))))),?_⟩
  refine⟨aC _,λp hp=>⟨_,rfl,a,rfl,⟨_,(au.new hp).seq ha⟩,?_⟩⟩;refine jb (K:=K) (a:=a) (xs:=iv l) (λi σ H'=>au H H'/\H' p=some (.lst (iv ((l.take i).flatMap (Wqarav.le k))))/\ ∃v,σ=[some (.ref a),some (.int k),some (.ref p),v]) ⟨au.new hp,ak,none,rfl⟩ (λi σ H' _ h=>h.1.seq ha) (λi y σ H' hi h=> ?_) (λσ H' h=> ?_)
  ·obtain⟨h1,h2,v,rfl⟩:=h;obtain⟨z,hz,rfl⟩:=jT hi;have V1:i<l.length:=(aD.mp hz).1;refine⟨_,rfl,.inl ⟨rfl,_,bw.of h2⟩,_,rfl,_,rfl,z,k,rfl,hk,λq' H2 s2 hq2 hb=>⟨p,q',_,_,rfl,rfl,s2 _ _ h2,hb,?_,?_⟩⟩
   ·have:=bI;rw[ag,ag,il,Sb.E3,bo];have e:min i l.length*k<=1000*1000:=cN (by omega) hk;omega
   ·refine⟨au.at' (h1.trans s2) hp,?_,some (.int (z:Int)),rfl⟩;rw[ak,take_snoc hz,iF];show _=some (HO.lst (List.map (λ(n:Nat)=>V.int (n:Int)) (_++_)));rw[bF,dF,fQ,dz]
  ·obtain⟨h1,h2,v,rfl⟩:=h;rw[bR,aU (aE _)] at h2;exact⟨_,rfl,q p H' h1 hp h2⟩
def Hk(x:Nat):List (Str×V):=[("state",.int (x:Int))]
def yt(x:Nat):(Hk x).lookup ("state":Str)=some (.int (x:Int)):=rfl
def LZ(x:Nat)(v:V):iJ "state" v (Hk x)=[(("state":Str),v)]:=by
 show(if("state":Str)="state" then [(("state":Str),v)] else _)=_;rw[if_pos rfl]
def iN(x:Nat){m:Str}(h:(m==("state":Str))=false):(Hk x).lookup m=none:=by
 show jr m [(("state":Str),V.int (x:Int))]=none;rw[gG,h];rfl
def dy(c:Cs)(H:Hp)(l:Addr)(x:Nat):Prop:= ∃dx,H l=some (.ins c.rY dx (Hk x))
def dy.mono{c:Cs}{H H':Hp}{l:Addr}{x:Nat}(h:dy c H l x)(s:au H H'):dy c H' l x:=by obtain⟨dx,h⟩:=h;exact⟨dx,s _ _ h⟩
def dy.ne{c:Cs}{H:Hp}{l D:Addr}{x:Nat}{xs:List V}(h:dy c H l x)(e:H D=some (.lst xs)):D≠l:=by obtain⟨dx,h⟩:=h;exact jw e h (by intro z;cases z)
def dy.ne'{c:Cs}{H:Hp}{l D:Addr}{x:Nat}(h:dy c H l x)(e:H D=none):D≠l:=λz=>by obtain⟨dx,h⟩:=h;rw[z,h] at e;cases e
def JB(x:Nat):((x:Int)*6364136223846793005 + 1442695040888963407)% 18446744073709551616=((mW x:Nat):Int):=by
 unfold mW;rw[dn,bh,bf];rfl
def MS(x:Nat):((x:Nat):Int)/ 72057594037927936=((x / 2^56:Nat):Int):=by
 rw[cu];rfl
inductive vC(c:Cs)(vs:List V)(H:Hp)(Q:VK)(E:XK):Prop
 |mk (p dx:Addr) (x:Nat):vs=[.ref p,.int (x:Int)]->H p=some (.ins c.rY dx [])->(∀H',dy c H' p x->cg p H H'->Q .fC H')->vC c vs H Q E
theorem sR(T:Txt K mg c):Maker P w K mg base "Luck" c.rY 1 ["self","seed"] (vC c):=by
 exists T.sR.ok T.OK ["self","seed"]
 ·obtain⟨p,dx,x,rfl,hp,q⟩:=h;refine⟨_,(aq (dw (pv 0) (pv 1) rfl)),?_⟩;exact⟨_,rfl,_,rfl,p,c.rY,dx,[],rfl,hp,T.nP,T.jx,(by show 0<1000;decide),q _ ⟨dx,ak⟩ cg.upd⟩
inductive vo(c:Cs)(vs:List V)(H:Hp)(Q:VK)(E:XK):Prop
 |mk (l:Addr) (x:Nat):vs=[.ref l]->dy c H l x->(∀H',dy c H' l (mW x)->cg l H H'->Q (.int ((mW x / 2^56:Nat):Int)) H')->vo c vs H Q E
def l7(T:Txt K mg c):Method P w K mg base c.rY "next_byte" 1 ["self"] (vo c):=by
 exists T.oM.ok T.nP ["self"]
 ·obtain⟨l,x,rfl,⟨dx,hl⟩,q⟩:=h;refine⟨_,(aj (dw (pv 0) (aM eW (aM cz (aM cP (fld K (pv 0)) (qg T.PB)) (qg T.MR)) (qg T.Ia)) rfl)
   (aq (az (aM eX (fld K (pv 0)) (qg T.Ib))))),?_⟩
  refine⟨_,rfl,l,c.rY,dx,_,_,rfl,hl,T.nP,T.jx,yt x,_,_,rfl,rfl,.inr ⟨by decide,by decide⟩,_,_,rfl,rfl,_,_,rfl,rfl,(by show(0:Int)<18446744073709551616;decide),?_⟩;refine⟨_,rfl,l,c.rY,dx,_,rfl,hl,T.nP,T.jx,(by show 1<1000;decide),?_⟩;rw[LZ]
  (try dsimp only)
  rw[JB];refine⟨_,rfl,l,c.rY,dx,Hk (mW x),_,rfl,ak,T.nP,T.jx,yt _,_,_,rfl,rfl,⟨by decide,by decide⟩,?_⟩;dsimp only;rw[MS];exact q _ ⟨dx,ak⟩ cg.upd
inductive ue(c:Cs)(vs:List V)(H:Hp)(Q:VK)(E:XK):Prop
 |mk (l:Addr) (x m:Nat):vs=[.ref l,.int (m:Int)]->dy c H l x->m<=100000->(∀(p:Addr) (H':Hp),dy c H' l (Sb.jc m x)->cg l H H'->H p=none->H' p=some (.lst (iv (aV m x)))->Q (.ref p) H')->ue c vs H Q E
def Ow(g:Nat->Nat)(l:Nat->List Nat)(h0:l 0=[])(hs: ∀m,l (m + 1)=l m++[g m])(m:Nat):((List.range m).map λn=>V.int ((g n:Nat):Int))=iv (l m):=by
 induction m with
 |zero=>rw[h0];rfl
 |succ m ih=>rw[hs,tF,bF,ih,iv,iv,bF,bB,sf,bB,sf]
def lb(x n:Nat):Nat:=mW (Sb.jc n x)/ 2^56
def OB(m x:Nat):((List.range m).map λn=>V.int ((lb x n:Nat):Int))=iv (aV m x):=
 Ow (lb x) (λm=>aV m x) (Sb.Bl x) (λm=>Sb.DU m x) m
def jv(T:Txt K mg c):Method P w K mg base c.rY "next_bytes" 2 ["self","many"] (ue c):=by
 exists T.nH.ok T.nP ["self","many","turn"]
 ·obtain⟨l,x,m,rfl,hl,hm,q⟩:=h;have big:=bI;refine⟨_,(aq (az (gR rfl nd (fh rfl T.gj (aa (pv 1) ai)) (own:=[("turn",2)]) (cn rfl) (λ_ _ _ _ _=>(qn 2 nd)) (λ_ _ _ _ _=>cO) (λ_ _ _ _ _=>(EK (l7 T) hr (pv 0)))))),?_⟩;refine⟨_,rfl,(m:Int),rfl,by omega,by omega,?_⟩;rw[bb];refine kW (i:=2) (λn=>V.int ((lb x n:Nat):Int)) (λn H'=>dy c H' l (Sb.jc n x)/\cg l H H') (by omega) ⟨by rw[Sb.uE];exact hl,λ_ _ e _=>e⟩ (λn H' D o h hD=> ?_) (λn H' Q' hn h k=> ?_) (λD H' hD h JI=> ?_)
  ·obtain⟨⟨dx,h1⟩,h2⟩:=h;have pC:l≠D:=λz=>hl.ne' hD z.symm;exact⟨⟨dx,by rw[aJ pC];exact h1⟩,λb o e hb=>by rw[aJ (aO e hD)];exact h2 b o e hb⟩
  ·obtain⟨⟨dx,h1⟩,h2⟩:=h;refine⟨_,rfl,l,dx,_,rfl,h1,iN _ (by decide +kernel),l,_,rfl,⟨dx,h1⟩,λH4 a4 k4=>k H4 ⟨by rw[Sb.B8];exact a4,λb o e hb=>k4 b o (h2 b o e hb) hb⟩ λD acc hD e=>k4 D _ e (hl.ne' hD)⟩
  ·rw[OB] at JI;exact q D H' h.1 h.2 hD JI
inductive qV(c:Cs)(vs:List V)(H:Hp)(Q:VK)(E:XK):Prop
 |mk (l:Addr) (x m:Nat):vs=[.ref l,.int (m:Int)]->dy c H l x->m<=100000->(∀(H':Hp),dy c H' l (Sb.jc m x)->cg l H H'->Q (.int ((bJ (aV m x):Nat):Int)) H')->qV c vs H Q E
def mK(T:Txt K mg c):Method P w K mg base c.rY "next_number" 3 ["self","size"] (qV c):=by
 exists T.mM.ok T.nP ["self","size"]
 ·obtain⟨l,x,m,rfl,hl,hm,q⟩:=h;refine⟨_,(aq (az (aF (jg T) hr (aa (yj (jv T) hr (pv 0) (aa (pv 1) ai)) ai)))),?_⟩;obtain⟨dx,h1⟩:=id hl;refine⟨_,rfl,l,dx,_,rfl,h1,iN _ (by decide +kernel),_,rfl,l,x,m,rfl,hl,hm,λp H' a4 k4 hp F9=>⟨p,_,rfl,bw.of F9,q H' a4 k4⟩⟩
inductive Af(vs:List V)(H:Hp)(Q:VK)(E:XK):Prop
 |mk (b n:Nat):vs=[.int (b:Int),.int (n:Int)]->n<=1000->Q (.int (((b %(2*n + 1):Nat):Int)-(n:Int))) H->Af vs H Q E
def uO(T:Txt K mg c):Callee P w K mg base "put_off" 1 ["octet","noise"] Af:=by
 exists T.MA.ok ["octet","noise"]
 ·obtain⟨b,n,rfl,hn,q⟩:=h;refine⟨_,(aq (az (aM ik (aM eW (pv 0) (aM cz (aM cP ay (pv 1)) ay)) (pv 1)))),?_⟩;refine⟨_,rfl,_,rfl,_,_,rfl,rfl,.inl ⟨by decide,by decide⟩,_,_,rfl,rfl,_,_,rfl,rfl,(by show(0:Int)<2*(n:Int)+ 1;omega),_,rfl,_,_,rfl,rfl,?_⟩;rw[dn,bh,bf] at q;exact q
def jK:(4503599627370496:Int)=gE:=by decide +kernel
def xU(l:List Int):List Int:=(- l.getD (l.length - 1) 0)::l.dropLast
def OQ{l:List Int}(h:l≠[]):ii l=ii l.dropLast++[V.int (l.getD (l.length - 1) 0)]:=by
 have e:l=l.dropLast++[l.getD (l.length - 1) 0]:=by
  rw[ae,af (by have:=iE.mpr h;omega),iA,<-IU h];exact(List.dropLast_concat_getLast h).symm
 have e2:=congrArg ii e;rw[ii,ii,bF] at e2;exact e2
def FP{l:List Int}(h:l≠[]):xH (ii l) (-1)=some (V.int (l.getD (l.length - 1) 0)):=by
 rw[OQ h];exact PH _ _
def wz{l:List Int}(h:l≠[]):iw (ii l) none (some (-1))=ii l.dropLast:=by
 have hp:=iE.mpr h;unfold iw HT.DE;simp only[];rw[ag,js,tq,Lo,ii,ii,fz];congr 1;simp;omega
inductive Ab(K:ab)(vs:List V)(H:Hp)(Q:VK)(E:XK):Prop
 |mk (a:Addr) (l:List Int):vs=[.ref a]->bw K H a (ii l)->l≠[]->l.length<=1000->(∀(p:Addr) (H':Hp),au H H'->H p=none->H' p=some (.lst (ii (xU l)))->Q (.ref p) H')->Ab K vs H Q E
def AQ(T:Txt K mg c):Callee P w K mg base "times_x" 1 ["polynomial"] (Ab K):=by
 exists T.Mw.ok ["polynomial"]
 ·obtain⟨a,l,rfl,ha,pC,hl,q⟩:=h;refine⟨_,(aq (az (aM ku (cx (aa (mE jR (gT K (pv 0) (mE jR ay))) ai)) (Cb K (pv 0) iV (dr (mE jR ay)))))),?_⟩;have aeU:0<l.length:=iE.mpr pC;have big:=bI;refine⟨_,rfl,1,rfl,a,_,_,.int (l.getD (l.length - 1) 0),rfl,rfl,ha,?_,_,rfl,(by show 1<=sizeLine;omega),λp hp=>⟨_,rfl,_,rfl,_,rfl,a,_,rfl,(au.new hp).seq ha,λp2 uV=> ?_⟩⟩
  ·exact FP pC
  ·refine⟨p,p2,_,_,rfl,rfl,au.new uV _ _ ak,ak,?_,λp3 JG=>q p3 _ (au.gv (au.gv (au.new hp) uV) JG) ?_ ?_⟩
   ·rw[wz pC];simp;omega
   ·exact au.free (au.gv (au.new hp) uV) JG
   ·rw[ak,wz pC];rfl
def Iu(a b:List Int):List Int:=jF (λx y=>(x + y)% 4503599627370496) a b
inductive Gz(K:ab)(vs:List V)(H:Hp)(Q:VK)(E:XK):Prop
 |mk (a b:Addr) (l m:List Int):vs=[.ref a,.ref b]->bw K H a (ii l)->bw K H b (ii m)->l.length=m.length->l.length<=1000->(∀(p:Addr) (H':Hp),au H H'->H p=none->H' p=some (.lst (ii (Iu l m)))->Q (.ref p) H')->Gz K vs H Q E
def sG{f:Int->Int->Int}{ws bs:List Int}(h:ws.length=bs.length):((List.range ws.length).map λn=>V.int (f (ws.getD n 0) (bs.getD n 0)))=ii (jF f ws bs):=by
 refine bW (by simp[h]) λn h1 h2=> ?_;have h3:n<ws.length:=by simpa using h1
 have h4:n<bs.length:=by omega
 simp[ae,af h3,af h4]
def range_one{f:Int->Int}{ws:List Int}:((List.range ws.length).map λn=>V.int (f (ws.getD n 0)))=ii (ws.map f):=by
 refine bW (by simp) λn h1 h2=> ?_;have h3:n<ws.length:=by simpa using h1
 simp[ae,af h3]
def oO{ws:List Int}{n:Nat}{x:V}(h:(ii ws)[n]? =some x):n<ws.length/\x= .int (ws.getD n 0):=by
 obtain⟨z,hz,rfl⟩:=UP h;refine⟨(aD.mp hz).1,?_⟩;rw[ae,hz];rfl
def Be(T:Txt K mg c):Callee P w K mg base "added" 1 ["first","second"] (Gz K):=by
 exists T.RV.ok ["first","second","x","y"]
 ·obtain⟨a,b,l,m,rfl,ha,hb,Ta,hl,q⟩:=h;have big:=bI;refine⟨_,(aq (az (gR rfl nd (EM rfl T.Ep (aa (pv 0) (aa (pv 1) ai))) (own:=[("x",2),("y",3)]) (cn rfl) (λ_ _ _ _ _=>(QZ K (n:=2) rfl (eV (qn 2 nd) (eV (qn 3 nd) lY)))) (λ_ _ _ _ _=>cO) (λ_ _ _ _ _=>(aM eW (aM cz (pv 2) (pv 3)) (qg T.oh)))))),?_⟩;refine⟨_,rfl,_,rfl,a,b,_,_,rfl,ha,hb,?_⟩;refine zA (i:=2) (j:=3) (λn=>V.int ((l.getD n 0 + m.getD n 0)% 4503599627370496)) (λ_ H'=>au H H') (by simp;omega) (by simpa using Ta) (by decide) (au.refl H) (λ_ H' D o h hD=>au.at' h hD) (λ_ H' D o h hD=>au.gv h hD)
   (λ_ H' _ h=>h.seq ha) (λ_ H' _ h=>h.seq hb) (λn x y H' Q' hx hy hs k=> ?_) (λD H' wN hs hD=> ?_)
  ·obtain⟨h1,rfl⟩:=oO hx;obtain⟨h2,rfl⟩:=oO hy;exact⟨_,rfl,_,rfl,_,_,rfl,rfl,_,_,rfl,rfl,(by show(0:Int)<4503599627370496;decide),k H' hs λ_ _ _ e=>e⟩
  ·rw[ag,sG (f:=λx y=>(x + y)% 4503599627370496) Ta] at hD;exact q D H' hs wN hD
noncomputable def gf(a b:List Int)(i:Nat):List Int:=(List.range b.length).map λk=>Sb.jm (λj=>a.getD j 0*Sb.wY b j k) i
def nY(b:List Int)(i:Nat):List Int:=(List.range b.length).map λk=>Sb.wY b i k
def Kx(a b:List Int):List Int:=(gf a b a.length).map λx=>x % 4503599627370496
def N6{a b:List Int}(h:a.length=b.length):Kx a b=eE a b:=by
 refine Sb.oQ (by simp[Kx,gf,Sb.fg h]) λk hk=> ?_;have IJ:k<b.length:=by simpa [Kx,gf] using hk
 rw[Sb.uH h IJ,<-jK];simp[Kx,gf,ae,af,IJ,Sb.conv]
def LG(b:List Int):nY b 0=b:=by
 refine bW (by simp[nY]) λn h1 h2=> ?_;simp[nY,Sb.Ax,af h2]
def T9{b:List Int}{i:Nat}(h:i<b.length):xU (nY b i)=nY b (i + 1):=by
 have hl:(nY b i).length=b.length:=by simp[nY]
 refine bW (by simp[xU,nY];omega) λn h1 h2=> ?_;have hn:n<b.length:=by simpa [nY] using h2
 cases n with
 |zero=>
  have e:(nY b i).getD (b.length - 1) 0=Sb.wY b i (b.length - 1):=by
   simp[nY,ae,af,show b.length - 1<b.length by omega]
  simp only[xU,hl,e,List.getElem_cons_zero];simp only[nY,lR,xN];rw[Sb.uj h]
 |succ n=>
  simp only[xU,List.getElem_cons_succ,List.getElem_dropLast];simp only[nY,lR,xN];rw[Sb.uk]
def GO(a b:List Int):gf a b 0=bC b.length 0:=by
 refine bW (by simp[gf]) λn h1 h2=> ?_;simp[gf,Sb.jm]
def GP(a b:List Int)(i:Nat):gf a b (i + 1)=jF (λx y=>x + a.getD i 0*y) (gf a b i) (nY b i):=by
 refine bW (by simp[gf,nY]) λn h1 h2=> ?_;simp[gf,nY,Sb.jm]
inductive Ag(K:ab)(vs:List V)(H:Hp)(Q:VK)(E:XK):Prop
 |mk (a b:Addr) (l m:List Int):vs=[.ref a,.ref b]->bw K H a (ii l)->bw K H b (ii m)->l.length=m.length->m≠[]->l.length<=1000->(∀x∈l,-(2^64)<x/\x<2^64)->(∀(p:Addr) (H':Hp),au H H'->H p=none->H' p=some (.lst (ii (eE l m)))->Q (.ref p) H')->Ag K vs H Q E
def uP(T:Txt K mg c):Callee P w K mg base "product" 2 ["first","second"] (Ag K):=by
 exists T.MB.ok ["first","second","total","turned","factor","x","y","number"]
 ·obtain⟨a,b,l,m,rfl,ha,hb,Ta,hm,hl,hw,q⟩:=h;have big:=bI;refine⟨_,(aj (bS 2 nd (aM ES (cx (aa ay ai)) (bX (cI K) rfl T.f7 boot_len (aa (pv 0) ai))))
   (aj (bS 3 nd (kS (jU K) rfl T.rX boot_list (aa (pv 1) ai)))
   (aj (fD PassesOwn.never rfl (sI K (pv 0)) (qn 4 nd) (aj (iK (i:=2) rfl nd rfl rfl (jH rfl rfl rfl rfl) (EM rfl T.Ep (aa (pv 2) (aa (pv 3) ai))) (own:=[("x",5),("y",6)]) (cn rfl) (λ_ _ _ _ _=>(QZ K (n:=2) rfl (eV (qn 5 nd) (eV (qn 6 nd) lY)))) (λ_ _ _ _ _=>cO) (λ_ _ _ _ _=>(aM cz (pv 5) (aM cP (pv 4) (pv 6)))))
   (aq (bS 3 nd (aF (AQ T) hr (aa (pv 3) ai))))))
   (aq (az (gR rfl nd (sI K (pv 2)) (own:=[("number",7)]) (cn rfl) (λ_ _ _ _ _=>(qn 7 nd)) (λ_ _ _ _ _=>cO) (λ_ _ _ _ _=>(aM eW (pv 7) (qg T.oh))))))))),?_⟩
  refine⟨(by show 1<=sizeLine;omega),λp0 CD=>⟨_,rfl,a,_,rfl,.inl ((au.new CD).seq ha),p0,_,_,rfl,rfl,ak,(by omega),(by simp only[ag];omega),(by simp;omega),λp1 xq=>
   ⟨_,rfl,b,_,rfl,.inl ((au.gv (au.new CD) xq).seq hb),λp2 uV=> ?_⟩⟩⟩
  have e0:(bC (((ii l).length:Nat):Int).toNat [V.int 0]).flatten=ii (gf l m 0):=by
   rw[GO,bb,ag,Ta];simp[ii,oq]
  rw[e0] at uV ⊢;refine⟨_,rfl,a,rfl,⟨_,(au.gv (au.gv (au.new CD) xq) uV).seq ha⟩,?_⟩;refine jb (K:=K) (a:=a) (xs:=ii l) (λi σ H'=>au H H'/\ ∃(t u:Addr) (v x y n:Option V),H' t=some (.lst (ii (gf l m i)))/\H' u=some (.lst (ii (nY m i)))/\σ=[some (.ref a),some (.ref b),some (.ref t),some (.ref u),v,x,y,n])
   ⟨au.gv (au.gv (au.new CD) xq) uV,p1,p2,none,none,none,none,au.new uV _ _ ak,by rw[ak,LG],rfl⟩ (λi σ H' _ h=>h.1.seq ha) (λi y σ H' hi h=> ?_) (λσ H' h=> ?_)
  ·obtain⟨hs,t,u,v,x0,y0,n0,ht,hu,rfl⟩:=h;obtain⟨E8,rfl⟩:=oO hi;have hz:=hw _ (show l.getD i 0∈l by rw[ae,af E8];exact gH E8);have hlp:(gf l m i).length=(nY m i).length:=by simp[gf,nY]
   have hlq:(gf l m i).length<=1000:=by simp[gf];omega
   refine⟨_,rfl,_,rfl,t,u,_,_,rfl,bw.of ht,bw.of hu,?_⟩;refine zA (i:=5) (j:=6) (λn=>V.int ((gf l m i).getD n 0 + l.getD i 0*(nY m i).getD n 0)) (λ_ H2=>au H' H2) (by simp;omega) (by simpa using hlp) (by decide) (au.refl H') (λ_ H2 D o h hD=>au.at' h hD) (λ_ H2 D o h hD=>au.gv h hD)
    (λ_ H2 _ h=>h.seq (bw.of ht)) (λ_ H2 _ h=>h.seq (bw.of hu)) (λn x y H2 Q' hx hy fX k=> ?_) (λD H2 wN fX hD=> ?_)
   ·obtain⟨h1,rfl⟩:=oO hx;obtain⟨h2,rfl⟩:=oO hy;exact⟨_,rfl,_,rfl,_,rfl,_,_,rfl,rfl,.inl hz,_,_,rfl,rfl,k H2 fX λ_ _ _ e=>e⟩
   ·rw[ag,sG (f:=λx y=>x + l.getD i 0*y) hlp,<-GP] at hD;refine⟨_,rfl,u,_,rfl,bw.of (fX _ _ hu),?_,?_,λp3 H3 s3 JG h3=> ?_⟩
    ·intro e;have e2:(nY m i).length=0:=by rw[e];rfl
     rw[<-hlp] at e2;simp[gf] at e2;exact hm e2
    ·omega
    ·rw[T9 (by omega)] at h3;exact⟨(hs.trans fX).trans s3,D,p3,_,_,_,_,s3 _ _ hD,h3,rfl⟩
  ·obtain⟨hs,t,u,v,x0,y0,n0,ht,hu,rfl⟩:=h;rw[ag] at ht;have hlq:(gf l m l.length).length<=1000:=by simp[gf];omega
   refine⟨_,rfl,t,rfl,⟨_,bw.of ht⟩,?_⟩;refine ff (K:=K) (a:=t) (xs:=ii (gf l m l.length)) (i:=7) (λn=>V.int ((gf l m l.length).getD n 0 % 4503599627370496)) (λ_ H2=>au H' H2) (by simp;omega) (au.refl H') (λ_ H2 D o h hD=>au.at' h hD) (λ_ H2 _ h=>h.seq (bw.of ht)) (λn x H2 Q' hx fX k=> ?_) (λD H2 wN fX hD=> ?_)
   ·obtain⟨h1,rfl⟩:=oO hx;exact⟨_,rfl,_,_,rfl,rfl,(by show(0:Int)<4503599627370496;decide),k H2 fX λ_ _ _ e=>e⟩
   ·rw[ag,range_one (f:=λx=>x % 4503599627370496)] at hD;have e:(gf l m l.length).map (λx=>x % 4503599627370496)=eE l m:=N6 Ta;rw[e] at hD;exact q D H2 (hs.trans fX) (hs.free wN) hD
def X6(na:Addr)(f:aB):List (Str×V):=[("numbers",.ref na),("words",.int (f.n:Int)),("size",.int (f.ring:Int)),("half",.int (f.p:Int)),("turn_digits",.int (f.digits:Int)),("turn_bits",.int (f.width:Int)),("change_digits",.int (f.kdigits:Int)),("change_bits",.int (f.kwidth:Int)),("noise",.int (f.noise:Int)),("step",.int (f.step:Int))]
inductive dU(c:Cs)(K:ab)(H:Hp)(a:Addr)(f:aB):Prop
 |mk (dx na:Addr):H a=some (.ins c.Form dx (X6 na f))->H na=some (.lst (iv f.numbers))->dU c K H a f
def dU.mono{c:Cs}{K:ab}{H H':Hp}{a:Addr}{f:aB}(h:dU c K H a f)(s:au H H'):dU c K H' a f:=by
 obtain⟨dx,na,h1,h2⟩:=h;exact⟨dx,na,s _ _ h1,s _ _ h2⟩
structure Small(f:aB):Prop where
 n1:1<=f.n
 n4:f.n<=4
 ring:f.ring=8\/f.ring=16\/f.ring=32
 p:f.p=2\/f.p=4\/f.p=8
 d1:1<=f.digits
 d4:f.digits<=4
 w1:1<=f.width
 w8:f.width<=8
 k1:1<=f.kdigits
 OO:f.kdigits<=16
 v1:1<=f.kwidth
 v8:f.kwidth<=8
 noise:f.noise<=127
def Small.r8{f:aB}(h:Small f):8<=f.ring:=by have:=h.ring;omega
def Small.AB{f:aB}(h:Small f):f.ring<=32:=by have:=h.ring;omega
def Small.p2{f:aB}(h:Small f):2<=f.p:=by have:=h.p;omega
def Small.p8{f:aB}(h:Small f):f.p<=8:=by have:=h.p;omega
def Small.all{f:aB}(h:Small f):1<=f.n/\f.n<=4/\8<=f.ring/\f.ring<=32/\2<=f.p/\f.p<=8/\1<=f.digits/\f.digits<=4/\1<=f.width/\f.width<=8/\1<=f.kdigits/\f.kdigits<=16/\1<=f.kwidth/\f.kwidth<=8/\f.noise<=127:=⟨h.n1,h.n4,h.r8,h.AB,h.p2,h.p8,h.d1,h.d4,h.w1,h.w8,h.k1,h.OO,h.v1,h.v8,h.noise⟩
structure Good(f:aB):Prop extends Small f where
 pp:2*f.p<=f.ring
 kv:f.kdigits*f.kwidth<=16
inductive je(c:Cs)(K:ab)(pre:aB->Prop)(g:aB->Int)(vs:List V)(H:Hp)(Q:VK)(E:XK):Prop
 |mk (a:Addr) (f:aB):vs=[.ref a]->dU c K H a f->pre f->Q (.int (g f)) H->je c K pre g vs H Q E
def uo(T:Txt K mg c):Callee P w K mg base "pair_count" 1 ["form"] (je c K Small (λf=>((2*f.n*f.digits:Nat):Int))):=by
 exists T.Fm.ok ["form"]
 ·exists 8
  (try dsimp only at q)
  have HG:Small f:=hg;obtain⟨z1,z2,z3,x3,z4,x4,z5,z6,z7,z8,z9,y1,y2,y3,y4⟩:=HG.all;refine⟨_,(aq (az (aM cP (aM cP ay (fld K (pv 0))) (fld K (pv 0))))),?_⟩;exact⟨_,rfl,a,c.Form,dx,_,_,rfl,hf,T.bc,T.dj,rfl,_,_,rfl,rfl,.inl ⟨by decide,by decide⟩,_,rfl,a,c.Form,dx,_,_,rfl,hf,T.bc,T.dQ,rfl,_,_,rfl,rfl,.inr ⟨by omega,by omega⟩,by rw[bf,bf] at q;exact q⟩
def vN(T:Txt K mg c):Callee P w K mg base "row_count" 1 ["form"] (je c K Small (λf=>((f.ring*f.kdigits:Nat):Int))):=by
 exists T.HE.ok ["form"]
 ·exists 8
  (try dsimp only at q)
  have HG:Small f:=hg;obtain⟨z1,z2,z3,x3,z4,x4,z5,z6,z7,z8,z9,y1,y2,y3,y4⟩:=HG.all;refine⟨_,(aq (az (aM cP (fld K (pv 0)) (fld K (pv 0))))),?_⟩;exact⟨_,rfl,a,c.Form,dx,_,_,rfl,hf,T.bc,T.b9,rfl,_,rfl,a,c.Form,dx,_,_,rfl,hf,T.bc,T.df,rfl,_,_,rfl,rfl,.inr ⟨by omega,by omega⟩,by rw[bf] at q;exact q⟩
def xc(T:Txt K mg c):Callee P w K mg base "key_luck_size" 2 ["form"] (je c K Small (λf=>((Wqarav.need f:Nat):Int))):=by
 exists T.zc.ok ["form","pairs","rows"]
 ·exists 8
  (try dsimp only at q)
  have HG:Small f:=hg;obtain⟨z1,z2,z3,x3,z4,x4,z5,z6,z7,z8,z9,y1,y2,y3,y4⟩:=HG.all;refine⟨_,(aj (bS 1 nd (aM cP (aF (uo T) hr (aa (pv 0) ai)) (aM cz (aM cP ay (fld K (pv 0))) (fld K (pv 0)))))
   (aj (bS 2 nd (aM cP (aF (vN T) hr (aa (pv 0) ai)) (aM cz (aM cP ay (fld K (pv 0))) ay)))
   (aq (az (aM cz (aM cz (aM cz (fld K (pv 0)) (fld K (pv 0))) (pv 1)) (pv 2)))))),?_⟩
  refine⟨_,rfl,a,f,rfl,hF,hg,_,rfl,a,c.Form,dx,_,_,rfl,hf,T.bc,T.b9,rfl,_,_,rfl,rfl,.inl ⟨by decide,by decide⟩,_,rfl,a,c.Form,dx,_,_,rfl,hf,T.bc,T.b9,rfl,_,_,rfl,rfl,_,_,rfl,rfl,.inr ⟨by omega,by omega⟩,?_⟩;refine⟨_,rfl,a,f,rfl,hF,hg,_,rfl,a,c.Form,dx,_,_,rfl,hf,T.bc,T.dj,rfl,_,_,rfl,rfl,.inl ⟨by decide,by decide⟩,_,_,rfl,rfl,_,_,rfl,rfl,.inr ⟨by omega,by omega⟩,?_⟩;refine⟨_,rfl,a,c.Form,dx,_,_,rfl,hf,T.bc,T.dj,rfl,_,rfl,a,c.Form,dx,_,_,rfl,hf,T.bc,T.b9,rfl,_,_,rfl,rfl,_,rfl,_,_,rfl,rfl,_,rfl,_,_,rfl,rfl,?_⟩;have e:(Wqarav.need f:Int)=(f.n:Int)+ f.ring +((2*f.n*f.digits:Nat):Int)*(8*f.ring + f.ring)+((f.ring*f.kdigits:Nat):Int)*(2*f.n + 1):=by
   unfold Wqarav.need;have e1:2*f.n*f.digits*(8*f.ring + f.ring)=18*(f.n*f.digits*f.ring):=by
    rw[show 8*f.ring + f.ring=9*f.ring by omega,cc 2,cj 2,cc,cj 2,cj (9*f.ring) 2,<-cc 2 9,pP]
   rw[<-e1];simp only[bh,bf,ot]
  rw[e] at q;exact q
def n8(T:Txt K mg c):Callee P w K mg base "pairs_size" 2 ["form"] (je c K Small (λf=>((32*(f.n*f.digits*f.ring):Nat):Int))):=by
 exists T.Fj.ok ["form"]
 ·exists 8
  (try dsimp only at q)
  have HG:Small f:=hg;obtain⟨z1,z2,z3,x3,z4,x4,z5,z6,z7,z8,z9,y1,y2,y3,y4⟩:=HG.all;refine⟨_,(aq (az (aM cP (aM cP (aM cP (aF (uo T) hr (aa (pv 0) ai)) ay) (fld K (pv 0))) ay))),?_⟩;refine⟨_,rfl,a,f,rfl,hF,hg,_,_,rfl,rfl,.inr ⟨by decide,by decide⟩,_,rfl,a,c.Form,dx,_,_,rfl,hf,T.bc,T.b9,rfl,_,_,rfl,rfl,.inr ⟨by omega,by omega⟩,_,_,rfl,rfl,.inr ⟨by decide,by decide⟩,?_⟩;have e:((32*(f.n*f.digits*f.ring):Nat):Int)=((2*f.n*f.digits:Nat):Int)*2*(f.ring:Int)*8:=by
   have e1:32*(f.n*f.digits*f.ring)=2*f.n*f.digits*2*f.ring*8:=by
    rw[cc 2 f.n];generalize f.n*f.digits=u;rw[Nat.mul_right_comm (2*u) 2,cc 2 u];generalize u*f.ring=v;omega
   rw[e1];simp only[bf,ot]
  rw[e] at q;exact q
def l6(T:Txt K mg c):Callee P w K mg base "part_size" 3 ["form"] (je c K Small (λf=>((bu f:Nat):Int))):=by
 exists T.HI.ok ["form"]
 ·exists 8
  (try dsimp only at q)
  have HG:Small f:=hg;obtain⟨z1,z2,z3,x3,z4,x4,z5,z6,z7,z8,z9,y1,y2,y3,y4⟩:=HG.all;refine⟨_,(aq (az (aM cz (aM cz (qg T.iI) (aF (n8 T) hr (aa (pv 0) ai))) (aM cP (aM cP (aF (vN T) hr (aa (pv 0) ai)) (aM cz (fld K (pv 0)) ay)) ay)))),?_⟩;refine⟨_,rfl,a,f,rfl,hF,hg,_,_,rfl,rfl,_,rfl,a,f,rfl,hF,hg,_,rfl,a,c.Form,dx,_,_,rfl,hf,T.bc,T.dj,rfl,_,_,rfl,rfl,_,_,rfl,rfl,.inr ⟨by omega,by omega⟩,_,_,rfl,rfl,.inr ⟨by decide,by decide⟩,_,_,rfl,rfl,?_⟩;have e:((bu f:Nat):Int)=32 +((32*(f.n*f.digits*f.ring):Nat):Int)+((f.ring*f.kdigits:Nat):Int)*((f.n:Int)+ 1)*2:=by
   unfold bu;rw[cj 2];simp only[bh,bf,ot]
  rw[e] at q;exact q
def vM(T:Txt K mg c):Callee P w K mg base "seal_size" 1 ["form"] (je c K Small (λf=>((2*f.n + 2:Nat):Int))):=by
 exists T.HD.ok ["form"]
 ·exists 8
  (try dsimp only at q)
  have HG:Small f:=hg;obtain⟨z1,z2,z3,x3,z4,x4,z5,z6,z7,z8,z9,y1,y2,y3,y4⟩:=HG.all;refine⟨_,(aq (az (aM cz (aM cP ay (fld K (pv 0))) ay))),?_⟩;exact⟨_,rfl,a,c.Form,dx,_,_,rfl,hf,T.bc,T.dj,rfl,_,_,rfl,rfl,.inl ⟨by decide,by decide⟩,_,_,rfl,rfl,by rw[bh,bf] at q;exact q⟩
def DC{j:Nat}(h:j<=60): -(2^64)<(1:Int)*2^j/\(1:Int)*2^j<2^64:=by
 have h1:(2:Nat)^j<=2^60:=mB (by decide) h;have h2:((2^j:Nat):Int)=(2:Int)^j:=by rw[m8];rfl
 have h3:(2:Nat)^60=1152921504606846976:=by decide
 have key: ∀z:Nat,z<=1152921504606846976-> -(2^64)<(1:Int)*(z:Int)/\(1:Int)*(z:Int)<2^64:=λz hz=>by omega
 rw[<-h2];exact key _ (h3▸h1)
def Ov{a b x y:Nat}(h1:a<=x)(h2:b<=y):a*b<=x*y:=cN h1 h2
def tb(f:aB):Nat:=(f.ring + 1)*2^(51 - f.digits*f.width)+ 2*f.digits*f.ring*2^(f.width - 1)*f.noise
def cl(f:aB):Nat:=if f.kdigits*f.kwidth<16 then 2^(15 - f.kdigits*f.kwidth) else 0
def cb(f:aB):Nat:=f.ring*cl f + f.ring*f.kdigits*2^(f.kwidth - 1)*f.noise
def vL(j:Nat):((2^j:Nat):Int)=(1:Int)*2^j:=by rw[m8,Nr];rfl
def w6(T:Txt K mg c):Callee P w K mg base "turning_bound" 1 ["form"] (je c K Small (λf=>((tb f:Nat):Int))):=by
 exists T.y8.ok ["form","dropped","noisy"]
 ·exists 8
  (try dsimp only at q)
  have HG:Small f:=hg;obtain⟨z1,z2,z3,x3,z4,x4,z5,z6,z7,z8,z9,y1,y2,y3,y4⟩:=HG.all;refine⟨_,(aj (bS 1 nd (aM cP (aM cz (fld K (pv 0)) ay) (aM n6 ay (aM ik ay (aM cP (fld K (pv 0)) (fld K (pv 0)))))))
   (aj (bS 2 nd (aM cP (aM cP (aM cP (aM cP ay (fld K (pv 0))) (fld K (pv 0))) (aM n6 ay (aM ik (fld K (pv 0)) ay))) (fld K (pv 0))))
   (aq (az (aM cz (pv 1) (pv 2)))))),?_⟩
  have hdw:f.digits*f.width<=32:=Ov z6 z8;have e1:(51 -(f.digits:Int)*(f.width:Int))=((51 - f.digits*f.width:Nat):Int):=by rw[tW (by omega),bf];rfl
  have e2:((f.width:Int)- 1)=((f.width - 1:Nat):Int):=by omega
  refine⟨_,rfl,a,c.Form,dx,_,_,rfl,hf,T.bc,T.b9,rfl,_,_,rfl,rfl,_,rfl,a,c.Form,dx,_,_,rfl,hf,T.bc,T.dQ,rfl,_,rfl,a,c.Form,dx,_,_,rfl,hf,T.bc,T.fV,rfl,_,_,rfl,rfl,.inr ⟨by omega,by omega⟩,_,_,rfl,rfl,_,_,rfl,rfl,⟨by rw[e1];omega,by rw[e1];omega,by decide⟩,_,_,rfl,rfl,.inl ⟨by omega,by omega⟩,?_⟩;refine⟨_,rfl,a,c.Form,dx,_,_,rfl,hf,T.bc,T.dQ,rfl,_,_,rfl,rfl,.inl ⟨by decide,by decide⟩,_,rfl,a,c.Form,dx,_,_,rfl,hf,T.bc,T.b9,rfl,_,_,rfl,rfl,.inr ⟨by omega,by omega⟩,_,rfl,a,c.Form,dx,_,_,rfl,hf,T.bc,T.fV,rfl,_,_,rfl,rfl,_,_,rfl,rfl,⟨by omega,by omega,by decide⟩,_,_,rfl,rfl,.inr ?_,_,rfl,a,c.Form,dx,_,_,rfl,hf,T.bc,T.gp,rfl,_,_,rfl,rfl,.inr ⟨by omega,by omega⟩,?_⟩
  ·rw[e2,bb];exact DC (by omega)
  refine⟨_,rfl,_,rfl,_,_,rfl,rfl,?_⟩;have e:((tb f:Nat):Int)=((f.ring:Int)+ 1)*(1*2^(51 -(f.digits:Int)*(f.width:Int)).toNat)+ 2*(f.digits:Int)*(f.ring:Int)*(1*2^((f.width:Int)- 1).toNat)*(f.noise:Int):=by
   rw[e1,e2,bb,bb,<-vL,<-vL];unfold tb;simp only[bh,bf,ot]
  rw[e] at q;exact q
def xh(T:Txt K mg c):Callee P w K mg base "changing_loss" 1 ["form"] (je c K Good (λf=>((cl f:Nat):Int))):=by
 exists T.zi.ok ["form","used"]
 ·exists 8
  (try dsimp only at q)
  have HG:Small f:=hg.toSmall;obtain⟨z1,z2,z3,x3,z4,x4,z5,z6,z7,z8,z9,y1,y2,y3,y4⟩:=HG.all;refine⟨_,(aj (bS 1 nd (aM cP (fld K (pv 0)) (fld K (pv 0))))
   (aj (cD (eh yn (pv 1) (qg T.j6) (dC _)) (aq (az (aM n6 ay (aM ik (aM ik (qg T.j6) ay) (pv 1))))) bA)
   (aq (az ay)))),?_⟩
  refine⟨_,rfl,a,c.Form,dx,_,_,rfl,hf,T.bc,T.df,rfl,_,rfl,a,c.Form,dx,_,_,rfl,hf,T.bc,T.dR,rfl,_,_,rfl,rfl,.inr ⟨by omega,by omega⟩,?_⟩;refine⟨_,rfl,_,_,rfl,rfl,_,rfl,j9 (λh=> ?_) λh=> ?_⟩
  ·have h0:(f.kdigits:Int)*(f.kwidth:Int)<16:=of_decide_eq_true h;rw[<-bf] at h0;have h:f.kdigits*f.kwidth<16:=by omega
   have e1:(16 - 1 -(f.kdigits:Int)*(f.kwidth:Int))=((15 - f.kdigits*f.kwidth:Nat):Int):=by rw[tW (by omega),bf];rfl
   refine⟨_,_,rfl,rfl,_,rfl,_,_,rfl,rfl,_,_,rfl,rfl,⟨by rw[e1];omega,by rw[e1];omega,by decide⟩,?_⟩
   (try dsimp only)
   rw[e1,bb,<-vL];have e:cl f=2^(15 - f.kdigits*f.kwidth):=if_pos h;rw[e] at q;exact q
  ·have h0: ¬(f.kdigits:Int)*(f.kwidth:Int)<16:=λe=>h (decide_eq_true e);rw[<-bf] at h0;have h: ¬f.kdigits*f.kwidth<16:=by omega
   have e:cl f=0:=if_neg h;rw[e] at q;exact q
def vT(T:Txt K mg c):Callee P w K mg base "changing_bound" 2 ["form"] (je c K Good (λf=>((cb f:Nat):Int))):=by
 exists T.xA.ok ["form","noisy"]
 ·exists 8
  (try dsimp only at q)
  have HG:Small f:=hg.toSmall;obtain⟨z1,z2,z3,x3,z4,x4,z5,z6,z7,z8,z9,y1,y2,y3,y4⟩:=HG.all;refine⟨_,(aj (bS 1 nd (aM cP (aM cP (aM cP (fld K (pv 0)) (fld K (pv 0))) (aM n6 ay (aM ik (fld K (pv 0)) ay))) (fld K (pv 0))))
   (aq (az (aM cz (aM cP (fld K (pv 0)) (aF (xh T) hr (aa (pv 0) ai))) (pv 1))))),?_⟩
  have e2:((f.kwidth:Int)- 1)=((f.kwidth - 1:Nat):Int):=by omega
  refine⟨_,rfl,a,c.Form,dx,_,_,rfl,hf,T.bc,T.b9,rfl,_,rfl,a,c.Form,dx,_,_,rfl,hf,T.bc,T.df,rfl,_,_,rfl,rfl,.inr ⟨by omega,by omega⟩,_,rfl,a,c.Form,dx,_,_,rfl,hf,T.bc,T.dR,rfl,_,_,rfl,rfl,_,_,rfl,rfl,⟨by omega,by omega,by decide⟩,_,_,rfl,rfl,.inr ?_,_,rfl,a,c.Form,dx,_,_,rfl,hf,T.bc,T.gp,rfl,_,_,rfl,rfl,.inr ⟨by omega,by omega⟩,?_⟩
  ·rw[e2,bb];exact DC (by omega)
  refine⟨_,rfl,a,c.Form,dx,_,_,rfl,hf,T.bc,T.b9,rfl,_,rfl,a,f,rfl,hF,hg,_,_,rfl,rfl,.inl ⟨by omega,by omega⟩,_,rfl,_,_,rfl,rfl,?_⟩;have e:((cb f:Nat):Int)=(f.ring:Int)*((cl f:Nat):Int)+(f.ring:Int)*(f.kdigits:Int)*(1*2^((f.kwidth:Int)- 1).toNat)*(f.noise:Int):=by
   rw[e2,bb,<-vL];unfold cb;simp only[bh,bf]
  rw[e] at q;exact q
def rm(T:Txt K mg c):Callee P w K mg base "table_bound" 3 ["form"] (je c K Good (λf=>((fo f:Nat):Int))):=by
 exists T.CI.ok ["form","turned"]
 ·exists 8
  (try dsimp only at q)
  have HG:Small f:=hg.toSmall;obtain⟨z1,z2,z3,x3,z4,x4,z5,z6,z7,z8,z9,y1,y2,y3,y4⟩:=HG.all;refine⟨_,(aj (bS 1 nd (aM cz (aM cP (fld K (pv 0)) (aF (w6 T) hr (aa (pv 0) ai))) (aM cP (aM cz (fld K (pv 0)) ay) (qg T.Ie))))
   (aq (az (aM cz (aM eX (pv 1) (qg T.Ic)) (aF (vT T) hr (aa (pv 0) ai)))))),?_⟩
  refine⟨_,rfl,a,c.Form,dx,_,_,rfl,hf,T.bc,T.dj,rfl,_,rfl,a,f,rfl,hF,hg.toSmall,_,_,rfl,rfl,.inl ⟨by omega,by omega⟩,_,rfl,a,c.Form,dx,_,_,rfl,hf,T.bc,T.b9,rfl,_,_,rfl,rfl,_,_,rfl,rfl,.inl ⟨by omega,by omega⟩,_,_,rfl,rfl,?_⟩;refine⟨_,rfl,_,_,rfl,rfl,⟨by decide,by decide⟩,_,rfl,a,f,rfl,hF,hg,_,_,rfl,rfl,?_⟩;have hdw:f.digits*f.width<=32:=Ov z6 z8;have e:((fo f:Nat):Int)=((f.n:Int)*((tb f:Nat):Int)+((f.ring:Int)+ 1)*34359738368)/ 68719476736 +((cb f:Nat):Int):=by
   have e0:fo f=(f.n*tb f +(f.ring + 1)*2^35)/ 2^36 + cb f:=by
    unfold fo tb cb cl;simp only[];rw[if_pos (show f.digits*f.width<52 by omega),mj]
   rw[e0,bh,cu,bh,bf,bf,bh];rfl
  rw[e] at q;exact q
def oJ(T:Txt K mg c):Callee P w K mg base "greatest_sure" 1 ["form"] (je c K Small (λf=>(iT f))):=by
 exists T.zg.ok ["form","rounding"]
 ·exists 8
  (try dsimp only at q)
  have HG:Small f:=hg;obtain⟨z1,z2,z3,x3,z4,x4,z5,z6,z7,z8,z9,y1,y2,y3,y4⟩:=HG.all;refine⟨_,(aj (bS 1 nd (aM cP (aM cz (fld K (pv 0)) ay) (aM eX (qg T.rQ) (fld K (pv 0)))))
   (aq (az (bX (MQ rfl) rfl T.Yq boot_max (aa (aM ik (aM ik (aM eX (fld K (pv 0)) ay) (pv 1)) ay) (aa (mE jR ay) ai)))))),?_⟩
  refine⟨_,rfl,a,c.Form,dx,_,_,rfl,hf,T.bc,T.dj,rfl,_,_,rfl,rfl,_,rfl,a,c.Form,dx,_,_,rfl,hf,T.bc,T.b9,rfl,_,_,rfl,rfl,⟨by omega,by omega⟩,_,_,rfl,rfl,.inl ⟨by omega,by omega⟩,?_⟩;refine⟨_,rfl,a,c.Form,dx,_,_,rfl,hf,T.bc,T.gg,rfl,_,_,rfl,rfl,⟨by decide,by decide⟩,_,rfl,_,_,rfl,rfl,_,_,rfl,rfl,1,rfl,_,_,rfl,?_⟩;have e:iT f=if(-1:Int)>(f.step:Int)/ 2 -((f.n:Int)+ 1)*(16384 /(f.ring:Int))- 1 then -1 else(f.step:Int)/ 2 -((f.n:Int)+ 1)*(16384 /(f.ring:Int))- 1:=by
   unfold iT Wqarav.Form.slack;have e1:(((f.n + 1)*(16384 / f.ring):Nat):Int)=((f.n:Int)+ 1)*(16384 /(f.ring:Int)):=by
    rw[bf,bh,cu];rfl
   rw[<-e1];generalize (f.n + 1)*(16384 / f.ring)=u;split <;> split <;> omega
  rw[e] at q;exact q
inductive Ae(vs:List V)(H:Hp)(Q:VK)(E:XK):Prop
 |mk (z:Int):vs=[.int z]->(∀(p:Addr) (H':Hp),au H H'->H p=none->H' p=some (.lst [.int (-z)])->Q (.ref p) H')->Ae vs H Q E
def bt(T:Txt K mg c):Callee P w K mg base "refused" 1 ["reason"] Ae:=by
 exists T.Mz.ok ["reason"]
 ·obtain⟨z,rfl,q⟩:=h;refine⟨_,(aq (az (cx (aa (mE jR (pv 0)) ai)))),?_⟩;exact⟨_,rfl,_,rfl,(by show 1<=sizeLine;decide),λp hp=>q p _ (au.new hp) hp ak⟩
inductive tZ(vs:List V)(H:Hp)(Q:VK)(E:XK):Prop
 |mk (z:Int):vs=[.int z]->(∀(p:Addr) (H':Hp),au H H'->H p=none->H' p=some (.lst [.int (-9),.int z])->Q (.ref p) H')->tZ vs H Q E
def lp(T:Txt K mg c):Callee P w K mg base "refused_at" 1 ["place"] tZ:=by
 exists T.Fg.ok ["place"]
 ·obtain⟨z,rfl,q⟩:=h;refine⟨_,(aq (az (cx (aa (mE jR (qg T.B3)) (aa (pv 0) ai))))),?_⟩;exact⟨_,rfl,_,rfl,(by show 2<=sizeLine;decide),λp hp=>q p _ (au.new hp) hp ak⟩
inductive vE(c:Cs)(K:ab)(vs:List V)(H:Hp)(Q:VK)(E:XK):Prop
 |mk (p dx a:Addr) (f:aB):vs=[.ref p,.ref a]->H p=some (.ins c.Form dx [])->bw K H a (iv f.numbers)->0<f.p->f.p<1000->(∀H',dU c K H' p f->cg p H H'->Q .fC H')->vE c K vs H Q E
def nr{K:ab}{H:Hp}{a p C dx:Addr}{fs:List (Str×V)}{o:HO}{xs:List V}(h:bw K H a xs)(hp:H p=some (.ins C dx fs)):bw K (upd H p o) a xs:=by
 rcases h with(h|⟨o',h⟩)|h
 ·exact .inl (.inl (by rw[aJ (jw h hp (by intro z;cases z))];exact h))
 ·exact .inl (.inr ⟨o',by rw[aJ (jw h hp (by intro z;cases z))];exact h⟩)
 ·exact .inr h
def uB{l:List Nat}{j z:Nat}(h:l[j]? =some z):xH (iv l) (j:Int)=some (V.int (z:Int)):=c8 (by rw[aI,h];rfl)
theorem md(T:Txt K mg c):Maker P w K mg base "Form" c.Form 1 ["self","numbers"] (vE c K):=by
 exists T.md.ok T.OM ["self","numbers"]
 ·obtain⟨p,dx,a,f,rfl,hp,ha,Y7,U7,q⟩:=h;refine⟨_,(aj (dw (pv 0) (kS (jU K) rfl T.rX boot_list (aa (pv 1) ai)) rfl)
   (aj (dw (pv 0) (gT K (pv 1) ay) rfl)
   (aj (dw (pv 0) (gT K (pv 1) ay) rfl)
   (aj (dw (pv 0) (gT K (pv 1) ay) rfl)
   (aj (dw (pv 0) (gT K (pv 1) ay) rfl)
   (aj (dw (pv 0) (gT K (pv 1) ay) rfl)
   (aj (dw (pv 0) (gT K (pv 1) ay) rfl)
   (aj (dw (pv 0) (gT K (pv 1) ay) rfl)
   (aj (dw (pv 0) (gT K (pv 1) ay) rfl)
   (aq (dw (pv 0) (aM eX (qg T.rR) (fld K (pv 0))) rfl))))))))))),?_⟩
  have nm:f.numbers=[f.n,f.ring,f.p,f.digits,f.width,f.kdigits,f.kwidth,f.noise]:=rfl;refine⟨_,rfl,a,_,rfl,.inl ha,λna Qc=>⟨_,rfl,p,c.Form,dx,_,rfl,au.new Qc _ _ hp,T.bc,T.gN,(by show 0<1000;decide),?_⟩⟩;have Xs:na≠p:=λz=>by rw[z,hp] at Qc;cases Qc
  have Nh:bw K (upd H na (.lst (iv f.numbers))) a (iv f.numbers):=(au.new Qc).seq ha;have xq:(upd H na (.lst (iv f.numbers))) p=some (.ins c.Form dx []):=au.new Qc _ _ hp;refine⟨_,rfl,a,_,_,_,rfl,rfl,nr Nh xq,uB (l:=f.numbers) (j:=0) (z:=f.n) rfl,_,rfl,p,c.Form,dx,_,rfl,ak,T.bc,T.dj,(by show 1<1000;decide),?_⟩;rw[dG];refine⟨_,rfl,a,_,_,_,rfl,rfl,nr Nh xq,uB (l:=f.numbers) (j:=1) (z:=f.ring) rfl,_,rfl,p,c.Form,dx,_,rfl,ak,T.bc,T.b9,(by show 2<1000;decide),?_⟩;rw[dG];refine⟨_,rfl,a,_,_,_,rfl,rfl,nr Nh xq,uB (l:=f.numbers) (j:=2) (z:=f.p) rfl,_,rfl,p,c.Form,dx,_,rfl,ak,T.bc,T.eY,(by show 3<1000;decide),?_⟩;rw[dG];refine⟨_,rfl,a,_,_,_,rfl,rfl,nr Nh xq,uB (l:=f.numbers) (j:=3) (z:=f.digits) rfl,_,rfl,p,c.Form,dx,_,rfl,ak,T.bc,T.dQ,(by show 4<1000;decide),?_⟩;rw[dG];refine⟨_,rfl,a,_,_,_,rfl,rfl,nr Nh xq,uB (l:=f.numbers) (j:=4) (z:=f.width) rfl,_,rfl,p,c.Form,dx,_,rfl,ak,T.bc,T.fV,(by show 5<1000;decide),?_⟩;rw[dG];refine⟨_,rfl,a,_,_,_,rfl,rfl,nr Nh xq,uB (l:=f.numbers) (j:=5) (z:=f.kdigits) rfl,_,rfl,p,c.Form,dx,_,rfl,ak,T.bc,T.df,(by show 6<1000;decide),?_⟩;rw[dG];refine⟨_,rfl,a,_,_,_,rfl,rfl,nr Nh xq,uB (l:=f.numbers) (j:=6) (z:=f.kwidth) rfl,_,rfl,p,c.Form,dx,_,rfl,ak,T.bc,T.dR,(by show 7<1000;decide),?_⟩;rw[dG];refine⟨_,rfl,a,_,_,_,rfl,rfl,nr Nh xq,uB (l:=f.numbers) (j:=7) (z:=f.noise) rfl,_,rfl,p,c.Form,dx,_,rfl,ak,T.bc,T.gp,(by show 8<1000;decide),?_⟩;rw[dG];refine⟨_,rfl,p,c.Form,dx,_,.int (f.p:Int),rfl,ak,T.bc,T.eY,rfl,_,_,rfl,rfl,⟨by omega,by omega⟩,_,rfl,p,c.Form,dx,_,rfl,ak,T.bc,T.gg,(by show 9<1000;decide),?_⟩;rw[dG];refine q _ ⟨dx,na,?_,?_⟩ λb o e hb=> ?_
  ·rw[ak];have e:(32768:Int)/(f.p:Int)=((f.step:Nat):Int):=by unfold Wqarav.Form.step;rw[cu];rfl
   try dsimp only
   rw[e];rfl
  ·rw[aJ Xs];exact ak
  ·rw[aJ hb];exact au.new Qc _ _ e
end SB
namespace Q
open PySem PySem.Spec PyProof.Rows L2 Z3
def LC{σ:L2.St}{i j k:Nat}{x y z:V}(RJ:i≠j)(Nf:i≠k)(zC:j≠k):wipe ((((wipe σ [i,j,k]).set i (some x)).set j (some y)).set k (some z)) [i,j,k]=wipe σ [i,j,k]:=by
 simp only[wipe];refine ie λn=> ?_;simp only[o8,dO];by_cases h1:i=n <;> by_cases h2:j=n <;> by_cases h3:k=n <;> simp_all
def OF{K:ab}{a b d:Addr}{xs ys zs:List V}{i j k:Nat}{te:TE}{σ:L2.St}{H1:Hp}{Qd:Addr->Hp->Prop}(val:Nat->V)(hl:xs.length<=sizeLine)(hxy:xs.length=ys.length)(hxz:xs.length=zs.length)(RJ:i≠j)(Nf:i≠k)(zC:j≠k)
  (SY:gU K H1 a xs) (UT:bw K H1 b ys) (hsz:gU K H1 d zs) (mx: ∀H,au H1 H->gU K H a xs) (mz: ∀H,au H1 H->gU K H d zs)
  (hs: ∀n x y z H Q',xs[n]? =some x->ys[n]? =some y->zs[n]? =some z->au H1 H->(∀H4,au H H4->Q' (val n) H4)->te ((((wipe σ [i,j,k]).set i (some x)).set j (some y)).set k (some z)) H Q')
  (hq: ∀D H,H1 D=none->au H1 H->H D=some (.lst ((List.range xs.length).map val))->Qd D H):
  ∀D,H1 D=none-> ∃W:Nat->Nat->Hp->Prop,(∃m,W 0 m (upd H1 D (.lst [])))/\ ∀n m H,W n m H->
   ((PR K a b d).stop n H/\Qd D H)\/((PR K a b d).go n H/\ ∃Nx:Hp->Prop,(∀H',Nx H'-> ∃m',m'<m/\W (n + 1) m' H')/\ ∀x H',(PR K a b d).wR n H x H'->Mr K 3 (ux (gq i) (ux (gq j) (ux (gq k) Pb))) x (wipe σ [i,j,k]) H' λσ2 H2=>wipe σ2 [i,j,k]=wipe σ [i,j,k]/\lV σ2 H2 λb H3=>
    if b=true then te σ2 H3 λy H4=> ∃acc,H4 D=some (.lst acc)/\acc.length<sizeLine/\Nx (upd H4 D (.lst (acc++[y]))) else Nx H3):=by
 intro D hD;let Pv:Nat->Hp->Prop:=λn H=>au H1 H/\H D=some (.lst ((List.range n).map val));refine⟨λn m H=>m=xs.length - n/\n<=xs.length/\Pv n H,⟨xs.length,by simp,aC _,au.new hD,ak⟩,?_⟩;rintro n m H ⟨rfl,hn,hj,hd⟩;have qx:=mx H hj;have qy:=hj.seq UT;have qz:=mz H hj;by_cases ig:n<xs.length
 ·have h2:n<ys.length:=by omega
  have h3:n<zs.length:=by omega
  refine .inr ⟨⟨xs,ys,zs,xs[n],ys[n],zs[n],qx,qy,qz,af ig,af h2,af h3⟩,Pv (n + 1),λH' p'=>⟨xs.length -(n + 1),by omega,rfl,ig,p'⟩,λx H' hy=> ?_⟩;obtain⟨T,u,v,t,rfl,hT,rfl,hu,hv,ht⟩:=hy;refine⟨T,[u,v,t],rfl,gU.of ak,rfl,u,[v,t],rfl,v,[t],rfl,t,[],rfl,rfl,LC RJ Nf zC,?_⟩;have XX:D≠T:=aO hd hT;unfold lV;refine cY (hs n u v t _ _ (hu xs qx) (hv ys qy) (ht zs qz) (au.gv hj hT) λH4 h4=>⟨_,h4 D _ (by rw[aJ XX];exact hd),?_,au.at' ((au.gv hj hT).trans h4) hD,?_⟩)
  ·rw[ag,dE];omega
  ·rw[ak,jS]
 ·have e:n=xs.length:=by omega
  subst e;exact .inl ⟨⟨xs,qx,aE _⟩,hq D H hD hj hd⟩
end Q
namespace SB
open PySem PySem.Spec PyProof.Rows L2 Q Z3
variable{P:Program}{w:World}{K:ab}{mg:Str->Option Value}{base:Heap}{c:Cs}
def xn:List Int:=[1,8,2,1,1,1,1,0]
def Bu:List Int:=[4,32,8,4,8,16,8,127]
def Xd(x:Int)(l:List Int):Bool:=l.any λy=>y==x
noncomputable def wZ(l:List Nat):Bool:=(((List.range 8).map λn=>decide (xn.getD n 0<=(l.getD n 0:Int))&&decide ((l.getD n 0:Int)<=Bu.getD n 0)).all id)&&(Xd (l.getD 1 0:Nat) [8,16,32]&&Xd (l.getD 2 0:Nat) [2,4,8])
def Hr(x:Int)(l:List Int):YW (.int x) (ii l)=Xd x l:=by
 unfold YW Xd;rw[List.any_map];rfl
def Iq(l:List Int):(ii l).all wt=true:=by
 rw[sh];exact gI.mpr λ_ _=>rfl
inductive qf(K:ab)(vs:List V)(H:Hp)(Q:VK)(E:XK):Prop
 |mk (a:Addr) (l:List Nat):vs=[.ref a]->bw K H a (iv l)->l.length=8->(∀H',au H H'->Q (.bl (wZ l)) H')->qf K vs H Q E
def yR(T:Txt K mg c):Callee P w K mg base "are_in_range" 1 ["numbers"] (qf K):=by
 exists T.BM.ok ["numbers","within","least","number","greatest"]
 ·obtain⟨a,l,rfl,ha,hl,q⟩:=h;have big:=bI;obtain⟨aL,mL,tL⟩:=T.QF;obtain⟨aG,mG,tG⟩:=T.Jg;obtain⟨aS,mS,tS⟩:=T.QE;obtain⟨aH,mH,tH⟩:=T.NI;refine⟨_,(aj (bS 1 nd (bX (oT rfl) rfl T.Io boot_all (aa (gR rfl nd (QW K rfl T.Ep (aa (qr mL) (aa (pv 0) (aa (qr mG) ai)))) (own:=[("least",2),("number",3),("greatest",4)]) (cn rfl) (λ_ _ _ _ _=>(QZ K (n:=3) rfl (eV (qn 2 nd) (eV (qn 3 nd) (eV (qn 4 nd) lY))))) (λ_ _ _ _ _=>cO) (λ_ _ _ _ _=>(AJ oH oH (pv 2) (pv 3) (pv 4)))) ai)))
   (aq (az (AK (pv 1) (AK (jf DQ (gT K (pv 0) ay) (qr mS) rfl) (ER (jf DQ (gT K (pv 0) ay) (qr mH) rfl))))))),?_⟩
  refine⟨_,rfl,aL,a,aG,_,_,_,rfl,tL H,ha,tG H,?_⟩;refine OF (xs:=ii xn) (zs:=ii Bu) (i:=2) (j:=3) (k:=4) (λn=>V.bl (decide (xn.getD n 0<=(l.getD n 0:Int))&&decide ((l.getD n 0:Int)<=Bu.getD n 0))) (by show 8<=sizeLine;omega) (by rw[bR,hl];rfl) rfl (by decide) (by decide) (by decide) (tL H) ha (tG H) (λH' _=>tL H') (λH' _=>tG H')
   (λn x y z H' Q' hx hy hz hs k=> ?_) (λD H' wN hs hD=> ?_)
  ·obtain⟨h1,rfl⟩:=oO hx;obtain⟨h2,rfl⟩:=oO hz;obtain⟨m,hm,rfl⟩:=jT hy;have em:l.getD n 0=m:=by rw[ae,hm];rfl
   refine⟨_,rfl,_,rfl,_,_,rfl,rfl,_,rfl,j9 (λh=>⟨_,rfl,_,_,rfl,rfl,?_⟩) λh=> ?_⟩
   ·have k1:=k H' (au.refl H');rw[em,h,eI] at k1;exact k1
   ·have k1:=k H' (au.refl H');rw[em,o9.mpr h,eJ] at k1;exact k1
  ·have e8:(ii xn).length=8:=rfl;rw[e8] at hD;have IL:H' D=some (.lst (((List.range 8).map λn=>decide (xn.getD n 0<=(l.getD n 0:Int))&&decide ((l.getD n 0:Int)<=Bu.getD n 0)).map V.bl)):=by
    rw[hD,bP];rfl
   refine⟨D,_,rfl,bw.of IL,?_⟩;obtain⟨x1,RC⟩: ∃z,l[1]? =some z:=⟨_,af (by omega)⟩;obtain⟨x2,hx2⟩: ∃z,l[2]? =some z:=⟨_,af (by omega)⟩;have e1:l.getD 1 0=x1:=by rw[ae,RC];rfl
   have e2:l.getD 2 0=x2:=by rw[ae,hx2];rfl
   have q':=q H' hs;unfold wZ at q';rw[e1,e2] at q';refine⟨_,rfl,_,rfl,j9 (λh=> ?_) λh=> ?_⟩
   ·rw[h,eI] at q';refine⟨_,rfl,a,_,_,_,rfl,rfl,hs.seq ha,uB (j:=1) RC,aS,ii [8,16,32],rfl,.inr (tS H'),rfl,Iq _,_,rfl,?_⟩;dsimp only;rw[if_neg bg,Hr];refine j9 (λh2=> ?_) λh2=> ?_
    ·rw[h2,eI] at q';refine⟨_,rfl,a,_,_,_,rfl,rfl,hs.seq ha,uB (j:=2) hx2,aH,ii [2,4,8],rfl,.inr (tH H'),rfl,Iq _,?_⟩;rw[if_neg bg,Hr];exact q'
    ·rw[o9.mpr h2,eJ] at q';exact q'
   ·rw[o9.mpr h,eJ] at q';exact q'
def wj(f:aB):f.good=true↔Good f:=by
 unfold Wqarav.Form.good Wqarav.from_;simp only[cq,decide_eq_true_eq,List.contains_iff_mem,aA,bM,or_false];constructor
 ·rintro⟨⟨h1,h2⟩,h3,h4,h5,⟨h6,h7⟩,⟨h8,h9⟩,⟨g1,g2⟩,⟨g3,g4⟩,g5,g6⟩;exact⟨⟨h1,h2,h3,h4,h6,h7,h8,h9,g1,g2,g3,g4,g6⟩,h5,g5⟩
 ·rintro⟨⟨h1,h2,h3,h4,h6,h7,h8,h9,g1,g2,g3,g4,g6⟩,h5,g5⟩;exact⟨⟨h1,h2⟩,h3,h4,h5,⟨h6,h7⟩,⟨h8,h9⟩,⟨g1,g2⟩,⟨g3,g4⟩,g5,g6⟩
def DH(f:aB):wZ f.numbers=true↔Small f:=by
 have e:wZ f.numbers=true↔(((1<=(f.n:Int)/\(f.n:Int)<=4)/\(8<=(f.ring:Int)/\(f.ring:Int)<=32)/\(2<=(f.p:Int)/\(f.p:Int)<=8)/\(1<=(f.digits:Int)/\(f.digits:Int)<=4)/\(1<=(f.width:Int)/\(f.width:Int)<=8)/\(1<=(f.kdigits:Int)/\(f.kdigits:Int)<=16)/\(1<=(f.kwidth:Int)/\(f.kwidth:Int)<=8)/\(0<=(f.noise:Int)/\(f.noise:Int)<=127))/\
   ((8:Int)=f.ring\/(16:Int)=f.ring\/(32:Int)=f.ring)/\((2:Int)=f.p\/(4:Int)=f.p\/(8:Int)=f.p)):=by
  simp[wZ,Xd,xn,Bu,Wqarav.Form.numbers,List.range,List.range.loop]
 rw[e];constructor
 ·rintro⟨⟨h1,h2,h3,h4,h5,h6,h7,h8⟩,g1,g2⟩;exact⟨by omega,by omega,by omega,by omega,by omega,by omega,by omega,by omega,by omega,by omega,by omega,by omega,by omega⟩
 ·intro h;have z1:=h.n1;have z2:=h.n4;have z3:=h.ring;have z4:=h.p;have z5:=h.d1;have z6:=h.d4;have z7:=h.w1;have z8:=h.w8;have z9:=h.k1;have y1:=h.OO;have y2:=h.v1;have y3:=h.v8;have y4:=h.noise;refine⟨⟨?_,?_,?_,?_,?_,?_,?_,?_⟩,?_,?_⟩<;> omega
def kU{l:List Nat}(h:l.length=8):(aT l).numbers=l:=by
 match l,h with
 | [a,b,d,e,f,g,i,j],_=>rfl
def HC(f:aB):Bool:=decide (2*f.p<=f.ring)&&decide (f.kdigits*f.kwidth<=16)
def K4(f:aB):f.good=(wZ f.numbers&&HC f):=by
 rw[iZ,wj,cq,DH,HC,cq,decide_eq_true_eq,decide_eq_true_eq];exact⟨λh=>⟨h.toSmall,h.pp,h.kv⟩,λh=>⟨h.1,h.2.1,h.2.2⟩⟩
inductive qb(c:Cs)(K:ab)(vs:List V)(H:Hp)(Q:VK)(E:XK):Prop
 |mk (a:Addr) (f:aB):vs=[.ref a]->dU c K H a f->Small f->Q (.bl (HC f)) H->qb c K vs H Q E
def yP(T:Txt K mg c):Callee P w K mg base "fit_together" 1 ["form"] (qb c K):=by
 exists T.BI.ok ["form"]
 ·obtain⟨a,f,rfl,⟨dx,na,hf,hn⟩,hg,q⟩:=h;have y3:=hg.v8;refine⟨_,(aq (az (AK (jf oH (aM cP ay (fld K (pv 0))) (fld K (pv 0)) (dC _)) (ER (jf oH (aM cP (fld K (pv 0)) (fld K (pv 0))) (qg T.j6) (dC _)))))),?_⟩;refine⟨_,rfl,a,c.Form,dx,_,_,rfl,hf,T.bc,T.eY,rfl,_,_,rfl,rfl,.inl ⟨by decide,by decide⟩,_,rfl,a,c.Form,dx,_,_,rfl,hf,T.bc,T.b9,rfl,_,_,rfl,rfl,_,rfl,j9 (λh=> ?_) λh=> ?_⟩
  ·have h1:2*f.p<=f.ring:=by have:=of_decide_eq_true h;omega
   refine⟨_,rfl,a,c.Form,dx,_,_,rfl,hf,T.bc,T.df,rfl,_,rfl,a,c.Form,dx,_,_,rfl,hf,T.bc,T.dR,rfl,_,_,rfl,rfl,.inr ⟨by omega,by omega⟩,_,_,rfl,rfl,?_⟩;have e:HC f=decide ((f.kdigits:Int)*(f.kwidth:Int)<=16):=by
    unfold HC;rw[decide_eq_true h1,eI,<-bf];exact decide_eq_decide.mpr ⟨λh=>by omega,λh=>by omega⟩
   rw[e] at q;exact q
  ·have h1: ¬2*f.p<=f.ring:=λh2=>h (decide_eq_true (by omega));have e:HC f=false:=by unfold HC;rw[decide_eq_false h1,eJ]
   rw[e] at q;exact q
def gh(l:List Nat):Bool:=decide (l.length=8)&&(aT l).good
inductive Al(K:ab)(vs:List V)(H:Hp)(Q:VK)(E:XK):Prop
 |mk (a:Addr) (l:List Nat):vs=[.ref a]->bw K H a (iv l)->(∀H',au H H'->Q (.bl (gh l)) H')->Al K vs H Q E
def pk(T:Txt K mg c):Callee P w K mg base "is_form" 3 ["numbers"] (Al K):=by
 exists T.MG.ok ["numbers"]
 ·obtain⟨a,l,rfl,ha,q⟩:=h;refine⟨_,(aq (az (AK (jf Oi (bX (cI K) rfl T.f7 boot_len (aa (pv 0) ai)) (qg T.C6) (dC _)) (AK (aF (yR T) hr (aa (pv 0) ai)) (ER (aF (yP T) hr (aa (i6 (md T) hr (aa (pv 0) ai)) ai))))))),?_⟩;refine⟨_,rfl,a,_,rfl,.inl ha,rfl,_,rfl,j9 (λh=> ?_) λh=> ?_⟩
  ·have h8:l.length=8:=by
    have h1:=of_decide_eq_true h;injection h1 with h1;rw[bR] at h1;omega
   have en:=kU h8;refine⟨_,rfl,a,l,rfl,ha,h8,λH1 s1=>⟨_,rfl,j9 (λh2=> ?_) λh2=> ?_⟩⟩
   ·have hS:Small (aT l):=(DH _).mp (by rw[en];exact h2);refine⟨_,rfl,λx dx nx CB ne=>⟨x,dx,a,aT l,rfl,ak,by rw[en];exact au.seq (au.gv (au.new CB) (by rw[aJ (bG ne)];exact nx)) (s1.seq ha),by have:=hS.p;omega,by have:=hS.p;omega,λH2 hF hk=>⟨rfl,x,_,rfl,hF,hS,?_⟩⟩⟩;have s2:au H1 H2:=au.made nx CB hk;have q':=q H2 (s1.trans s2);have e:gh l=HC (aT l):=by
     unfold gh;rw[decide_eq_true h8,eI,K4,en,h2,eI]
    rw[e] at q';exact q'
   ·have q':=q H1 s1;have e:gh l=false:=by
     unfold gh;rw[K4,en,o9.mpr h2,eJ,F5]
    rw[e] at q';exact q'
  ·have q':=q H (au.refl H);have e:gh l=false:=by
    unfold gh;rw[decide_eq_false (λh8=>h (decide_eq_true (by rw[bR,h8];rfl))),eJ]
   rw[e] at q';exact q'
inductive qW(c:Cs)(K:ab)(vs:List V)(H:Hp)(Q:VK)(E:XK):Prop
 |mk (a:Addr) (f:aB) (j:Nat):vs=[.ref a,.int (j:Int)]->dU c K H a f->Q (.bl (decide (j<2*f.p))) H->qW c K vs H Q E
def kx(T:Txt K mg c):Callee P w K mg base "is_sealable" 1 ["form","number"] (qW c K):=by
 exists T.CK.ok ["form","number"]
 ·obtain⟨a,f,j,rfl,⟨dx,na,hf,hn⟩,q⟩:=h;refine⟨_,(aq (az (jf yn (pv 1) (aM cP ay (fld K (pv 0))) (dC _)))),?_⟩;refine⟨_,rfl,_,rfl,a,c.Form,dx,_,_,rfl,hf,T.bc,T.eY,rfl,_,_,rfl,rfl,.inl ⟨by decide,by decide⟩,_,_,rfl,rfl,?_⟩;have e:decide (j<2*f.p)=decide ((j:Int)<2*(f.p:Int)):=decide_eq_decide.mpr ⟨λh=>by omega,λh=>by omega⟩;rw[e] at q;exact q
def jX(z:Int):((Wqarav.word z:Nat):Int)=z % 65536:=by
 unfold Wqarav.word;exact aR (kH _ (by decide))
theorem Ed: ∀(l:List Nat) (a:Nat),l.foldl (λ(x y:Nat)=>x + y) a=a + l.sum
 | [],a=>by simp
 |x::r,a=>by rw[km,Ed r,fw];omega
def L9(ws bs:List Nat):((qF ws bs:Nat):Int)=(jF (λ(x y:Int)=>x*y) (ws.map λ(n:Nat)=>(n:Int)) (bs.map λ(n:Nat)=>(n:Int))).sum:=by
 unfold qF Wqarav.sum;rw[Ed,nW]
 induction ws generalizing bs with
 |nil=>rfl
 |cons x r ih=>
  cases bs with
  |nil=>rfl
  |cons y t=>
   rw[iU,fw,bB,bB,iU,fw,<-ih t,bh,bf]
def mQ(l:List Nat):iv l=ii (l.map λ(n:Nat)=>(n:Int)):=by
 rw[iv,ii,bP];rfl
inductive Dt(vs:List V)(H:Hp)(Q:VK)(E:XK):Prop
 |mk (z:Nat):vs=[.int (z:Int)]->Q (.int (FW z)) H->Dt vs H Q E
def LL(T:Txt K mg c):Callee P w K mg base "signed" 1 ["word"] Dt:=by
 exists T.Pe.ok ["word"]
 ·obtain⟨z,rfl,q⟩:=h;generalize hy:((z:Nat):Int)=y;refine⟨_,(aj (cD (eh yn (pv 0) (qg T.rR) (dC _)) (aq (az (pv 0))) bA)
   (aq (az (aM ik (pv 0) (qg T.og))))),?_⟩
  refine⟨_,rfl,_,_,rfl,rfl,_,rfl,j9 (λh=> ?_) λh=> ?_⟩
  ·have h:y<32768:=of_decide_eq_true h;have h: ¬32768<=z:=λe=>by omega
   unfold FW at q;rw[if_neg h,hy] at q;exact⟨_,rfl,q⟩
  ·have h: ¬y<32768:=λe=>h (decide_eq_true e);have h:32768<=z:=by omega
   unfold FW at q;rw[if_pos h,hy] at q;exact⟨_,rfl,_,_,rfl,rfl,q⟩
inductive uK(K:ab)(vs:List V)(H:Hp)(Q:VK)(E:XK):Prop
 |mk (a b:Addr) (ws fs:List Int):vs=[.ref a,.ref b]->bw K H a (ii ws)->(bw K H b (ii fs)\/gU K H b (ii fs))->ws.length=fs.length->ws.length<=1000->(∀x∈ws,-(2^64)<x/\x<2^64)->(∀H',au H H'->Q (.int (Sb.wsum ws fs)) H')->uK K vs H Q E
def mJ(T:Txt K mg c):Callee P w K mg base "weighed" 1 ["numbers","factors"] (uK K):=by
 exists T.Mu.ok ["numbers","factors","number","factor"]
 ·obtain⟨a,b,ws,fs,rfl,ha,hb,hl,hz,hw,q⟩:=h;have big:=bI;refine⟨_,(aq (az (bX (Eg rfl) rfl T.Tt boot_sum (aa (gR rfl nd (Z2.QV K rfl T.Ep (aa (pv 0) (aa (pv 1) ai))) (own:=[("number",2),("factor",3)]) (cn rfl) (λ_ _ _ _ _=>(QZ K (n:=2) rfl (eV (qn 2 nd) (eV (qn 3 nd) lY)))) (λ_ _ _ _ _=>cO) (λ_ _ _ _ _=>(aM cP (pv 2) (pv 3)))) ai)))),?_⟩;have fin: ∀(D:Addr) (H':Hp),au H H'->H' D=some (.lst ((List.range ws.length).map λn=>V.int (ws.getD n 0*fs.getD n 0)))-> ∃(p:Addr) (ns:List Int),[V.ref D]=[.ref p]/\bw K H' p (ns.map V.int)/\Q (.int ns.sum) H':=λD H' hs hD=>by
   rw[sG (f:=λx y=>x*y) hl] at hD;exact⟨D,_,rfl,bw.of hD,q H' hs⟩
  have turn: ∀(n:Nat) (x y:V) (H':Hp) (Q':V->Hp->Prop),(ii ws)[n]? =some x->(ii fs)[n]? =some y->Q' (.int (ws.getD n 0*fs.getD n 0)) H'->
    Su (rI Sk λi j=> .int (i*j)) (Jh 2) (Jh 3) [some (.ref a),some (.ref b),some x,some y] H' Q':=λn x y H' Q' hx hy k=>by
   obtain⟨h1,rfl⟩:=oO hx;obtain⟨h2,rfl⟩:=oO hy;have h5:=hw _ (show ws.getD n 0∈ws by rw[ae,af h1];exact gH h1);exact⟨_,rfl,_,rfl,_,_,rfl,rfl,.inl h5,k⟩
  rcases hb with hb|hb
  ·refine⟨_,rfl,_,rfl,a,b,_,_,rfl,ha,.inl ⟨hb,?_⟩⟩;refine zA (i:=2) (j:=3) (λn=>V.int (ws.getD n 0*fs.getD n 0)) (λ_ H'=>au H H') (by simp;omega) (by simpa using hl) (by decide) (au.refl H) (λ_ H' D o h hD=>au.at' h hD) (λ_ H' D o h hD=>au.gv h hD)
    (λ_ H' _ h=>h.seq ha) (λ_ H' _ h=>h.seq hb) (λn x y H' Q' hx hy hs k=>turn n x y H' Q' hx hy (k H' hs λ_ _ _ e=>e)) (λD H' _ hs hD=>fin D H' hs (by simpa using hD))
  ·refine⟨_,rfl,_,rfl,a,b,_,_,rfl,ha,.inr ⟨hb,?_⟩⟩;refine RL.OG (i:=2) (j:=3) (λn=>V.int (ws.getD n 0*fs.getD n 0)) (λ_ H'=>au H H') (by simp;omega) (by simpa using hl) (by decide) (au.refl H) (λ_ H' D o h hD=>au.at' h hD) (λ_ H' D o h hD=>au.gv h hD)
    (λ_ H' _ h=>h.seq ha) (λ_ H' _ h=>h.Cj hb) (λn x y H' Q' hx hy hs k=>turn n x y H' Q' hx hy (k H' hs λ_ _ _ e=>e)) (λD H' _ hs hD=>fin D H' hs (by simpa using hD))
inductive Dy(K:ab)(vs:List V)(H:Hp)(Q:VK)(E:XK):Prop
 |mk (a b:Addr) (ws bs:List Nat):vs=[.ref a,.ref b]->bw K H a (iv ws)->bw K H b (iv bs)->ws.length=bs.length->ws.length<=1000->(∀x∈ws,x<65536)->(∀H',au H H'->Q (.int ((qF ws bs:Nat):Int)) H')->Dy K vs H Q E
def w9(T:Txt K mg c):Callee P w K mg base "weighed" 1 ["numbers","factors"] (Dy K):=by
 refine(mJ T).weak λvs H Q E h=> ?_;obtain⟨a,b,ws,bs,rfl,ha,hb,hl,hz,hw,q⟩:=h;rw[mQ] at ha hb;refine⟨a,b,_,_,rfl,ha,.inl hb,by simpa using hl,by simpa using hz,λx hx=> ?_,λH' hs=> ?_⟩
 ·obtain⟨n,hn,rfl⟩:=aQ.mp hx;have:=hw n hn;omega
 ·have q':=q H' hs;rw[L9] at q';exact q'
def Sy(wa:Addr)(s:ax):List (Str×V):=[("words",.ref wa),("last",.int (s.b:Int)),("bound",.int (s.bound:Int))]
inductive cQ(c:Cs)(H:Hp)(a:Addr)(s:ax):Prop
 |mk (dx wa:Addr):H a=some (.ins c.Seal dx (Sy wa s))->H wa=some (.lst (iv s.a))->cQ c H a s
def cQ.mono{H H':Hp}{a:Addr}{s:ax}(h:cQ c H a s)(m:au H H'):cQ c H' a s:=by
 obtain⟨dx,wa,h1,h2⟩:=h;exact⟨dx,wa,m _ _ h1,m _ _ h2⟩
structure Wf(n:Nat)(s:ax):Prop where
 len:s.a.length=n
 words: ∀x∈s.a,x<65536
 last:s.b<65536
 bound:s.bound<=32768
inductive vB(c:Cs)(vs:List V)(H:Hp)(Q:VK)(E:XK):Prop
 |mk (p dx wa:Addr) (s:ax):vs=[.ref p,.ref wa,.int (s.b:Int),.int (s.bound:Int)]->H p=some (.ins c.Seal dx [])->H wa=some (.lst (iv s.a))->(∀H',cQ c H' p s->cg p H H'->Q .fC H')->vB c vs H Q E
theorem nE(T:Txt K mg c):Maker P w K mg base "Seal" c.Seal 1 ["self","words","last","bound"] (vB c):=by
 exists T.nE.ok T.OJ ["self","words","last","bound"]
 ·obtain⟨p,dx,wa,s,rfl,hp,ha,q⟩:=h;refine⟨_,(aj (dw (pv 0) (pv 1) rfl)
   (aj (dw (pv 0) (pv 2) rfl)
   (aq (dw (pv 0) (pv 3) rfl)))),?_⟩
  refine⟨_,rfl,_,rfl,p,c.Seal,dx,_,rfl,hp,T.fI,T.gk,(by show 0<1000;decide),?_⟩;refine⟨_,rfl,_,rfl,p,c.Seal,dx,_,rfl,ak,T.fI,T.iG,(by show 1<1000;decide),?_⟩;rw[dG];refine⟨_,rfl,_,rfl,p,c.Seal,dx,_,rfl,ak,T.fI,T.gm,(by show 2<1000;decide),?_⟩;rw[dG];refine q _ ⟨dx,wa,ak,?_⟩ cg.upd;rw[aJ (jw ha hp (by intro z;cases z))];exact ha
inductive x8(c:Cs)(K:ab)(vs:List V)(H:Hp)(Q:VK)(E:XK):Prop
 |mk (a b:Addr) (s:ax) (x:bp) (n:Nat):vs=[.ref a,.ref b]->cQ c H a s->Wf n s->n<=4->bw K H b (iv x.s)->x.s.length=n->(∀H',au H H'->Q (.int ((IA x s:Nat):Int)) H')->x8 c K vs H Q E
def yp(T:Txt K mg c):Callee P w K mg base "phase_of" 2 ["seal","bits"] (x8 c K):=by
 exists T.JT.ok ["seal","bits"]
 ·obtain⟨a,b,s,x,n,rfl,⟨dx,wa,h1,h2⟩,hw,hn,hb,hx,q⟩:=h;refine⟨_,(aq (az (aM eW (aM ik (fld K (pv 0)) (aF (w9 T) hr (aa (fld K (pv 0)) (aa (pv 1) ai)))) (qg T.og)))),?_⟩;have hl:=hw.len;refine⟨_,rfl,a,c.Seal,dx,_,_,rfl,h1,T.fI,T.iG,rfl,_,rfl,a,c.Seal,dx,_,_,rfl,h1,T.fI,T.gk,rfl,_,rfl,wa,b,s.a,x.s,rfl,bw.of h2,hb,by omega,by omega,hw.words,λH' hs=>⟨_,_,rfl,rfl,_,_,rfl,rfl,(by show(0:Int)<65536;decide),?_⟩⟩;have q':=q H' hs;unfold IA at q';rw[jX] at q';exact q'
inductive Du(c:Cs)(K:ab)(vs:List V)(H:Hp)(Q:VK)(E:XK):Prop
 |mk (fa b a:Addr) (f:aB) (s:ax) (x:bp):vs=[.ref fa,.ref b,.ref a]->dU c K H fa f->Small f->cQ c H a s->Wf f.n s->bw K H b (iv x.s)->x.s.length=f.n->(∀H',au H H'->Q (.int ((FX f x s:Nat):Int)) H')->Du c K vs H Q E
def step_pos{f:aB}(h:Small f):4096<=f.step/\f.step<=16384:=by
 unfold Wqarav.Form.step;rcases h.p with e|e|e <;> rw[e] <;> decide
def LN(T:Txt K mg c):Callee P w K mg base "opened" 3 ["form","bits","seal"] (Du c K):=by
 exists T.Pf.ok ["form","bits","seal"]
 ·obtain⟨fa,b,a,f,s,x,rfl,hF,hg,hs,hw,hb,hx,q⟩:=h;refine⟨_,(aq (az (aM eW (aM eX (aM cz (aF (yp T) hr (aa (pv 2) (aa (pv 1) ai))) (aM eX (fld K (pv 0)) ay)) (fld K (pv 0))) (aM cP ay (fld K (pv 0)))))),?_⟩;have st:=step_pos hg;have z1:=hg.p2;have z2:=hg.n4;refine⟨_,rfl,_,rfl,a,b,s,x,f.n,rfl,hs,hw,z2,hb,hx,λH' sm=> ?_⟩;obtain⟨dx,na,hf,hn⟩:=hF.mono sm;refine⟨_,rfl,fa,c.Form,dx,_,_,rfl,hf,T.bc,T.gg,rfl,_,_,rfl,rfl,⟨by decide,by decide⟩,_,_,rfl,rfl,_,rfl,fa,c.Form,dx,_,_,rfl,hf,T.bc,T.gg,rfl,_,_,rfl,rfl,⟨by omega,by omega⟩,_,rfl,fa,c.Form,dx,_,_,rfl,hf,T.bc,T.eY,rfl,_,_,rfl,rfl,.inl ⟨by decide,by decide⟩,_,_,rfl,rfl,(by show(0:Int)<2*(f.p:Int);omega),?_⟩;have q':=q H' sm;unfold FX at q';rw[dn,cu,bh,cu,bf] at q';exact q'
inductive Dx(c:Cs)(K:ab)(vs:List V)(H:Hp)(Q:VK)(E:XK):Prop
 |mk (fa b a:Addr) (f:aB) (s:ax) (x:bp) (j:Nat):vs=[.ref fa,.ref b,.ref a,.int (j:Int)]->dU c K H fa f->Small f->cQ c H a s->Wf f.n s->bw K H b (iv x.s)->x.s.length=f.n->(∀H',au H H'->Q (.int (Wqarav.off f x s j)) H')->Dx c K vs H Q E
def LO(T:Txt K mg c):Callee P w K mg base "off_by" 3 ["form","bits","seal","number"] (Dx c K):=by
 exists T.Pg.ok ["form","bits","seal","number"]
 ·obtain⟨fa,b,a,f,s,x,j,rfl,hF,hg,hs,hw,hb,hx,q⟩:=h;refine⟨_,(aq (az (aF (LL T) hr (aa (aM eW (aM ik (aF (yp T) hr (aa (pv 2) (aa (pv 1) ai))) (aM cP (pv 3) (fld K (pv 0)))) (qg T.og)) ai)))),?_⟩;have st:=step_pos hg;have z2:=hg.n4;refine⟨_,rfl,_,rfl,a,b,s,x,f.n,rfl,hs,hw,z2,hb,hx,λH' sm=> ?_⟩;obtain⟨dx,na,hf,hn⟩:=hF.mono sm;refine⟨_,rfl,_,rfl,fa,c.Form,dx,_,_,rfl,hf,T.bc,T.gg,rfl,_,_,rfl,rfl,.inr ⟨by omega,by omega⟩,_,_,rfl,rfl,_,_,rfl,rfl,(by show(0:Int)<65536;decide),?_⟩;refine⟨Wqarav.word (((IA x s:Nat):Int)-((j*f.step:Nat):Int)),?_,q H' sm⟩;rw[jX,bf];rfl
inductive tX(c:Cs)(vs:List V)(H:Hp)(Q:VK)(E:XK):Prop
 |mk (a:Addr) (s:ax) (n:Nat):vs=[.ref a]->cQ c H a s->Wf n s->n<=4->(∀(p:Addr) (H':Hp),au H H'->H p=none->H' p=some (.lst (iv (iz s)))->Q (.ref p) H')->tX c vs H Q E
def Ck(T:Txt K mg c):Callee P w K mg base "seal_bytes" 3 ["seal"] (tX c):=by
 exists T.Fe.ok ["seal"]
 ·obtain⟨a,s,n,rfl,⟨dx,wa,h1,h2⟩,hw,hn,q⟩:=h;refine⟨_,(aq (az (aF (iL T) hr (aa (aM ku (fld K (pv 0)) (cx (aa (fld K (pv 0)) ai))) (aa ay ai))))),?_⟩;have hl:=hw.len;have big:=bI;refine⟨_,rfl,a,c.Seal,dx,_,_,rfl,h1,T.fI,T.gk,rfl,_,rfl,a,c.Seal,dx,_,_,rfl,h1,T.fI,T.iG,rfl,(by show 1<=sizeLine;omega),λp0 CD=>⟨wa,p0,_,_,rfl,rfl,au.new CD _ _ h2,ak,(by rw[bR,hl];show n + 1<=sizeLine;omega),λp1 xq=> ?_⟩⟩;have e:iv s.a++[V.int (s.b:Int)]=iv (s.a++[s.b]):=by rw[iv,iv,bF];rfl
  refine⟨p1,s.a++[s.b],2,rfl,bw.of (by rw[ak,e]),by omega,by simp;omega,λp H' sm hp F9=>q p H' ((au.gv (au.new CD) xq).trans sm) (au.free (au.gv (au.new CD) xq) hp) F9⟩
def mask(l:Addr)(H:Hp):Hp:=λb=>if b=l then none else H b
def nG(l:Addr)(H:Hp):mask l H l=none:=by unfold mask;rw[if_pos rfl]
def fA{l b:Addr}{H:Hp}(h:b≠l):mask l H b=H b:=by unfold mask;rw[if_neg h]
def mv(l:Addr)(H:Hp):au (mask l H) H:=λb o e=>by
 unfold mask at e;by_cases h:b=l
 ·rw[if_pos h] at e;cases e
 ·rw[if_neg h] at e;exact e
def mn{H0 H:Hp}{l:Addr}(s:au H0 H)(h:H0 l=none):au H0 (mask l H):=λb o e=>by
 rw[fA (aO e h)];exact s b o e
def jQ(n y:Nat):List Nat:=(List.range n).map λi=>bJ (aV 2 (Sb.jc (2*i) y))
def sj(n y:Nat):(bD 2 n (aV (2*n + 1) y)).map bJ=jQ n y:=by
 rw[Sb.oF 2 n (2*n + 1) y (by omega),bP];rfl
def jP(n y:Nat):(jQ n y).length=n:=by simp[jQ]
def Rg(y:Nat):bJ (aV 2 y)<65536:=by
 have h:=Sb.Jw (l:=aV 2 y) (Sb.JC 2 y);rw[Sb.eM] at h;exact h
def si(n y:Nat): ∀x∈jQ n y,x<65536:=λx h=>by
 obtain⟨i,_,rfl⟩:=aQ.mp h;exact Rg _
def DV(m y:Nat):(aV (m + 1) y).getD m 0=lb y m:=by
 rw[Sb.DU,ae,dN (by rw[Sb.eM];exact aE _),Sb.eM,lu,IV,iA,lb]
inductive x9(c:Cs)(K:ab)(vs:List V)(H:Hp)(Q:VK)(E:XK):Prop
 |mk (H0:Hp) (fa ba l:Addr) (f:aB) (x:bp) (j y:Nat):vs=[.ref fa,.ref ba,.int (j:Int),.ref l]->au H0 H->H0 l=none->dU c K H0 fa f->Small f->bw K H0 ba (iv x.s)->x.s.length=f.n->dy c H l y->(∀(p:Addr) (H':Hp),au H0 H'->H0 p=none->cQ c H' p (iO f x j (aV (2*f.n + 1) y))->Q (.ref p) H')->x9 c K vs H Q E
def G3(T:Txt K mg c):Callee P w K mg base "new_seal" 4 ["form","bits","number","luck"] (x9 c K):=by
 exists T.JV.ok ["form","bits","number","luck","words","place","error","last"]
 ·obtain⟨H0,fa,ba,l,f,x,j,y,rfl,s0,zB,hF,hg,hb,hx,hL,q⟩:=h;have big:=bI;have z1:=hg.n4;have z2:=hg.noise;have st:=step_pos hg;refine⟨_,(aj (iK (i:=4) rfl nd rfl rfl (jH rfl rfl rfl rfl) (fh rfl T.gj (aa (fld K (pv 0)) ai)) (own:=[("place",5)]) (cn rfl) (λ_ _ _ _ _=>(qn 5 nd)) (λ_ _ _ _ _=>cO) (λ_ _ _ _ _=>(yj (mK T) hr (pv 3) (aa ay ai))))
   (aj (bS 6 nd (aF (uO T) hr (aa (EK (l7 T) hr (pv 3)) (aa (fld K (pv 0)) ai))))
   (aj (bS 7 nd (aM eW (aM cz (aM cz (aF (w9 T) hr (aa (pv 4) (aa (pv 1) ai))) (pv 6)) (aM cP (pv 2) (fld K (pv 0)))) (qg T.og)))
   (aq (az (i6 (nE T) hr (aa (pv 4) (aa (pv 7) (aa (fld K (pv 0)) ai))))))))),?_⟩
  obtain⟨dx,na,hf,hn⟩:=hF.mono s0;refine⟨_,rfl,fa,c.Form,dx,_,_,rfl,hf,T.bc,T.dj,rfl,(f.n:Int),rfl,by omega,by omega,?_⟩;rw[bb];refine kW (i:=5) (λn=>V.int ((bJ (aV 2 (Sb.jc (2*n) y)):Nat):Int)) (λn H'=>dy c H' l (Sb.jc (2*n) y)/\cg l H H') (by omega) ⟨by rw[lx,Sb.uE];exact hL,λ_ _ e _=>e⟩ (λn H' D o h hD=> ?_) (λn H' Q' hn h k=> ?_) (λD H1 hD h1 Mn=> ?_)
  ·obtain⟨⟨dl,h1⟩,h2⟩:=h;exact⟨⟨dl,by rw[aJ (λz=>hL.ne' hD z.symm)];exact h1⟩,λb o e hb=>by rw[aJ (aO e hD)];exact h2 b o e hb⟩
  ·obtain⟨⟨dl,h1⟩,h2⟩:=h;refine⟨_,rfl,l,dl,_,rfl,h1,iN _ (by decide +kernel),l,_,2,rfl,⟨dl,h1⟩,by omega,λH4 a4 k4=>k H4 ⟨?_,λb o e hb=>k4 b o (h2 b o e hb) hb⟩ λD acc hD e=>k4 D _ e (hL.ne' hD)⟩;rw[gB,Sb.mf];exact a4
  ·obtain⟨⟨dl,yZ⟩,Nd⟩:=h1;have hw:H1 D=some (.lst (iv (jQ f.n y))):=by
    rw[Mn,jQ,iv,bP];rfl
   have s1:au H0 H1:=au.but s0 zB Nd;have Gb:D≠l:=λz=>by rw[z,yZ] at hw;cases hw
   refine⟨_,rfl,l,dl,_,rfl,yZ,iN _ (by decide +kernel),l,_,rfl,⟨dl,yZ⟩,λH2 a2 k2=> ?_⟩;have s2:au H0 H2:=au.but s1 zB k2;have US:=k2 _ _ hw Gb;obtain⟨Yd,na2,U7,_⟩:=hF.mono s2;refine⟨_,rfl,fa,c.Form,Yd,_,_,rfl,U7,T.bc,T.gp,rfl,lb y (2*f.n),f.noise,rfl,by omega,?_⟩;refine⟨_,rfl,_,rfl,D,ba,jQ f.n y,x.s,rfl,bw.of US,s2.seq hb,by rw[jP,hx],by rw[jP];omega,si _ _,λH3 s3=> ?_⟩;have t3:au H0 H3:=s2.trans s3;obtain⟨RY,na3,V4,_⟩:=hF.mono t3;refine⟨_,rfl,_,_,rfl,rfl,_,rfl,_,rfl,fa,c.Form,RY,_,_,rfl,V4,T.bc,T.gg,rfl,_,_,rfl,rfl,.inr ⟨by omega,by omega⟩,_,_,rfl,rfl,_,_,rfl,rfl,(by show(0:Int)<65536;decide),?_⟩;refine⟨_,rfl,_,rfl,_,rfl,fa,c.Form,RY,_,_,rfl,V4,T.bc,T.gp,rfl,λp dp np Ou ne=> ?_⟩;have RD:=s3 _ _ US;have e1:(iO f x j (aV (2*f.n + 1) y)).a=jQ f.n y:=sj f.n y;have e2:(((qF (jQ f.n y) x.s:Nat):Int)+(((lb y (2*f.n)%(2*f.noise + 1):Nat):Int)-(f.noise:Int))+(j:Int)*(f.step:Int))% 65536=(((iO f x j (aV (2*f.n + 1) y)).b:Nat):Int):=by
    unfold iO;simp only[];rw[sj,DV,jX,bf];rfl
   refine⟨p,dp,D,iO f x j (aV (2*f.n + 1) y),?_,ak,?_,λH4 hS hk=>⟨rfl,?_⟩⟩
   ·(try dsimp only)
    rw[e2];rfl
   ·rw[aJ (aO RD np),aJ (aO RD Ou),e1];exact RD
   ·exact q p H4 (t3.trans (au.made np Ou hk)) (t3.free np) hS
def ZE(ba za:Addr):List (Str×V):=[("bits",.ref ba),("polynomial",.ref za)]
inductive jD(c:Cs)(H:Hp)(a:Addr)(x:bp):Prop
 |mk (dx ba za:Addr):H a=some (.ins c.gz dx (ZE ba za))->H ba=some (.lst (iv x.s))->H za=some (.lst (ii x.z))->jD c H a x
def jD.mono{c:Cs}{H H':Hp}{a:Addr}{x:bp}(h:jD c H a x)(m:au H H'):jD c H' a x:=by
 obtain⟨dx,ba,za,h1,h2,h3⟩:=h;exact⟨dx,ba,za,m _ _ h1,m _ _ h2,m _ _ h3⟩
inductive qi(c:Cs)(vs:List V)(H:Hp)(Q:VK)(E:XK):Prop
 |mk (p dx ba za:Addr) (x:bp):vs=[.ref p,.ref ba,.ref za]->H p=some (.ins c.gz dx [])->H ba=some (.lst (iv x.s))->H za=some (.lst (ii x.z))->(∀H',jD c H' p x->cg p H H'->Q .fC H')->qi c vs H Q E
theorem pz(T:Txt K mg c):Maker P w K mg base "Secrets" c.gz 1 ["self","bits","polynomial"] (qi c):=by
 exists T.pz.ok T.DX ["self","bits","polynomial"]
 ·obtain⟨p,dx,ba,za,x,rfl,hp,hb,hz,q⟩:=h;refine⟨_,(aj (dw (pv 0) (pv 1) rfl)
   (aq (dw (pv 0) (pv 2) rfl))),?_⟩
  refine⟨_,rfl,_,rfl,p,c.gz,dx,_,rfl,hp,T.g8,T.fY,(by show 0<1000;decide),?_⟩;refine⟨_,rfl,_,rfl,p,c.gz,dx,_,rfl,ak,T.g8,T.gy,(by show 1<1000;decide),?_⟩;rw[dG];refine q _ ⟨dx,ba,za,ak,?_,?_⟩ cg.upd
  ·rw[aJ (jw hb hp (by intro z;cases z))];exact hb
  ·rw[aJ (jw hz hp (by intro z;cases z))];exact hz
def DG{f:Nat->Nat}{l:List Nat}:((List.range l.length).map λn=>V.int ((f (l.getD n 0):Nat):Int))=iv (l.map f):=by
 refine bW (by simp) λn h1 h2=> ?_;have h3:n<l.length:=by simpa using h1
 simp[ae,af h3]
inductive pZ(c:Cs)(K:ab)(vs:List V)(H:Hp)(Q:VK)(E:XK):Prop
 |mk (H0:Hp) (fa l:Addr) (f:aB) (y:Nat):vs=[.ref fa,.ref l]->au H0 H->H0 l=none->dU c K H0 fa f->Small f->dy c H l y->(∀(p:Addr) (H':Hp),au H0 H'->H0 p=none->dy c H' l (Sb.jc (f.n + f.ring) y)->jD c H' p (eG f (aV (Wqarav.need f) y))->p≠l->jD c (mask l H') p (eG f (aV (Wqarav.need f) y))->Q (.ref p) H')->pZ c K vs H Q E
def R9(m y:Nat):iv ((aV m y).map λb=>b % 2)=ii ((aV m y).map λb=>((b % 2:Nat):Int)):=by
 rw[iv,ii,bP,bP];rfl
def yM(T:Txt K mg c):Callee P w K mg base "make_secrets" 3 ["form","luck"] (pZ c K):=by
 exists T.BE.ok ["form","luck","bits","octet","polynomial"]
 ·obtain⟨H0,fa,l,f,y,rfl,s0,zB,hF,hg,hL,q⟩:=h;have big:=bI;have z1:=hg.n4;have z2:=hg.AB;refine⟨_,(aj (iK (i:=2) rfl nd rfl rfl (jH rfl rfl rfl rfl) (sI K (yj (jv T) hr (pv 1) (aa (fld K (pv 0)) ai))) (own:=[("octet",3)]) (cn rfl) (λ_ _ _ _ _=>(qn 3 nd)) (λ_ _ _ _ _=>cO) (λ_ _ _ _ _=>(aM eW (pv 3) ay)))
   (aj (iK (i:=4) rfl nd rfl rfl (jH rfl rfl rfl rfl) (sI K (yj (jv T) hr (pv 1) (aa (fld K (pv 0)) ai))) (own:=[("octet",3)]) (cn rfl) (λ_ _ _ _ _=>(qn 3 nd)) (λ_ _ _ _ _=>cO) (λ_ _ _ _ _=>(aM eW (pv 3) ay)))
   (aq (az (i6 (pz T) hr (aa (pv 2) (aa (pv 4) ai))))))),?_⟩
  obtain⟨dx,na,hf,hn⟩:=hF.mono s0;obtain⟨dl,hl⟩:=id hL;refine⟨_,rfl,l,dl,_,rfl,hl,iN _ (by decide +kernel),_,rfl,fa,c.Form,dx,_,_,rfl,hf,T.bc,T.dj,rfl,l,y,f.n,rfl,hL,by omega,λp1 H1 a1 k1 KL xq=>⟨p1,rfl,⟨_,bw.of xq⟩,?_⟩⟩;have s1:au H0 H1:=au.but s0 zB k1;refine ff (K:=K) (a:=p1) (xs:=iv (aV f.n y)) (i:=3) (λn=>V.int (((aV f.n y).getD n 0 % 2:Nat):Int)) (λ_ H2=>au H1 H2) (by rw[bR,Sb.eM];omega) (au.refl H1) (λ_ H2 D o h hD=>au.at' h hD) (λ_ H2 _ h=>h.seq (bw.of xq)) (λn x H2 Q' hx fX k=> ?_) (λD H2 wN fX hD=> ?_)
  ·obtain⟨m,hm,rfl⟩:=jT hx;have em:(aV f.n y).getD n 0=m:=by rw[ae,hm,iA]
   have k1:=k H2 fX λ_ _ _ e=>e;rw[em,dn] at k1;exact⟨_,rfl,_,_,rfl,rfl,(by show(0:Int)<2;decide),k1⟩
  rw[bR,DG (f:=λb=>b % 2)] at hD;have s2:au H0 H2:=s1.trans fX;have a2:dy c H2 l (Sb.jc f.n y):=a1.mono fX;obtain⟨dl2,K2⟩:=id a2;obtain⟨Yd,na2,U7,_⟩:=hF.mono s2;refine⟨_,rfl,l,dl2,_,rfl,K2,iN _ (by decide +kernel),_,rfl,fa,c.Form,Yd,_,_,rfl,U7,T.bc,T.b9,rfl,l,_,f.ring,rfl,a2,by omega,λp3 H3 a3 k3 SM JG=>⟨p3,rfl,⟨_,bw.of JG⟩,?_⟩⟩;have s3:au H0 H3:=au.but s2 zB k3;have Tf:=k3 _ _ hD (a2.ne hD);refine ff (K:=K) (a:=p3) (xs:=iv (aV f.ring (Sb.jc f.n y))) (i:=3) (λn=>V.int (((aV f.ring (Sb.jc f.n y)).getD n 0 % 2:Nat):Int)) (λ_ H4=>au H3 H4) (by rw[bR,Sb.eM];omega) (au.refl H3) (λ_ H4 D o h hD=>au.at' h hD) (λ_ H4 _ h=>h.seq (bw.of JG)) (λn x H4 Q' hx UW k=> ?_) (λD4 H4 afJ UW Mm=> ?_)
  ·obtain⟨m,hm,rfl⟩:=jT hx;have em:(aV f.ring (Sb.jc f.n y)).getD n 0=m:=by rw[ae,hm,iA]
   have k1:=k H4 UW λ_ _ _ e=>e;rw[em,dn] at k1;exact⟨_,rfl,_,_,rfl,rfl,(by show(0:Int)<2;decide),k1⟩
  rw[bR,DG (f:=λb=>b % 2),R9] at Mm;have s4:au H0 H4:=s3.trans UW;have a4:dy c H4 l (Sb.jc f.ring (Sb.jc f.n y)):=a3.mono UW;have hD5:=UW _ _ Tf;refine⟨_,rfl,_,rfl,λp dp np Ou ne=> ?_⟩;have pne: ∀b o,H4 b=some o->(upd (upd H4 dp (.own p)) p (.ins c.gz dp [])) b=some o:=λb o e=>by
   rw[aJ (aO e np),aJ (aO e Ou)];exact e
  refine⟨p,dp,D,D4,eG f (aV (Wqarav.need f) y),rfl,ak,pne _ _ (by rw[Sb.Aq];exact hD5),pne _ _ (by rw[Sb.vH];exact Mm),λH5 hS hk=>⟨rfl,?_⟩⟩;have s5:au H4 H5:=au.made np Ou hk;have a5:dy c H5 l (Sb.jc (f.n + f.ring) y):=by rw[Sb.mf];exact a4.mono s5
  have m5:p≠l:=a4.ne' np;refine q p H5 (s4.trans s5) (s4.free np) a5 hS m5 ?_;obtain⟨d1,b1,z1,g1,g2,g3⟩:=hS;exact⟨d1,b1,z1,by rw[fA m5];exact g1,by rw[fA (a5.ne g2)];exact g2,by rw[fA (a5.ne g3)];exact g3⟩
noncomputable def NY(f:aB)(x:bp)(y:Nat)(lift:Int):fJ:=
 ⟨jQ f.n y,Wqarav.word (((qF (jQ f.n y) x.s:Nat):Int)+(((lb y (2*f.n)%(2*f.noise + 1):Nat):Int)-(f.noise:Int))+ lift)⟩
inductive yc(c:Cs)(K:ab)(vs:List V)(H:Hp)(Q:VK)(E:XK):Prop
 |mk (H0:Hp) (fa sa l:Addr) (f:aB) (x:bp) (y:Nat) (lift:Int):vs=[.ref fa,.ref sa,.ref l,.int lift]->au H0 H->H0 l=none->dU c K H0 fa f->Small f->jD c H0 sa x->x.s.length=f.n->dy c H l y->(∀(p:Addr) (H':Hp),au H0 H'->H0 p=none->p≠l->dy c H' l (Sb.jc (2*f.n + 1) y)->H' p=some (.lst (iv ((NY f x y lift).a++[(NY f x y lift).b])))->Q (.ref p) H')->yc c K vs H Q E
def G4(T:Txt K mg c):Callee P w K mg base "make_row" 4 ["form","secrets","luck","lift"] (yc c K):=by
 exists T.JW.ok ["form","secrets","luck","lift","words","place","error"]
 ·obtain⟨H0,fa,sa,l,f,x,y,lift,rfl,s0,zB,hF,hg,hS,hx,hL,q⟩:=h;have big:=bI;have z1:=hg.n4;have z2:=hg.noise;refine⟨_,(aj (iK (i:=4) rfl nd rfl rfl (jH rfl rfl rfl rfl) (fh rfl T.gj (aa (fld K (pv 0)) ai)) (own:=[("place",5)]) (cn rfl) (λ_ _ _ _ _=>(qn 5 nd)) (λ_ _ _ _ _=>cO) (λ_ _ _ _ _=>(yj (mK T) hr (pv 2) (aa ay ai))))
   (aj (bS 6 nd (aF (uO T) hr (aa (EK (l7 T) hr (pv 2)) (aa (fld K (pv 0)) ai))))
   (aq (az (aM ku (pv 4) (cx (aa (aM eW (aM cz (aM cz (aF (w9 T) hr (aa (pv 4) (aa (fld K (pv 1)) ai))) (pv 6)) (pv 3)) (qg T.og)) ai))))))),?_⟩
  obtain⟨dx,na,hf,hn⟩:=hF.mono s0;refine⟨_,rfl,fa,c.Form,dx,_,_,rfl,hf,T.bc,T.dj,rfl,(f.n:Int),rfl,by omega,by omega,?_⟩;rw[bb];refine kW (i:=5) (λn=>V.int ((bJ (aV 2 (Sb.jc (2*n) y)):Nat):Int)) (λn H'=>dy c H' l (Sb.jc (2*n) y)/\cg l H H') (by omega) ⟨by rw[lx,Sb.uE];exact hL,λ_ _ e _=>e⟩ (λn H' D o h hD=> ?_) (λn H' Q' hn h k=> ?_) (λD H1 hD h1 Mn=> ?_)
  ·obtain⟨⟨dl,h1⟩,h2⟩:=h;exact⟨⟨dl,by rw[aJ (λz=>hL.ne' hD z.symm)];exact h1⟩,λb o e hb=>by rw[aJ (aO e hD)];exact h2 b o e hb⟩
  ·obtain⟨⟨dl,h1⟩,h2⟩:=h;refine⟨_,rfl,l,dl,_,rfl,h1,iN _ (by decide +kernel),l,_,2,rfl,⟨dl,h1⟩,by omega,λH4 a4 k4=>k H4 ⟨?_,λb o e hb=>k4 b o (h2 b o e hb) hb⟩ λD acc hD e=>k4 D _ e (hL.ne' hD)⟩;rw[gB,Sb.mf];exact a4
  ·obtain⟨⟨dl,yZ⟩,Nd⟩:=h1;have hw:H1 D=some (.lst (iv (jQ f.n y))):=by
    rw[Mn,jQ,iv,bP];rfl
   have s1:au H0 H1:=au.but s0 zB Nd;have Gb:D≠l:=λz=>by rw[z,yZ] at hw;cases hw
   refine⟨_,rfl,l,dl,_,rfl,yZ,iN _ (by decide +kernel),l,_,rfl,⟨dl,yZ⟩,λH2 a2 k2=> ?_⟩;have s2:au H0 H2:=au.but s1 zB k2;have US:=k2 _ _ hw Gb;obtain⟨Yd,na2,U7,_⟩:=hF.mono s2;obtain⟨ds,ba,za,g1,g2,g3⟩:=hS.mono s2;refine⟨_,rfl,fa,c.Form,Yd,_,_,rfl,U7,T.bc,T.gp,rfl,lb y (2*f.n),f.noise,rfl,by omega,?_⟩;refine⟨_,rfl,_,rfl,_,rfl,sa,c.gz,ds,_,_,rfl,g1,T.g8,T.fY,rfl,D,ba,jQ f.n y,x.s,rfl,bw.of US,bw.of g2,by rw[jP,hx],by rw[jP];omega,si _ _,λH3 s3=> ?_⟩;have t3:au H0 H3:=s2.trans s3;refine⟨_,rfl,_,_,rfl,rfl,_,rfl,_,_,rfl,rfl,_,_,rfl,rfl,(by show(0:Int)<65536;decide),(by show 1<=sizeLine;omega),λp0 kK=> ?_⟩;have RD:=s3 _ _ US;have a3:dy c H3 l (Sb.jc (2*f.n + 1) y):=by
    rw[Sb.B8];exact a2.mono s3
   refine⟨D,p0,_,_,rfl,rfl,au.new kK _ _ RD,ak,(by rw[bR,jP];show f.n + 1<=sizeLine;omega),λp1 KL=> ?_⟩;refine q p1 _ (t3.trans (au.gv (au.new kK) KL)) (t3.free (au.free (au.new kK) KL)) (a3.ne' (au.free (au.new kK) KL)) (a3.mono (au.gv (au.new kK) KL)) ?_;rw[ak];unfold NY;dsimp only;rw[<-jX,iv,iv,bF];rfl
inductive dS{α:Type}(H:Hp)(R:Addr)(S:Hp->Addr->α->Prop)(l:List α):Prop
 |mk (ts:List Addr):H R=some (.lst (ts.map V.ref))->Paired (λt r=>S H t r) ts l->dS H R S l
def dS.mono{α:Type}{H H':Hp}{R:Addr}{S:Hp->Addr->α->Prop}{l:List α}(hS: ∀H H' t r,S H t r->au H H'->S H' t r)(h:dS H R S l)(m:au H H'):dS H' R S l:=by
 obtain⟨ts,h1,h2⟩:=h;exact⟨ts,m _ _ h1,Paired.ja h2 λt r q=>hS _ _ _ _ q m⟩
def newOf(H0 H':Hp):Hp:=λb=>if H0 b=none then H' b else none
def lE{H0 H':Hp}{b:Addr}(h:H0 b=none):newOf H0 H' b=H' b:=by unfold newOf;rw[if_pos h]
structure pO{α:Type}(c:Cs)(H0:Hp)(l R:Addr)(S:Hp->Addr->α->Prop)(items:List α)(y:Nat)(H:Hp):Prop where
 same:au H0 H
 ne:R≠l
 r0:H0 R=none
 luck:dy c H l y
 objs: ∃ts:List Addr,H R=some (.lst (ts.map V.ref))/\Paired (λt r=>S (mask R (mask l H)) t r) ts items
def pO.step{α:Type}{c:Cs}{H0 H H':Hp}{l R p:Addr}{S:Hp->Addr->α->Prop}{items:List α}{r:α}{y y':Nat}(hS: ∀H H' t r,S H t r->au H H'->S H' t r)(G:pO c H0 l R S items y H)(zB:H0 l=none)
  (m:au (mask l H) H') (hL:dy c H' l y') (hp:S (mask l (newOf (mask l H) H')) p r) (hn:items.length<sizeLine):
  ∃xs:List V,H' R=some (.lst xs)/\xs.length<sizeLine/\pO c H0 l R S (items++[r]) y' (upd H' R (.lst (xs++[V.ref p]))):=by
 obtain⟨ts,h1,h2⟩:=G.objs;have hR:mask l H R=some (.lst (ts.map V.ref)):=by rw[fA G.ne];exact h1
 have up:au (mask R (mask l H)) (mask R (mask l (upd H' R (.lst (ts.map V.ref++[V.ref p]))))):=λb o e=>by
  have hb:b≠R:=λz=>by rw[z,nG] at e;cases e
  rw[fA hb] at e ⊢;have RM:b≠l:=λz=>by rw[z,nG] at e;cases e
  rw[fA RM,aJ hb];exact m b o e
 have up2:au (mask l (newOf (mask l H) H')) (mask R (mask l (upd H' R (.lst (ts.map V.ref++[V.ref p]))))):=λb o e=>by
  have RM:b≠l:=λz=>by rw[z,nG] at e;cases e
  rw[fA RM] at e;have V9:mask l H b=none:=by
   cases q:mask l H b with
   |none=>rfl
   |some u=>unfold newOf at e;rw[if_neg (by rw[q];exact λz=>nomatch z)] at e;cases e
  rw[lE V9] at e;have hb:b≠R:=λz=>by rw[z,hR] at V9;cases V9
  rw[fA hb,fA RM,aJ hb];exact e
 refine⟨ts.map V.ref,m _ _ hR,by rw[ag,Paired.length h2];exact hn,?_,G.ne,G.r0,?_,ts++[p],?_,?_⟩
 ·exact au.at' ((mn G.same zB).trans m) G.r0
 ·obtain⟨dl,q⟩:=hL;exact⟨dl,by rw[aJ (bG G.ne)];exact q⟩
 ·rw[ak,bF];rfl
 ·exact Paired.snoc (Paired.ja h2 λt r q=>hS _ _ _ _ q up) (hS _ _ _ _ hp up2)
def pO.start{α:Type}{c:Cs}{H0 H:Hp}{l R:Addr}{S:Hp->Addr->α->Prop}{y:Nat}(s:au H0 H)(hR:H R=none)(hL:dy c H l y):pO c H0 l R S [] y (upd H R (.lst [])):=
 ⟨au.gv s hR,hL.ne' hR,s.free hR,hL.mono (au.new hR),[],ak,.nil⟩
def mT(H:Hp)(t:Addr)(r:fJ):Prop:=H t=some (.lst (iv (r.a++[r.b])))
def mT.mono(H H':Hp)(t:Addr)(r:fJ)(h:mT H t r)(m:au H H'):mT H' t r:=m _ _ h
def KR(f:aB)(x:bp)(t:Nat):Int:=x.z.getD (t / f.kdigits) 0*2^(16 - f.kwidth*(t % f.kdigits + 1))
def EJ(f:aB)(x:bp)(y t:Nat):fJ:=NY f x (Sb.jc ((2*f.n + 1)*t) y) (KR f x t)
def QN(f:aB)(x:bp)(y t:Nat):Nk f x t (aV (2*f.n + 1) (Sb.jc ((2*f.n + 1)*t) y))=EJ f x y t:=by
 unfold Nk EJ NY KR De;simp only[];rw[sj,DV]
def div_add{a b k:Nat}(h:k<b):(a*b + k)/ b=a/\(a*b + k)% b=k:=by
 have hb:0<b:=by omega
 rw[cj,Nat.mul_add_div hb,Nat.div_eq_of_lt h,Nat.mul_add_mod,TM h];exact⟨rfl,rfl⟩
inductive vp(c:Cs)(K:ab)(vs:List V)(H:Hp)(Q:VK)(E:XK):Prop
 |mk (H0:Hp) (fa sa l:Addr) (f:aB) (x:bp) (y:Nat):vs=[.ref fa,.ref sa,.ref l]->au H0 H->H0 l=none->dU c K H0 fa f->Good f->jD c H0 sa x->x.s.length=f.n->x.z.length=f.ring->(∀v∈x.z,v=0\/v=1)->dy c H l y->(∀(p:Addr) (H':Hp),pO c H0 l p mT ((List.range (f.ring*f.kdigits)).map (EJ f x y)) (Sb.jc ((2*f.n + 1)*(f.ring*f.kdigits)) y) H'->Q (.ref p) H')->vp c K vs H Q E
def Az{α:Type}(g:Nat->α)(n:Nat):(List.range (n + 1)).map g=(List.range n).map g++[g n]:=by
 rw[tF,bF];rfl
def EV(T:Txt K mg c):Callee P w K mg base "make_rows" 5 ["form","secrets","luck"] (vp c K):=by
 exists T.HL.ok ["form","secrets","luck","rows","number","digit","lift"]
 ·obtain⟨H0,fa,sa,l,f,x,y,rfl,s0,zB,hF,hg,hS,hx,hz,Tj,hL,q⟩:=h;have big:=bI;have z1:=hg.AB;have z2:=hg.OO;have z3:=hg.v8;have z4:=hg.kv;refine⟨_,(aj (bS 3 nd (cx ai))
   (aj (fD PassesOwn.never rfl (sI K (fld K (pv 1))) (qn 4 nd) (aq (fD PassesOwn.never rfl (fh rfl T.gj (aa (fld K (pv 0)) ai)) (qn 5 nd) (aj (bS 6 nd (aM n6 (pv 4) (aM ik (qg T.j6) (aM cP (fld K (pv 0)) (aM cz (pv 5) ay)))))
   (aq (fU (kP bH cT cS iR (pv 3) (aa (aF (G4 T) hr (aa (pv 0) (aa (pv 1) (aa (pv 2) (aa (pv 6) ai))))) ai))))))))
   (aq (az (pv 3))))),?_⟩
  refine⟨aC _,λR hR=> ?_⟩;have G0:pO c H0 l R mT ((List.range (0*f.kdigits)).map (EJ f x y)) (Sb.jc ((2*f.n + 1)*(0*f.kdigits)) y) (upd H R (.lst [])):=by
   rw[Ll,lx,Sb.uE];exact pO.start s0 hR hL
  obtain⟨ds,ba,za,g1,g2,g3⟩:=hS;refine⟨_,rfl,sa,c.gz,ds,_,_,rfl,G0.same _ _ g1,T.g8,T.gy,rfl,za,rfl,⟨_,bw.of (G0.same _ _ g3)⟩,?_⟩;refine jb (K:=K) (a:=za) (xs:=ii x.z) (λi σ H'=>pO c H0 l R mT ((List.range (i*f.kdigits)).map (EJ f x y)) (Sb.jc ((2*f.n + 1)*(i*f.kdigits)) y) H'/\ ∃u v o,σ=[some (.ref fa),some (.ref sa),some (.ref l),some (.ref R),u,v,o]) ⟨G0,none,none,none,rfl⟩ (λi σ H' _ h=>bw.of (h.1.same _ _ g3)) (λi yv σ H' hi h=> ?_) (λσ H' h=> ?_)
  ·obtain⟨G,u,v,o,rfl⟩:=h;obtain⟨E8,rfl⟩:=oO hi;have hzi:x.z.getD i 0=0\/x.z.getD i 0=1:=Tj _ (by rw[ae,af E8];exact gH E8);obtain⟨dx,na,hf,_⟩:=hF.mono G.same;refine⟨_,rfl,fa,c.Form,dx,_,_,rfl,hf,T.bc,T.df,rfl,(f.kdigits:Int),rfl,by omega,by omega,?_⟩;rw[bb];refine jj (λk σ H'=>pO c H0 l R mT ((List.range (i*f.kdigits + k)).map (EJ f x y)) (Sb.jc ((2*f.n + 1)*(i*f.kdigits + k)) y) H'/\ ∃v o,σ=[some (.ref fa),some (.ref sa),some (.ref l),some (.ref R),some (.int (x.z.getD i 0)),v,o]) ⟨G,_,_,rfl⟩ (λk σ H' hk h=> ?_) (λσ H' h=> ?_)
   ·obtain⟨G,v,o,rfl⟩:=h;obtain⟨dx,na,hf,_⟩:=hF.mono G.same;obtain⟨dl,hl⟩:=G.luck;have hkb:f.kwidth*(k + 1)<=16:=cH (nh _ (show k + 1<=f.kdigits by omega)) (by rw[cj];exact z4);have e1:(16 -(f.kwidth:Int)*(0 +(k:Int)+ 1))=((16 - f.kwidth*(k + 1):Nat):Int):=by
     rw[tW hkb,bf,bh,gC];rfl
    obtain⟨t1,t2⟩:=div_add (a:=i) hk;refine⟨_,rfl,_,rfl,fa,c.Form,dx,_,_,rfl,hf,T.bc,T.dR,rfl,_,rfl,_,_,rfl,rfl,_,_,rfl,rfl,.inl ⟨by omega,by omega⟩,_,_,rfl,rfl,_,_,rfl,rfl,⟨by rw[e1];omega,by rw[e1];omega,by omega⟩,?_⟩;refine⟨_,rfl,.inl ⟨rfl,_,bw.of (F4 G.objs).1⟩,_,rfl,_,rfl,_,rfl,_,rfl,mask l H',fa,sa,l,f,x,_,_,rfl,mv l H',nG l H',hF.mono (mn G.same zB),hg.toSmall,jD.mono ⟨ds,ba,za,g1,g2,g3⟩ (mn G.same zB),hx,G.luck,λp H2 s2 np m5 hL2 uV=> ?_⟩;have O3:x.z.getD i 0*2^(16 -(f.kwidth:Int)*(0 +(k:Int)+ 1)).toNat=KR f x (i*f.kdigits + k):=by
     rw[e1,bb];unfold KR;rw[t1,t2]
    rw[O3] at uV;obtain⟨xs,x1,x2,x3⟩:=G.step (r:=EJ f x y (i*f.kdigits + k)) (p:=p) mT.mono zB s2 hL2 (by
     show mask l (newOf (mask l H') H2) p=_;rw[fA m5,lE np];exact uV) (by
      rw[ag,dE];have:i*f.kdigits<=32*16:=cN (by omega) z2;omega)
    refine⟨R,xs,_,rfl,rfl,x1,x2,?_,_,_,rfl⟩;rw[<-Az] at x3;rw[<-mj,gB,Sb.mf];exact x3
   ·obtain⟨G,v,o,rfl⟩:=h;refine⟨?_,_,_,_,rfl⟩;rw[jL];exact G
  ·obtain⟨G,u,v,o,rfl⟩:=h;rw[ag,hz] at G;exact⟨_,rfl,q R H' G⟩
def aL(N y:Nat):List Int:=(List.range N).map λj=>((bJ (aV 8 (Sb.jc (8*j) y)):Nat):Int)% 4503599627370496
def eL(f:aB)(y:Nat):List Int:=(aV f.ring (Sb.jc (8*f.ring) y)).map λb=>((b %(2*f.noise + 1):Nat):Int)-(f.noise:Int)
def bL(f:aB)(x:bp)(y:Nat):List Int:=Iu (eE x.z (aL f.ring y)) (eL f y)
def vX(l:List Int)(z:Int):List Int:=l.set 0 ((l.getD 0 0 + z)% 4503599627370496)
def DM(f:aB)(x:bp)(y side:Nat)(z:Int):dZ:=if side=0 then⟨vX (aL f.ring y) z,bL f x y⟩ else⟨aL f.ring y,vX (bL f x y) z⟩
def jV(N y:Nat):(aL N y).length=N:=by simp[aL]
def FC(f:aB)(y:Nat):(eL f y).length=f.ring:=by rw[eL,ag,Sb.eM]
def FO{f:aB}{x:bp}(y:Nat)(h:x.z.length=f.ring):(bL f x y).length=f.ring:=by
 rw[bL,Iu,Np,Sb.fg (by rw[h,jV]),jV,FC];omega
def Vy(N y:Nat): ∀v∈aL N y,v % 4503599627370496=v:=λv h=>by
 obtain⟨j,_,rfl⟩:=aQ.mp h;exact vf _ (Lp _)
def PN(a b:List Int): ∀v∈Iu a b,v % 4503599627370496=v:=λv h=>by
 unfold Iu at h;obtain⟨i,hi,rfl⟩:=wJ h;rw[M8];exact vf _ (Lp _)
def DI{l:List Int}{N:Nat}{z:Int}(hl:l.length=N)(hN:0<N)(hr: ∀v∈l,v % 4503599627370496=v):ki l (z::fR (N - 1))=vX l z:=by
 have hg:(z::fR (N - 1)).length=N:=by rw[bV,Sb.lD];omega
 refine Sb.oQ (by rw[Sb.mD,hl,hg,vX,dO,hl,ly]) λk hk=> ?_;have IJ:k<l.length:=by rw[Sb.mD] at hk;omega
 rw[Sb.oG IJ (by omega),<-jK];cases k with
 |zero=>
  rw[vX,ae (l:=l.set 0 _),dW IJ];rfl
 |succ k=>
  have e1:(z::fR (N - 1)).getD (k + 1) 0=0:=Sb.l9 (N - 1) k;have e2:(vX l z).getD (k + 1) 0=l.getD (k + 1) 0:=by
   rw[vX,ae,dM (by omega),ae]
  rw[e1,e2,Zm];exact hr _ (by rw[ae,af IJ];exact gH IJ)
def Ja{f:aB}{x:bp}{y t:Nat}(hg:Small f)(hz:x.z.length=f.ring):
  PZ f x t (aV (9*f.ring) y)=DM f x y (t / f.digits % 2) (if x.s.getD (t / f.digits / 2) 0=1 then 2^(52 - f.width*(t % f.digits + 1)) else 0):=by
 have h8:=hg.r8;have ea:(bD 8 f.ring (aV (9*f.ring) y)).map (λ(c:Wqarav.Bytes)=>((bJ c:Nat):Int)% gE)=aL f.ring y:=by
  rw[Sb.oF 8 f.ring (9*f.ring) y (by omega),bP,<-jK];rfl
 have ee:(aV (9*f.ring) y).drop (8*f.ring)=aV f.ring (Sb.jc (8*f.ring) y):=by
  rw[Sb.mw (by omega)];congr 1;omega
 have eb:ki (eE (aL f.ring y) x.z) ((aV f.ring (Sb.jc (8*f.ring) y)).map λ(c:Nat)=>De f c % gE)=bL f x y:=by
  rw[bL,Sb.Jd (by rw[jV,hz]),Iu];have hl:(eE x.z (aL f.ring y)).length=f.ring:=by rw[Sb.fg (by rw[hz,jV]),jV]
  refine Sb.oQ (by rw[Sb.mD,Np,ag,FC,Sb.eM]) λk hk=> ?_;have IJ:k<f.ring:=by rw[Sb.mD,hl,ag,Sb.eM,ly] at hk;exact hk
  rw[Sb.oG (by omega) (by rw[ag,Sb.eM];exact IJ),Sb.vg _ (by omega) (by rw[FC];exact IJ),<-jK];have e1:((aV f.ring (Sb.jc (8*f.ring) y)).map λ(c:Nat)=>De f c % 4503599627370496).getD k 0=(eL f y).getD k 0 % 4503599627370496:=by
   have uw:k<(aV f.ring (Sb.jc (8*f.ring) y)).length:=by rw[Sb.eM];exact IJ
   rw[eL,ae,aI,af uw,ae,aI,af uw];rfl
  rw[e1,zR]
 unfold PZ DM;simp only[];rw[ea,ee,eb];by_cases h:t / f.digits % 2=0
 ·rw[if_pos h,if_pos h,DI (jV _ _) (by omega) (Vy _ _)]
 ·rw[if_neg h,if_neg h,DI (FO y hz) (by omega) (PN _ _)]
inductive fP(H:Hp)(t:Addr)(r:dZ):Prop
 |mk (u v:Addr):H t=some (.tup [.ref u,.ref v])->H u=some (.lst (ii r.a))->H v=some (.lst (ii r.b))->fP H t r
def fP.mono(H H':Hp)(t:Addr)(r:dZ)(h:fP H t r)(m:au H H'):fP H' t r:=by
 obtain⟨u,v,h1,h2,h3⟩:=h;exact⟨u,v,m _ _ h1,m _ _ h2,m _ _ h3⟩
def NS(l:List Int)(z:Int):(ii l).set 0 (V.int z)=ii (l.set 0 z):=by rw[ii,ii,List.map_set]
inductive vt(c:Cs)(K:ab)(vs:List V)(H:Hp)(Q:VK)(E:XK):Prop
 |mk (H0:Hp) (fa sa l:Addr) (f:aB) (x:bp) (y side:Nat) (z:Int):vs=[.ref fa,.ref sa,.ref l,.int (side:Int),.int z]->side<2->au H0 H->H0 l=none->dU c K H0 fa f->Small f->jD c H0 sa x->x.z.length=f.ring->(∀v∈x.z,v=0\/v=1)->dy c H l y->(∀(p:Addr) (H':Hp),au H0 H'->dy c H' l (Sb.jc (9*f.ring) y)->fP (mask l (newOf H0 H')) p (DM f x y side z)->Q (.ref p) H')->vt c K vs H Q E
def EX(T:Txt K mg c):Callee P w K mg base "make_pair" 4 ["form","secrets","luck","side","lift"] (vt c K):=by
 exists T.HN.ok ["form","secrets","luck","side","lift","a","place","error","octet","b","pair","lifted"]
 ·obtain⟨H0,fa,sa,l,f,x,y,side,z,rfl,acD,s0,zB,hF,hg,hS,hz,Tj,hL,q⟩:=h;have big:=bI;have z1:=hg.AB;have z2:=hg.noise;have z3:=hg.r8;refine⟨_,(aj (iK (i:=5) rfl nd rfl rfl (jH rfl rfl rfl rfl) (fh rfl T.gj (aa (fld K (pv 0)) ai)) (own:=[("place",6)]) (cn rfl) (λ_ _ _ _ _=>(qn 6 nd)) (λ_ _ _ _ _=>cO) (λ_ _ _ _ _=>(aM eW (yj (mK T) hr (pv 2) (aa ay ai)) (qg T.oh))))
   (aj (iK (i:=7) rfl nd rfl rfl (jH rfl rfl rfl rfl) (sI K (yj (jv T) hr (pv 2) (aa (fld K (pv 0)) ai))) (own:=[("octet",8)]) (cn rfl) (λ_ _ _ _ _=>(qn 8 nd)) (λ_ _ _ _ _=>cO) (λ_ _ _ _ _=>(aF (uO T) hr (aa (pv 8) (aa (fld K (pv 0)) ai)))))
   (aj (bS 9 nd (aF (Be T) hr (aa (aF (uP T) hr (aa (fld K (pv 1)) (aa (pv 5) ai))) (aa (pv 7) ai))))
   (aj (bS 10 nd (nZ (aa (pv 5) (aa (pv 9) ai))))
   (aj (bS 11 nd (Nb K (pv 10) (pv 3)))
   (aj (EL (aM eW (aM cz (gT K (pv 11) ay) (pv 4)) (qg T.oh)) (EO (pv 11) ay set_list))
   (aq (az (pv 10))))))))),?_⟩
  obtain⟨dx,na,hf,hn⟩:=hF.mono s0;refine⟨_,rfl,fa,c.Form,dx,_,_,rfl,hf,T.bc,T.b9,rfl,(f.ring:Int),rfl,by omega,by omega,?_⟩;rw[bb];refine kW (i:=6) (λn=>V.int (((bJ (aV 8 (Sb.jc (8*n) y)):Nat):Int)% 4503599627370496)) (λn H'=>dy c H' l (Sb.jc (8*n) y)/\cg l H H') (by omega) ⟨by rw[lx,Sb.uE];exact hL,λ_ _ e _=>e⟩ (λn H' D o h hD=> ?_) (λn H' Q' hn h k=> ?_) (λD H1 hD h1 Mn=> ?_)
  ·obtain⟨⟨dl,h1⟩,h2⟩:=h;exact⟨⟨dl,by rw[aJ (λz=>hL.ne' hD z.symm)];exact h1⟩,λb o e hb=>by rw[aJ (aO e hD)];exact h2 b o e hb⟩
  ·obtain⟨⟨dl,h1⟩,h2⟩:=h;refine⟨_,rfl,l,dl,_,rfl,h1,iN _ (by decide +kernel),l,_,8,rfl,⟨dl,h1⟩,by omega,λH4 a4 k4=>⟨_,_,rfl,rfl,(by show(0:Int)<4503599627370496;decide),k H4 ⟨?_,λb o e hb=>k4 b o (h2 b o e hb) hb⟩ λD acc hD e=>k4 D _ e (hL.ne' hD)⟩⟩;rw[gB,Sb.mf];exact a4
  obtain⟨a1,Nd⟩:=h1;have hw:H1 D=some (.lst (ii (aL f.ring y))):=by
   rw[Mn,aL,ii,bP];rfl
  have s1:au H0 H1:=au.but s0 zB Nd;have Gb:D≠l:=a1.ne hw;have wN:H0 D=none:=s0.free hD;obtain⟨dl1,yZ⟩:=id a1;obtain⟨Ze,na1,Y7,_⟩:=hF.mono s1;refine⟨_,rfl,l,dl1,_,rfl,yZ,iN _ (by decide +kernel),_,rfl,fa,c.Form,Ze,_,_,rfl,Y7,T.bc,T.b9,rfl,l,_,f.ring,rfl,a1,by omega,λp2 H2 a2 k2 zv uV=>⟨p2,rfl,⟨_,bw.of uV⟩,?_⟩⟩;have s2:au H0 H2:=au.but s1 zB k2;have US:=k2 _ _ hw Gb;refine ff (K:=K) (a:=p2) (xs:=iv (aV f.ring (Sb.jc (8*f.ring) y))) (i:=8) (λn=>V.int ((((aV f.ring (Sb.jc (8*f.ring) y)).getD n 0 %(2*f.noise + 1):Nat):Int)-(f.noise:Int))) (λ_ H3=>au H2 H3) (by rw[bR,Sb.eM];omega) (au.refl H2) (λ_ H3 D o h hD=>au.at' h hD) (λ_ H3 _ h=>h.seq (bw.of uV)) (λn v H3 Q' hx D0 k=> ?_) (λD3 H3 XY D0 Tf=> ?_)
  ·obtain⟨m,hm,rfl⟩:=jT hx;have em:(aV f.ring (Sb.jc (8*f.ring) y)).getD n 0=m:=by rw[ae,hm,iA]
   have k1:=k H3 D0 λ_ _ _ e=>e;rw[em] at k1;obtain⟨RY,na3,V4,_⟩:=hF.mono (s2.trans D0);exact⟨_,rfl,_,rfl,fa,c.Form,RY,_,_,rfl,V4,T.bc,T.gp,rfl,m,f.noise,rfl,by omega,k1⟩
  have hE:H3 D3=some (.lst (ii (eL f y))):=by
   rw[Tf,bR,eL,ii,bP];congr 2;refine bW (by simp) λn h1 h2=> ?_;have h3:n<(aV f.ring (Sb.jc (8*f.ring) y)).length:=by simpa using h2
   simp[ae,af h3]
  have s3:au H0 H3:=s2.trans D0;have RD:=D0 _ _ US;have a3:dy c H3 l (Sb.jc (9*f.ring) y):=by
   have e:9*f.ring=8*f.ring + f.ring:=by omega
   rw[e,Sb.mf];exact a2.mono D0
  obtain⟨ds,ba,za,g1,g2,g3⟩:=hS.mono s3;refine⟨_,rfl,sa,c.gz,ds,_,_,rfl,g1,T.g8,T.gy,rfl,_,rfl,za,D,x.z,aL f.ring y,rfl,bw.of g3,bw.of RD,by rw[jV,hz],?_,by omega,λv hv=>by rcases Tj v hv with e|e <;> rw[e] <;> decide,λp4 H4 s4 II Md=> ?_⟩
  ·intro e;have e2:=jV f.ring y;rw[e] at e2;simp at e2;omega
  refine⟨_,rfl,p4,D3,_,eL f y,rfl,bw.of Md,bw.of (s4 _ _ hE),by rw[Sb.fg (by rw[hz,jV]),jV,FC],by rw[Sb.fg (by rw[hz,jV]),jV];omega,λp5 H5 s5 Rh JF=> ?_⟩;have hB:H5 p5=some (.lst (ii (bL f x y))):=JF;have t5:au H3 H5:=s4.trans s5;have VM:au H0 H5:=s3.trans t5;have YZ:=t5 _ _ RD;have a5:=a3.mono t5;have U1:H0 p5=none:=(s3.trans s4).free Rh;have hDp:D≠p5:=λzz=>by rw[<-zz,s4 _ _ RD] at Rh;cases Rh
  refine⟨_,rfl,_,rfl,(by show 2<=sizeLine;omega),λt6 P8=> ?_⟩;have SX:H0 t6=none:=VM.free P8;have OV:t6≠l:=a5.ne' P8;have htD:D≠t6:=aO YZ P8;have Xn:p5≠t6:=aO hB P8;have m5:p5≠l:=a5.ne hB;have hN:0<(aL f.ring y).length:=by rw[jV];omega
  have hNb:0<(bL f x y).length:=by rw[FO y hz];omega
  have X4: ∀lst:List Int,0<lst.length->xH (ii lst) 0=some (V.int (lst.getD 0 0)):=λlst h=>c8 (j:=0) (by
   rw[aI,af h,ae,af h];rfl)
  have ix0: ∀lst:List Int,0<lst.length->KY (ii lst).length 0=some 0:=λlst h=>by
   unfold KY;rw[if_pos (by decide),if_pos (by rw[ag];omega)];rfl
  have XI:side=0\/side=1:=by omega
  rcases XI with rfl|rfl
  ·refine⟨_,rfl,_,rfl,t6,_,_,.ref D,rfl,rfl,gU.of ak,rfl,?_⟩;refine⟨_,rfl,D,ii (aL f.ring y),_,_,rfl,rfl,bw.of (au.new P8 _ _ YZ),X4 _ hN,_,rfl,_,_,rfl,rfl,_,_,rfl,rfl,(by show(0:Int)<4503599627370496;decide),_,rfl,D,ii (aL f.ring y),0,0,rfl,rfl,au.new P8 _ _ YZ,ix0 _ hN,_,rfl,?_⟩;refine q t6 _ ?_ ?_ ⟨D,p5,?_,?_,?_⟩
   ·exact au.at' (au.gv VM P8) wN
   ·obtain⟨dl,ql⟩:=a5;exact⟨dl,by rw[aJ (bG Gb),aJ (bG OV)];exact ql⟩
   ·rw[fA OV,lE SX,aJ (bG htD)];exact ak
   ·rw[fA Gb,lE wN,ak,NS];rfl
   ·rw[fA m5,lE U1,aJ (bG hDp),aJ Xn];exact hB
  ·refine⟨_,rfl,_,rfl,t6,_,_,.ref p5,rfl,rfl,gU.of ak,rfl,?_⟩;refine⟨_,rfl,p5,ii (bL f x y),_,_,rfl,rfl,bw.of (au.new P8 _ _ hB),X4 _ hNb,_,rfl,_,_,rfl,rfl,_,_,rfl,rfl,(by show(0:Int)<4503599627370496;decide),_,rfl,p5,ii (bL f x y),0,0,rfl,rfl,au.new P8 _ _ hB,ix0 _ hNb,_,rfl,?_⟩;refine q t6 _ ?_ ?_ ⟨D,p5,?_,?_,?_⟩
   ·exact au.at' (au.gv VM P8) U1
   ·obtain⟨dl,ql⟩:=a5;exact⟨dl,by rw[aJ (bG m5),aJ (bG OV)];exact ql⟩
   ·rw[fA OV,lE SX,aJ (bG Xn)];exact ak
   ·rw[fA Gb,lE wN,aJ hDp,aJ htD];exact YZ
   ·rw[fA m5,lE U1,ak,NS];rfl
def KS(f:aB)(x:bp)(t:Nat):Int:=if x.s.getD (t / f.digits / 2) 0=1 then 2^(52 - f.width*(t % f.digits + 1)) else 0
def qk(f:aB)(x:bp)(y t:Nat):dZ:=DM f x (Sb.jc (9*f.ring*t) y) (t / f.digits % 2) (KS f x t)
inductive uf(c:Cs)(K:ab)(vs:List V)(H:Hp)(Q:VK)(E:XK):Prop
 |mk (H0:Hp) (fa sa l:Addr) (f:aB) (x:bp) (y:Nat):vs=[.ref fa,.ref sa,.ref l]->au H0 H->H0 l=none->dU c K H0 fa f->Small f->jD c H0 sa x->x.s.length=f.n->(∀v∈x.s,v=0\/v=1)->x.z.length=f.ring->(∀v∈x.z,v=0\/v=1)->dy c H l y->(∀(p:Addr) (H':Hp),pO c H0 l p fP ((List.range (2*f.n*f.digits)).map (qk f x y)) (Sb.jc (9*f.ring*(2*f.n*f.digits)) y) H'->Q (.ref p) H')->uf c K vs H Q E
def abA{i u:Nat}(h:u<2):(2*i + u)/ 2=i/\(2*i + u)% 2=u:=by omega
def Cq(T:Txt K mg c):Callee P w K mg base "make_pairs" 5 ["form","secrets","luck"] (uf c K):=by
 exists T.Fo.ok ["form","secrets","luck","pairs","bit","side","digit","lift"]
 ·obtain⟨H0,fa,sa,l,f,x,y,rfl,s0,zB,hF,hg,hS,hx,UR,hz,Tj,hL,q⟩:=h;have big:=bI;have z1:=hg.n4;have z2:=hg.d4;have z3:=hg.w8;refine⟨_,(aj (bS 3 nd (cx ai))
   (aj (fD PassesOwn.never rfl (sI K (fld K (pv 1))) (qn 4 nd) (aq (fD PassesOwn.never rfl (Uy (nZ (aa ay (aa ay ai)))) (qn 5 nd) (aq (fD PassesOwn.never rfl (fh rfl T.gj (aa (fld K (pv 0)) ai)) (qn 6 nd) (aj (bS 7 nd (aM n6 (pv 4) (aM ik (qg T.rP) (aM cP (fld K (pv 0)) (aM cz (pv 6) ay)))))
   (aq (fU (kP bH cT cS iR (pv 3) (aa (aF (EX T) hr (aa (pv 0) (aa (pv 1) (aa (pv 2) (aa (pv 5) (aa (pv 7) ai)))))) ai))))))))))
   (aq (az (pv 3))))),?_⟩
  refine⟨aC _,λR hR=> ?_⟩;have G0:pO c H0 l R fP ((List.range (2*0*f.digits)).map (qk f x y)) (Sb.jc (9*f.ring*(2*0*f.digits)) y) (upd H R (.lst [])):=by
   rw[lx,Ll,lx,Sb.uE];exact pO.start s0 hR hL
  obtain⟨ds,ba,za,g1,g2,g3⟩:=hS;refine⟨_,rfl,sa,c.gz,ds,_,_,rfl,G0.same _ _ g1,T.g8,T.fY,rfl,ba,rfl,⟨_,bw.of (G0.same _ _ g2)⟩,?_⟩;refine jb (K:=K) (a:=ba) (xs:=iv x.s) (λi σ H'=>pO c H0 l R fP ((List.range (2*i*f.digits)).map (qk f x y)) (Sb.jc (9*f.ring*(2*i*f.digits)) y) H'/\ ∃u v o r,σ=[some (.ref fa),some (.ref sa),some (.ref l),some (.ref R),u,v,o,r]) ⟨G0,none,none,none,none,rfl⟩ (λi σ H' _ h=>bw.of (h.1.same _ _ g2)) (λi yv σ H' hi h=> ?_) (λσ H' h=> ?_)
  ·obtain⟨G,u,v,o,r,rfl⟩:=h;obtain⟨sb,hsb,rfl⟩:=jT hi;have E8:i<x.s.length:=(aD.mp hsb).1;have Xp:sb=0\/sb=1:=UR _ (aZ hsb);have esb:x.s.getD i 0=sb:=by rw[ae,hsb];rfl
   refine⟨(by show 2<=sizeLine;omega),λtt SK=>⟨tt,rfl,⟨_,gU.of ak⟩,?_⟩⟩;have htR:tt≠R:=λz=>by
    obtain⟨ts,h1,_⟩:=G.objs;rw[z,h1] at SK;cases SK
   have OV:tt≠l:=G.luck.ne' SK;have SX:H0 tt=none:=G.same.free SK;have G1:pO c H0 l R fP ((List.range ((2*i + 0)*f.digits)).map (qk f x y)) (Sb.jc (9*f.ring*((2*i + 0)*f.digits)) y) (upd H' tt (.tup [.int 0,.int 1])):=by
    refine⟨au.gv G.same SK,G.ne,G.r0,G.luck.mono (au.new SK),?_⟩;obtain⟨ts,h1,h2⟩:=G.objs;refine⟨ts,au.new SK _ _ h1,Paired.ja h2 λt r qq=>fP.mono _ _ _ _ qq λb ob e=> ?_⟩;have hb:b≠R:=λz=>by rw[z,nG] at e;cases e
    rw[fA hb] at e ⊢;have RM:b≠l:=λz=>by rw[z,nG] at e;cases e
    rw[fA RM] at e ⊢;exact au.new SK _ _ e
   refine zD (K:=K) (a:=tt) (xs:=[.int 0,.int 1]) (λj σ H'=>(pO c H0 l R fP ((List.range ((2*i + j)*f.digits)).map (qk f x y)) (Sb.jc (9*f.ring*((2*i + j)*f.digits)) y) H'/\H' tt=some (.tup [.int 0,.int 1]))/\ ∃v o r,σ=[some (.ref fa),some (.ref sa),some (.ref l),some (.ref R),some (.int (sb:Int)),v,o,r]) ⟨⟨G1,ak⟩,_,_,_,rfl⟩ (λj σ H' _ h=>gU.of h.1.2) (λj yv σ H' hj h=> ?_) (λσ H' h=> ?_)
   ·obtain⟨⟨G,hT⟩,v,o,r,rfl⟩:=h;obtain⟨hj2,rfl⟩:j<2/\yv= .int (j:Int):=by
     match j,hj with
     |0,hj=>exact⟨by decide,(ao hj).symm⟩
     |1,hj=>exact⟨by decide,(ao hj).symm⟩
     |j + 2,hj=>simp at hj
    obtain⟨dx,na,hf,_⟩:=hF.mono G.same;refine⟨_,rfl,fa,c.Form,dx,_,_,rfl,hf,T.bc,T.dQ,rfl,(f.digits:Int),rfl,by omega,by omega,?_⟩;rw[bb];refine jj (λk σ H'=>(pO c H0 l R fP ((List.range ((2*i + j)*f.digits + k)).map (qk f x y)) (Sb.jc (9*f.ring*((2*i + j)*f.digits + k)) y) H'/\H' tt=some (.tup [.int 0,.int 1]))/\ ∃o r,σ=[some (.ref fa),some (.ref sa),some (.ref l),some (.ref R),some (.int (sb:Int)),some (.int (j:Int)),o,r]) ⟨⟨G,hT⟩,_,_,rfl⟩ (λk σ H' hk h=> ?_) (λσ H' h=> ?_)
    ·obtain⟨⟨G,hT⟩,o,r,rfl⟩:=h;obtain⟨dx,na,hf,_⟩:=hF.mono G.same;have hkb:f.width*(k + 1)<=52:=cH (cN z3 (show k + 1<=4 by omega)) (by decide);have e1:(52 -(f.width:Int)*(0 +(k:Int)+ 1))=((52 - f.width*(k + 1):Nat):Int):=by
      rw[tW hkb,bf,bh,gC];rfl
     obtain⟨t1,t2⟩:=div_add (a:=2*i + j) hk;obtain⟨t3,t4⟩:=abA (i:=i) hj2;refine⟨_,rfl,_,rfl,fa,c.Form,dx,_,_,rfl,hf,T.bc,T.fV,rfl,_,rfl,_,_,rfl,rfl,_,_,rfl,rfl,.inl ⟨by omega,by omega⟩,_,_,rfl,rfl,_,_,rfl,rfl,⟨by rw[e1];omega,by rw[e1];omega,by rcases Xp with e|e <;> rw[e] <;> decide⟩,?_⟩;refine⟨_,rfl,.inl ⟨rfl,_,bw.of (F4 G.objs).1⟩,_,rfl,_,rfl,_,rfl,_,rfl,_,rfl,mask l H',fa,sa,l,f,x,_,j,_,rfl,hj2,mv l H',nG l H',hF.mono (mn G.same zB),hg,jD.mono ⟨ds,ba,za,g1,g2,g3⟩ (mn G.same zB),hz,Tj,G.luck,λp H2 s2 hL2 uV=> ?_⟩;have O3:(sb:Int)*2^(52 -(f.width:Int)*(0 +(k:Int)+ 1)).toNat=KS f x ((2*i + j)*f.digits + k):=by
      rw[e1,bb];unfold KS;rw[t1,t2,t3,esb];rcases Xp with e|e
      ·rw[e,if_neg (by decide)];exact Int.zero_mul _
      ·rw[e,if_pos rfl];exact Nr _
     have Xu:DM f x (Sb.jc (9*f.ring*((2*i + j)*f.digits + k)) y) j (KS f x ((2*i + j)*f.digits + k))=qk f x y ((2*i + j)*f.digits + k):=by
      unfold qk;rw[t1,t4]
     rw[O3,Xu] at uV;obtain⟨xs,x1,x2,x3⟩:=G.step (r:=qk f x y ((2*i + j)*f.digits + k)) (p:=p) fP.mono zB s2 hL2 uV (by
       rw[ag,dE];have:(2*i + j)*f.digits<=10*4:=cN (by omega) z2;omega)
     refine⟨R,xs,_,rfl,rfl,x1,x2,⟨?_,?_⟩,_,_,rfl⟩
     ·rw[<-Az] at x3;rw[<-mj,gB,Sb.mf];exact x3
     ·rw[aJ htR];exact s2 _ _ (by rw[fA OV];exact hT)
    ·obtain⟨⟨G,hT⟩,o,r,rfl⟩:=h;refine⟨⟨?_,hT⟩,_,_,_,rfl⟩;rw[<-mj,jL];exact G
   ·obtain⟨⟨G,hT⟩,v,o,r,rfl⟩:=h;refine⟨?_,_,_,_,_,rfl⟩;exact G
  ·obtain⟨G,u,v,o,r,rfl⟩:=h;rw[ag,hx] at G;exact⟨_,rfl,q R H' G⟩
def SJ(fa pa ra:Addr):List (Str×V):=[("form",.ref fa),("pairs",.ref pa),("rows",.ref ra)]
inductive iq(c:Cs)(K:ab)(H:Hp)(a:Addr)(k:cW):Prop
 |mk (dx fa pa ra:Addr):H a=some (.ins c.cB dx (SJ fa pa ra))->dU c K H fa k.form->dS H pa fP k.turning->dS H ra mT k.changing->iq c K H a k
theorem iq.mono{H H':Hp}{a:Addr}{k:cW}(h:iq c K H a k)(m:au H H'):iq c K H' a k:=by
 obtain⟨dx,fa,pa,ra,h1,h2,h3,h4⟩:=h;exact⟨dx,fa,pa,ra,m _ _ h1,h2.mono m,h3.mono fP.mono m,h4.mono mT.mono m⟩
def pO.Oo{α:Type}{H0 H:Hp}{l R:Addr}{S:Hp->Addr->α->Prop}{items:List α}{y:Nat}(hS: ∀H H' t r,S H t r->au H H'->S H' t r)(G:pO c H0 l R S items y H):dS (mask l H) R S items:=by
 obtain⟨ts,h1,h2⟩:=G.objs;exact⟨ts,by rw[fA G.ne];exact h1,Paired.ja h2 λt r q=>hS _ _ _ _ q (mv R _)⟩
inductive oC(c:Cs)(K:ab)(vs:List V)(H:Hp)(Q:VK)(E:XK):Prop
 |mk (p dx fa pa ra:Addr):vs=[.ref p,.ref fa,.ref pa,.ref ra]->H p=some (.ins c.cB dx [])->(∀H',H' p=some (.ins c.cB dx (SJ fa pa ra))->cg p H H'->Q .fC H')->oC c K vs H Q E
theorem lH(T:Txt K mg c):Maker P w K mg base "WorkPart" c.cB 1 ["self","form","pairs","rows"] (oC c K):=by
 exists T.lH.ok T.Bq ["self","form","pairs","rows"]
 ·obtain⟨p,dx,fa,pa,ra,rfl,hp,q⟩:=h;refine⟨_,(aj (dw (pv 0) (pv 1) rfl)
   (aj (dw (pv 0) (pv 2) rfl)
   (aq (dw (pv 0) (pv 3) rfl)))),?_⟩
  refine⟨_,rfl,_,rfl,p,c.cB,dx,_,rfl,hp,T.bY,T.bK,(by show 0<1000;decide),?_⟩;refine⟨_,rfl,_,rfl,p,c.cB,dx,_,rfl,ak,T.bY,T.iW,(by show 1<1000;decide),?_⟩;rw[dG];refine⟨_,rfl,_,rfl,p,c.cB,dx,_,rfl,ak,T.bY,T.ji,(by show 2<1000;decide),?_⟩;rw[dG];exact q _ ak cg.upd
def Di(f:aB)(x:bp)(y:Nat):cW:=
 ⟨f,(List.range (2*f.n*f.digits)).map (qk f x y),(List.range (f.ring*f.kdigits)).map (EJ f x (Sb.jc (9*f.ring*(2*f.n*f.digits)) y))⟩
def Qw{f:aB}(hg:Small f)(y:Nat):TJ f (aV (Wqarav.need f) y)=Di f (eG f (aV (Wqarav.need f) y)) (Sb.jc (f.n + f.ring) y):=by
 have hz:(eG f (aV (Wqarav.need f) y)).z.length=f.ring:=by rw[Sb.vH,ag,Sb.eM]
 have h9:9*f.ring*(2*f.n*f.digits)=18*(f.n*f.digits*f.ring):=by
  rw[cc 2 f.n,cj (9*f.ring)];generalize f.n*f.digits=u;rw[cc 2 u,pP u 9];generalize u*f.ring=v;omega
 rw[Sb.Lr,Di,h9];congr 1
 ·refine cC λt _=> ?_;rw[Ja hg hz];rfl
 ·refine cC λt _=> ?_;rw[QN]
inductive vq(c:Cs)(K:ab)(vs:List V)(H:Hp)(Q:VK)(E:XK):Prop
 |mk (H0:Hp) (fa sa l:Addr) (f:aB) (x:bp) (y:Nat):vs=[.ref fa,.ref sa,.ref l]->au H0 H->H0 l=none->dU c K H0 fa f->Good f->jD c H0 sa x->x.s.length=f.n->(∀v∈x.s,v=0\/v=1)->x.z.length=f.ring->(∀v∈x.z,v=0\/v=1)->dy c H l y->(∀(p:Addr) (H':Hp),au H0 H'->H0 p=none->iq c K H' p (Di f x y)->Q (.ref p) H')->vq c K vs H Q E
def EW(T:Txt K mg c):Callee P w K mg base "make_part" 6 ["form","secrets","luck"] (vq c K):=by
 exists T.HM.ok ["form","secrets","luck","pairs","rows"]
 ·obtain⟨H0,fa,sa,l,f,x,y,rfl,s0,zB,hF,hg,hS,hx,UR,hz,Tj,hL,q⟩:=h;refine⟨_,(aj (bS 3 nd (aF (Cq T) hr (aa (pv 0) (aa (pv 1) (aa (pv 2) ai)))))
   (aj (bS 4 nd (aF (EV T) hr (aa (pv 0) (aa (pv 1) (aa (pv 2) ai)))))
   (aq (az (i6 (lH T) hr (aa (pv 0) (aa (pv 3) (aa (pv 4) ai)))))))),?_⟩
  refine⟨_,rfl,_,rfl,_,rfl,H0,fa,sa,l,f,x,y,rfl,s0,zB,hF,hg.toSmall,hS,hx,UR,hz,Tj,hL,λpa H1 G1=> ?_⟩;have m1:au H0 (mask l H1):=mn G1.same zB;have o1:=G1.Oo fP.mono;refine⟨_,rfl,_,rfl,_,rfl,mask l H1,fa,sa,l,f,x,_,rfl,mv l H1,nG l H1,hF.mono m1,hg,hS.mono m1,hx,hz,Tj,G1.luck,λra H2 G2=> ?_⟩;have o2:=G2.Oo mT.mono;have o3:dS H2 pa fP _:=o1.mono fP.mono G2.same;have o4:dS H2 ra mT _:=o2.mono mT.mono (mv l H2);have s2:au H0 H2:=m1.trans G2.same;refine⟨_,rfl,_,rfl,_,rfl,λp dp np Ou ne=>⟨p,dp,fa,pa,ra,rfl,ak,λH3 h3 k3=>⟨rfl,?_⟩⟩⟩;have s3:au H2 H3:=au.made np Ou k3;exact q p H3 (s2.trans s3) (s2.free np) ⟨dp,fa,pa,ra,h3,(hF.mono s2).mono s3,o3.mono fP.mono s3,o4.mono mT.mono s3⟩
def qE{α:Type}(n:Nat):Nat->List α->List (List α)
 |0,_=>[]
 |c + 1,l=>l.take n::qE n c (l.drop n)
theorem nQ{α:Type}(n:Nat): ∀(c:Nat) (l:List α),(qE n c l).length=c
 |0,_=>rfl
 |c + 1,l=>by show(qE n c (l.drop n)).length + 1=c + 1;rw[nQ n c]
theorem me{α:Type}(n:Nat): ∀{c i:Nat} {l:List α},i<c->(qE n c l)[i]? =some ((l.drop (i*n)).take n)
 |0,_,_,h=>absurd h (Ex _)
 |c + 1,0,l,_=>by rw[Ll,js];rfl
 |c + 1,i + 1,l,h=>by
  show(qE n c (l.drop n))[i]? =_;rw[me n (by omega),gM,jL,tD n]
theorem B5(n:Nat): ∀(c:Nat) (l:List Nat),qE n c l=bD n c l
 |0,_=>rfl
 |c + 1,l=>by show l.take n::qE n c (l.drop n)=l.take n::bD n c (l.drop n);rw[B5 n c]
theorem Ld{α β:Type}(g:α->β)(n:Nat): ∀(c:Nat) (l:List α),qE n c (l.map g)=(qE n c l).map λr=>r.map g
 |0,_=>rfl
 |c + 1,l=>by show(l.map g).take n::qE n c ((l.map g).drop n)=(l.take n).map g::(qE n c (l.drop n)).map _;rw[<-iu,Ld g n c,fz]
def SD{n c:Nat}(hn:1<=n):Builtin.Range.rangeSize 0 ((n*c:Nat):Int) (n:Int)=(c:Int):=by
 rw[rangeSize_pos (by omega) (by omega),bf,Int.add_sub_assoc,Int.add_comm,Int.add_mul_ediv_left _ _ (by omega),Int.ediv_eq_zero_of_lt (by omega) (by omega),gC]
def rgc{n c:Nat}(hn:1<=n)(VZ:n<100000)(hc:n*c<100000000):RgC 0 ((n*c:Nat):Int) (n:Int) c:=by
 refine⟨by omega,by omega,?_,SD hn⟩;have h1:c<=n*c:=tu c hn;unfold Builtin.Range.small;rw[SD hn];simp only[Builtin.Range.rangeFitsLong,cq,TQ,decide_eq_true_eq,beq_iff_eq];rw[if_pos (show(n:Int)> 0 by omega)];simp only[cq,decide_eq_true_eq];omega
def dD(H:Hp)(t:Addr)(r:List V):Prop:=H t=some (.lst r)
def dD.mono(H H':Hp)(t:Addr)(r:List V)(h:dD H t r)(m:au H H'):dD H' t r:=m _ _ h
def pF(xs:List V)(i n:Nat):iw xs (some (i:Int)) (some ((i + n:Nat):Int))=(xs.drop i).take n:=by
 unfold iw;rw[HT.sD,HT.sD];by_cases h:i<=xs.length
 ·rw[i4 h];by_cases h2:i + n<=xs.length
  ·rw[i4 h2];congr 1;omega
  ·rw[lU (by omega),aU (by rw[bT];omega),aU (by rw[bT];omega)]
 ·rw[cK (by omega),cK (by omega),IF,IF]
theorem jY{α:Type}{S:Addr->α->Prop}: ∀(zs:List V) (l:List α),zs.length=l.length->(∀(n:Nat) (z:V),zs[n]? =some z-> ∃p r,z=V.ref p/\l[n]? =some r/\S p r)-> ∃ts:List Addr,zs=ts.map V.ref/\Paired S ts l
 | [],[],_,_=>⟨[],rfl,.nil⟩
 |z::zs,r::l,hl,h=>by
  obtain⟨p,r',rfl,e,hs⟩:=h 0 z rfl;have e':r=r':=ao e;subst e';obtain⟨ts,e1,e2⟩:=jY zs l (by simpa using hl) λn z q=>h (n + 1) z q;exact⟨p::ts,by rw[e1];rfl,.cons hs e2⟩
inductive vA(K:ab)(vs:List V)(H:Hp)(Q:VK)(E:XK):Prop
 |mk (a:Addr) (xs:List V) (n k:Nat):vs=[.ref a,.int (n:Int)]->bw K H a xs->xs.length=n*k->1<=n->n<=10000->n*k<=1000000->(∀(D:Addr) (H':Hp),au H H'->H D=none->dS H' D dD (qE n k xs)->Q (.ref D) H')->vA K vs H Q E
def kC(T:Txt K mg c):Callee P w K mg base "blocks_of" 1 ["row","size"] (vA K):=by
 exists T.HU.ok ["row","size","at"]
 ·obtain⟨a,xs,n,k,rfl,ha,hl,Xz,VZ,hnk,q⟩:=h;have big:=bI;have hk:k<=n*k:=tu k Xz;refine⟨_,(aq (az (gR rfl nd (DK rfl T.gj (aa ay (aa (bX (cI K) rfl T.f7 boot_len (aa (pv 0) ai)) (aa (pv 1) ai)))) (own:=[("at",2)]) (cn rfl) (λ_ _ _ _ _=>(qn 2 nd)) (λ_ _ _ _ _=>cO) (λ_ _ _ _ _=>(Cb K (pv 0) (dr (pv 2)) (dr (aM cz (pv 2) (pv 1)))))))),?_⟩;refine⟨_,rfl,a,xs,rfl,.inl ha,_,rfl,0,_,(n:Int),k,rfl,(by rw[hl];exact rgc Xz (by omega) (by omega)),?_⟩;refine Bo (i:=2) (λD m z H'=> ∃p,z= .ref p/\p≠D/\H' p=some (.lst ((xs.drop (m*n)).take n))) (λD m z H1 H2 h kb=> ?_) (by omega) (λD m H' Q' hD hm hs RP kq=> ?_) (λD H' zs hD hs hz hr Gb=> ?_)
  ·obtain⟨p,rfl,np,hp⟩:=h;exact⟨p,rfl,np,kb _ _ hp np⟩
  ·refine⟨_,rfl,_,rfl,_,rfl,_,rfl,_,rfl,_,_,rfl,rfl,_,rfl,a,xs,rfl,hs.seq ha,λp np=>kq _ _ (au.new np) ⟨p,rfl,λz=> ?_,?_⟩⟩
   ·obtain⟨acc,e⟩:=RP;rw[z,e] at np;cases np
   ·have e1:(0:Int)+(m:Int)*(n:Int)=((m*n:Nat):Int):=by rw[bf,gC]
    have e2:(0:Int)+(m:Int)*(n:Int)+(n:Int)=((m*n + n:Nat):Int):=by rw[e1,bh]
    rw[ak,e2,e1,pF]
  ·obtain⟨ts,e1,e2⟩:=jY (S:=λp r=>dD H' p r) zs (qE n k xs) (by rw[hz,nQ]) λm z Ea=>by
    obtain⟨p,rfl,_,hp⟩:=hr m z Ea;have hm:m<k:=by rw[<-hz];exact(aD.mp Ea).1
    exact⟨p,_,rfl,me n hm,hp⟩
   exact q D H' hs hD ⟨ts,by rw[Gb,e1],e2⟩
inductive ud(K:ab)(vs:List V)(H:Hp)(Q:VK)(E:XK):Prop
 |mk (a:Addr) (l:List Nat) (n k:Nat):vs=[.ref a,.int (n:Int)]->bw K H a (iv l)->l.length=n*k->1<=n->n<=10000->n*k<=1000000->(∀(D:Addr) (H':Hp),au H H'->H D=none->H' D=some (.lst (iv ((bD n k l).map bJ)))->Q (.ref D) H')->ud K vs H Q E
def iQ(T:Txt K mg c):Callee P w K mg base "numbers_of" 2 ["octets","size"] (ud K):=by
 exists T.Fn.ok ["octets","size","block"]
 ·obtain⟨a,l,n,k,rfl,ha,hl,Xz,VZ,hnk,q⟩:=h;have big:=bI;have hk:k<=n*k:=tu k Xz;refine⟨_,(aq (az (gR rfl nd (sI K (aF (kC T) hr (aa (pv 0) (aa (pv 1) ai)))) (own:=[("block",2)]) (cn rfl) (λ_ _ _ _ _=>(qn 2 nd)) (λ_ _ _ _ _=>cO) (λ_ _ _ _ _=>(aF (jg T) hr (aa (pv 2) ai)))))),?_⟩;refine⟨_,rfl,_,rfl,a,iv l,n,k,rfl,ha,by rw[bR];exact hl,Xz,VZ,hnk,λD H1 s1 nD ⟨ts,hD,hP⟩=>⟨D,rfl,⟨_,bw.of hD⟩,?_⟩⟩;have hlen:ts.length=k:=by rw[Paired.length hP,nQ]
  refine ff (K:=K) (a:=D) (xs:=ts.map V.ref) (i:=2) (λm=>V.int ((bJ ((l.drop (m*n)).take n):Nat):Int)) (λ_ H2=>au H1 H2) (by rw[ag];omega) (au.refl H1) (λ_ H2 D o h hD=>au.at' h hD) (λ_ H2 _ h=>h.seq (bw.of hD)) (λm x H2 Q' hx fX kq=> ?_) (λD2 H2 abk fX IL=> ?_)
  ·rw[aI] at hx;cases e:ts[m]? with
   |none=>rw[e] at hx;cases hx
   |some t=>
    rw[e] at hx;have ex:x=V.ref t:=(ao hx).symm;subst ex;have hm:m<k:=by rw[<-hlen];exact(aD.mp e).1
    obtain⟨r,er,hr⟩:=cX hP e;rw[me n hm] at er;have RW:=ao er;have uv:H1 t=some (.lst (iv ((l.drop (m*n)).take n))):=by
     have UX:H1 t=some (.lst r):=hr;rw[UX,<-RW,iv,iv,fz,iu]
    exact⟨_,rfl,t,_,rfl,bw.of (fX _ _ uv),kq H2 fX λ_ _ _ e=>e⟩
  ·refine q D2 H2 (s1.trans fX) (s1.free abk) ?_;rw[IL,ag,hlen];congr 2;rw[iv,bP,<-B5];refine bW (by simp[nQ]) λm h1 h2=> ?_;have hm:m<k:=by simpa using h1
   have e:=me n (l:=l) hm;have S9:m<(qE n k l).length:=by rw[nQ];exact hm
   rw[af S9] at e;have e2:=ao e;simp[e2]
structure J7(N:Nat)(p:dZ):Prop where
 la:p.a.length=N
 lb:p.b.length=N
 a: ∀v∈p.a,0<=v/\v<4503599627370496
 b: ∀v∈p.b,0<=v/\v<4503599627370496
structure B9(n:Nat)(r:fJ):Prop where
 la:r.a.length=n
 a: ∀v∈r.a,v<65536
 b:r.b<65536
structure iS(k:cW):Prop where
 good:Good k.form
 lt:k.turning.length=2*k.form.n*k.form.digits
 turning: ∀p∈k.turning,J7 k.form.ring p
 lc:k.changing.length=k.form.ring*k.form.kdigits
 changing: ∀r∈k.changing,B9 k.form.n r
def rB{l:List Int}(h: ∀v∈l,0<=v):ii l=iv (l.map qM):=by
 rw[ii,iv,bP];refine cC λv hv=> ?_;show V.int v=V.int ((v.toNat:Nat):Int);rw[aR (h v hv)]
theorem pE{α:Type}{B:Nat}{g:α->List Nat}: ∀{l:List α},(∀x∈l,(g x).length<=B)->(l.flatMap g).length<=l.length*B
 | [],_=>by simp
 |x::r,h=>by
  have ih:=pE (l:=r) λy hy=>h y (aK _ hy);have h1:=h x (aY ..);rw[dF,aP,bV,jL];omega
def rj(p:dZ):List Nat:=(p.a++p.b).flatMap λ(c:Int)=>Wqarav.le 8 c.toNat
def yJ(r:fJ):List Nat:=(r.a++[r.b]).flatMap (Wqarav.le 2)
def GV(p:dZ):rj p=(p.a.map qM).flatMap (Wqarav.le 8)++(p.b.map qM).flatMap (Wqarav.le 8):=by
 rw[rj,iF,Sl,Sl]
def sJ{N:Nat}{p:dZ}(h:J7 N p):(rj p).length=16*N:=by
 rw[GV,aP,il,il,ag,ag,h.la,h.lb];omega
def vJ{n:Nat}{r:fJ}(h:B9 n r):(yJ r).length=2*(n + 1):=by
 rw[yJ,il,aP,h.la];simp;omega
def Br(a b:List Nat):iv a++iv b=iv (a++b):=by rw[iv,iv,iv,bF]
inductive t9(c:Cs)(K:ab)(vs:List V)(H:Hp)(Q:VK)(E:XK):Prop
 |mk (a:Addr) (k:cW):vs=[.ref a]->iq c K H a k->iS k->(∀(p:Addr) (H':Hp),au H H'->H p=none->H' p=some (.lst (iv (hX k)))->Q (.ref p) H')->t9 c K vs H Q E
def Co(T:Txt K mg c):Callee P w K mg base "part_bytes" 3 ["part"] (t9 c K):=by
 exists T.Fi.ok ["part","octets","pair","row"]
 ·obtain⟨a,k,rfl,hP,hW,q⟩:=h;have big:=bI;have z1:=hW.good.n4;have z2:=hW.good.AB;have z3:=hW.good.d4;have z4:=hW.good.OO;refine⟨_,(aj (bS 1 nd (aF (iL T) hr (aa (fld K (fld K (pv 0))) (aa ay ai))))
   (aj (fD PassesOwn.never rfl (sI K (fld K (pv 0))) (qn 2 nd) (aj (fU (kP bH dv du j0 (pv 1) (aa (aF (iL T) hr (aa (Nb K (pv 2) ay) (aa ay ai))) ai)))
   (aq (fU (kP bH dv du j0 (pv 1) (aa (aF (iL T) hr (aa (Nb K (pv 2) ay) (aa ay ai))) ai))))))
   (aj (fD PassesOwn.never rfl (sI K (fld K (pv 0))) (qn 3 nd) (aq (fU (kP bH dv du j0 (pv 1) (aa (aF (iL T) hr (aa (pv 3) (aa ay ai))) ai)))))
   (aq (az (pv 1)))))),?_⟩
  obtain⟨dx,fa,pa,ra,h1,hF,hp,Y3⟩:=id hP;obtain⟨Gd,na,hf,hn⟩:=id hF;refine⟨_,rfl,a,c.cB,dx,_,_,rfl,h1,T.bY,T.bK,rfl,fa,c.Form,Gd,_,_,rfl,hf,T.bc,T.gN,rfl,na,_,4,rfl,bw.of hn,by omega,by simp[Wqarav.Form.numbers],λo H1 s1 no ho=> ?_⟩;have hlF:(k.form.numbers.flatMap (Wqarav.le 4)).length=32:=by rw[il];rfl
  have OC: ∀i,((k.turning.take i).flatMap rj).length<=32*512:=λi=>by
   refine cH (pE (B:=512) λp hp=>by rw[sJ (hW.turning p (cM hp))];omega) (jt _ ?_);rw[bo,hW.lt];have:2*k.form.n*k.form.digits<=2*4*4:=cN (by omega) z3;omega
  have Z8: ∀i,((k.changing.take i).flatMap yJ).length<=512*10:=λi=>by
   refine cH (pE (B:=10) λp hp=>by rw[vJ (hW.changing p (cM hp))];omega) (jt _ ?_);rw[bo,hW.lc];have:k.form.ring*k.form.kdigits<=32*16:=cN z2 z4;omega
  obtain⟨ts,g1,g2⟩:=hp;refine⟨_,rfl,a,c.cB,dx,_,_,rfl,s1 _ _ h1,T.bY,T.iW,rfl,pa,rfl,⟨_,bw.of (s1 _ _ g1)⟩,?_⟩;refine jb (K:=K) (a:=pa) (xs:=ts.map V.ref) (λi σ H'=>au H H'/\H' o=some (.lst (iv (k.form.numbers.flatMap (Wqarav.le 4)++(k.turning.take i).flatMap rj)))/\ ∃u v,σ=[some (.ref a),some (.ref o),u,v]) ⟨s1,by rw[ho,F1,fQ,dz],none,none,rfl⟩ (λi σ H' _ h=>bw.of (h.1 _ _ g1)) (λi yv σ H' hi h=> ?_) (λσ H' h=> ?_)
  ·obtain⟨hs,hO,u,v,rfl⟩:=h;rw[aI] at hi;cases e:ts[i]? with
   |none=>rw[e] at hi;cases hi
   |some t=>
    rw[e] at hi;have ey:yv=V.ref t:=(ao hi).symm;subst ey;obtain⟨r,er,pu,pv',S3,uv,UX⟩:=cX g2 e;have Mb:=hW.turning r (aZ er);have l1:=OC i;have l2:=OC (i + 1);rw[take_snoc er,iF,dF,fQ,dz,aP,sJ Mb] at l2;refine⟨_,rfl,.inl ⟨rfl,_,bw.of hO⟩,_,rfl,t,_,_,.ref pu,rfl,rfl,gU.of (hs _ _ S3),rfl,pu,r.a.map qM,8,rfl,bw.of (by rw[<-rB λv hv=>(Mb.a v hv).1];exact hs _ _ uv),by omega,by rw[ag,Mb.la];omega,λb1 H2 s2 nb1 Vb=>⟨o,b1,_,_,rfl,rfl,s2 _ _ hO,Vb,?_,?_⟩⟩
    ·rw[bR,bR,aP,hlF,il,ag,Mb.la];omega
    have Xy: ∀b ob,H b=some ob->b≠o:=λb ob e=>aO e no;have hsa:au H (upd H2 o (.lst (iv (k.form.numbers.flatMap (Wqarav.le 4)++(k.turning.take i).flatMap rj)++iv ((r.a.map qM).flatMap (Wqarav.le 8))))):=au.at' (hs.trans s2) no;refine⟨_,rfl,.inl ⟨rfl,_,bw.of ak⟩,_,rfl,t,_,_,.ref pv',rfl,rfl,gU.of (hsa _ _ S3),rfl,pv',r.b.map qM,8,rfl,bw.of (by rw[<-rB λv hv=>(Mb.b v hv).1];exact hsa _ _ UX),by omega,by rw[ag,Mb.lb];omega,λb2 H3 s3 nb2 RN=>⟨o,b2,_,_,rfl,rfl,s3 _ _ ak,RN,?_,?_⟩⟩
    ·rw[aP,bR,bR,bR,aP,hlF,il,il,ag,ag,Mb.la,Mb.lb];omega
    refine⟨au.at' (hsa.trans s3) no,?_,_,_,rfl⟩;rw[ak,Br,Br,take_snoc er,iF,dF,fQ,dz,GV,gc,gc]
  obtain⟨hs,hO,u,v,rfl⟩:=h;rw[ag,Paired.length g2,aU (aE _)] at hO;have lT:=OC k.turning.length;rw[aU (aE _)] at lT;obtain⟨P7,g3,g4⟩:=Y3;refine⟨_,rfl,a,c.cB,dx,_,_,rfl,hs _ _ h1,T.bY,T.ji,rfl,ra,rfl,⟨_,bw.of (hs _ _ g3)⟩,?_⟩;refine jb (K:=K) (a:=ra) (xs:=P7.map V.ref) (λi σ H'=>au H H'/\H' o=some (.lst (iv (k.form.numbers.flatMap (Wqarav.le 4)++k.turning.flatMap rj++(k.changing.take i).flatMap yJ)))/\ ∃u v,σ=[some (.ref a),some (.ref o),u,v]) ⟨hs,by rw[hO,F1,fQ,dz],u,v,rfl⟩ (λi σ H' _ h=>bw.of (h.1 _ _ g3)) (λi yv σ H' hi h=> ?_) (λσ H' h=> ?_)
  ·obtain⟨hs,hO,u,v,rfl⟩:=h;rw[aI] at hi;cases e:P7[i]? with
   |none=>rw[e] at hi;cases hi
   |some t=>
    rw[e] at hi;have ey:yv=V.ref t:=(ao hi).symm;subst ey;obtain⟨r,er,S3⟩:=cX g4 e;have Mb:=hW.changing r (aZ er);have l1:=Z8 i;refine⟨_,rfl,.inl ⟨rfl,_,bw.of hO⟩,_,rfl,t,r.a++[r.b],2,rfl,bw.of (hs _ _ S3),by omega,by rw[aP,Mb.la];simp;omega,λb1 H2 s2 nb1 Vb=>⟨o,b1,_,_,rfl,rfl,s2 _ _ hO,Vb,?_,?_⟩⟩
    ·have:=vJ Mb;unfold yJ at this;rw[bR,bR,aP,aP,hlF,this];omega
    refine⟨au.at' (hs.trans s2) no,?_,_,_,rfl⟩;have e2:(k.changing.take (i + 1)).flatMap yJ=(k.changing.take i).flatMap yJ++yJ r:=by
     rw[take_snoc er,iF,dF,fQ,dz]
    rw[ak,Br,e2,<-gc];rfl
  obtain⟨hs,hO,u,v,rfl⟩:=h;rw[ag,Paired.length g4,aU (aE _)] at hO;refine⟨_,rfl,q o H' hs no ?_⟩;rw[hO,hX,gc];rfl
theorem sE(n:Nat): ∀(c:Nat) (l:List Nat),bD n c (l.take (n*c))=bD n c l
 |0,_=>rfl
 |c + 1,l=>by
  show(l.take (n*(c + 1))).take n::bD n c ((l.take (n*(c + 1))).drop n)=l.take n::bD n c (l.drop n);have e1:(l.take (n*(c + 1))).take n=l.take n:=by rw[F2];congr 1;rw[gB];omega
  have e2:(l.take (n*(c + 1))).drop n=(l.drop n).take (n*c):=by rw[vc];congr 1;rw[gB];omega
  rw[e1,e2,sE n c]
def MO(xs:List V)(n:Nat):iw xs none (some (n:Int))=xs.take n:=by
 unfold iw;rw[HT.sD,HT.GD,tq,js];by_cases h:n<=xs.length
 ·rw[i4 h]
 ·rw[lU (by omega),aU (aE _),aU (by omega)]
def Py(xs:List V)(n:Nat):iw xs (some (n:Int)) none=xs.drop n:=by
 unfold iw;rw[HT.sD,HT.GD];by_cases h:n<=xs.length
 ·rw[i4 h,aU (by rw[bT];omega)]
 ·rw[lU (by omega),lu,F1,cK (by omega)]
def v9(l:List Nat)(n:Nat):(iv l).take n=iv (l.take n):=by rw[iv,iv,fz]
def wb(l:List Nat)(n:Nat):(iv l).drop n=iv (l.drop n):=by rw[iv,iv,iu]
def By{K:ab}{a:Addr}{xs:List V}{i1 i2:Nat}{tb:TS}{D:Ends}{σ:L2.St}{H:Hp}(Pv:Nat->L2.St->Hp->Prop)(h0:Pv 0 σ H)(hl: ∀i σ H,i<=xs.length->Pv i σ H->bw K H a xs)
  (hs: ∀i x σ H T,xs[i]? =some x->Pv i σ H->H T=none->tb {D with nx:=Pv (i + 1),ct:=Pv (i + 1),bk:=D.nx} ((σ.set i1 (some (.int (i:Int)))).set i2 (some x)) (upd H T (.tup [.int (i:Int),x]))) (hd: ∀σ H,Pv xs.length σ H->D.nx σ H):
  ∃W:Nat->Nat->L2.St->Hp->Prop,(∃m,W 0 m σ H)/\ ∀i m σ H,W i m σ H->
   ((TF K a).stop i H/\D.nx σ H)\/((TF K a).go i H/\ ∃N:L2.St->Hp->Prop,(∀σ' H',N σ' H'-> ∃m',m'<m/\W (i + 1) m' σ' H')/\ ∀x H',(TF K a).wR i H x H'->Mr K 2 (ux (gq i1) (ux (gq i2) Pb)) x σ H' λσ2 H2=>tb {D with nx:=N,ct:=N,bk:=D.nx} σ2 H2):=by
 exists 6;have q:=hl i σ H hi p;by_cases ig:i<xs.length
 ·refine .inr ⟨⟨xs,xs[i],q,af ig⟩,Pv (i + 1),λσ' H' p'=>⟨xs.length -(i + 1),by omega,rfl,ig,p'⟩,λx H' y=> ?_⟩;obtain⟨T,v,rfl,hT,rfl,hv⟩:=y;exact⟨T,_,rfl,gU.of ak,rfl,_,_,rfl,_,_,rfl,rfl,hs i v σ H T (hv xs q) p hT⟩
 ·have e:i=xs.length:=by omega
  subst e;exact .inl ⟨⟨xs,q,aE _⟩,hd σ H p⟩
def fv(l:List Nat):List Nat:=(bD 4 8 l).map bJ
def xt(l:List Nat):(fv l).length=8:=by rw[fv,ag,Sb.uM]
inductive qa(K:ab)(vs:List V)(H:Hp)(Q:VK)(E:XK):Prop
 |mk (a:Addr) (l:List Nat):vs=[.ref a]->bw K H a (iv l)->32<=l.length->(∀(D:Addr) (H':Hp),au H H'->H D=none->H' D=some (.lst (iv (fv l)))->Q (.ref D) H')->qa K vs H Q E
def qp(T:Txt K mg c):Callee P w K mg base "form_numbers" 3 ["octets"] (qa K):=by
 exists T.BH.ok ["octets"]
 ·obtain⟨a,l,rfl,ha,hl,q⟩:=h;refine⟨_,(aq (az (aF (iQ T) hr (aa (Cb K (pv 0) iV (dr (qg T.iI))) (aa ay ai))))),?_⟩;refine⟨_,rfl,_,rfl,a,_,rfl,ha,λp np=>⟨p,l.take 32,4,8,rfl,bw.of ?_,?_,by omega,by omega,by omega,λD H' s1 nD hD=>q D H' ((au.new np).trans s1) (au.free (au.new np) nD) ?_⟩⟩
  ·rw[ak];have e:=MO (iv l) 32;rw[v9] at e;exact congrArg (λz=>some (HO.lst z)) e
  ·rw[bo];omega
  ·rw[hD,fv,<-sE 4 8 l]
def gY(f:aB)(l:List Nat):List Nat:=(bD 8 (4*(f.n*f.digits*f.ring)) (l.drop 32)).map bJ
def ndn{f:aB}(h:Small f):f.n*f.digits*f.ring<=512:=by
 have z1:=h.n4;have z2:=h.d4;have z3:=h.AB;exact cH (cN (cN z1 z2) z3) (by decide)
inductive pY(c:Cs)(K:ab)(vs:List V)(H:Hp)(Q:VK)(E:XK):Prop
 |mk (fa a:Addr) (f:aB) (l:List Nat):vs=[.ref fa,.ref a]->dU c K H fa f->Small f->bw K H a (iv l)->32 + 32*(f.n*f.digits*f.ring)<=l.length->(∀(D:Addr) (H':Hp),au H H'->H D=none->H' D=some (.lst (iv (gY f l)))->Q (.ref D) H')->pY c K vs H Q E
def qo(T:Txt K mg c):Callee P w K mg base "pair_numbers" 3 ["form","octets"] (pY c K):=by
 exists T.BD.ok ["form","octets"]
 ·obtain⟨fa,a,f,l,rfl,hF,hg,ha,hl,q⟩:=h;have hn:=ndn hg;refine⟨_,(aq (az (aF (iQ T) hr (aa (Cb K (pv 1) (dr (qg T.iI)) (dr (aM cz (qg T.iI) (aF (n8 T) hr (aa (pv 0) ai))))) (aa ay ai))))),?_⟩;refine⟨_,rfl,_,rfl,_,rfl,fa,f,rfl,hF,hg,_,_,rfl,rfl,_,rfl,a,_,rfl,ha,λp np=>⟨p,(l.drop 32).take (32*(f.n*f.digits*f.ring)),8,4*(f.n*f.digits*f.ring),rfl,bw.of ?_,?_,by omega,by omega,by omega,λD H' s1 nD hD=>q D H' ((au.new np).trans s1) (au.free (au.new np) nD) ?_⟩⟩
  ·rw[ak];have e:=pF (iv l) 32 (32*(f.n*f.digits*f.ring));rw[wb,v9] at e;rw[<-e,bh];rfl
  ·rw[bo,bT];omega
  ·have e8:32*(f.n*f.digits*f.ring)=8*(4*(f.n*f.digits*f.ring)):=by omega
   rw[hD,gY,<-sE 8 (4*(f.n*f.digits*f.ring)) (l.drop 32),e8]
def C8(x:Nat):Bool:=decide (2^52<=x)
def BB(l:List Nat):V:=match l.findIdx? C8 with
 |some i=> .int ((32 + 8*i:Nat):Int)
 |none=> .fC
inductive uc(c:Cs)(K:ab)(vs:List V)(H:Hp)(Q:VK)(E:XK):Prop
 |mk (fa a:Addr) (f:aB) (l:List Nat):vs=[.ref fa,.ref a]->dU c K H fa f->Small f->bw K H a (iv l)->32 + 32*(f.n*f.digits*f.ring)<=l.length->(∀(H':Hp),au H H'->Q (BB (gY f l)) H')->uc c K vs H Q E
def Mt{l:List Nat}{i:Nat}{p:Nat->Bool}(h: ∀j z,j<i->l[j]? =some z->p z=false)(hz: ∀z,l[i]? =some z->p z=true)(hi:i<l.length):l.findIdx? p=some i:=by
 rw[kO];refine⟨hi,hz _ (af hi),λj hj=> ?_⟩;rw[h j _ hj (af (by omega))];exact bg
def Cp(T:Txt K mg c):Callee P w K mg base "pair_fault" 4 ["form","octets"] (uc c K):=by
 exists T.Fl.ok ["form","octets","index","number"]
 ·obtain⟨fa,a,f,l,rfl,hF,hg,ha,hl,q⟩:=h;refine⟨_,(aj (fD PassesOwn.never rfl (KA rfl T.yE (aa (aF (qo T) hr (aa (pv 0) (aa (pv 1) ai))) ai)) (QZ K (n:=2) rfl (eV (qn 2 nd) (eV (qn 3 nd) lY))) (aq (cD (eh KH (pv 3) (qg T.oh) (dC _)) (aq (az (aM cz (qg T.iI) (aM cP ay (pv 2))))) bA)))
   (aq (az pj))),?_⟩
  refine⟨_,rfl,_,rfl,fa,a,f,l,rfl,hF,hg,ha,hl,λD H1 s1 nD hD=>⟨D,_,rfl,bw.of hD,?_⟩⟩;refine By (i1:=2) (i2:=3) (λi σ H'=>au H1 H'/\(∀j z,j<i->(gY f l)[j]? =some z->C8 z=false)/\ ∃u v,σ=[some (.ref fa),some (.ref a),u,v]) ⟨au.refl H1,λj z hj=>absurd hj (Ex _),none,none,rfl⟩ (λi σ H' _ h=>h.1.seq (bw.of hD)) (λi x σ H' t hx h nT=> ?_) (λσ H' h=> ?_)
  ·obtain⟨hs,Xy,u,v,rfl⟩:=h;obtain⟨m,hm,rfl⟩:=jT hx;generalize hy:((m:Nat):Int)=y;exists 23
   ·have hc:(4503599627370496:Int)<=y:=of_decide_eq_true hc;have hb:C8 m=true:=decide_eq_true (by omega);have e:(gY f l).findIdx? C8=some i:=Mt Xy (λz hz=>by rw[hm] at hz;rw[<-ao hz];exact hb) (aD.mp hm).1;have q':=q (upd H' t (.tup [.int (i:Int),.int y])) ((s1.trans hs).trans (au.new nT));unfold BB at q';rw[e] at q';refine⟨_,rfl,_,_,rfl,rfl,.inl ⟨by decide,by decide⟩,_,_,rfl,rfl,?_⟩;dsimp only at q';rw[bh,bf] at q';exact q'
   ·have hc: ¬(4503599627370496:Int)<=y:=λe=>hc (decide_eq_true e);have hb:C8 m=false:=decide_eq_false (by omega);refine⟨hs.trans (au.new nT),λj z hj hz=> ?_,_,_,rfl⟩;by_cases e:j=i
    ·subst e;rw[hm] at hz;rw[<-ao hz];exact hb
    ·exact Xy j z (by omega) hz
  ·obtain⟨hs,Xy,u,v,rfl⟩:=h;have e:(gY f l).findIdx? C8=none:=by
    rw[jO];intro z hz;obtain⟨j,hj,ej⟩:=wJ hz;exact Xy j z (by rw[bR];exact hj) (by rw[af hj,ej])
   have q':=q _ (s1.trans hs);unfold BB at q';rw[e] at q';exact q'
def kQ(l:List Nat):V:=match mV l with
 | .error e=> .int (e:Int)
 | .ok _=> .fC
def rh(f:aB)(l:List Nat):cW:=
 ⟨f,(bD (2*f.ring) (2*f.n*f.digits) (gY f l)).map (λ(r:List Nat)=>⟨(r.take f.ring).map λ(x:Nat)=>(x:Int),(r.drop f.ring).map λ(x:Nat)=>(x:Int)⟩),
  (bD (2*(f.n + 1)) (f.ring*f.kdigits) (l.drop (32 + 8*(4*(f.n*f.digits*f.ring))))).map λ(r:List Nat)=>⟨((bD 2 (f.n + 1) r).map bJ).take f.n,((bD 2 (f.n + 1) r).map bJ).getD f.n 0⟩⟩
def oy(l:List Nat):mV l=if l.length<32 then .error l.length else if(aT (fv l)).good=false then .error 0 else if l.length≠bu (aT (fv l)) then .error (min l.length (bu (aT (fv l)))) else
  match (gY (aT (fv l)) l).findIdx? C8 with
  |some i=> .error (32 + 8*i)
  |none=> .ok (rh (aT (fv l)) l):=rfl
def Gq{l:List Nat}(h:l.length<32):kQ l= .int (l.length:Int):=by
 rw[kQ,oy,if_pos h]
def Jf{l:List Nat}(h: ¬l.length<32)(hg:(aT (fv l)).good=false):kQ l= .int 0:=by
 rw[kQ,oy,if_neg h,if_pos hg];rfl
def Je{l:List Nat}(h: ¬l.length<32)(hg:(aT (fv l)).good=true)(hs:l.length≠bu (aT (fv l))):kQ l= .int ((min l.length (bu (aT (fv l))):Nat):Int):=by
 rw[kQ,oy,if_neg h,if_neg (by rw[hg];exact λz=>nomatch z),if_pos hs]
def Gr{l:List Nat}(h: ¬l.length<32)(hg:(aT (fv l)).good=true)(hs:l.length=bu (aT (fv l))):kQ l=BB (gY (aT (fv l)) l):=by
 rw[kQ,oy,if_neg h,if_neg (by rw[hg];exact λz=>nomatch z),if_neg (by intro z;exact z hs),BB];cases(gY (aT (fv l)) l).findIdx? C8 <;> rfl
def LS{p:Prop} [Decidable p](h:(!decide p)=true): ¬p:=by simpa using h
def Q8{p:Prop} [Decidable p](h: ¬(!decide p)=true):p:=by simpa using h
inductive t8(K:ab)(vs:List V)(H:Hp)(Q:VK)(E:XK):Prop
 |mk (a:Addr) (l:List Nat):vs=[.ref a]->bw K H a (iv l)->(∀(H':Hp),au H H'->Q (kQ l) H')->t8 K vs H Q E
def Cn(T:Txt K mg c):Callee P w K mg base "part_fault" 5 ["octets"] (t8 K):=by
 exists T.Fh.ok ["octets","numbers","form"]
 ·obtain⟨a,l,rfl,ha,q⟩:=h;refine⟨_,(aj (cD (eh yn (bX (cI K) rfl T.f7 boot_len (aa (pv 0) ai)) (qg T.iI) (dC _)) (aq (az (bX (cI K) rfl T.f7 boot_len (aa (pv 0) ai)))) bA)
   (aj (bS 1 nd (aF (qp T) hr (aa (pv 0) ai)))
   (aj (cD (d6 (dB (aF (pk T) hr (aa (pv 1) ai)))) (aq (az ay)) bA)
   (aj (bS 2 nd (i6 (md T) hr (aa (pv 1) ai)))
   (aj (cD (eh KG (bX (cI K) rfl T.f7 boot_len (aa (pv 0) ai)) (aF (l6 T) hr (aa (pv 2) ai)) (dC _)) (aq (az (bX (Eh rfl) rfl T.Tu boot_min (aa (bX (cI K) rfl T.f7 boot_len (aa (pv 0) ai)) (aa (aF (l6 T) hr (aa (pv 2) ai)) ai))))) bA)
   (aq (az (aF (Cp T) hr (aa (pv 2) (aa (pv 0) ai)))))))))),?_⟩
  generalize hy:(((iv l).length:Nat):Int)=y;have YX:y=(l.length:Int):=by rw[<-hy,bR]
  refine⟨_,rfl,a,_,rfl,.inl ha,_,_,rfl,rfl,_,rfl,?_⟩;rw[hy];refine j9 (λhc=> ?_) λhc=> ?_
  ·have hc:y<32:=of_decide_eq_true hc;have q':=q H (au.refl H);rw[Gq (by omega)] at q';refine⟨_,rfl,a,_,rfl,.inl ha,?_⟩;rw[hy,YX];exact q'
  have hc: ¬y<32:=λe=>hc (decide_eq_true e);have Zb: ¬l.length<32:=by omega
  refine⟨_,rfl,a,l,rfl,ha,by omega,λD H1 s1 nD hD=> ?_⟩;refine⟨_,rfl,D,fv l,rfl,bw.of hD,λH2 s2=>⟨_,rfl,?_⟩⟩;have jI:=s1.trans s2;have ei:gh (fv l)=(aT (fv l)).good:=by unfold gh;rw[decide_eq_true (xt l),eI]
  rw[ei];cases Y6:(aT (fv l)).good with
  |false=>
   refine cY ?_;have q':=q H2 jI;rw[Jf Zb Y6] at q';exact q'
  |true=>
   refine dJ ?_;have hG:Good (aT (fv l)):=(wj _).mp Y6;have IL:=s2 _ _ hD;refine⟨_,rfl,λx dx nx CB ne=>⟨x,dx,D,aT (fv l),rfl,ak,bw.of ?_,by have:=hG.p2;omega,by have:=hG.p8;omega,λH3 hF k3=>⟨rfl,?_⟩⟩⟩
   ·rw[aJ (aO IL nx),aJ (aO IL CB),kU (xt l)];exact IL
   have s3:au H2 H3:=au.made nx CB k3;have mq:=jI.trans s3;refine⟨_,rfl,a,_,rfl,.inl (mq.seq ha),_,rfl,x,aT (fv l),rfl,hF,hG.toSmall,?_⟩;obtain⟨gs,Tc⟩: ∃gs,bu (aT (fv l))=gs:=⟨_,rfl⟩;refine⟨rfl,_,rfl,j9 (λXJ=> ?_) λXJ=> ?_⟩
   ·have hs: ¬l.length=gs:=λe=>LS XJ (by
     show V.int (((iv l).length:Nat):Int)=V.int ((bu (aT (fv l)):Nat):Int);rw[bR,e,Tc])
    refine⟨_,rfl,a,_,rfl,.inl (mq.seq ha),_,rfl,x,aT (fv l),rfl,hF,hG.toSmall,_,_,rfl,?_⟩;have q':=q H3 mq;rw[Je Zb Y6 (by rw[Tc];exact hs),Tc] at q';have e:(if((bu (aT (fv l)):Nat):Int)<(((iv l).length:Nat):Int) then((bu (aT (fv l)):Nat):Int) else(((iv l).length:Nat):Int))=((min l.length gs:Nat):Int):=by
     rw[Tc,bR];split <;> omega
    rw[<-e] at q';exact q'
   ·have hs:l.length=gs:=by
     have e:V.int (((iv l).length:Nat):Int)=V.int ((bu (aT (fv l)):Nat):Int):=Q8 XJ;injection e with e;rw[bR,Tc] at e;omega
    refine⟨_,rfl,_,rfl,x,a,aT (fv l),l,rfl,hF,hG.toSmall,mq.seq ha,?_,λH4 s4=> ?_⟩
    ·rw[hs,<-Tc];unfold bu;omega
    ·have q':=q H4 (mq.trans s4);rw[Gr Zb Y6 (by rw[hs,Tc])] at q';exact q'
def rf(n:Nat){c i:Nat}{l:List Nat}(h:i<c):(bD n c l)[i]? =some ((l.drop (i*n)).take n):=by rw[<-B5];exact me n h
def fM(n c:Nat)(l:List Nat):(bD n c l).length=c:=Sb.uM n c l
def NX(n:Nat){M a b:Nat}{l:List Nat}(h:a + b<=M):((bD n M l).drop a).take b=bD n b (l.drop (a*n)):=by
 refine ie λi=> ?_;by_cases hi:i<b
 ·rw[kh hi,kG,rf n (by omega),rf n hi,gM,ve]
 ·rw[fK (by rw[bo];omega),fK (by rw[fM];omega)]
theorem Dr{α:Type}(d:α): ∀{l:List α} {n:Nat},l.length=n + 1->l.take n++[l.getD n d]=l
 | [],n,h=>by simp at h
 | [a],0,_=>rfl
 |a::b::r,0,h=>by simp at h
 |a::r,n + 1,h=>by
  have ih:=Dr d (l:=r) (n:=n) (by simpa using h);show a::(r.take n++[r.getD n d])=a::r;rw[ih]
inductive Ah(c:Cs)(K:ab)(vs:List V)(H:Hp)(Q:VK)(E:XK):Prop
 |mk (a:Addr) (l:List Nat) (f:aB):vs=[.ref a]->bw K H a (iv l)->f=aT (fv l)->Good f->l.length=bu f->(∀(p:Addr) (H':Hp),au H H'->H p=none->iq c K H' p (rh f l)->Q (.ref p) H')->Ah c K vs H Q E
def Ju(T:Txt K mg c):Callee P w K mg base "part_of" 4 ["octets"] (Ah c K):=by
 exists T.MC.ok ["octets","form","polynomials","words","pairs","block"]
 ·obtain⟨a,l,f,rfl,ha,ef,hG,hl,q⟩:=h;have big:=bI;have z1:=hG.n4;have z2:=hG.AB;have z2':=hG.r8;have z3:=hG.d4;have z4:=hG.OO;have hn:=ndn hG.toSmall;have Tc:bu f=32 + 32*(f.n*f.digits*f.ring)+ 2*(f.ring*f.kdigits*(f.n + 1)):=rfl;have hrk:f.ring*f.kdigits*(f.n + 1)<=32*16*5:=cN (cN z2 z4) (by omega);refine⟨_,(aj (bS 1 nd (i6 (md T) hr (aa (aF (qp T) hr (aa (pv 0) ai)) ai)))
   (aj (bS 2 nd (aF (kC T) hr (aa (aF (qo T) hr (aa (pv 1) (aa (pv 0) ai))) (aa (fld K (pv 1)) ai))))
   (aj (bS 3 nd (aF (iQ T) hr (aa (Cb K (pv 0) (dr (aM cz (qg T.iI) (aF (n8 T) hr (aa (pv 1) ai)))) iV) (aa ay ai))))
   (aj (iK (i:=4) rfl nd rfl rfl (jH rfl rfl rfl rfl) (sI K (aF (kC T) hr (aa (pv 2) (aa ay ai)))) (own:=[("block",5)]) (cn rfl) (λ_ _ _ _ _=>(qn 5 nd)) (λ_ _ _ _ _=>cO) (λ_ _ _ _ _=>(nZ (aa (gT K (pv 5) ay) (aa (gT K (pv 5) ay) ai)))))
   (aq (az (i6 (lH T) hr (aa (pv 1) (aa (pv 4) (aa (aF (kC T) hr (aa (pv 3) (aa (aM cz (fld K (pv 1)) ay) ai))) ai)))))))))),?_⟩
  refine⟨_,rfl,a,l,rfl,ha,by omega,λD H1 s1 nD hD x dx nx CB ne=>⟨x,dx,D,f,rfl,ak,bw.of ?_,by have:=hG.p2;omega,by have:=hG.p8;omega,λH2 hF k2=>⟨rfl,?_⟩⟩⟩
  ·rw[aJ (aO hD nx),aJ (aO hD CB),ef,kU (xt l)];exact hD
  have s2:au H1 H2:=au.made nx CB k2;have jI:=s1.trans s2;refine⟨_,rfl,_,rfl,x,a,f,l,rfl,hF,hG.toSmall,jI.seq ha,by omega,λD3 H3 s3 nD3 Tf=> ?_⟩;have mq:=jI.trans s3;obtain⟨RY,na3,V4,_⟩:=hF.mono s3;have Z6:(gY f l).length=4*(f.n*f.digits*f.ring):=by rw[gY,ag,fM]
  have e4:4*(f.n*f.digits*f.ring)=f.ring*(4*(f.n*f.digits)):=by rw[cj f.ring,<-cc]
  have hnd:f.n*f.digits<=16:=cN z1 z3;refine⟨_,rfl,x,c.Form,RY,_,_,rfl,V4,T.bc,T.b9,rfl,D3,iv (gY f l),f.ring,4*(f.n*f.digits),rfl,bw.of Tf,by rw[bR,Z6,e4],by omega,by omega,by omega,λD4 H4 s4 nD4 ⟨ts,Mm,Wd⟩=> ?_⟩;have GF:=mq.trans s4;have Hl:ts.length=4*(f.n*f.digits):=by rw[Paired.length Wd,nQ]
  refine⟨_,rfl,_,rfl,x,f,rfl,(hF.mono s3).mono s4,hG.toSmall,_,_,rfl,rfl,_,rfl,a,_,rfl,GF.seq ha,λp5 Rh=> ?_⟩;have abw:iw (iv l) (some (32 +((32*(f.n*f.digits*f.ring):Nat):Int))) none=iv (l.drop (32 + 8*(4*(f.n*f.digits*f.ring)))):=by
   have e:=Py (iv l) (32 + 32*(f.n*f.digits*f.ring));rw[wb,bh] at e;have e8:32 + 8*(4*(f.n*f.digits*f.ring))=32 + 32*(f.n*f.digits*f.ring):=by omega
   rw[e8];exact e
  refine⟨p5,l.drop (32 + 8*(4*(f.n*f.digits*f.ring))),2,f.ring*f.kdigits*(f.n + 1),rfl,bw.of (by rw[ak];exact congrArg (λz=>some (HO.lst z)) abw),by rw[bT];omega,by omega,by omega,by omega,λD6 H6 s6 nD6 We=> ?_⟩;have YF:au H4 H6:=(au.new Rh).trans s6;have SA:=GF.trans YF;refine⟨_,rfl,D4,ts.map V.ref,2,2*f.n*f.digits,rfl,bw.of (YF _ _ Mm),by rw[ag,Hl,cc 2 f.n];omega,by omega,by omega,by rw[cc 2 f.n];omega,λD7 H7 s7 nD7 ⟨us,hD7,hP7⟩=>⟨D7,rfl,⟨_,bw.of hD7⟩,?_⟩⟩;have Oz:us.length=2*f.n*f.digits:=by rw[Paired.length hP7,nQ]
  have afN:2*f.n*f.digits<=32:=by rw[cc 2 f.n];omega
  have s07:=SA.trans s7;have t47:=YF.trans s7;refine Hn (K:=K) (a:=D7) (xs:=us.map V.ref) (i:=5) (λD m z H'=> ∃p u v,z= .ref p/\p≠D/\H' p=some (.tup [.ref u,.ref v])/\ts[2*m]? =some u/\ts[2*m + 1]? =some v) (λD m z Ha Hb h kb=> ?_) (by rw[ag];omega) (bw.of hD7) (λD m xx H8 Q' hD hx UU RP kq=> ?_) (λD8 H8 zs hD8 UU OS hzr Gb=> ?_)
  ·obtain⟨p,u,v,rfl,np,hp,hu,hv⟩:=h;exact⟨p,u,v,rfl,np,kb _ _ hp np,hu,hv⟩
  ·rw[aI] at hx;cases e:us[m]? with
   |none=>rw[e] at hx;cases hx
   |some t=>
    rw[e] at hx;have ex:xx=V.ref t:=(ao hx).symm;subst ex;have hm:m<2*f.n*f.digits:=by rw[<-Oz];exact(aD.mp e).1
    have S9:2*m + 1<ts.length:=by rw[Hl];rw[cc 2 f.n] at hm;omega
    obtain⟨r,er,hr⟩:=cX hP7 e;rw[me 2 hm] at er;have RW:=ao er;have aa5:((ts.map V.ref).drop (m*2)).take 2=[V.ref ts[2*m],V.ref ts[2*m + 1]]:=by
     refine ie λi=> ?_
     match i with
     |0=>rw[kh (by decide),kG,aI,zP,cj m 2,af (by omega)];rfl
     |1=>rw[kh (by decide),kG,aI,cj m 2,af (by omega)];rfl
     |i + 2=>rw[fK (by rw[bo];omega)];rfl
    have uv:H7 t=some (.lst [V.ref ts[2*m],V.ref ts[2*m + 1]]):=by
     have UX:H7 t=some (.lst r):=hr;rw[UX,<-RW,aa5]
    refine⟨_,rfl,t,_,_,.ref ts[2*m],rfl,rfl,bw.of (UU _ _ uv),rfl,_,rfl,t,_,_,.ref ts[2*m + 1],rfl,rfl,bw.of (UU _ _ uv),rfl,(by show 2<=sizeLine;omega),λp np=>kq _ _ (au.new np) ⟨p,_,_,rfl,λz=> ?_,ak,af (by omega),af S9⟩⟩;obtain⟨acc,e9⟩:=RP;rw[z,e9] at np;cases np
  have YO:=s07.trans UU;have t48:=t47.trans UU;have hF8:dU c K H8 x f:=(((((hF.mono s3).mono s4).mono YF).mono s7).mono UU);obtain⟨dx8,na8,hf8,_⟩:=id hF8;have abh:H8 D6=some (.lst (iv ((bD 2 (f.ring*f.kdigits*(f.n + 1)) (l.drop (32 + 8*(4*(f.n*f.digits*f.ring))))).map bJ))):=UU _ _ (s7 _ _ We);refine⟨_,rfl,_,rfl,_,rfl,_,rfl,x,c.Form,dx8,_,_,rfl,hf8,T.bc,T.dj,rfl,_,_,rfl,rfl,D6,_,f.n + 1,f.ring*f.kdigits,rfl,bw.of abh,by rw[bR,ag,fM,cj],by omega,by omega,by rw[cj];omega,λD9 H9 s9 nD9 ⟨vs,hD9,hP9⟩=> ?_⟩;intro p dp np Ou nep;refine⟨p,dp,x,D8,D9,rfl,ak,λHz hz kz=>⟨rfl,?_⟩⟩;have sz:au H9 Hz:=au.made np Ou kz;have VJ:au H8 Hz:=s9.trans sz;refine q p Hz (YO.trans VJ) ((YO.trans s9).free np) ⟨dp,x,D8,D9,hz,hF8.mono VJ,?_,?_⟩
  ·
   have OC:zs.length=(rh f l).turning.length:=by
    rw[OS,ag,Oz];unfold rh;rw[ag,fM]
   obtain⟨qs,e1,e2⟩:=jY (S:=λp r=>fP Hz p r) zs (rh f l).turning OC λm z Ea=>by
    obtain⟨p',u,v,rfl,_,F9,hu,hv⟩:=hzr m z Ea;have hm:m<2*f.n*f.digits:=by
     have:=(aD.mp Ea).1;rw[OS,ag,Oz] at this;exact this
    have hm4:2*m + 1<4*(f.n*f.digits):=by rw[cc 2 f.n] at hm;omega
    have er:(rh f l).turning[m]? =some ⟨(((gY f l).drop (m*(2*f.ring))).take (2*f.ring)).take f.ring |>.map λ(x:Nat)=>(x:Int),(((gY f l).drop (m*(2*f.ring))).take (2*f.ring)).drop f.ring |>.map λ(x:Nat)=>(x:Int)⟩:=by
     unfold rh;rw[aI,rf _ hm];rfl
    obtain⟨r1,er1,S3⟩:=cX Wd hu;obtain⟨r2,RW,uv⟩:=cX Wd hv;rw[me _ (by omega)] at er1;rw[me _ hm4] at RW;have q1:H4 u=some (.lst r1):=S3;have q2:H4 v=some (.lst r2):=uv;refine⟨p',_,rfl,er,u,v,VJ _ _ F9,(t48.trans VJ) _ _ ?_,(t48.trans VJ) _ _ ?_⟩
    ·rw[q1,<-ao er1,wb,v9];have em:2*m*f.ring=m*(2*f.ring):=by rw[cj 2 m,cc]
     rw[em,F2,i4 (by omega),mQ]
    ·rw[q2,<-ao RW,wb,v9];have em:(2*m + 1)*f.ring=m*(2*f.ring)+ f.ring:=by rw[ve,Nat.one_mul,cj 2 m,cc]
     have e3:2*f.ring - f.ring=f.ring:=by omega
     rw[em,vc,gM,e3,mQ]
   exact⟨qs,by rw[VJ _ _ Gb,e1],e2⟩
  ·
   refine⟨vs,sz _ _ hD9,?_⟩;have lv:vs.length=f.ring*f.kdigits:=by rw[Paired.length hP9,nQ]
   obtain⟨qs,e1,e2⟩:=jY (S:=λp r=>mT Hz p r) (vs.map V.ref) (rh f l).changing (by rw[ag,lv];unfold rh;rw[ag,fM]) λm z Ea=>by
    rw[aI] at Ea;cases e:vs[m]? with
    |none=>rw[e] at Ea;cases Ea
    |some t=>
     rw[e] at Ea;have hm:m<f.ring*f.kdigits:=by rw[<-lv];exact(aD.mp e).1
     obtain⟨r,er,hr⟩:=cX hP9 e;rw[me _ hm] at er;have UX:H9 t=some (.lst r):=hr;refine⟨t,_,(ao Ea).symm,by unfold rh;rw[aI,rf _ hm];rfl,sz _ _ ?_⟩;rw[UX,<-ao er,wb,v9];have hmm:m*(f.n + 1)+(f.n + 1)<=f.ring*f.kdigits*(f.n + 1):=by rw[<-jL];exact jt _ hm
     rw[Dr 0 (by rw[ag,fM]),<-iu,<-fz,NX 2 hmm];have e5:m*(2*(f.n + 1))=m*(f.n + 1)*2:=by rw[pP,cj 2]
     rw[e5,sE 2 (f.n + 1)]
   have e3:vs=qs:=by
    have inj: ∀(a b:List Addr),a.map V.ref=b.map V.ref->a=b:=by
     intro a
     induction a with
     |nil=>intro b h;cases b with|nil=>rfl|cons _ _=>cases h
     |cons x r ih=>intro b h;cases b with
      |nil=>cases h
      |cons y t=>injection h with h1 h2;injection h1 with h1;rw[h1,ih t h2]
    exact inj vs qs e1
   rw[e3];exact e2
noncomputable def kZ(pa:Addr)(sv:V)(d:Addr)(u:Nat)(m:V):List (Str×V):=[("part",.ref pa),("secrets",sv),("seals",.ref d),("uses",.int (u:Int)),("most",m)]
def oE(l:List (Option ax)):Nat:=(l.filter λx=>x.isSome).length
structure iX(c:Cs)(Hi:Hp)(n:Nat)(bE:List (Key×V))(seals:List (Option ax)):Prop where
 len:seals.length=32
 nd:(bE.map (·.1)).Nodup
 cnt:bE.length=oE seals
 there: ∀(h:Nat) (s:ax),seals[h]? =some (some s)->Wf n s/\ ∃sa,fL bE (bQ (h:Int))=some (.ref sa)/\cQ c Hi sa s
 none: ∀h:Nat,(∀s,seals[h]? ≠some (some s))->fL bE (bQ (h:Int))=none
def J9(c:Cs)(Hi:Hp)(n N:Nat)(sv:V):Option bp->Prop
 | .none=>sv= .fC
 | .some x=> ∃sa,sv= .ref sa/\jD c Hi sa x/\x.s.length=n/\x.z.length=N
def YA(m:V):Option Nat->Prop
 | .none=>m= .fC
 | .some k=>m= .int (k:Int)
structure eN(c:Cs)(K:ab)(Hi H:Hp)(b d:Addr)(bx:a9):Prop where
 obj: ∃dx pa sv m bE,H b=some (.ins c.Box dx (kZ pa sv d bx.uses m))/\iq c K Hi pa bx.work/\J9 c Hi bx.work.form.n bx.work.form.ring sv bx.secret/\YA m bx.cap/\H d=some (.dK bE)/\iX c Hi bx.work.form.n bE bx.seals
 wf:iS bx.work
theorem iX.mono{c:Cs}{Hi Qk:Hp}{n:Nat}{bE:List (Key×V)}{seals:List (Option ax)}(h:iX c Hi n bE seals)(m:au Hi Qk):iX c Qk n bE seals:=
 ⟨h.len,h.nd,h.cnt,λi s e=>⟨(h.there i s e).1,let ⟨sa,h1,h2⟩:=(h.there i s e).2;⟨sa,h1,h2.mono m⟩⟩,h.none⟩
theorem J9.mono{c:Cs}{Hi Qk:Hp}{n N:Nat}{sv:V}{x:Option bp}(h:J9 c Hi n N sv x)(m:au Hi Qk):J9 c Qk n N sv x:=by
 cases x with
 |none=>exact h
 |some x=>obtain⟨sa,h1,h2,h3⟩:=h;exact⟨sa,h1,h2.mono m,h3⟩
theorem eN.mono{c:Cs}{K:ab}{Hi Qk H H':Hp}{b d:Addr}{bx:a9}(h:eN c K Hi H b d bx)(m:au Hi Qk)(eb:H' b=H b)(ed:H' d=H d):eN c K Qk H' b d bx:=by
 obtain⟨⟨dx,pa,sv,mo,bE,h1,h2,h3,h4,h5,h6⟩,hw⟩:=h;exact⟨⟨dx,pa,sv,mo,bE,by rw[eb];exact h1,h2.mono m,h3.mono m,h4,by rw[ed];exact h5,h6.mono m⟩,hw⟩
def ph{l:List (Option ax)}:oE l +(l.filter λx=>x.isNone).length=l.length:=by
 unfold oE
 induction l with
 |nil=>rfl
 |cons x r ih=>cases x <;> simp <;> omega
def free_eq(bx:a9)(h:bx.seals.length=32):bx.free=32 - oE bx.seals:=by
 have:=ph (l:=bx.seals);unfold Wqarav.Box.free;omega
theorem DB: ∀{l:List (Option ax)} {i:Nat} {s:ax},l[i]? =some none->oE (l.set i (some s))=oE l + 1
 | [],i,s,h=>by simp at h
 |x::r,0,s,h=>by
  have e:x=none:=ao h;subst e;unfold oE;simp
 |x::r,i + 1,s,h=>by
  have ih:=DB (l:=r) (i:=i) (s:=s) h;unfold oE at ih ⊢;cases x <;> simp <;> simpa using ih
inductive yi(c:Cs)(vs:List V)(H:Hp)(Q:VK)(E:XK):Prop
 |mk (p dx pa:Addr) (sv:V):vs=[.ref p,.ref pa,sv]->H p=some (.ins c.Box dx [])->(∀(H':Hp) (d:Addr),H d=none->H' p=some (.ins c.Box dx (kZ pa sv d 0 .fC))->H' d=some (.dK [])->(∀b o,H b=some o->b≠p->H' b=some o)->Q .fC H')->yi c vs H Q E
theorem xl(T:Txt K mg c):Maker P w K mg base "Box" c.Box 1 ["self","part","secrets"] (yi c):=by
 exists T.xl.ok T.SQ ["self","part","secrets"]
 ·obtain⟨p,dx,pa,sv,rfl,hp,q⟩:=h;refine⟨_,(aj (dw (pv 0) (pv 1) rfl)
   (aj (dw (pv 0) (pv 2) rfl)
   (aj (dw (pv 0) Od rfl)
   (aj (dw (pv 0) ay rfl)
   (aq (dw (pv 0) pj rfl)))))),?_⟩
  refine⟨_,rfl,_,rfl,p,c.Box,dx,_,rfl,hp,T.cE,T.cR,(by show 0<1000;decide),?_⟩;refine⟨_,rfl,_,rfl,p,c.Box,dx,_,rfl,ak,T.cE,T.fb,(by show 1<1000;decide),?_⟩;rw[dG];intro d nd;have XG:d≠p:=λz=>by rw[z,ak] at nd;cases nd
  have hd0:H d=none:=by rw[aJ XG] at nd;exact nd
  refine⟨_,rfl,p,c.Box,dx,_,rfl,by rw[aJ (bG XG)];exact ak,T.cE,T.cZ,(by show 2<1000;decide),?_⟩;refine⟨_,rfl,p,c.Box,dx,_,rfl,ak,T.cE,T.iB,(by show 3<1000;decide),?_⟩;rw[dG];refine⟨_,rfl,p,c.Box,dx,_,rfl,ak,T.cE,T.lG,(by show 4<1000;decide),?_⟩;rw[dG];refine q _ d hd0 ak (by rw[aJ XG];exact ak) λb o e hb=> ?_;rw[aJ hb,aJ (aO e hd0),aJ hb];exact e
def Gx:Sp:=λvs H Q _=>vs=[]/\ ∀(p:Addr) (H':Hp),au H H'->H p=none->H' p=some (.lst [.fC,.fC,.fC])->Q (.ref p) H'
def GZ(T:Txt K mg c):Callee P w K mg base "no_boxes" 1 [] Gx:=by
 exists T.JU.ok []
 ·obtain⟨rfl,q⟩:=h;refine⟨_,(aq (az (aM ES (cx (aa pj ai)) (qg T.yD)))),?_⟩;exact⟨(by show 1<=sizeLine;decide),λp0 kK=>⟨p0,3,_,rfl,rfl,ak,by decide,by decide,by decide,λp np=>q p _ (au.gv (au.new kK) np) (au.free (au.new kK) np) ak⟩⟩
inductive oA(vs:List V)(H:Hp)(Q:VK)(E:XK):Prop
 |mk (k:Nat):vs=[.int (k:Int)]->Q (.bl (decide (k<3))) H->oA vs H Q E
def jh(T:Txt K mg c):Callee P w K mg base "is_box_number" 1 ["k"] oA:=by
 exists T.ze.ok ["k"]
 ·obtain⟨k,rfl,q⟩:=h;refine⟨_,(aq (az (jf yn (pv 0) (qg T.yD) (dC _)))),?_⟩;refine⟨_,rfl,_,_,rfl,rfl,?_⟩;have e:decide (k<3)=decide ((k:Int)<3):=decide_eq_decide.mpr ⟨λh=>by omega,λh=>by omega⟩;rw[e] at q;exact q
def xu(vs:List V)(k:Nat):V:=if k<3 then(if vs.getD k .fC= .fC then .int 4 else .fC) else .int 1
inductive vz(K:ab)(vs:List V)(H:Hp)(Q:VK)(E:XK):Prop
 |mk (B:Addr) (xs:List V) (k:Nat):vs=[.ref B,.int (k:Int)]->bw K H B xs->xs.length=3->Q (xu xs k) H->vz K vs H Q E
def pq(T:Txt K mg c):Callee P w K mg base "box_fault" 2 ["boxes","k"] (vz K):=by
 exists T.HS.ok ["boxes","k"]
 ·obtain⟨B,xs,k,rfl,hB,hl,q⟩:=h;refine⟨_,(aj (cD (d6 (dB (aF (jh T) hr (aa (pv 1) ai)))) (aq (az (qg T.cF))) bA)
   (aj (cD (fN (jo (gT K (pv 0) (pv 1)))) (aq (az (qg T.Ig))) bA)
   (aq (az pj)))),?_⟩
  refine⟨_,rfl,k,rfl,_,rfl,?_⟩;unfold xu at q;by_cases h3:k<3
  ·rw[decide_eq_true h3];rw[if_pos h3] at q;have hx:xs[k]? =some (xs.getD k .fC):=by
    rw[ae,af (by omega)];rfl
   refine dJ ⟨_,rfl,_,rfl,B,xs,_,_,rfl,rfl,hB,c8 hx,_,rfl,j9 (λh=> ?_) λh=> ?_⟩
   ·rw[if_pos (of_decide_eq_true h)] at q;exact q
   ·rw[if_neg (λe=>h (decide_eq_true e))] at q;exact q
  ·rw[decide_eq_false h3];rw[if_neg h3] at q;exact cY q
inductive yf(c:Cs)(K:ab)(vs:List V)(H:Hp)(Q:VK)(E:XK):Prop
 |mk (Hi:Hp) (b d:Addr) (bx:a9) (m:Nat):vs=[.ref b,.int (m:Int)]->eN c K Hi H b d bx->Q (.bl (decide (m<=bx.free))) H->yf c K vs H Q E
def i8(T:Txt K mg c):Callee P w K mg base "has_room" 1 ["box","many"] (yf c K):=by
 exists T.JY.ok ["box","many"]
 ·obtain⟨Hi,b,d,bx,n,rfl,⟨⟨dx,pa,sv,m,bE,h1,h2,h3,h4,h5,h6⟩,hw⟩,q⟩:=h;refine⟨_,(aq (az (jf oH (aM cz (bX Ei rfl T.f7 boot_len (aa (fld K (pv 0)) ai)) (pv 1)) (qg T.FK) (dC _)))),?_⟩;refine⟨_,rfl,b,c.Box,dx,_,_,rfl,h1,T.cE,T.cZ,rfl,d,bE,rfl,h5,_,rfl,_,_,rfl,rfl,_,_,rfl,rfl,?_⟩;have e:decide (n<=bx.free)=decide (((bE.length:Nat):Int)+(n:Int)<=32):=by
   rw[free_eq bx h6.len,h6.cnt];have:=ph (l:=bx.seals);rw[h6.len] at this;exact decide_eq_decide.mpr ⟨λh=>by omega,λh=>by omega⟩
  rw[e] at q;exact q
def Lc(bx:a9)(h:Nat)(s:ax):a9:=⟨bx.work,bx.secret,bx.seals.set h (some s),bx.uses,bx.cap⟩
inductive qU(c:Cs)(K:ab)(vs:List V)(H:Hp)(Q:VK)(E:XK):Prop
 |mk (Hi:Hp) (b d sa:Addr) (bx:a9) (s:ax) (h:Nat):vs=[.ref b,.ref sa]->eN c K Hi H b d bx->cQ c Hi sa s->Wf bx.work.form.n s->bx.seals.findIdx? (λx=>x.isNone)=some h->(∀(H':Hp),eN c K Hi H' b d (Lc bx h s)->cg d H H'->Q (.int (h:Int)) H')->qU c K vs H Q E
def iX.put{Hi:Hp}{n:Nat}{bE:List (Key×V)}{seals:List (Option ax)}{h:Nat}{sa:Addr}{s:ax}(S:iX c Hi n bE seals)(hh:seals[h]? =some Option.none)(hs:cQ c Hi sa s)(hw:Wf n s):iX c Hi n (putK bE (bQ (h:Int)) (.ref sa)) (seals.set h (some s)):=by
 have hv:fL bE (bQ (h:Int))=Option.none:=S.none h λs' e=>by rw[hh] at e;cases e
 have hl:h<seals.length:=(aD.mp hh).1;refine⟨by rw[dO];exact S.len,Rj _ S.nd hv,?_,λi s' e=> ?_,λi e=> ?_⟩
 ·rw[GL _ hv,aP,S.cnt,DB hh];rfl
 ·by_cases hi:h=i
  ·subst hi;rw[dW hl] at e;have e':s=s':=ao (ao e);subst e';exact⟨hw,sa,by rw[zU,if_pos rfl],hs⟩
  ·rw[dM hi] at e;obtain⟨w1,sb,q1,q2⟩:=S.there i s' e;exact⟨w1,sb,by rw[zU,if_neg (λz=>hi (by have:=jd z;omega))];exact q1,q2⟩
 ·have hi:h≠i:=λz=>by
   subst z;exact e s (dW hl)
  rw[zU,if_neg (λz=>hi (by have:=jd z;omega))];exact S.none i λs' e'=>e s' (by rw[dM hi];exact e')
def jZ(T:Txt K mg c):Callee P w K mg base "put_seal" 1 ["box","seal"] (qU c K):=by
 exists T.JR.ok ["box","seal","number"]
 ·obtain⟨Hi,b,d,sa,bx,s,h,rfl,⟨⟨dx,pa,sv,m,bE,h1,h2,h3,h4,h5,h6⟩,hwk⟩,hs,hw,hf,q⟩:=h;have hu:=rJ hr;have big:=bI;obtain⟨hl,S8,qC⟩:=kO.mp hf;have hh:bx.seals[h]? =some Option.none:=by
   rw[af hl];cases e:bx.seals[h] with
   |none=>rfl
   |some x=>rw[e] at S8;cases S8
  have Zb:h<32:=by rw[<-h6.len];exact hl
  refine⟨_,(aj (bS 2 nd ay)
   (aj (GN PassesOwn.never (fN (Og hu (pv 2) (fld K (pv 0)))) (aq (bS 2 nd (aM cz (pv 2) ay))))
   (aj (QT hu (fld K (pv 0)) (pv 2) (pv 1) rfl)
   (aq (az (pv 2)))))),?_⟩
  refine Gj (λσ H'=>H'=H/\ ∃i:Nat,i<=h/\σ=[some (.ref b),some (.ref sa),some (.int (i:Int))]) (λσ H'=>match σ with
   | [_,_,some (.int i)]=>h - i.toNat
   |_=>0) ⟨rfl,0,aC _,rfl⟩ (λσ H' hP=> ?_) (λσ H' Q1 Q2 hQ hc=> ?_)
  ·obtain⟨rfl,i,hi,rfl⟩:=hP;refine⟨_,rfl,_,rfl,b,c.Box,dx,_,_,rfl,h1,T.cE,T.cZ,rfl,d,_,rfl,ng.k (k:=bQ (i:Int)) h5,_,rfl,?_⟩;by_cases hih:i=h
   ·subst hih;have hv:=h6.none i λs' e=>by rw[hh] at e;cases e
    rw[hv];refine dJ ⟨_,rfl,_,rfl,b,c.Box,dx,_,_,rfl,h1,T.cE,T.cZ,rfl,_,rfl,d,_,rfl,PV.k (k:=bQ (i:Int)) h5 (by rw[h6.cnt];have:=ph (l:=bx.seals);rw[h6.len] at this;omega),_,rfl,?_⟩;have XO:b≠d:=jw h1 h5 (by intro z;cases z);refine q _ ⟨⟨dx,pa,sv,m,_,by rw[aJ XO];exact h1,h2,h3,h4,ak,h6.put hh hs hw⟩,hwk⟩ cg.upd
   ·have ig:i<h:=by omega
    have V1:i<bx.seals.length:=by omega
    obtain⟨x,hx⟩: ∃x,bx.seals[i]=some x:=by
     have:=qC i ig;cases e:bx.seals[i] with
     |none=>rw[e] at this;simp at this
     |some x=>exact⟨x,rfl⟩
    obtain⟨_,sb,hv,_⟩:=h6.there i x (by rw[af V1,hx]);rw[hv];refine cY ⟨_,rfl,_,_,rfl,rfl,⟨rfl,i + 1,by omega,by rw[bh];rfl⟩,?_⟩;show h -((i:Int)+ 1).toNat<h -((i:Nat):Int).toNat;omega
  ·obtain⟨v,e1,v2,e2,a',C',To,fs',v',e3,e4,e5,e6,e7,a2,o2,e8,e9,b2,e10,q2⟩:=hc;exact⟨v,e1,v2,e2,a',C',To,fs',v',e3,e4,e5,e6,e7,a2,o2,e8,e9,b2,e10,hQ _ _ q2⟩
def zG(K:ab)(mg:Str->Option Value)(x:Str):Prop:= ∃a bE,mg x=some (.ref a)/\yF K a bE/\ ∀(z:Int) (n k:Nat),PyWqarav.shape z=some (n,k)-> ∃t,fL (keyed bE) (bQ z)=some (.ref t)/\ ∀H:Hp,gU K H t [.int (n:Int),.int (k:Int)]
def Ts(z:Int)(na ra:Addr)(e:Nat):List (Str×V):=[("kind",.int z),("numbers",.ref na),("rows",.ref ra),("end",.int (e:Int))]
inductive mU(c:Cs)(H:Hp)(p:Addr)(z:Int)(nums:List Int)(rs:List (List Int))(e:Nat):Prop
 |mk (dx na ra:Addr):H p=some (.ins c.Call dx (Ts z na ra e))->H na=some (.lst (ii nums))->dS H ra dD (rs.map ii)->mU c H p z nums rs e
def we(l:List Int)(n:Nat):(ii l).drop n=ii (l.drop n):=by rw[ii,ii,iu]
def E6(l:List Int)(n:Nat):(ii l).take n=ii (l.take n):=by rw[ii,ii,fz]
def fF{l:List Int}{j:Nat}{z:Int}(h:l[j]? =some z):xH (ii l) (j:Int)=some (V.int z):=c8 (by rw[aI,h];rfl)
inductive vF(c:Cs)(vs:List V)(H:Hp)(Q:VK)(E:XK):Prop
 |mk (p dx na ra:Addr) (z:Int) (e:Nat):vs=[.ref p,.int z,.ref na,.ref ra,.int (e:Int)]->H p=some (.ins c.Call dx [])->(∀H',H' p=some (.ins c.Call dx (Ts z na ra e))->cg p H H'->Q .fC H')->vF c vs H Q E
theorem zx(T:Txt K mg c):Maker P w K mg base "Call" c.Call 1 ["self","kind","numbers","rows","end"] (vF c):=by
 exists T.zx.ok T.ON ["self","kind","numbers","rows","end"]
 ·obtain⟨p,dx,na,ra,z,e,rfl,hp,q⟩:=h;refine⟨_,(aj (dw (pv 0) (pv 1) rfl)
   (aj (dw (pv 0) (pv 2) rfl)
   (aj (dw (pv 0) (pv 3) rfl)
   (aq (dw (pv 0) (pv 4) rfl))))),?_⟩
  refine⟨_,rfl,_,rfl,p,c.Call,dx,_,rfl,hp,T.dX,T.eZ,(by show 0<1000;decide),?_⟩;refine⟨_,rfl,_,rfl,p,c.Call,dx,_,rfl,ak,T.dX,T.ft,(by show 1<1000;decide),?_⟩;rw[dG];refine⟨_,rfl,_,rfl,p,c.Call,dx,_,rfl,ak,T.dX,T.iH,(by show 2<1000;decide),?_⟩;rw[dG];refine⟨_,rfl,_,rfl,p,c.Call,dx,_,rfl,ak,T.dX,T.rC,(by show 3<1000;decide),?_⟩;rw[dG];exact q _ ak cg.upd
inductive vj(c:Cs)(K:ab)(vs:List V)(H:Hp)(Q:VK)(E:XK):Prop
 |mk (a:Addr) (l:List Int) (e:Nat) (z:Int) (n k:Nat) (xs:List (List Int)) (t:List Int):vs=[.ref a,.int (e:Int)]->bw K H a (ii l)->l[e]? =some z->PyWqarav.shape z=some (n,k)->e + 1 + n<=l.length->Kh k (l.drop (e + 1 + n))=some (xs,t)->l.length<=100000->(∀(p:Addr) (H':Hp) (e':Nat),au H H'->H p=none->t=l.drop e'->e<e'->e'<=l.length->mU c H' p z ((l.drop (e + 1)).take n) xs e'->Q (.ref p) H')->vj c K vs H Q E
def ET(T:Txt K mg c)(D:zG K mg "SHAPES"):Callee P w K mg base "read_call" 3 ["calls","place"] (vj c K):=by
 exists T.HF.ok ["calls","place","shape","end","numbers","rows","row","begin"]
 ·obtain⟨a,l,e,z,n,k,xs,t,rfl,ha,hz,VX,hn,Y3,hl,q⟩:=h;have big:=bI;obtain⟨da,bE,hm,hd,hk⟩:=D;obtain⟨ta,hv,ht⟩:=hk z n k VX;have IJ:k<=2/\n<=4:=by rcases Sb.lB VX with h|h|h|h|h|h|h|h|h|h|h|h|h|h|h|h|h|h|h|h|h|h|h|h|h|h|h|h|h|h <;> omega
  refine⟨_,(aj (bS 2 nd (VN hd hm (gT K (pv 0) (pv 1))))
   (aj (bS 3 nd (aM cz (aM cz (pv 1) ay) (Nb K (pv 2) ay)))
   (aj (bS 4 nd (Cb K (pv 0) (dr (aM cz (pv 1) ay)) (dr (pv 3))))
   (aj (bS 5 nd (cx ai))
   (aj (fD PassesOwn.never rfl (fh rfl T.gj (aa (Nb K (pv 2) ay) ai)) (qn 6 nd) (aj (bS 7 nd (aM cz (pv 3) ay))
   (aj (bS 3 nd (aM cz (pv 7) (gT K (pv 0) (pv 3))))
   (aq (fU (kP bH cT cS iR (pv 5) (aa (Cb K (pv 0) (dr (pv 7)) (dr (pv 3))) ai)))))))
   (aq (az (i6 (zx T) hr (aa (gT K (pv 0) (pv 1)) (aa (pv 4) (aa (pv 5) (aa (pv 3) ai)))))))))))),?_⟩
  refine⟨_,rfl,_,rfl,a,_,_,_,rfl,rfl,ha,fF hz,z,_,rfl,hv,?_⟩;refine⟨_,rfl,_,_,rfl,rfl,_,rfl,ta,_,_,.int (n:Int),rfl,rfl,ht H,rfl,_,_,rfl,rfl,?_⟩;have e1:((e:Nat):Int)+ 1=((e + 1:Nat):Int):=by omega
  have e2:((e:Nat):Int)+ 1 +(n:Int)=((e + 1 + n:Nat):Int):=by omega
  refine⟨_,rfl,_,rfl,_,_,rfl,rfl,_,rfl,_,rfl,_,rfl,a,_,rfl,ha,λna ZY=> ?_⟩;dsimp only;rw[e2,e1,pF,we,E6];refine⟨aC _,λR nR=> ?_⟩;have s1:au H (upd (upd H na (.lst (ii ((l.drop (e + 1)).take n)))) R (.lst [])):=au.gv (au.new ZY) nR;refine⟨_,rfl,ta,_,_,.int (k:Int),rfl,rfl,ht _,rfl,(k:Int),rfl,by omega,by omega,?_⟩;rw[bb];have hR0:H R=none:=au.free (au.new ZY) nR;refine jj (λi σ H'=> ∃e':Nat,Kh (k - i) (l.drop e')=some (xs.drop i,t)/\e<e'/\e'<=l.length/\au H H'/\H' na=some (.lst (ii ((l.drop (e + 1)).take n)))/\(∃ts:List Addr,H' R=some (.lst (ts.map V.ref))/\R∉ts/\Paired (λu r=>H' u=some (.lst r)) ts ((xs.take i).map ii))/\ ∃u v,σ=[some (.ref a),some (.int (e:Int)),some (.ref ta),some (.int (e':Int)),some (.ref na),some (.ref R),u,v])
   ⟨e + 1 + n,by rw[tq,js];exact Y3,by omega,hn,s1,au.new nR _ _ ak,⟨[],ak,bM,.nil⟩,none,none,rfl⟩ (λi σ H' hi h=> ?_) (λσ H' h=> ?_)
  ·obtain⟨e',S4,he,Qg,hs,Qc,⟨ts,hR,Wb,hP⟩,u,v,rfl⟩:=h;have ek:k - i=(k -(i + 1))+ 1:=by omega
   rw[ek] at S4;obtain⟨x,sx,ys,ey,aay,Xq⟩:=Sb.LF S4;obtain⟨m,hm1,S9,hm3,hm4,hm5⟩:=Sb.Ur aay;have RB:xs[i]? =some x:=by
    have:=congrArg (λq=>q[0]?) ey;simpa using this
   have hdr:xs.drop (i + 1)=ys:=by
    have h1:(xs.drop i).drop 1=ys:=by rw[ey];rfl
    rw[gM] at h1;exact h1
   refine⟨_,rfl,_,_,rfl,rfl,?_⟩;refine⟨_,rfl,_,rfl,_,rfl,a,_,_,_,rfl,rfl,hs.seq ha,fF hm1,_,_,rfl,rfl,?_⟩;have e3:((e':Nat):Int)+ 1=((e' + 1:Nat):Int):=by omega
   have e4:((e':Nat):Int)+ 1 +(m:Int)=((e' + 1 + m:Nat):Int):=by omega
   refine⟨_,rfl,.inl ⟨rfl,_,bw.of hR⟩,_,rfl,_,rfl,_,rfl,_,rfl,_,rfl,a,_,rfl,hs.seq ha,λp np=>⟨R,_,_,rfl,rfl,au.new np _ _ hR,?_,?_⟩⟩
   ·rw[ag,Paired.length hP,ag,bo];omega
   dsimp only;rw[e4,e3,pF,we,E6,<-S9];have hpR:p≠R:=λz=>by rw[z,hR] at np;cases np
   have hnR:na≠R:=λz=>by
    rw[z] at ZY;have:(upd H na (.lst (ii ((l.drop (e + 1)).take n)))) R=some (.lst (ii ((l.drop (e + 1)).take n))):=by rw[z];exact ak
    rw[this] at nR;cases nR
   refine⟨e' + 1 + m,by rw[hdr,<-hm3];exact Xq,by omega,hm4,au.at' (au.gv hs np) hR0,?_,⟨ts++[p],by rw[ak,bF];rfl,?_,?_⟩,_,_,rfl⟩
   ·rw[aJ hnR];exact au.new np _ _ Qc
   ·intro JH;rcases cJ.mp JH with h|h
    ·exact Wb h
    ·exact hpR (br.mp h).symm
   ·rw[take_snoc RB,bF];refine Paired.snoc ?_ (by rw[aJ hpR];exact ak);revert Wb hP;generalize (xs.take i).map ii=rs;intro Wb hP;generalize ho:HO.lst (List.map V.ref ts++[V.ref p])=ob;clear ho hR
    induction hP with
    |nil=>exact .nil
    | @cons t' r' ts' rs' h1 h2 ih=>
     refine .cons ?_ (ih λJH=>Wb (aK _ JH));have:t'≠R:=λz=>Wb (by rw[z];exact aY ..);rw[aJ this];exact au.new np _ _ h1
  ·obtain⟨e',S4,he,Qg,hs,Qc,⟨ts,hR,Wb,hP⟩,u,v,rfl⟩:=h;have OT:=Sb.fM Y3;rw[lu] at S4;have et:t=l.drop e':=by
    unfold Kh at S4;injection S4 with S4;injection S4 with h1 h2;exact h2.symm
   rw[aU (by omega)] at hP;refine⟨_,rfl,_,rfl,a,_,_,_,rfl,rfl,hs.seq ha,fF hz,_,rfl,_,rfl,_,rfl,λp dp np Ou nep=>⟨p,dp,na,R,z,e',rfl,ak,λH3 h3 k3=>⟨rfl,?_⟩⟩⟩;have s3:au H' H3:=au.made np Ou k3;exact q p H3 e' (hs.trans s3) (hs.free np) et he Qg ⟨dp,na,R,h3,s3 _ _ Qc,ts,s3 _ _ hR,Paired.ja hP λu r h=>s3 _ _ h⟩
def cf(M:List Addr)(H:Hp):Hp:=λb=>if b∈M then none else H b
def cV{M:List Addr}{H:Hp}{b:Addr}(h:b∉M):cf M H b=H b:=by unfold cf;rw[if_neg h]
def lI{M:List Addr}{H:Hp}{b:Addr}{o:HO}(e:cf M H b=some o):b∉M/\H b=some o:=by
 unfold cf at e;by_cases h:b∈M
 ·rw[if_pos h] at e;cases e
 ·rw[if_neg h] at e;exact⟨h,e⟩
def aX(M:List Addr)(H:Hp):au (cf M H) H:=λ_ _ e=>(lI e).2
def jE(bs:List Addr)(H H':Hp):Prop:= ∀b o,H b=some o->b∉bs->H' b=some o
def au.oN{bs:List Addr}{H H':Hp}(s:au H H'):jE bs H H':=λb o e _=>s b o e
def jE.mask{bs M:List Addr}{H H':Hp}(k:jE bs H H')(h: ∀b∈bs,b∈M):au (cf M H) (cf M H'):=λb o e=>by
 obtain⟨h1,h2⟩:=lI e;rw[cV h1];exact k b o h2 λz=>h1 (h b z)
def oX(H:Hp)(b:Addr):Prop:= ∃C dx pa sv d u m,H b=some (.ins C dx (kZ pa sv d u m))
def Kept(M:List Addr)(H:Hp):Prop:= ∀b∈M,oX H b\/(∃bE,H b=some (.dK bE))\/ ∃xs,H b=some (.lst xs)/\xs.length=3/\ ∀x∈xs,x= .fC\/ ∃b',x= .ref b'/\oX H b'
def oX.mono{H H':Hp}{b:Addr}(h:oX H b)(s:au H H'):oX H' b:=by
 obtain⟨C,dx,pa,sv,d,u,m,e⟩:=h;exact⟨C,dx,pa,sv,d,u,m,s _ _ e⟩
def Kept.same{M:List Addr}{H H':Hp}(k:Kept M H)(s:au H H'):Kept M H':=λb hb=>by
 rcases k b hb with h|⟨bE,h⟩|⟨xs,h1,h2,h3⟩
 ·exact .inl (h.mono s)
 ·exact .inr (.inl ⟨bE,s _ _ h⟩)
 ·refine .inr (.inr ⟨xs,s _ _ h1,h2,λx hx=> ?_⟩);rcases h3 x hx with e|⟨b',e,Ng⟩
  ·exact .inl e
  ·exact .inr ⟨b',e,Ng.mono s⟩
def Kept.out{M:List Addr}{H:Hp}{p:Addr}(k:Kept M H)(h:H p=none):p∉M:=λz=>by
 rcases k p z with⟨C,dx,pa,sv,d,u,m,e⟩|⟨bE,e⟩|⟨xs,e,_⟩<;> rw[h] at e <;> cases e
theorem Kept.ii{M:List Addr}{H:Hp}{p:Addr}{l:List Int}(k:Kept M H)(h:H p=some (.lst (ii l))):p∉M:=λz=>by
 rcases k p z with⟨C,dx,pa,sv,d,u,m,e⟩|⟨bE,e⟩|⟨xs,e,e1,e2⟩
 ·rw[h] at e;cases e
 ·rw[h] at e;cases e
 ·rw[h] at e;have e':SB.ii l=xs:=by injection e with e;injection e
  subst e';cases l with
  |nil=>cases e1
  |cons x r=>
   rcases e2 (.int x) (aY ..) with e3|⟨b',e3,_⟩<;> cases e3
theorem Kept.iv{M:List Addr}{H:Hp}{p:Addr}{l:List Nat}(k:Kept M H)(h:H p=some (.lst (iv l))):p∉M:=
 k.ii (l:=l.map λ(x:Nat)=>(x:Int)) (by rw[<-mQ];exact h)
theorem Kept.tup{M:List Addr}{H:Hp}{p:Addr}{l:List V}(k:Kept M H)(h:H p=some (.tup l)):p∉M:=λz=>by
 rcases k p z with⟨C,dx,pa,sv,d,u,m,e⟩|⟨bE,e⟩|⟨xs,e,_⟩<;> rw[h] at e <;> cases e
theorem Kept.ins{M:List Addr}{H:Hp}{p C dx:Addr}{n:Str}{v:V}{fs:List (Str×V)}(k:Kept M H)(h:H p=some (.ins C dx ((n,v)::fs)))(hn:n≠"part"):p∉M:=λz=>by
 rcases k p z with⟨C',To,pa,sv,d,u,m,e⟩|⟨bE,e⟩|⟨xs,e,_⟩
 ·rw[h] at e;injection e with e;injection e with _ _ e;injection e with e _;injection e with e _;exact hn e
 ·rw[h] at e;cases e
 ·rw[h] at e;cases e
def Kept.refs{M:List Addr}{H:Hp}{R:Addr}{α:Type}{S:Hp->Addr->α->Prop}{l:List α}(k:Kept M H)(h:dS H R S l)(hS: ∀t r,S H t r-> ∀C dx fs,H t≠some (.ins C dx fs)):R∉M:=λz=>by
 obtain⟨ts,h1,h2⟩:=h;rcases k R z with⟨C',To,pa,sv,d,u,m,e⟩|⟨bE,e⟩|⟨xs,e,e1,e2⟩
 ·rw[h1] at e;cases e
 ·rw[h1] at e;cases e
 ·rw[h1] at e;have e':ts.map V.ref=xs:=by injection e with e;injection e
  subst e';cases h2 with
  |nil=>cases e1
  |cons hh _=>
   rcases e2 _ (aY ..) with e3|⟨b',e3,C,dx,pa,sv,d,u,m,e4⟩
   ·cases e3
   ·injection e3 with e3;subst e3;exact hS _ _ hh _ _ _ e4
def cQ.LU{c:Cs}{M:List Addr}{H:Hp}{a:Addr}{s:ax}(h:cQ c H a s)(k:Kept M H):cQ c (cf M H) a s:=by
 obtain⟨dx,wa,h1,h2⟩:=h;exact⟨dx,wa,by rw[cV (k.ins h1 (by decide))];exact h1,by rw[cV (k.iv h2)];exact h2⟩
def jD.LU{c:Cs}{M:List Addr}{H:Hp}{a:Addr}{x:bp}(h:jD c H a x)(k:Kept M H):jD c (cf M H) a x:=by
 obtain⟨dx,ba,za,h1,h2,h3⟩:=h;exact⟨dx,ba,za,by rw[cV (k.ins h1 (by decide))];exact h1,by rw[cV (k.iv h2)];exact h2,by rw[cV (k.ii h3)];exact h3⟩
def dU.LU{c:Cs}{K:ab}{M:List Addr}{H:Hp}{a:Addr}{f:aB}(h:dU c K H a f)(k:Kept M H):dU c K (cf M H) a f:=by
 obtain⟨dx,na,h1,h2⟩:=h;exact⟨dx,na,by rw[cV (k.ins h1 (by decide))];exact h1,by rw[cV (k.iv h2)];exact h2⟩
theorem iq.LU{c:Cs}{K:ab}{M:List Addr}{H:Hp}{a:Addr}{w:cW}(h:iq c K H a w)(k:Kept M H):iq c K (cf M H) a w:=by
 obtain⟨dx,fa,pa,ra,h1,h2,h3,h4⟩:=h;have o3:=k.refs h3 λt r q C dx fs e=>by obtain⟨u,v,q1,_⟩:=q;rw[q1] at e;cases e
 have o4:=k.refs h4 λt r q C dx fs e=>by rw[show H t=_ from q] at e;cases e
 obtain⟨ts,h5,h6⟩:=h3;obtain⟨us,h7,h8⟩:=h4;refine⟨dx,fa,pa,ra,by rw[cV (k.ins h1 (by decide))];exact h1,h2.LU k,⟨ts,by rw[cV o3];exact h5,Paired.ja h6 λt r q=> ?_⟩,⟨us,by rw[cV o4];exact h7,Paired.ja h8 λt r q=> ?_⟩⟩
 ·obtain⟨u,v,q1,q2,q3⟩:=q;exact⟨u,v,by rw[cV (k.tup q1)];exact q1,by rw[cV (k.ii q2)];exact q2,by rw[cV (k.ii q3)];exact q3⟩
 ·show cf M H t=_;rw[cV (k.iv (show H t=_ from q))];exact q
def eN.same{c:Cs}{K:ab}{M:List Addr}{H H':Hp}{b d:Addr}{bx:a9}(h:eN c K (cf M H) H b d bx)(s:au H H'):eN c K (cf M H') H' b d bx:=by
 obtain⟨⟨dx,pa,sv,mo,bE,h1,h2,h3,h4,h5,h6⟩,hw⟩:=h;have m:au (cf M H) (cf M H'):=jE.mask (bs:=[]) (au.oN s) (λ_ h=>nomatch h);exact⟨⟨dx,pa,sv,mo,bE,s _ _ h1,h2.mono m,h3.mono m,h4,s _ _ h5,h6.mono m⟩,hw⟩
abbrev zm(a:jW):List V:=ii (WqaravNeutral.numbers a)
def gO(l:List Nat):zm (cy l)= .int 0::iv l:=by
 show V.int 0::ii (Wqarav.ints l)=_;rw[Wqarav.ints,mQ]
inductive ny(c:Cs)(K:ab)(m k:Nat)(ok:List Int->List (List Int)->Prop)(call:List Int->List (List Int)->Wqarav.Call)(vs:List V)(H:Hp)(Q:VK)(E:XK):Prop
 |mk (M:List Addr) (b d na:Addr) (bx:a9) (nums:List Int) (ra:Addr) (rs:List (List Int)):vs=[.ref b,.ref na,.ref ra]->eN c K (cf M H) H b d bx->b∈M->d∈M->Kept M H->bw K (cf M H) na (ii nums)->nums.length=m->ok nums rs->(dS (cf M H) ra dD (rs.map ii)/\rs.length=k)->(∀(p:Addr) (H':Hp),jE [b,d] H H'->H p=none->H' p=some (.lst (zm (Wqarav.does bx (call nums rs)).2))->eN c K (cf M H') H' b d (Wqarav.does bx (call nums rs)).1->Q (.ref p) H')->ny c K m k ok call vs H Q E
abbrev jn(c:Cs)(K:ab)(m:Nat)(call:List Int->Wqarav.Call):Sp:=ny c K m 0 (λnums _=> ∀v∈nums,0<=v) λnums _=>call nums
def dq(nums:List Int)(i:Nat):Nat:=(nums.getD i 0).toNat
def fE{nums:List Int}{i:Nat}(hl:i<nums.length)(h0: ∀v∈nums,0<=v):nums[i]? =some ((dq nums i:Nat):Int):=by
 have e:nums[i]? =some (nums.getD i 0):=by rw[ae,af hl];rfl
 rw[e,dq,aR (h0 _ (aZ e))]
def AY(T:Txt K mg c):Callee P w K mg base "answer_uses" 1 ["box","numbers","rows"] (jn c K 1 λ_=> .uses 0):=by
 exists T.CN.ok ["box","numbers","rows"]
 ·obtain⟨M,b,d,na,bx,nums,ra,rs,rfl,hB,hb,hd,hT,hn,hl,h0,hR,q⟩:=h;obtain⟨dx,pa,sv,mo,bE,h1,h2,h3,h4,h5,h6⟩:=hB.obj;refine⟨_,(aq (az (cx (aa ay (aa (fld K (pv 0)) ai))))),?_⟩;exact⟨_,rfl,b,c.Box,dx,_,_,rfl,h1,T.cE,T.iB,rfl,(by show 2<=sizeLine;decide),λp np=>q p _ (au.oN (au.new np)) np ak (hB.same (au.new np))⟩
def A9(T:Txt K mg c):Callee P w K mg base "answer_give" 4 ["box","numbers","rows"] (jn c K 1 λ_=> .give 0):=by
 exists T.C0.ok ["box","numbers","rows"]
 ·obtain⟨M,b,d,na,bx,nums,ra,rs,rfl,hB,hb,hd,hT,hn,hl,h0,hR,q⟩:=h;obtain⟨dx,pa,sv,mo,bE,h1,h2,h3,h4,h5,h6⟩:=hB.obj;have hG:=hB.wf.good;have big:=bI;have hP:=h2.mono (aX M H);obtain⟨qu,fa,pp,ra,g1,g2,g3,g4⟩:=id hP;refine⟨_,(aj (cD (eh rk (aF (l6 T) hr (aa (fld K (fld K (pv 0))) ai)) (qg T.wD) (dC _)) (aq (az (aF (bt T) hr (aa (qg T.xF) ai)))) bA)
   (aq (az (aM ku (cx (aa ay ai)) (aF (Co T) hr (aa (fld K (pv 0)) ai)))))),?_⟩
  refine⟨_,rfl,b,c.Box,dx,_,_,rfl,h1,T.cE,T.cR,rfl,pa,c.cB,qu,_,_,rfl,g1,T.bY,T.bK,rfl,fa,bx.work.form,rfl,g2,hG.toSmall,_,_,rfl,rfl,_,rfl,?_⟩;have K3:Wqarav.does bx (.give 0)=(bx,if iP<bu bx.form then Wqarav.no (-10) else cy (hX bx.work)):=rfl;refine j9 (λhc=> ?_) λhc=> ?_
  ·have hc:(4000:Int)<((bu bx.work.form:Nat):Int):=of_decide_eq_true hc;have ig:iP<bu bx.form:=by show 4000<bu bx.work.form;omega
   refine⟨10,rfl,λp H' sm np hp=>q p H' (au.oN sm) np ?_ ?_⟩
   ·rw[K3,if_pos ig];exact hp
   ·rw[K3];exact hB.same sm
  ·have hc: ¬(4000:Int)<((bu bx.work.form:Nat):Int):=λe=>hc (decide_eq_true e);have ig: ¬iP<bu bx.form:=by show¬4000<bu bx.work.form;omega
   refine⟨(by show 1<=sizeLine;omega),λp0 kK=> ?_⟩;have s0:=au.new (o:=HO.lst [.int 0]) kK;refine⟨_,rfl,b,c.Box,dx,_,_,rfl,s0 _ _ h1,T.cE,T.cR,rfl,pa,bx.work,rfl,hP.mono s0,hB.wf,λp1 H1 s1 KL xq=>⟨p0,p1,_,_,rfl,rfl,s1 _ _ ak,xq,?_,λp np=> ?_⟩⟩
   ·have V2:(hX bx.work).length<=100000:=by
     have e1:(hX bx.work)=bx.work.form.numbers.flatMap (Wqarav.le 4)++(bx.work.turning.flatMap rj++bx.work.changing.flatMap yJ):=rfl;have l1:(bx.work.form.numbers.flatMap (Wqarav.le 4)).length=32:=by rw[il];rfl
     have l2:(bx.work.turning.flatMap rj).length<=bx.work.turning.length*512:=pE λp hp=>by rw[sJ (hB.wf.turning p hp)];have:=hG.AB;omega
     have l3:(bx.work.changing.flatMap yJ).length<=bx.work.changing.length*10:=pE λp hp=>by rw[vJ (hB.wf.changing p hp)];have:=hG.n4;omega
     have l4:bx.work.turning.length<=32:=by rw[hB.wf.lt];exact cN (nh 2 hG.n4) hG.d4
     have l5:bx.work.changing.length<=512:=by rw[hB.wf.lc];exact cN hG.AB hG.OO
     rw[e1,aP,aP,l1];omega
    rw[bR];simp;omega
   ·have s2:au H (upd H1 p (.lst ([V.int 0]++iv (hX bx.work)))):=au.gv (s0.trans s1) np;refine q p _ (au.oN s2) ((s0.trans s1).free np) ?_ ?_
    ·rw[K3,if_neg ig,ak];dsimp only;rw[gO];rfl
    ·rw[K3];exact hB.same s2
def AZ(T:Txt K mg c):Callee P w K mg base "answer_told" 1 ["box","numbers","rows"] (jn c K 1 λ_=> .told 0):=by
 exists T.CO.ok ["box","numbers","rows","secret"]
 ·obtain⟨M,b,d,na,bx,nums,ra,rs,rfl,hB,hb,hd,hT,hn,hl,h0,hR,q⟩:=h;obtain⟨dx,pa,sv,mo,bE,h1,h2,h3,h4,h5,h6⟩:=hB.obj;have big:=bI;have hP:=h2.mono (aX M H);obtain⟨qu,fa,pp,_,g1,⟨Gd,VQ,g2,gn⟩,g3,g4⟩:=id hP;refine⟨_,(aj (bS 3 nd (AI (fN (jo (fld K (pv 0)))) ay ay))
   (aq (az (aM ku (cx (aa ay (aa (pv 3) ai))) (fld K (fld K (fld K (pv 0)))))))),?_⟩
  have fin: ∀z:Int,z=((if bx.secret.isSome=true then 1 else 0:Nat):Int)->Wx (Su Uv (WB (Kp (tC (.int 0)) (Kp (Jh 3) Ji))) (NL K (NL K (NL K (Jh 0) "part") "form") "numbers")) {nx:=λ_ H'=>Q .fC H',rt:=Q} [some (.ref b),some (.ref na),some (.ref ra),some (.int z)] H:=λz hz=>by
   refine⟨_,rfl,(by show 2<=sizeLine;omega),λp0 kK=> ?_⟩;have s0:=au.new (o:=HO.lst [.int 0,.int z]) kK;refine⟨_,rfl,b,c.Box,dx,_,_,rfl,s0 _ _ h1,T.cE,T.cR,rfl,pa,c.cB,qu,_,_,rfl,s0 _ _ g1,T.bY,T.bK,rfl,fa,c.Form,Gd,_,_,rfl,s0 _ _ g2,T.bc,T.gN,rfl,p0,VQ,_,_,rfl,rfl,ak,s0 _ _ gn,(by rw[bR];show 2 + 8<=sizeLine;omega),λp np=> ?_⟩;have s2:au H (upd (upd H p0 (.lst [.int 0,.int z])) p (.lst ([.int 0,.int z]++iv bx.work.form.numbers))):=au.gv s0 np;refine q p _ (au.oN s2) (s0.free np) ?_ (hB.same s2);rw[ak];show _=some (HO.lst (zm (cy ((if bx.secret.isSome=true then 1 else 0)::bx.form.numbers))));rw[gO,hz];rfl
  refine⟨_,rfl,b,c.Box,dx,_,_,rfl,h1,T.cE,T.fb,rfl,_,rfl,?_⟩;cases nc:bx.secret with
  |none=>
   rw[nc] at h3;have e:sv= .fC:=h3;subst e;exact cY (fin 0 (by rw[nc];rfl))
  |some x=>
   rw[nc] at h3;obtain⟨sa,e,_⟩:=h3;subst e;exact dJ (fin 1 (by rw[nc];rfl))
def Cy(T:Txt K mg c):Callee P w K mg base "answer_cap" 1 ["box","numbers","rows"] (jn c K 2 λnums=> .cap 0 (dq nums 1)):=by
 exists T.Fy.ok ["box","numbers","rows"]
 ·obtain⟨M,b,d,na,bx,nums,ra,rs,rfl,hB,hb,hd,hT,hn,hl,h0,hR,q⟩:=h;obtain⟨dx,pa,sv,mo,bE,h1,h2,h3,h4,h5,h6⟩:=hB.obj;refine⟨_,(aj (dw (pv 0) (gT K (pv 1) ay) rfl)
   (aq (az (cx (aa ay ai))))),?_⟩
  refine⟨_,rfl,na,_,_,_,rfl,rfl,(aX M H).seq hn,fF (j:=1) (fE (by omega) h0),_,rfl,b,c.Box,dx,_,rfl,h1,T.cE,T.lG,(by show 5<1000;decide),(by show 1<=sizeLine;decide),λp np=> ?_⟩;have hbp:b≠p:=λz=>by rw[<-z,ak] at np;cases np
  have kK:H p=none:=by rw[aJ (bG hbp)] at np;exact np
  have Hv:d≠b:=jw h5 h1 (by intro z;cases z);have XG:d≠p:=aO h5 kK;have kp:jE [b,d] H (upd (upd H b (.ins c.Box dx (iJ "most" (.int ((dq nums 1:Nat):Int)) (kZ pa sv d bx.uses mo)))) p (.lst [.int 0])):=λx o e hx=>by
   have P9:x≠b:=λz=>hx (by rw[z];exact aY ..);rw[aJ (aO e kK),aJ P9];exact e
  have mm:=jE.mask (M:=M) kp λx hx=>by
   rcases aA.mp hx with z|z
   ·rw[z];exact hb
   ·rw[br.mp z];exact hd
  refine q p _ kp kK ak ⟨⟨dx,pa,sv,_,bE,?_,h2.mono mm,h3.mono mm,rfl,?_,h6.mono mm⟩,hB.wf⟩
  ·rw[aJ hbp,ak];rfl
  ·rw[aJ XG,aJ Hv];exact h5
def ij{c:Cs}{Hi:Hp}{n:Nat}{bE:List (Key×V)}{bx:a9}(S:iX c Hi n bE bx.seals)(h:Nat):
  (bx.get h=none/\fL bE (bQ (h:Int))=none)\/ ∃s sa,bx.get h=some s/\Wf n s/\fL bE (bQ (h:Int))=some (.ref sa)/\cQ c Hi sa s:=by
 cases e:bx.get h with
 |none=>
  refine .inl ⟨rfl,S.none h λs e'=> ?_⟩;rw[Wqarav.Box.get,e'] at e;cases e
 |some s=>
  have e':bx.seals[h]? =some (some s):=by
   unfold Wqarav.Box.get at e;cases q:bx.seals[h]? with
   |none=>rw[q] at e;cases e
   |some x=>rw[q] at e;have e:x=some s:=e;rw[e]
  obtain⟨w1,sa,h1,h2⟩:=S.there h s e';exact .inr ⟨s,sa,rfl,w1,h1,h2⟩
def of_none{b:a9}{h:Nat}{g:List ax->fS}(e:b.get h=none):Wqarav.of b [h] g=(b,Wqarav.no (-5)):=by
 unfold Wqarav.of Wqarav.Box.all;rw[e]
def l8{b:a9}{h:Nat}{s:ax}{g:List ax->fS}(e:b.get h=some s):Wqarav.of b [h] g=g [s]:=by
 unfold Wqarav.of Wqarav.Box.all;rw[e];rfl
def As{b:a9}{g:bp->fS}(e:b.secret=none):f9 b g=(b,Wqarav.no (-6)):=by
 unfold f9;rw[e]
def Ar{b:a9}{x:bp}{g:bp->fS}(e:b.secret=some x):f9 b g=g x:=by
 unfold f9;rw[e]
abbrev hU(c:Cs)(K:ab)(M:List Addr)(H:Hp)(b d:Addr)(m:fS)(Q:V->Hp->Prop):Prop:= ∀(p:Addr) (H':Hp),jE [b,d] H H'->H p=none->H' p=some (.lst (zm m.2))->eN c K (cf M H') H' b d m.1->Q (.ref p) H'
def hU.dA{M:List Addr}{H:Hp}{b d:Addr}{bx:a9}{a:jW}{m:fS}{Q:V->Hp->Prop}(q:hU c K M H b d m Q)(hB:eN c K (cf M H) H b d bx)(e:m=(bx,a)){p:Addr}{H':Hp}(s:au H H')(np:H p=none)(hp:H' p=some (.lst (zm a))):Q (.ref p) H':=by
 subst e;exact q p H' (au.oN s) np hp (hB.same s)
def yY(T:Txt K mg c):Callee P w K mg base "answer_bound" 2 ["box","numbers","rows"] (jn c K 2 λnums=> .bound 0 (dq nums 1)):=by
 exists T.BU.ok ["box","numbers","rows","seal"]
 ·obtain⟨M,b,d,na,bx,nums,ra,rs,rfl,hB,hb,hd,hT,hn,hl,h0,hR,q⟩:=h;obtain⟨dx,pa,sv,mo,bE,h1,h2,h3,h4,h5,h6⟩:=hB.obj;have hu:=rJ hr;refine⟨_,(aj (bS 3 nd (mF hu (fld K (pv 0)) (gT K (pv 1) ay) ⟨rfl,rfl,rfl,rfl⟩))
   (aj (cD (fN (jo (pv 3))) (aq (az (aF (bt T) hr (aa (qg T.ip) ai)))) bA)
   (aq (az (cx (aa ay (aa (fld K (pv 3)) ai))))))),?_⟩
  refine⟨_,rfl,b,c.Box,dx,_,_,rfl,h1,T.cE,T.cZ,rfl,d,rfl,.inl ⟨bE,.inl h5⟩,_,rfl,na,_,_,_,rfl,rfl,(aX M H).seq hn,fF (j:=1) (fE (by omega) h0),_,ng.k (k:=bQ ((dq nums 1:Nat):Int)) h5,?_⟩;have q:hU c K M H b d (Wqarav.of bx [dq nums 1] λ(l:List ax)=>(bx,cy (l.map λ(c:ax)=>c.bound))) Q:=q;rcases ij h6 (dq nums 1) with⟨e1,e2⟩|⟨s,sa,e1,hw,e2,hs⟩
  ·exists 10
  ·rw[e2];rw[l8 e1] at q;obtain⟨Pl,wa,g1,g2⟩:=hs.mono (aX M H);exact⟨_,rfl,_,rfl,dJ ⟨_,rfl,sa,c.Seal,Pl,_,_,rfl,g1,T.fI,T.gm,rfl,(by show 2<=sizeLine;decide),λp np=>q.dA hB rfl (au.new np) np ak⟩⟩
def yS(T:Txt K mg c):Callee P w K mg base "answer_write" 4 ["box","numbers","rows"] (jn c K 2 λnums=> .write 0 (dq nums 1)):=by
 exists T.BN.ok ["box","numbers","rows","seal"]
 ·obtain⟨M,b,d,na,bx,nums,ra,rs,rfl,hB,hb,hd,hT,hn,hl,h0,hR,q⟩:=h;obtain⟨dx,pa,sv,mo,bE,h1,h2,h3,h4,h5,h6⟩:=hB.obj;have hu:=rJ hr;have big:=bI;refine⟨_,(aj (bS 3 nd (mF hu (fld K (pv 0)) (gT K (pv 1) ay) ⟨rfl,rfl,rfl,rfl⟩))
   (aj (cD (fN (jo (pv 3))) (aq (az (aF (bt T) hr (aa (qg T.ip) ai)))) bA)
   (aq (az (aM ku (cx (aa ay ai)) (aF (Ck T) hr (aa (pv 3) ai))))))),?_⟩
  refine⟨_,rfl,b,c.Box,dx,_,_,rfl,h1,T.cE,T.cZ,rfl,d,rfl,.inl ⟨bE,.inl h5⟩,_,rfl,na,_,_,_,rfl,rfl,(aX M H).seq hn,fF (j:=1) (fE (by omega) h0),_,ng.k (k:=bQ ((dq nums 1:Nat):Int)) h5,?_⟩;have q:hU c K M H b d (Wqarav.of bx [dq nums 1] λ(l:List ax)=>(bx,cy (l.flatMap iz))) Q:=q;rcases ij h6 (dq nums 1) with⟨e1,e2⟩|⟨s,sa,e1,hw,e2,hs⟩
  ·exists 10
  ·rw[e2];rw[l8 e1] at q;have hn4:=hB.wf.good.n4;refine⟨_,rfl,_,rfl,dJ ⟨(by show 1<=sizeLine;omega),λp0 kK=> ?_⟩⟩;have s0:=au.new (o:=HO.lst [.int 0]) kK;refine⟨_,rfl,sa,s,bx.work.form.n,rfl,hs.mono ((aX M H).trans s0),hw,hn4,λp1 H1 s1 KL xq=>⟨p0,p1,_,_,rfl,rfl,s1 _ _ ak,xq,?_,λp np=> ?_⟩⟩
   ·have hz:(iz s).length<=100:=by
     have e:iz s=(s.a++[s.b]).flatMap (Wqarav.le 2):=rfl;rw[e];rw[il,aP,hw.len];show(bx.work.form.n + 1)*2<=100;omega
    rw[bR];simp;omega
   ·have s2:au H (upd H1 p (.lst ([V.int 0]++iv (iz s)))):=au.gv (s0.trans s1) np;refine q.dA hB rfl s2 ((s0.trans s1).free np) ?_;rw[ak,gO,dF,fQ,dz];rfl
def xi(T:Txt K mg c):Callee P w K mg base "answer_opened" 4 ["box","numbers","rows"] (jn c K 2 λnums=> .open_ 0 (dq nums 1)):=by
 exists T.zj.ok ["box","numbers","rows","seal"]
 ·obtain⟨M,b,d,na,bx,nums,ra,rs,rfl,hB,hb,hd,hT,hn,hl,h0,hR,q⟩:=h;obtain⟨dx,pa,sv,mo,bE,h1,h2,h3,h4,h5,h6⟩:=hB.obj;have hu:=rJ hr;have hP:=h2.mono (aX M H);obtain⟨qu,fa,pp,ra,g1,g2,g3,g4⟩:=id hP;refine⟨_,(aj (bS 3 nd (mF hu (fld K (pv 0)) (gT K (pv 1) ay) ⟨rfl,rfl,rfl,rfl⟩))
   (aj (cD (fN (jo (fld K (pv 0)))) (aq (az (aF (bt T) hr (aa (qg T.pG) ai)))) bA)
   (aj (cD (fN (jo (pv 3))) (aq (az (aF (bt T) hr (aa (qg T.ip) ai)))) bA)
   (aq (az (cx (aa ay (aa (aF (LN T) hr (aa (fld K (fld K (pv 0))) (aa (fld K (fld K (pv 0))) (aa (pv 3) ai)))) ai)))))))),?_⟩
  refine⟨_,rfl,b,c.Box,dx,_,_,rfl,h1,T.cE,T.cZ,rfl,d,rfl,.inl ⟨bE,.inl h5⟩,_,rfl,na,_,_,_,rfl,rfl,(aX M H).seq hn,fF (j:=1) (fE (by omega) h0),_,ng.k (k:=bQ ((dq nums 1:Nat):Int)) h5,?_⟩;refine⟨_,rfl,b,c.Box,dx,_,_,rfl,h1,T.cE,T.fb,rfl,_,rfl,?_⟩;have q:hU c K M H b d (f9 bx λ(x:bp)=>Wqarav.of bx [dq nums 1] λ(l:List ax)=>(bx,cy (l.map λ(c:ax)=>FX bx.form x c))) Q:=q;cases nc:bx.secret with
  |none=>
   rw[nc] at h3;have e:sv= .fC:=h3;subst e;rw[As nc] at q;exact cY ⟨6,rfl,λp H' sm np hp=>q.dA hB rfl sm np hp⟩
  |some x=>
   rw[nc] at h3;obtain⟨xa,e,hx,Xl,hxz⟩:=h3;subst e;rw[Ar nc] at q;obtain⟨Yc,ba,za,x1,x2,x3⟩:=hx.mono (aX M H);refine dJ ?_;rcases ij h6 (dq nums 1) with⟨e1,e2⟩|⟨s,sa,e1,hw,e2,hs⟩
   ·exists 10
   ·rw[e2];rw[l8 e1] at q;refine⟨_,rfl,_,rfl,dJ ⟨_,rfl,b,c.Box,dx,_,_,rfl,h1,T.cE,T.cR,rfl,pa,c.cB,qu,_,_,rfl,g1,T.bY,T.bK,rfl,_,rfl,b,c.Box,dx,_,_,rfl,h1,T.cE,T.fb,rfl,xa,c.gz,Yc,_,_,rfl,x1,T.g8,T.fY,rfl,_,rfl,fa,ba,sa,bx.work.form,s,x,rfl,g2,hB.wf.good.toSmall,hs.mono (aX M H),hw,bw.of x2,Xl,λH1 s1=>⟨(by show 2<=sizeLine;decide),λp np=> ?_⟩⟩⟩;exact q.dA hB rfl (au.gv s1 np) (s1.free np) ak
def Cu(T:Txt K mg c):Callee P w K mg base "answer_off" 4 ["box","numbers","rows"] (jn c K 3 λnums=> .off 0 (dq nums 1) (dq nums 2)):=by
 exists T.Fv.ok ["box","numbers","rows","seal","number","form"]
 ·obtain⟨M,b,d,na,bx,nums,ra,rs,rfl,hB,hb,hd,hT,hn,hl,h0,hR,q⟩:=h;obtain⟨dx,pa,sv,mo,bE,h1,h2,h3,h4,h5,h6⟩:=hB.obj;have hu:=rJ hr;have hP:=h2.mono (aX M H);obtain⟨qu,fa,pp,ra,g1,g2,g3,g4⟩:=id hP;have hN:=(aX M H).seq hn;refine⟨_,(aj (bS 3 nd (mF hu (fld K (pv 0)) (gT K (pv 1) ay) ⟨rfl,rfl,rfl,rfl⟩))
   (aj (bS 4 nd (gT K (pv 1) ay))
   (aj (bS 5 nd (fld K (fld K (pv 0))))
   (aj (cD (fN (jo (fld K (pv 0)))) (aq (az (aF (bt T) hr (aa (qg T.pG) ai)))) bA)
   (aj (cD (d6 (dB (aF (kx T) hr (aa (pv 5) (aa (pv 4) ai))))) (aq (az (aF (bt T) hr (aa (qg T.cF) ai)))) bA)
   (aj (cD (fN (jo (pv 3))) (aq (az (aF (bt T) hr (aa (qg T.ip) ai)))) bA)
   (aq (az (cx (aa ay (aa (aF (LO T) hr (aa (pv 5) (aa (fld K (fld K (pv 0))) (aa (pv 3) (aa (pv 4) ai))))) ai))))))))))),?_⟩
  refine⟨_,rfl,b,c.Box,dx,_,_,rfl,h1,T.cE,T.cZ,rfl,d,rfl,.inl ⟨bE,.inl h5⟩,_,rfl,na,_,_,_,rfl,rfl,hN,fF (j:=1) (fE (by omega) h0),_,ng.k (k:=bQ ((dq nums 1:Nat):Int)) h5,?_⟩;refine⟨_,rfl,na,_,_,_,rfl,rfl,hN,fF (j:=2) (fE (by omega) h0),?_⟩;refine⟨_,rfl,b,c.Box,dx,_,_,rfl,h1,T.cE,T.cR,rfl,pa,c.cB,qu,_,_,rfl,g1,T.bY,T.bK,rfl,?_⟩;refine⟨_,rfl,b,c.Box,dx,_,_,rfl,h1,T.cE,T.fb,rfl,_,rfl,?_⟩;have q:hU c K M H b d (f9 bx λ(x:bp)=>if 2*bx.form.p<=dq nums 2 then(bx,Wqarav.no (-1)) else Wqarav.of bx [dq nums 1] λ(l:List ax)=>(bx,⟨0,l.map λ(c:ax)=>Wqarav.off bx.form x c (dq nums 2)⟩)) Q:=q;cases nc:bx.secret with
  |none=>
   rw[nc] at h3;have e:sv= .fC:=h3;subst e;rw[As nc] at q;exact cY ⟨6,rfl,λp H' sm np hp=>q.dA hB rfl sm np hp⟩
  |some x=>
   rw[nc] at h3;obtain⟨xa,e,hx,Xl,hxz⟩:=h3;subst e;rw[Ar nc] at q;obtain⟨Yc,ba,za,x1,x2,x3⟩:=hx.mono (aX M H);refine dJ ⟨_,rfl,_,rfl,fa,bx.work.form,dq nums 2,rfl,g2,_,rfl,?_⟩;by_cases hj:dq nums 2<2*bx.work.form.p
   ·rw[decide_eq_true hj];rw[if_neg (show¬2*bx.form.p<=dq nums 2 from gr.mpr hj)] at q;refine dJ ?_;rcases ij h6 (dq nums 1) with⟨e1,e2⟩|⟨s,sa,e1,hw,e2,hs⟩
    ·exists 10
    ·rw[e2];rw[l8 e1] at q;refine⟨_,rfl,_,rfl,dJ ⟨_,rfl,_,rfl,b,c.Box,dx,_,_,rfl,h1,T.cE,T.fb,rfl,xa,c.gz,Yc,_,_,rfl,x1,T.g8,T.fY,rfl,_,rfl,_,rfl,fa,ba,sa,bx.work.form,s,x,dq nums 2,rfl,g2,hB.wf.good.toSmall,hs.mono (aX M H),hw,bw.of x2,Xl,λH1 s1=>⟨(by show 2<=sizeLine;decide),λp np=> ?_⟩⟩⟩;exact q.dA hB rfl (au.gv s1 np) (s1.free np) ak
   ·rw[decide_eq_false hj];rw[if_pos (show 2*bx.form.p<=dq nums 2 from fB.mp hj)] at q;exists 20
def nk(z:Int):Wqarav.word z<65536:=by
 unfold Wqarav.word;omega
def Pd(f:aB)(hg:Small f)(x:bp)(j y:Nat):Wf f.n (iO f x j (aV (2*f.n + 1) y)):=by
 have e1:(iO f x j (aV (2*f.n + 1) y)).a=jQ f.n y:=sj f.n y;refine⟨by rw[e1,jP],by rw[e1];exact si _ _,nk _,?_⟩;show f.noise<=32768;have:=hg.noise;omega
def Hj{b:a9}{s:ax}(hl:b.seals.length=32)(h:0<b.free): ∃i,b.seals.findIdx? (λx=>x.isNone)=some i/\Wqarav.made b [s]=(Lc b i s,cy [i]):=by
 cases e:b.seals.findIdx? (λx=>x.isNone) with
 |none=>
  rw[jO] at e;have:b.free=0:=by
   unfold Wqarav.Box.free;rw[eU,Kk];intro x hx;have:=e x hx;simp[this]
  omega
 |some i=>
  refine⟨i,rfl,?_⟩;unfold Wqarav.made;rw[if_neg (by show¬b.free<1;omega)];unfold Wqarav.Box.putAll;rw[e];rfl
def zy{b:a9}{s:ax}(h: ¬0<b.free):Wqarav.made b [s]=(b,Wqarav.no (-3)):=by
 unfold Wqarav.made;rw[if_pos (by show b.free<1;omega)]
def A3(T:Txt K mg c):Callee P w K mg base "answer_seal" 5 ["box","numbers","rows"] (jn c K 3 λnums=> .seal_ 0 (dq nums 1) (dq nums 2)):=by
 exists T.CT.ok ["box","numbers","rows","number","form","seal"]
 ·obtain⟨M,b,d,na,bx,nums,ra,rs,rfl,hB,hb,hd,hT,hn,hl,h0,hR,q⟩:=h;obtain⟨dx,pa,sv,mo,bE,h1,h2,h3,h4,h5,h6⟩:=hB.obj;have hu:=rJ hr;have hP:=h2.mono (aX M H);obtain⟨qu,fa,pp,ra,g1,g2,g3,g4⟩:=id hP;have hN:=(aX M H).seq hn;have hG:=hB.wf.good;refine⟨_,(aj (bS 3 nd (gT K (pv 1) ay))
   (aj (bS 4 nd (fld K (fld K (pv 0))))
   (aj (cD (fN (jo (fld K (pv 0)))) (aq (az (aF (bt T) hr (aa (qg T.pG) ai)))) bA)
   (aj (cD (d6 (dB (aF (kx T) hr (aa (pv 4) (aa (pv 3) ai))))) (aq (az (aF (bt T) hr (aa (qg T.cF) ai)))) bA)
   (aj (cD (d6 (dB (aF (i8 T) hr (aa (pv 0) (aa ay ai))))) (aq (az (aF (bt T) hr (aa (qg T.kY) ai)))) bA)
   (aj (bS 5 nd (aF (G3 T) hr (aa (pv 4) (aa (fld K (fld K (pv 0))) (aa (pv 3) (aa (i6 (sR T) hr (aa (gT K (pv 1) ay) ai)) ai))))))
   (aq (az (cx (aa ay (aa (aF (jZ T) hr (aa (pv 0) (aa (pv 5) ai))) ai))))))))))),?_⟩
  refine⟨_,rfl,na,_,_,_,rfl,rfl,hN,fF (j:=1) (fE (by omega) h0),?_⟩;refine⟨_,rfl,b,c.Box,dx,_,_,rfl,h1,T.cE,T.cR,rfl,pa,c.cB,qu,_,_,rfl,g1,T.bY,T.bK,rfl,?_⟩;refine⟨_,rfl,b,c.Box,dx,_,_,rfl,h1,T.cE,T.fb,rfl,_,rfl,?_⟩;have q:hU c K M H b d (f9 bx λ(x:bp)=>if 2*bx.form.p<=dq nums 1 then(bx,Wqarav.no (-1)) else Wqarav.made bx [iO bx.form x (dq nums 1) (aV (2*bx.form.n + 1) (dq nums 2))]) Q:=q;cases nc:bx.secret with
  |none=>
   rw[nc] at h3;have e:sv= .fC:=h3;subst e;rw[As nc] at q;exact cY ⟨6,rfl,λp H' sm np hp=>q.dA hB rfl sm np hp⟩
  |some x=>
   rw[nc] at h3;obtain⟨xa,e,hx,Xl,hxz⟩:=h3;subst e;rw[Ar nc] at q;obtain⟨Yc,ba,za,x1,x2,x3⟩:=hx.mono (aX M H);refine dJ ⟨_,rfl,_,rfl,fa,bx.work.form,dq nums 1,rfl,g2,_,rfl,?_⟩;by_cases hj:dq nums 1<2*bx.work.form.p
   ·rw[decide_eq_true hj];rw[if_neg (show¬2*bx.form.p<=dq nums 1 from gr.mpr hj)] at q;refine dJ ⟨_,rfl,cf M H,b,d,bx,1,rfl,hB,_,rfl,?_⟩;by_cases uv:1<=bx.free
    ·rw[decide_eq_true uv];obtain⟨i,hi,hm⟩:=Hj (s:=iO bx.form x (dq nums 1) (aV (2*bx.form.n + 1) (dq nums 2))) h6.len uv;rw[hm] at q;refine dJ ⟨_,rfl,_,rfl,b,c.Box,dx,_,_,rfl,h1,T.cE,T.fb,rfl,xa,c.gz,Yc,_,_,rfl,x1,T.g8,T.fY,rfl,_,rfl,_,rfl,na,_,_,_,rfl,rfl,hN,fF (j:=2) (fE (by omega) h0),λl dl nl He ne=>⟨l,dl,dq nums 2,rfl,ak,λH1 hL k1=>⟨rfl,?_⟩⟩⟩;have s1:au H H1:=au.made nl He k1;refine⟨H,fa,ba,l,bx.work.form,x,dq nums 1,dq nums 2,rfl,s1,nl,g2,hG.toSmall,bw.of x2,Xl,hL,λp H2 s2 np hS=> ?_⟩;have k2:=hT.same s2;refine⟨_,rfl,_,rfl,cf M H2,b,d,p,bx,_,i,rfl,hB.same s2,hS.LU k2,Pd _ hG.toSmall _ _ _,hi,λH3 Mo k3=>⟨(by show 2<=sizeLine;decide),λp4 II=> ?_⟩⟩;have hK:jE [b,d] H (upd H3 p4 (.lst [.int 0,.int (i:Int)])):=λy o e hy=>by
      have e3:H3 y=some o:=k3 y o (s2 _ _ e) λz=>hy (by rw[z];exact aK _ (aY ..));rw[aJ (aO e3 II)];exact e3
     obtain⟨RY,pa3,sv3,mo3,kv3,t1,t2,t3,t4,t5,t6⟩:=Mo.obj;have np:H p4=none:=by
      cases e:H p4 with
      |none=>rfl
      |some o=>
       have S6:p4≠d:=λz=>by rw[z,t5] at II;cases II
       rw[k3 p4 o (s2 _ _ e) S6] at II;cases II
     refine q p4 _ hK np ak (Mo.mono (λy o e=> ?_) (aJ (aO t1 II)) (aJ (aO t5 II)));obtain⟨y1,y2⟩:=lI e;have e3:=k3 y o y2 λz=>y1 (by rw[z];exact hd);rw[cV y1,aJ (aO e3 II)];exact e3
    ·rw[decide_eq_false uv];rw[zy uv] at q;exact cY ⟨3,rfl,λp H' sm np hp=>q.dA hB rfl sm np hp⟩
   ·rw[decide_eq_false hj];rw[if_pos (show 2*bx.form.p<=dq nums 1 from fB.mp hj)] at q;exists 20
abbrev nats(l:List Int):List Nat:=l.map qM
inductive pd(m k:Nat)(Ys:List Int->List (List Int)->jW)(vs:List V)(H:Hp)(Q:VK)(E:XK):Prop
 |mk (B na ra:Addr) (nums:List Int) (rs:List (List Int)):vs=[.ref B,.ref na,.ref ra]->H na=some (.lst (ii nums))->dS H ra dD (rs.map ii)->nums.length=m->rs.length=k->(∀v∈nums,0<=v)->(∀r∈rs,∀v∈r,0<=v)->(∀(p:Addr) (H':Hp),au H H'->H p=none->H' p=some (.lst (zm (Ys nums rs)))->Q (.ref p) H')->pd m k Ys vs H Q E
def zr{H:Hp}{ra:Addr}{rs:List (List Int)}(h:dS H ra dD (rs.map ii))(hk:rs.length=1)(h0: ∀r∈rs,∀v∈r,(0:Int)<=v): ∃r t,rs=[r]/\H ra=some (.lst [.ref t])/\H t=some (.lst (iv (nats r))):=by
 obtain⟨r,rfl⟩:=Sb.mO hk;obtain⟨ts,sV,hP⟩:=h;cases hP with
 | @cons t r' ts' rs' ht hP'=>
  cases hP';refine⟨r,t,rfl,sV,?_⟩;rw[<-rB (h0 r (aY ..))];exact ht
def Bh{l:List Nat}{g:aB->jW}(h:gh l=true):fj l g=g (aT l):=by
 unfold gh at h;rw[cq] at h;unfold fj;rw[if_pos ⟨of_decide_eq_true h.1,h.2⟩]
def DS{l:List Nat}{g:aB->jW}(h:gh l=false):fj l g=Wqarav.no (-1):=by
 unfold fj;rw[if_neg λe=>by
  unfold gh at h;rw[e.2,decide_eq_true e.1] at h;cases h]
def pB{l:List Nat}(h:gh l=true):l.length=8:=by
 unfold gh at h;rw[cq] at h;exact of_decide_eq_true h.1
def rG{l:List Nat}(h:gh l=true):Good (aT l):=by
 unfold gh at h;rw[cq] at h;exact(wj _).mp h.2
def A6(T:Txt K mg c):Callee P w K mg base "answer_need" 4 ["boxes","numbers","rows"] (pd 0 1 λ_ rs=>fj (nats (rs.getD 0 [])) λ(f:aB)=>cy [Wqarav.need f,bu f,2*f.n + 2]):=by
 exists T.CW.ok ["boxes","numbers","rows","form"]
 ·obtain⟨B,na,ra,nums,rs,rfl,hn,sV,hl,hk,h0,h1,q⟩:=h;obtain⟨r,t,rfl,sV,ht⟩:=zr sV hk h1;have q: ∀(p:Addr) (H':Hp),au H H'->H p=none->H' p=some (.lst (zm (fj (nats r) λ(f:aB)=>cy [Wqarav.need f,bu f,2*f.n + 2])))->Q (.ref p) H':=q;refine⟨_,(aj (cD (d6 (dB (aF (pk T) hr (aa (gT K (pv 2) ay) ai)))) (aq (az (aF (bt T) hr (aa (qg T.cF) ai)))) bA)
   (aj (bS 3 nd (i6 (md T) hr (aa (gT K (pv 2) ay) ai)))
   (aq (az (cx (aa ay (aa (aF (xc T) hr (aa (pv 3) ai)) (aa (aF (l6 T) hr (aa (pv 3) ai)) (aa (aF (vM T) hr (aa (pv 3) ai)) ai))))))))),?_⟩
  refine⟨_,rfl,ra,_,_,_,rfl,rfl,bw.of sV,c8 (j:=0) rfl,t,nats r,rfl,bw.of ht,λH1 s1=>⟨_,rfl,?_⟩⟩;cases hf:gh (nats r) with
  |false=>
   rw[DS hf] at q;exact cY ⟨1,rfl,λp H' sm np hp=>q p H' (s1.trans sm) (s1.free np) hp⟩
  |true=>
   rw[Bh hf] at q;have hG:=rG hf;refine dJ ⟨_,rfl,ra,_,_,_,rfl,rfl,bw.of (s1 _ _ sV),c8 (j:=0) rfl,λx dx nx CB ne=>⟨x,dx,t,aT (nats r),rfl,ak,bw.of ?_,by have:=hG.p2;omega,by have:=hG.p8;omega,λH2 hF k2=>⟨rfl,?_⟩⟩⟩
   ·have OW:=s1 _ _ ht;rw[aJ (aO OW nx),aJ (aO OW CB),kU (pB hf)];exact OW
   have s2:au H H2:=s1.trans (au.made nx CB k2);refine⟨_,rfl,x,_,rfl,hF,hG.toSmall,_,rfl,x,_,rfl,hF,hG.toSmall,_,rfl,x,_,rfl,hF,hG.toSmall,(by show 4<=sizeLine;decide),λp np=>q p _ (au.gv s2 np) (s2.free np) ?_⟩;rw[ak,gO];rfl
def Cz(T:Txt K mg c):Callee P w K mg base "answer_can" 4 ["boxes","numbers","rows"] (pd 0 1 λ_ rs=>fj (nats (rs.getD 0 [])) λ(f:aB)=>⟨0,[(fo f:Int),(f.step:Int),iT f]⟩):=by
 exists T.Fz.ok ["boxes","numbers","rows","form"]
 ·obtain⟨B,na,ra,nums,rs,rfl,hn,sV,hl,hk,h0,h1,q⟩:=h;obtain⟨r,t,rfl,sV,ht⟩:=zr sV hk h1;have q: ∀(p:Addr) (H':Hp),au H H'->H p=none->H' p=some (.lst (zm (fj (nats r) λ(f:aB)=>⟨0,[(fo f:Int),(f.step:Int),iT f]⟩)))->Q (.ref p) H':=q;refine⟨_,(aj (cD (d6 (dB (aF (pk T) hr (aa (gT K (pv 2) ay) ai)))) (aq (az (aF (bt T) hr (aa (qg T.cF) ai)))) bA)
   (aj (bS 3 nd (i6 (md T) hr (aa (gT K (pv 2) ay) ai)))
   (aq (az (cx (aa ay (aa (aF (rm T) hr (aa (pv 3) ai)) (aa (fld K (pv 3)) (aa (aF (oJ T) hr (aa (pv 3) ai)) ai))))))))),?_⟩
  refine⟨_,rfl,ra,_,_,_,rfl,rfl,bw.of sV,c8 (j:=0) rfl,t,nats r,rfl,bw.of ht,λH1 s1=>⟨_,rfl,?_⟩⟩;cases hf:gh (nats r) with
  |false=>
   rw[DS hf] at q;exact cY ⟨1,rfl,λp H' sm np hp=>q p H' (s1.trans sm) (s1.free np) hp⟩
  |true=>
   rw[Bh hf] at q;have hG:=rG hf;refine dJ ⟨_,rfl,ra,_,_,_,rfl,rfl,bw.of (s1 _ _ sV),c8 (j:=0) rfl,λx dx nx CB ne=>⟨x,dx,t,aT (nats r),rfl,ak,bw.of ?_,by have:=hG.p2;omega,by have:=hG.p8;omega,λH2 hF k2=>⟨rfl,?_⟩⟩⟩
   ·have OW:=s1 _ _ ht;rw[aJ (aO OW nx),aJ (aO OW CB),kU (pB hf)];exact OW
   have s2:au H H2:=s1.trans (au.made nx CB k2);obtain⟨Gd,VQ,Y7,U7⟩:=id hF;refine⟨_,rfl,x,_,rfl,hF,hG,_,rfl,x,c.Form,Gd,_,_,rfl,Y7,T.bc,T.gg,rfl,_,rfl,x,_,rfl,hF,hG.toSmall,(by show 4<=sizeLine;decide),λp np=>q p _ (au.gv s2 np) (s2.free np) ?_⟩;rw[ak];rfl
def A7(T:Txt K mg c):Callee P w K mg base "answer_luck" 3 ["boxes","numbers","rows"] (pd 3 0 λnums _=>if 100<dq nums 2\/20000<dq nums 1 then Wqarav.no (-1) else cy ((aV (dq nums 1 + dq nums 2) (dq nums 0)).drop (dq nums 1))):=by
 exists T.CY.ok ["boxes","numbers","rows","first","many","luck","skipped"]
 ·obtain⟨B,na,ra,nums,rs,rfl,hn,sV,hl,hk,h0,h1,q⟩:=h;have big:=bI;refine⟨_,(aj (bS 3 nd (gT K (pv 1) ay))
   (aj (bS 4 nd (gT K (pv 1) ay))
   (aj (cD (AE (eh rk (pv 4) (qg T.Ih) (dC _)) (uN (eh rk (pv 3) (qg T.Ii) (dC _)))).pt (aq (az (aF (bt T) hr (aa (qg T.cF) ai)))) bA)
   (aj (bS 5 nd (i6 (sR T) hr (aa (gT K (pv 1) ay) ai)))
   (aj (fD PassesOwn.never rfl (fh rfl T.gj (aa (pv 3) ai)) (qn 6 nd) (aq (fU (EK (l7 T) hr (pv 5)))))
   (aq (az (aM ku (cx (aa ay ai)) (yj (jv T) hr (pv 5) (aa (pv 4) ai)))))))))),?_⟩
  refine⟨_,rfl,na,_,_,_,rfl,rfl,bw.of hn,fF (j:=1) (fE (by omega) h0),?_⟩;refine⟨_,rfl,na,_,_,_,rfl,rfl,bw.of hn,fF (j:=2) (fE (by omega) h0),?_⟩
  (try dsimp only at q)
  generalize hi:dq nums 1=i at q ⊢;generalize hm:dq nums 2=m at q ⊢;exists 23
  ·have hc:(100:Int)<(m:Int):=of_decide_eq_true hc;rw[if_pos (.inl (by omega))] at q;exact cY ⟨1,rfl,λp H' sm np hp=>q p H' sm np hp⟩
  have hc: ¬(100:Int)<(m:Int):=λe=>hc (decide_eq_true e);refine⟨_,rfl,_,_,rfl,rfl,_,rfl,j9 (λhd=> ?_) λhd=> ?_⟩
  ·have hd:(20000:Int)<(i:Int):=of_decide_eq_true hd;rw[if_pos (.inr (by omega))] at q;exact⟨1,rfl,λp H' sm np hp=>q p H' sm np hp⟩
  have hd: ¬(20000:Int)<(i:Int):=λe=>hd (decide_eq_true e);rw[if_neg (by omega),Sb.mw (jN i m),qL] at q;refine⟨_,rfl,na,_,_,_,rfl,rfl,bw.of hn,fF (j:=0) (fE (by omega) h0),λl dl nl He ne=>⟨l,dl,dq nums 0,rfl,ak,λH1 hL k1=>⟨rfl,?_⟩⟩⟩;generalize dq nums 0=y at q hL ⊢;have s1:au H H1:=au.made nl He k1;refine⟨_,rfl,(i:Int),rfl,by omega,by omega,?_⟩;rw[bb];refine jj (λn σ H'=>dy c H' l (Sb.jc n y)/\cg l H1 H'/\ ∃u,σ=[some (.ref B),some (.ref na),some (.ref ra),some (.int (i:Int)),some (.int (m:Int)),some (.ref l),u]) ⟨by rw[Sb.uE];exact hL,λ_ _ e _=>e,none,rfl⟩ (λn σ H' XA h=> ?_) (λσ H' h=> ?_)
  ·obtain⟨⟨Yf,JI⟩,U6,u,rfl⟩:=h;refine⟨_,rfl,l,Yf,_,rfl,JI,iN _ (by decide +kernel),l,_,rfl,⟨Yf,JI⟩,λH2 a2 k2=>⟨?_,λb o e hb=>k2 b o (U6 b o e hb) hb,_,rfl⟩⟩;rw[Sb.B8];exact a2
  ·obtain⟨⟨Yf,JI⟩,U6,u,rfl⟩:=h;have s2:au H H':=au.but s1 nl U6;refine⟨(by show 1<=sizeLine;omega),λp0 kK=> ?_⟩;have K2:=au.new (o:=HO.lst [.int 0]) kK _ _ JI;have aaD:p0≠l:=λz=>by rw[z,JI] at kK;cases kK
   refine⟨_,rfl,l,Yf,_,rfl,K2,iN _ (by decide +kernel),_,rfl,l,_,m,rfl,⟨Yf,K2⟩,by omega,λp1 H3 a3 k3 KL xq=>⟨p0,p1,_,_,rfl,rfl,k3 _ _ ak aaD,xq,?_,λp np=> ?_⟩⟩
   ·rw[bR,Sb.eM];show 1 + m<=sizeLine;omega
   ·have s3:au H H3:=au.but (s2.trans (au.new kK)) nl k3;refine q p _ (au.gv s3 np) (s3.free np) ?_;rw[ak,gO];rfl
def Li(c:Cs)(K:ab)(M:List Addr)(H:Hp)(x:V)(b d:Addr):Option a9->Prop
 | .none=>x= .fC
 | .some bx=>x= .ref b/\b∈M/\d∈M/\eN c K (cf M H) H b d bx
structure eO(c:Cs)(K:ab)(M:List Addr)(H:Hp)(B:Addr)(s:List (Option a9)):Prop where
 kept:Kept M H
 bin:B∈M
 len:s.length=3
 ex: ∃(xs:List V) (b d:Nat->Addr),H B=some (.lst xs)/\xs.length=3/\(∀k,k<3->Li c K M H (xs.getD k .fC) (b k) (d k) (s.getD k none))/\
  ∀j k,j<3->k<3->j≠k->s.getD j none≠none->s.getD k none≠none->b j≠b k/\d j≠d k
section
variable{c:Cs}{K:ab}{M:List Addr}{H H':Hp}{B:Addr}{s:List (Option a9)}
theorem Li.same{x:V}{b d:Addr}{o:Option a9}(h:Li c K M H x b d o)(sm:au H H'):Li c K M H' x b d o:=by
 cases o with
 |none=>exact h
 |some bx=>exact⟨h.1,h.2.1,h.2.2.1,h.2.2.2.same sm⟩
theorem eO.same(W:eO c K M H B s)(sm:au H H'):eO c K M H' B s:=by
 obtain⟨xs,b,d,h1,h2,h3,h4⟩:=W.ex;exact⟨W.kept.same sm,W.bin,W.len,xs,b,d,sm _ _ h1,h2,λk hk=>(h3 k hk).same sm,h4⟩
def eN.uu{Hi:Hp}{b d:Addr}{bx:a9}(h:eN c K Hi H b d bx):oX H b:=by
 obtain⟨dx,pa,sv,mo,bE,h1,_⟩:=h.obj;exact⟨_,dx,pa,sv,d,bx.uses,mo,h1⟩
def eN.SR{Hi:Hp}{b d:Addr}{bx:a9}(h:eN c K Hi H b d bx): ∃bE,H d=some (.dK bE):=by
 obtain⟨dx,pa,sv,mo,bE,h1,h2,h3,h4,h5,_⟩:=h.obj;exact⟨bE,h5⟩
def Kept.after{b d:Addr}{bx Yo:a9}{Hi Qk:Hp}(k:Kept M H)(kp:jE [b,d] H H')(h0:eN c K Hi H b d bx)(h1:eN c K Qk H' b d Yo):Kept M H':=λy hy=>by
 have box: ∀z,oX H z->oX H' z:=λz hz=>by
  by_cases e:z=b
  ·rw[e];exact h1.uu
  ·obtain⟨C,dx,pa,sv,d',u,m,e1⟩:=hz;obtain⟨bE,e2⟩:=h0.SR;refine⟨C,dx,pa,sv,d',u,m,kp z _ e1 λhm=> ?_⟩;rcases aA.mp hm with e3|e3
   ·exact e e3
   ·rw[br.mp e3,e2] at e1;cases e1
 by_cases eb:y=b
 ·rw[eb];exact .inl h1.uu
 by_cases ed:y=d
 ·rw[ed];exact .inr (.inl h1.SR)
 have hn:y∉[b,d]:=λhm=>by
  rcases aA.mp hm with e3|e3
  ·exact eb e3
  ·exact ed (br.mp e3)
 rcases k y hy with h|⟨bE,h⟩|⟨xs,e1,e2,e3⟩
 ·exact .inl (box y h)
 ·exact .inr (.inl ⟨bE,kp _ _ h hn⟩)
 ·refine .inr (.inr ⟨xs,kp _ _ e1 hn,e2,λx hx=> ?_⟩);rcases e3 x hx with e|⟨b',e,Ng⟩
  ·exact .inl e
  ·exact .inr ⟨b',e,box b' Ng⟩
def rL{α:Type}{l:List α}{k:Nat}{v a:α}(h:k<l.length):(l.set k v).getD k a=v:=by
 rw[ae,dW h];rfl
def iC{α:Type}{l:List α}{k j:Nat}{v a:α}(h:k≠j):(l.set k v).getD j a=l.getD j a:=by
 rw[ae,dM h,ae]
theorem eO.after(W:eO c K M H B s){k:Nat}(hk:k<3){bx:a9}(hs:s.getD k none=some bx):
  ∃xs b d,H B=some (.lst xs)/\xs.length=3/\xs.getD k .fC= .ref b/\b∈M/\d∈M/\eN c K (cf M H) H b d bx/\
   ∀(H':Hp) (Yo:a9),jE [b,d] H H'->eN c K (cf M H') H' b d Yo->eO c K M H' B (s.set k (some Yo)):=by
 obtain⟨xs,b,d,h1,h2,h3,h4⟩:=W.ex;have ho:=h3 k hk;rw[hs] at ho;obtain⟨o1,o2,o3,o4⟩:=ho;refine⟨xs,b k,d k,h1,h2,o1,o2,o3,o4,λH' Yo kp hB=>⟨W.kept.after kp o4 hB,W.bin,by rw[dO];exact W.len,xs,b,d,kp _ _ h1 λhm=> ?_,h2,λj hj=> ?_,λi j hi hj RJ ni nj=> ?_⟩⟩
 ·obtain⟨C,dx,pa,sv,d',u,m,e1⟩:=o4.uu;obtain⟨bE,e2⟩:=o4.SR;rcases aA.mp hm with e|e
  ·rw[<-e,h1] at e1;cases e1
  ·rw[<-br.mp e,h1] at e2;cases e2
 ·by_cases zC:k=j
  ·subst zC;rw[rL (by rw[W.len];exact hk)];exact⟨o1,o2,o3,hB⟩
  ·rw[iC zC];have E7:=h3 j hj;cases e:s.getD j none with
   |none=>rw[e] at E7;exact E7
   |some bj=>
    rw[e] at E7;obtain⟨q1,q2,q3,q4⟩:=E7;obtain⟨n1,n2⟩:=h4 j k hj hk (bG zC) (by rw[e];intro z;cases z) (by rw[hs];intro z;cases z);have mm:=jE.mask (M:=M) kp λx hx=>by
     rcases aA.mp hx with z|z
     ·rw[z];exact o2
     ·rw[br.mp z];exact o3
    obtain⟨C,dx,pa,sv,d',u,m,e1⟩:=o4.uu;obtain⟨bE,e2⟩:=o4.SR;obtain⟨C',To,pa',sv',d'',u',m',Ni⟩:=q4.uu;obtain⟨Xc,K5⟩:=q4.SR;refine⟨q1,q2,q3,q4.mono mm ?_ ?_⟩
    ·rw[Ni];refine kp _ _ Ni λhm=> ?_;rcases aA.mp hm with z|z
     ·exact n1 z
     ·rw[br.mp z,e2] at Ni;cases Ni
    ·rw[K5];refine kp _ _ K5 λhm=> ?_;rcases aA.mp hm with z|z
     ·rw[z,e1] at K5;cases K5
     ·exact n2 (br.mp z)
 ·refine h4 i j hi hj RJ ?_ ?_
  ·by_cases e:k=i
   ·rw[<-e,hs];intro z;cases z
   ·rw[iC e] at ni;exact ni
  ·by_cases e:k=j
   ·rw[<-e,hs];intro z;cases z
   ·rw[iC e] at nj;exact nj
def eO.begin(W:eO c K M H B s){k:Nat}(hk:k<3){xs:List V}(hx:H B=some (.lst xs)){b d:Addr}{bx:a9}(nb:H b=none)(nd:H d=none)(kp:jE [B] H H')(hB:H' B=some (.lst (xs.set k (.ref b))))
  (hb:eN c K (cf (b::d::M) H') H' b d bx):eO c K (b::d::M) H' B (s.set k (some bx)):=by
 obtain⟨Kl,b',d',h1,h2,h3,h4⟩:=W.ex;rw[hx] at h1;have ex:xs=Kl:=by injection h1 with h1;injection h1
 subst ex;have hlx:xs.length=3:=h2;have mm:au (cf M H) (cf (b::d::M) H'):=λy o e=>by
  obtain⟨y1,y2⟩:=lI e;have yb:y≠b:=λz=>by rw[z,nb] at y2;cases y2
  have yd:y≠d:=λz=>by rw[z,nd] at y2;cases y2
  rw[cV (λhm=>by
   rcases aA.mp hm with z|hm
   ·exact yb z
   ·rcases aA.mp hm with z|z
    ·exact yd z
    ·exact y1 z)]
  exact kp y o y2 λz=>y1 (by rw[br.mp z];exact W.bin)
 have box: ∀z,oX H z->oX H' z:=λz ⟨C,dx,pa,sv,d',u,m,e1⟩=>⟨C,dx,pa,sv,d',u,m,kp z _ e1 λhm=>by rw[br.mp hm,hx] at e1;cases e1⟩;refine⟨λy hy=> ?_,aK _ (aK _ W.bin),by rw[dO];exact W.len,xs.set k (.ref b),λj=>if j=k then b else b' j,λj=>if j=k then d else d' j,hB,by rw[dO];exact h2,λj hj=> ?_,λi j hi hj RJ ni nj=> ?_⟩
 ·rcases aA.mp hy with z|hy
  ·rw[z];exact .inl hb.uu
  rcases aA.mp hy with z|hy
  ·rw[z];exact .inr (.inl hb.SR)
  by_cases eB:y=B
  ·rw[eB];refine .inr (.inr ⟨_,hB,by rw[dO];exact h2,λx hx'=> ?_⟩);rcases List.mem_or_eq_of_mem_set hx' with h|h
   ·obtain⟨i,hi,e⟩:=vb.mp h;have V0:=h3 i (by omega);have e':xs.getD i .fC=x:=by rw[ae,af hi,<-e];rfl
    rw[e'] at V0;cases es:s.getD i none with
    |none=>rw[es] at V0;exact .inl V0
    |some bi=>rw[es] at V0;exact .inr ⟨_,V0.1,box _ V0.2.2.2.uu⟩
   ·exact .inr ⟨b,h,hb.uu⟩
  ·have hn:y∉[B]:=λhm=>eB (br.mp hm);rcases W.kept y hy with h|⟨bE,h⟩|⟨ys,e1,e2,e3⟩
   ·exact .inl (box y h)
   ·exact .inr (.inl ⟨bE,kp _ _ h hn⟩)
   ·refine .inr (.inr ⟨ys,kp _ _ e1 hn,e2,λx hx=> ?_⟩);rcases e3 x hx with e|⟨b1,e,Vb⟩
    ·exact .inl e
    ·exact .inr ⟨b1,e,box b1 Vb⟩
 ·dsimp only;by_cases zC:j=k
  ·subst zC;rw[rL (by rw[h2];exact hj),rL (by rw[W.len];exact hj),if_pos rfl,if_pos rfl];exact⟨rfl,aY ..,aK _ (aY ..),hb⟩
  ·rw[iC (bG zC),iC (bG zC),if_neg zC,if_neg zC];have E7:=h3 j hj;cases e:s.getD j none with
   |none=>rw[e] at E7;exact E7
   |some bj=>
    rw[e] at E7;obtain⟨q1,q2,q3,q4⟩:=E7;obtain⟨C',To,pa',sv',d'',u',m',Ni⟩:=q4.uu;obtain⟨Xc,K5⟩:=q4.SR;refine⟨q1,aK _ (aK _ q2),aK _ (aK _ q3),q4.mono mm ?_ ?_⟩
    ·rw[Ni];exact kp _ _ Ni λhm=>by rw[br.mp hm,hx] at Ni;cases Ni
    ·rw[K5];exact kp _ _ K5 λhm=>by rw[br.mp hm,hx] at K5;cases K5
 ·have fresh: ∀j,j<3->j≠k->(s.set k (some bx)).getD j none≠none->b≠b' j/\d≠d' j:=λj hj zC nj=>by
   rw[iC (bG zC)] at nj;have E7:=h3 j hj;cases e:s.getD j none with
   |none=>exact absurd e nj
   |some bj=>
    rw[e] at E7;obtain⟨q1,q2,q3,q4⟩:=E7;obtain⟨C',To,pa',sv',d'',u',m',Ni⟩:=q4.uu;obtain⟨Xc,K5⟩:=q4.SR;exact⟨λz=>(by rw[<-z,nb] at Ni;cases Ni),λz=>(by rw[<-z,nd] at K5;cases K5)⟩
  by_cases Nf:i=k
  ·have zC:j≠k:=λz=>RJ (Nf.trans z.symm);dsimp only;rw[if_pos Nf,if_pos Nf,if_neg zC,if_neg zC];exact fresh j hj zC nj
  ·by_cases zC:j=k
   ·dsimp only;rw[if_neg Nf,if_neg Nf,if_pos zC,if_pos zC];obtain⟨z1,z2⟩:=fresh i hi Nf ni;exact⟨bG z1,bG z2⟩
   ·dsimp only;rw[if_neg Nf,if_neg Nf,if_neg zC,if_neg zC];rw[iC (bG Nf)] at ni;rw[iC (bG zC)] at nj;exact h4 i j hi hj RJ ni nj
end
def zH(M:List Addr)(H H':Hp):Prop:= ∀b o,H b=some o->b∉M->H' b=some o
inductive sA(c:Cs)(K:ab)(m k:Nat)(call:List Int->List (List Int)->Wqarav.Call)(pre:List (List Int)->Prop:=λ_=>True)(vs:List V)(H:Hp)(Q:VK)(E:XK):Prop
 |mk (M:List Addr) (B na ra:Addr) (nums:List Int) (rs:List (List Int)) (s:dP):vs=[.ref B,.ref na,.ref ra]->eO c K M H B s->cf M H na=some (.lst (ii nums))->dS (cf M H) ra dD (rs.map ii)->nums.length=m->rs.length=k->(∀v∈nums,0<=v)->(∀r∈rs,∀v∈r,0<=v)->pre rs->(∀(p:Addr) (H':Hp) (M':List Addr),eO c K M' H' B (Wqarav.step s (call nums rs)).1->zH M H H'->(∀y∈M',y∈M\/H y=none)->H p=none->p∉M'->H' p=some (.lst (zm (Wqarav.step s (call nums rs)).2))->Q (.ref p) H')->sA c K m k call pre vs H Q E
abbrev FT(c:Cs)(K:ab)(M:List Addr)(H:Hp)(B:Addr)(r:TK)(Q:V->Hp->Prop):Prop:= ∀(p:Addr) (H':Hp) (M':List Addr),eO c K M' H' B r.1->zH M H H'->(∀y∈M',y∈M\/H y=none)->H p=none->p∉M'->H' p=some (.lst (zm r.2))->Q (.ref p) H'
def au.Rr{M:List Addr}{H H':Hp}(s:au H H'):zH M H H':=λb o e _=>s b o e
def FT.dA{c:Cs}{K:ab}{M:List Addr}{H:Hp}{B:Addr}{s:dP}{a:jW}{Q:V->Hp->Prop}(q:FT c K M H B (s,a) Q)(W:eO c K M H B s){p:Addr}{H':Hp}(sm:au H H')(np:H p=none)(hp:H' p=some (.lst (zm a))):Q (.ref p) H':=
 q p H' M (W.same sm) (au.Rr sm) (λ_ h=> .inl h) np (W.kept.out np) hp
def UO{n j:Nat}(h:j<n):KY n (j:Int)=some j:=by
 unfold KY;rw[if_pos (by omega),if_pos (by omega)];simp
def GB{Hi:Hp}{n:Nat}:iX c Hi n [] (bC IB none):=by
 refine⟨by rw[lN];rfl,oo,?_,λh s e=> ?_,λh _=>rfl⟩
 ·show 0=oE (bC 32 none);decide
 ·rw[qH] at e;split at e <;> cases e
def B6{M:List Addr}{H H1 H2:Hp}{B b dx pa d:Addr}{sv:V}{s:dP}{xs:List V}{k:Nat}{w:cW}{x:Option bp}{Q:V->Hp->Prop}(W:eO c K M H B s)(hk:k<3)(hx:H B=some (.lst xs))(s1:au H H1)(nb:H1 b=none)
  (s2:au H1 H2) (nd:H1 d=none) (hb:H2 b=some (.ins c.Box dx (kZ pa sv d 0 .fC))) (hd:H2 d=some (.dK [])) (hw:iS w) (hP:iq c K H1 pa w) (hS:J9 c H1 w.form.n w.form.ring sv x) (q:FT c K M H B (s.set k (some (mX w x)),cy []) Q):
  ∃p' Kl k' j,V.ref B= .ref p'/\V.int (k:Int)= .int k'/\H2 p'=some (.lst Kl)/\KY Kl.length k'=some j/\(1<=sizeLine/\ ∀p,upd H2 p' (.lst (Kl.set j (.ref b))) p=none->Q (.ref p) (upd (upd H2 p' (.lst (Kl.set j (.ref b)))) p (.lst [.int 0]))):=by
 have Mp:H2 B=some (.lst xs):=s2 _ _ (s1 _ _ hx);have hl:xs.length=3:=by
  obtain⟨Kl,_,_,e,e2,_⟩:=W.ex;rw[hx] at e;have e:xs=Kl:=by injection e with e;injection e
  rw[e];exact e2
 refine⟨B,xs,k,k,rfl,rfl,Mp,UO (by omega),by decide,λp np=> ?_⟩;have zv:H2 p=none:=by
  by_cases e:p=B
  ·rw[e,ak] at np;cases np
  ·rw[aJ e] at np;exact np
 have hpB:p≠B:=λz=>by rw[z,Mp] at zv;cases zv
 have kK:H p=none:=(s1.trans s2).free zv;have YU:H b=none:=s1.free nb;have YT:H d=none:=s1.free nd;have hbB:b≠B:=λz=>by rw[z,hx] at YU;cases YU
 have hdB:d≠B:=λz=>by rw[z,hx] at YT;cases YT
 have VY:b≠p:=aO hb zv;have S6:d≠p:=aO hd zv;generalize ho:HO.lst (xs.set k (V.ref b))=o;have kp:jE [B] H (upd (upd H2 B o) p (.lst [.int 0])):=λy z e hy=>by
  have e2:=s2 _ _ (s1 _ _ e);rw[aJ (aO e2 zv),aJ (λh=>hy (by rw[h];exact aY ..))];exact e2
 have k1:Kept M H1:=W.kept.same s1;have ms:au (cf M H1) (cf (b::d::M) (upd (upd H2 B o) p (.lst [.int 0]))):=λy z e=>by
  obtain⟨y1,y2⟩:=lI e;have yb:y≠b:=λh=>by rw[h,nb] at y2;cases y2
  have yd:y≠d:=λh=>by rw[h,nd] at y2;cases y2
  have yB:y≠B:=λh=>y1 (by rw[h];exact W.bin);have e2:=s2 _ _ y2;rw[cV (λhm=>by
   rcases aA.mp hm with z|hm
   ·exact yb z
   ·rcases aA.mp hm with z|z
    ·exact yd z
    ·exact y1 z),aJ (aO e2 zv),aJ yB]
  exact e2
 have W':=W.begin hk hx (b:=b) (d:=d) (bx:=mX w x) YU YT kp (by rw[aJ (bG hpB),ak,<-ho])
  ⟨⟨dx,pa,sv,.fC,[],by rw[aJ VY,aJ hbB];exact hb,(hP.LU k1).mono ms,?_,rfl,by rw[aJ S6,aJ hdB];exact hd,GB⟩,hw⟩
 ·refine q p _ _ W' (λy z e hy=>kp y z e λh=>hy (by rw[br.mp h];exact W.bin)) (λy hy=> ?_) kK (λhm=> ?_) ak
  ·rcases aA.mp hy with z|hy
   ·rw[z];exact .inr YU
   ·rcases aA.mp hy with z|z
    ·rw[z];exact .inr YT
    ·exact .inl z
  ·rcases aA.mp hm with z|hm
   ·exact VY z.symm
   ·rcases aA.mp hm with z|z
    ·exact S6 z.symm
    ·exact W.kept.out kK z
 ·show J9 c _ w.form.n w.form.ring sv x;cases x with
  |none=>exact hS
  |some x=>
   obtain⟨sa,e,h2,h3⟩:=hS;exact⟨sa,e,(h2.LU k1).mono ms,h3⟩
def kF{s:dP}{k:Nat}:s.box k=s.getD k none:=by
 unfold Wqarav.State.box;rw[ae];cases s[k]? <;> rfl
def rM{M:List Addr}{H:Hp}{B:Addr}{s:dP}(W:eO c K M H B s){xs:List V}(hx:H B=some (.lst xs))(k:Nat):
  (¬k<3/\xu xs k= .int 1)\/(k<3/\s.getD k none=none/\xu xs k= .int 4)\/ ∃bx,k<3/\s.getD k none=some bx/\xu xs k= .fC:=by
 obtain⟨Kl,b,d,h1,h2,h3,h4⟩:=W.ex;rw[hx] at h1;have ex:xs=Kl:=by injection h1 with h1;injection h1
 subst ex;unfold xu;by_cases hk:k<3
 ·rw[if_pos hk];have h:=h3 k hk;cases e:s.getD k none with
  |none=>
   rw[e] at h;exact .inr (.inl ⟨hk,rfl,by rw[if_pos (show xs.getD k .fC= .fC from h)]⟩)
  |some bx=>
   rw[e] at h;exact .inr (.inr ⟨bx,hk,rfl,by rw[h.1,if_neg (by intro z;cases z)]⟩)
 ·rw[if_neg hk];exact .inl ⟨hk,rfl⟩
def A8(T:Txt K mg c):Callee P w K mg base "answer_hand" 3 ["boxes","numbers","rows"] (sA c K 2 0 λnums _=> .hand (dq nums 0) (dq nums 1)):=by
 exists T.CZ.ok ["boxes","numbers","rows","k","j","fault"]
 ·obtain⟨M,B,na,ra,nums,rs,s,rfl,W,hn,sV,hl,hk,h0,h1,_,q⟩:=h;have hN:bw K H na (ii nums):=bw.of (aX M H _ _ hn);obtain⟨xs,_,_,hx,OT,_⟩:=id W.ex;refine⟨_,(aj (bS 3 nd (gT K (pv 1) ay))
   (aj (bS 4 nd (gT K (pv 1) ay))
   (aj (cD (d6 (dB (aF (jh T) hr (aa (pv 3) ai)))) (aq (az (aF (bt T) hr (aa (qg T.cF) ai)))) bA)
   (aj (bS 5 nd (aF (pq T) hr (aa (pv 0) (aa (pv 4) ai))))
   (aj (cD (fN (lZ (pv 5))) (aq (az (aF (bt T) hr (aa (pv 5) ai)))) bA)
   (aj (EL (i6 (xl T) hr (aa (fld K (gT K (pv 0) (pv 4))) (aa pj ai))) (EO (pv 0) (pv 3) set_list))
   (aq (az (cx (aa ay ai)))))))))),?_⟩
  refine⟨_,rfl,na,_,_,_,rfl,rfl,hN,fF (j:=0) (fE (by omega) h0),?_⟩;refine⟨_,rfl,na,_,_,_,rfl,rfl,hN,fF (j:=1) (fE (by omega) h0),?_⟩;have q:FT c K M H B (if cG<=dq nums 0 then(s,Wqarav.no (-1)) else di s (dq nums 1) λ(b:a9)=>(s.set (dq nums 0) (some (mX b.work none)),cy [])) Q:=q;generalize dq nums 0=k at q ⊢;generalize dq nums 1=j at q ⊢;refine⟨_,rfl,k,rfl,_,rfl,?_⟩;by_cases uw:k<3
  ·rw[decide_eq_true uw];rw[if_neg (show¬cG<=k from gr.mpr uw)] at q;refine dJ ⟨_,rfl,_,rfl,B,xs,j,rfl,bw.of hx,OT,?_⟩;unfold di at q;rcases rM W hx j with⟨e1,e2⟩|⟨e1,e3,e2⟩|⟨bx,e1,e3,e2⟩
   ·rw[e2];rw[if_pos (show cG<=j from fB.mp e1)] at q;exact⟨_,rfl,_,rfl,cY ⟨_,rfl,1,rfl,λp H' sm np hp=>q.dA W sm np hp⟩⟩
   ·rw[e2];rw[if_neg (show¬cG<=j from gr.mpr e1),kF,e3] at q;exact⟨_,rfl,_,rfl,cY ⟨_,rfl,4,rfl,λp H' sm np hp=>q.dA W sm np hp⟩⟩
   ·rw[e2];rw[if_neg (show¬cG<=j from gr.mpr e1),kF,e3] at q;obtain⟨Kl,b0,d0,g1,g2,g3,g4,g5,g6,_⟩:=W.after e1 e3;have ex:xs=Kl:=by rw[hx] at g1;injection g1 with g1;injection g1
    subst ex;obtain⟨dx,pa,sv,mo,bE,t1,t2,t3,t4,t5,t6⟩:=g6.obj;have hj:xs[j]? =some (.ref b0):=by
     rw[<-g3,ae,af (by omega)];rfl
    refine⟨_,rfl,_,rfl,dJ ⟨_,rfl,_,rfl,B,_,_,_,rfl,rfl,bw.of hx,c8 hj,b0,c.Box,dx,_,_,rfl,t1,T.cE,T.cR,rfl,λb db nb SO ne=>⟨b,db,pa,.fC,rfl,ak,λH2 d nd2 hb hd kp=>⟨rfl,_,rfl,_,rfl,?_⟩⟩⟩⟩;have s2:au H H2:=au.made nb SO kp;exact B6 W uw hx (λ_ _ e=>e) nb s2 (by
     cases e:H d with
     |none=>rfl
     |some o=>rw[aJ (aO e nb),aJ (aO e SO),e] at nd2;cases nd2) hb hd g6.wf (t2.mono (aX M H)) (x:=none) rfl q
  ·rw[decide_eq_false uw];rw[if_pos (show cG<=k from fB.mp uw)] at q;exact cY ⟨1,rfl,λp H' sm np hp=>q.dA W sm np hp⟩
def Aw{n k:Nat}{l r:List Nat}(h:r∈bD n k l):(∀x∈r,x∈l)/\ ∃i,i<k/\r=(l.drop (i*n)).take n:=by
 obtain⟨i,hi,e⟩:=wJ h;rw[fM] at hi;have e2:=rf n (l:=l) hi;rw[af (by rw[fM];exact hi),e] at e2;have e3:=ao e2;refine⟨λx hx=> ?_,i,hi,e3⟩;rw[e3] at hx;exact eT (cM hx)
def Qy{f:aB}{l:List Nat}(hG:Good f)(hl:l.length=bu f)(hb: ∀x∈l,x<256)(hn:(gY f l).findIdx? C8=none):iS (rh f l):=by
 have hp: ∀v∈gY f l,v<4503599627370496:=λv hv=>by
  rw[jO] at hn;have:=hn v hv;have:=of_decide_eq_false this;omega
 have Z6:(gY f l).length=4*(f.n*f.digits*f.ring):=by rw[gY,ag,fM]
 refine⟨hG,?_,λp F9=> ?_,?_,λr hr=> ?_⟩
 ·show(List.map _ _).length=_;rw[ag,fM];rfl
 ·have F9:p∈(bD (2*f.ring) (2*f.n*f.digits) (gY f l)).map (λ(r:List Nat)=>(⟨(r.take f.ring).map λ(x:Nat)=>(x:Int),(r.drop f.ring).map λ(x:Nat)=>(x:Int)⟩:dZ)):=F9;obtain⟨r,hr,rfl⟩:=aQ.mp F9;obtain⟨h1,i,hi,e⟩:=Aw hr;have hlen:r.length=2*f.ring:=by
   rw[e,bo,bT,Z6];have:(i + 1)*(2*f.ring)<=2*f.n*f.digits*(2*f.ring):=jt _ hi;have e2:2*f.n*f.digits*(2*f.ring)=4*(f.n*f.digits*f.ring):=by
    rw[cc 2,pP,cc 2,<-cc]
   rw[ve] at this;omega
  have z: ∀{m:List Nat},(∀x∈m,x∈r)-> ∀v∈m.map λ(x:Nat)=>(x:Int),0<=v/\v<4503599627370496:=λhm v hv=>by
   obtain⟨x,hx,rfl⟩:=aQ.mp hv;have:=hp x (h1 x (hm x hx));exact⟨by omega,by omega⟩
  exact⟨by rw[ag,bo,hlen];show min f.ring _=f.ring;omega,by rw[ag,bT,hlen];show _=f.ring;omega,z λx hx=>cM hx,z λx hx=>eT hx⟩
 ·show(List.map _ _).length=_;rw[ag,fM];rfl
 ·have hr:r∈(bD (2*(f.n + 1)) (f.ring*f.kdigits) (l.drop (32 + 8*(4*(f.n*f.digits*f.ring))))).map λ(r:List Nat)=>(⟨((bD 2 (f.n + 1) r).map bJ).take f.n,((bD 2 (f.n + 1) r).map bJ).getD f.n 0⟩:fJ):=hr;obtain⟨y,hy,rfl⟩:=aQ.mp hr;obtain⟨h1,_⟩:=Aw hy;have h2: ∀v∈(bD 2 (f.n + 1) y).map bJ,v<65536:=λv hv=>by
   obtain⟨x,hx,rfl⟩:=aQ.mp hv;obtain⟨h3,i,hi,e⟩:=Aw hx;have h4:=Sb.Jw (l:=x) λz hz=>hb z (eT (h1 z (h3 z hz)));have h5:x.length<=2:=by rw[e,bo];omega
   have h6:256^x.length<=256^2:=mB (by decide) h5;omega
  refine⟨?_,λv hv=>h2 v (cM hv),?_⟩
  ·show(List.take _ _).length=f.n;rw[bo,ag,fM];omega
  ·show List.getD _ _ _<65536;rw[ae];cases e:((bD 2 (f.n + 1) y).map bJ)[f.n]? with
   |none=>decide
   |some v=>exact h2 v (aZ e)
def A0(T:Txt K mg c):Callee P w K mg base "answer_take" 6 ["boxes","numbers","rows"] (sA c K 1 1 (λnums rs=> .take (dq nums 0) (nats (rs.getD 0 []))) λrs=> ∀r∈rs,∀v∈r,v<=255):=by
 exists T.CP.ok ["boxes","numbers","rows","k","octets","fault"]
 ·obtain⟨M,B,na,ra,nums,rs,s,rfl,W,hn,sV,hl,hk,h0,h1,UZ,q⟩:=h;obtain⟨r,t,rfl,sV,ht⟩:=zr sV hk h1;have hb: ∀x∈nats r,x<256:=λx hx=>by
   obtain⟨v,hv,rfl⟩:=aQ.mp hx;have z1:=UZ r (aY ..) v hv;have z2:=h1 r (aY ..) v hv;omega
  have hN:bw K H na (ii nums):=bw.of (aX M H _ _ hn);have hR:bw K H ra [.ref t]:=bw.of (aX M H _ _ sV);have hT:H t=some (.lst (iv (nats r))):=aX M H _ _ ht;obtain⟨xs,_,_,hx,OT,_⟩:=id W.ex;have q:FT c K M H B (if cG<=dq nums 0 then(s,Wqarav.no (-1)) else if iP<(nats r).length then(s,Wqarav.no (-2)) else match mV (nats r) with
   | .error e=>(s,⟨-9,[(e:Int)]⟩)
   | .ok w=>(s.set (dq nums 0) (some (mX w none)),cy [])) Q:=q
  refine⟨_,(aj (bS 3 nd (gT K (pv 1) ay))
   (aj (bS 4 nd (gT K (pv 2) ay))
   (aj (cD (d6 (dB (aF (jh T) hr (aa (pv 3) ai)))) (aq (az (aF (bt T) hr (aa (qg T.cF) ai)))) bA)
   (aj (cD (eh rk (bX (cI K) rfl T.f7 boot_len (aa (pv 4) ai)) (qg T.wD) (dC _)) (aq (az (aF (bt T) hr (aa (qg T.kE) ai)))) bA)
   (aj (bS 5 nd (aF (Cn T) hr (aa (pv 4) ai)))
   (aj (cD (fN (lZ (pv 5))) (aq (az (aF (lp T) hr (aa (pv 5) ai)))) bA)
   (aj (EL (i6 (xl T) hr (aa (aF (Ju T) hr (aa (pv 4) ai)) (aa pj ai))) (EO (pv 0) (pv 3) set_list))
   (aq (az (cx (aa ay ai))))))))))),?_⟩
  refine⟨_,rfl,na,_,_,_,rfl,rfl,hN,fF (j:=0) (fE (by omega) h0),?_⟩;refine⟨_,rfl,ra,_,_,_,rfl,rfl,hR,c8 (j:=0) rfl,?_⟩;generalize dq nums 0=k at q ⊢;generalize JI:nats r=l at q hT hb ⊢;refine⟨_,rfl,k,rfl,_,rfl,?_⟩;by_cases uw:k<3
  ·rw[decide_eq_true uw];rw[if_neg (show¬cG<=k from gr.mpr uw)] at q;refine dJ ⟨_,rfl,t,_,rfl,.inl (bw.of hT),_,_,rfl,rfl,_,rfl,j9 (λhc=> ?_) λhc=> ?_⟩
   ·have hc:(4000:Int)<(((iv l).length:Nat):Int):=of_decide_eq_true hc;rw[bR] at hc;rw[if_pos (show iP<l.length by show 4000<l.length;omega)] at q;exact⟨2,rfl,λp H' sm np hp=>q.dA W sm np hp⟩
   ·have hc: ¬(4000:Int)<(((iv l).length:Nat):Int):=λe=>hc (decide_eq_true e);rw[bR] at hc;rw[if_neg (show¬iP<l.length by show¬4000<l.length;omega)] at q;refine⟨_,rfl,t,l,rfl,bw.of hT,λH1 s1=> ?_⟩;cases e:mV l with
    |error z=>
     rw[e] at q;have e2:kQ l= .int (z:Int):=by rw[kQ,e]
     rw[e2];exact⟨_,rfl,_,rfl,cY ⟨_,rfl,(z:Int),rfl,λp H' sm np hp=>q.dA W (s1.trans sm) (s1.free np) hp⟩⟩
    |ok wk=>
     rw[e] at q;have e2:kQ l= .fC:=by rw[kQ,e]
     rw[e2];rw[oy] at e;by_cases c1:l.length<32
     ·rw[if_pos c1] at e;cases e
     rw[if_neg c1] at e;by_cases c2:(aT (fv l)).good=false
     ·rw[if_pos c2] at e;cases e
     rw[if_neg c2] at e;by_cases c3:l.length≠bu (aT (fv l))
     ·rw[if_pos c3] at e;cases e
     rw[if_neg c3] at e;have c2:(aT (fv l)).good=true:=by
      cases z:(aT (fv l)).good with
      |true=>rfl
      |false=>exact absurd z c2
     have c3:l.length=bu (aT (fv l)):=gK c3;have hG:=(wj _).mp c2;cases c4:(gY (aT (fv l)) l).findIdx? C8 with
     |some i=>rw[c4] at e;cases e
     |none=>
      rw[c4] at e;injection e with e;subst e;refine⟨_,rfl,_,rfl,dJ ⟨_,rfl,t,l,_,rfl,bw.of (s1 _ _ hT),rfl,hG,c3,λpa H2 s2 npa hP b db nb SO ne=>⟨b,db,pa,.fC,rfl,ak,λH3 d nd3 hb3 hd kp=>⟨rfl,_,rfl,_,rfl,?_⟩⟩⟩⟩;have s3:au H2 H3:=au.made nb SO kp;exact B6 W uw hx (s1.trans s2) nb s3 (by
       cases e:H2 d with
       |none=>rfl
       |some o=>rw[aJ (aO e nb),aJ (aO e SO),e] at nd3;cases nd3) hb3 hd (Qy hG c3 hb c4) hP (x:=none) rfl q
  ·rw[decide_eq_false uw];rw[if_pos (show cG<=k from fB.mp uw)] at q;exact cY ⟨1,rfl,λp H' sm np hp=>q.dA W sm np hp⟩
abbrev Sj(l:List Int):Prop:= ∀v∈l,0<=v/\v<4503599627370496
def JD(z:Int):0<=z % 4503599627370496/\z % 4503599627370496<4503599627370496:=by omega
def Tw(N y:Nat):Sj (aL N y):=λv hv=>by
 obtain⟨x,_,rfl⟩:=aQ.mp hv;exact JD _
theorem KO{g:Int->Int->Int}: ∀{a b:List Int} {v:Int},v∈jF g a b-> ∃x y,v=g x y
 | [],_,_,h=>by simp at h
 |_::_,[],_,h=>by simp at h
 |x::a,y::b,v,h=>by
  rw[iU] at h;rcases aA.mp h with e|e
  ·exact⟨x,y,e⟩
  ·exact KO e
def Tv(f:aB)(x:bp)(y:Nat):Sj (bL f x y):=λv hv=>by
 obtain⟨p,q,rfl⟩:=KO hv;exact JD _
def KQ{l:List Int}{z:Int}(h:Sj l):Sj (vX l z):=λv hv=>by
 cases l with
 |nil=>exact h v hv
 |cons a r=>
  rcases aA.mp hv with e|e
  ·rw[e];exact JD _
  ·exact h v (aK _ e)
def Hm(l:List Int)(z:Int):(vX l z).length=l.length:=by
 cases l <;> rfl
def Nz{f:aB}{x:bp}(hz:x.z.length=f.ring)(y t:Nat):J7 f.ring (qk f x y t):=by
 unfold qk DM;by_cases h:t / f.digits % 2=0
 ·rw[if_pos h];exact⟨by rw[Hm,jV],FO _ hz,KQ (Tw _ _),Tv _ _ _⟩
 ·rw[if_neg h];exact⟨jV _ _,by rw[Hm,FO _ hz],Tw _ _,KQ (Tv _ _ _)⟩
def Qx(f:aB)(x:bp)(y t:Nat):B9 f.n (EJ f x y t):=
 ⟨jP _ _,si _ _,nk _⟩
def Ny{f:aB}{x:bp}(hG:Good f)(hz:x.z.length=f.ring)(y:Nat):iS (Di f x y):=by
 refine⟨hG,by rw[Di,ag,dE],λp hp=> ?_,by rw[Di,ag,dE],λr hr=> ?_⟩
 ·obtain⟨t,_,rfl⟩:=aQ.mp hp;exact Nz hz _ _
 ·obtain⟨t,_,rfl⟩:=aQ.mp hr;exact Qx _ _ _ _
def Sa{x:Nat}:x % 2=0\/x % 2=1:=by omega
def OI{s:dP}{k y:Nat}{l:List Nat}(h: ¬k<3\/gh l=false):Wqarav.step s (.key k l y)=(s,Wqarav.no (-1)):=by
 show(if cG<=k\/l.length≠8\/(aT l).good=false then(s,Wqarav.no (-1)) else _)=_;rw[if_pos];rcases h with h|h
 ·exact .inl (fB.mp h)
 ·by_cases e:l.length=8
  ·refine .inr (.inr ?_);unfold gh at h;rw[decide_eq_true e,eI] at h;exact h
  ·exact .inr (.inl e)
def Rq{s:dP}{k y:Nat}{l:List Nat}(h:k<3)(hf:gh l=true):Wqarav.step s (.key k l y)=(s.set k (some (mX (TJ (aT l) (aV (Wqarav.need (aT l)) y)) (some (eG (aT l) (aV (Wqarav.need (aT l)) y))))),cy []):=by
 show(if cG<=k\/l.length≠8\/(aT l).good=false then(s,Wqarav.no (-1)) else _)=_;rw[if_neg];rintro(e|e|e)
 ·exact gr.mpr h e
 ·exact e (pB hf)
 ·unfold gh at hf;rw[e,F5] at hf;cases hf
def Cw(T:Txt K mg c):Callee P w K mg base "answer_key" 7 ["boxes","numbers","rows"] (sA c K 2 1 (λnums rs=> .key (dq nums 0) (nats (rs.getD 0 [])) (dq nums 1))):=by
 exists T.Fx.ok ["boxes","numbers","rows","k","form","luck","secrets"]
 ·obtain⟨M,B,na,ra,nums,rs,s,rfl,W,hn,sV,hl,hk,h0,h1,_,q⟩:=h;obtain⟨r,t,rfl,sV,ht⟩:=zr sV hk h1;have hN:H na=some (.lst (ii nums)):=aX M H _ _ hn;have hR:H ra=some (.lst [.ref t]):=aX M H _ _ sV;have hT:H t=some (.lst (iv (nats r))):=aX M H _ _ ht;obtain⟨xs,_,_,hx,OT,_⟩:=id W.ex;have q:FT c K M H B (Wqarav.step s (.key (dq nums 0) (nats r) (dq nums 1))) Q:=q;refine⟨_,(aj (bS 3 nd (gT K (pv 1) ay))
   (aj (cD (AE (d6 (dB (aF (jh T) hr (aa (pv 3) ai)))) (uN (d6 (dB (aF (pk T) hr (aa (gT K (pv 2) ay) ai)))))).pt (aq (az (aF (bt T) hr (aa (qg T.cF) ai)))) bA)
   (aj (bS 4 nd (i6 (md T) hr (aa (gT K (pv 2) ay) ai)))
   (aj (bS 5 nd (i6 (sR T) hr (aa (gT K (pv 1) ay) ai)))
   (aj (bS 6 nd (aF (yM T) hr (aa (pv 4) (aa (pv 5) ai))))
   (aj (EL (i6 (xl T) hr (aa (aF (EW T) hr (aa (pv 4) (aa (pv 6) (aa (pv 5) ai)))) (aa (pv 6) ai))) (EO (pv 0) (pv 3) set_list))
   (aq (az (cx (aa ay ai)))))))))),?_⟩
  refine⟨_,rfl,na,_,_,_,rfl,rfl,bw.of hN,fF (j:=0) (fE (by omega) h0),?_⟩;refine⟨_,rfl,dq nums 0,rfl,_,rfl,?_⟩;by_cases uw:dq nums 0<3
  ·rw[decide_eq_true uw];refine dJ ⟨_,rfl,ra,_,_,_,rfl,rfl,bw.of hR,c8 (j:=0) rfl,t,nats r,rfl,bw.of hT,λH1 s1=>⟨_,rfl,?_⟩⟩;cases hf:gh (nats r) with
   |false=>
    rw[OI (.inr hf)] at q;exact cY ⟨1,rfl,λp H' sm np hp=>q.dA W (s1.trans sm) (s1.free np) hp⟩
   |true=>
    rw[Rq uw hf] at q;have hG:=rG hf;refine dJ ⟨_,rfl,ra,_,_,_,rfl,rfl,bw.of (s1 _ _ hR),c8 (j:=0) rfl,λfa dx nx CB ne=>⟨fa,dx,t,aT (nats r),rfl,ak,bw.of ?_,by have:=hG.p2;omega,by have:=hG.p8;omega,λH2 hF k2=>⟨rfl,?_⟩⟩⟩
    ·have OW:=s1 _ _ hT;rw[aJ (aO OW nx),aJ (aO OW CB),kU (pB hf)];exact OW
    have s2:au H H2:=s1.trans (au.made nx CB k2);generalize aT (nats r)=f at q hG hF ⊢;refine⟨_,rfl,na,_,_,_,rfl,rfl,bw.of (s2 _ _ hN),fF (j:=1) (fE (by omega) h0),λl dl nl He ne=>⟨l,dl,dq nums 1,rfl,ak,λH3 hL k3=>⟨rfl,?_⟩⟩⟩;generalize dq nums 1=y at q hL ⊢;have s3:au H2 H3:=au.made nl He k3;refine⟨_,rfl,_,rfl,H2,fa,l,f,y,rfl,s3,nl,hF,hG.toSmall,hL,λsp H4 s4 nsp hL4 hS4 aeL hSm=> ?_⟩;have m4:au H2 (mask l H4):=λb o e=>by
     rw[fA (aO e nl)];exact s4 _ _ e
    rw[Qw hG.toSmall] at q;have z1:(eG f (aV (Wqarav.need f) y)).s.length=f.n:=by rw[Sb.Aq,ag,Sb.eM]
    have z2: ∀v∈(eG f (aV (Wqarav.need f) y)).s,v=0\/v=1:=λv hv=>by
     rw[Sb.Aq] at hv;obtain⟨x,_,rfl⟩:=aQ.mp hv;exact Sa
    have z3:(eG f (aV (Wqarav.need f) y)).z.length=f.ring:=by rw[Sb.vH,ag,Sb.eM]
    have z4: ∀v∈(eG f (aV (Wqarav.need f) y)).z,v=0\/v=1:=λv hv=>by
     rw[Sb.vH] at hv;obtain⟨x,_,rfl⟩:=aQ.mp hv;omega
    generalize eG f (aV (Wqarav.need f) y)=X at q hS4 hSm z1 z2 z3 z4;refine⟨_,rfl,_,rfl,_,rfl,mask l H4,fa,sp,l,f,X,_,rfl,mv l H4,(by unfold mask;rw[if_pos rfl]),hF.mono m4,hG,hSm,z1,z2,z3,z4,hL4,λpa H5 s5 npa hP=>⟨_,rfl,λb db nb SO ne=>⟨b,db,pa,.ref sp,rfl,ak,λH6 d nd6 hb6 hd kp=>⟨rfl,_,rfl,_,rfl,?_⟩⟩⟩⟩;have s6:au H5 H6:=au.made nb SO kp;exact B6 W uw hx (s2.trans (m4.trans s5)) nb s6 (by
     cases e:H5 d with
     |none=>rfl
     |some o=>rw[aJ (aO e nb),aJ (aO e SO),e] at nd6;cases nd6) hb6 hd (Ny hG z3 _) hP (x:=some X) ⟨sp,rfl,hSm.mono s5,z1,z3⟩ q
  ·rw[decide_eq_false uw];rw[OI (.inl uw)] at q;exact cY ⟨1,rfl,λp H' sm np hp=>q.dA W sm np hp⟩
def gi(l:List Int):(ii l).length=l.length:=ag ..
inductive Jn(vs:List V)(H:Hp)(Q:VK)(E:XK):Prop
 |mk (n:Nat):vs=[.int (n:Int)]->Q (.int ((min bZ n:Nat):Int)) H->Jn vs H Q E
def Ol(T:Txt K mg c):Callee P w K mg base "cut" 1 ["bound"] Jn:=by
 exists T.X9.ok ["bound"]
 ·obtain⟨n,rfl,q⟩:=h;refine⟨_,(aq (az (bX (Eh rfl) rfl T.Tu boot_min (aa (pv 0) (aa (qg T.oU) ai))))),?_⟩;have e:(if(32768:Int)<(n:Int) then(32768:Int) else(n:Int))=((min bZ n:Nat):Int):=by
   show _=((min 32768 n:Nat):Int);split <;> omega
  refine⟨_,rfl,_,_,rfl,?_⟩;rw[e];exact q
def uq(T:Txt K mg c):Callee P w K mg base "made_bound" 4 ["form"] (je c K Good (λf=>((min bZ (fo f):Nat):Int))):=by
 exists T.Fp.ok ["form"]
 ·obtain⟨a,f,rfl,hF,hG,q⟩:=h;refine⟨_,(aq (az (aF (Ol T) hr (aa (aF (rm T) hr (aa (pv 0) ai)) ai)))),?_⟩;exact⟨_,rfl,a,f,rfl,hF,hG,_,rfl,q⟩
inductive Ak(c:Cs)(K:ab)(vs:List V)(H:Hp)(Q:VK)(E:XK):Prop
 |mk (a:Addr) (f:aB) (b:Nat):vs=[.ref a,.int (b:Int)]->dU c K H a f->Small f->Q (.bl (gu f b)) H->Ak c K vs H Q E
def uQ(T:Txt K mg c):Callee P w K mg base "is_sure" 2 ["form","bound"] (Ak c K):=by
 exists T.MF.ok ["form","bound"]
 ·obtain⟨a,f,b,rfl,hF,hS,q⟩:=h;refine⟨_,(aq (az (jf oH (pv 1) (aF (oJ T) hr (aa (pv 0) ai)) (dC _)))),?_⟩;refine⟨_,rfl,_,rfl,a,f,rfl,hF,hS,_,_,rfl,rfl,?_⟩;have e:gu f b=decide ((b:Int)<=iT f):=by
   unfold gu iT;refine decide_eq_decide.mpr ?_;by_cases h:f.slack<f.step / 2
   ·rw[if_pos h];omega
   ·rw[if_neg h];omega
  rw[e] at q;exact q
inductive nv(K:ab)(vs:List V)(H:Hp)(Q:VK)(E:XK):Prop
 |mk (a b:Addr) (bs:List Nat) (fs:List Int) (n:Nat):vs=[.ref a,.ref b]->bw K H a (iv bs)->(bw K H b (ii fs)\/gU K H b (ii fs))->bs.length=fs.length->bs.length<=1000->(∀x∈bs,x<=32768)->(n:Int)=Sb.wsum (bs.map λ(x:Nat)=>(x:Int)) (fs.map λ(f:Int)=>((f.natAbs:Nat):Int))->(∀H',au H H'->Q (.int ((min bZ n:Nat):Int)) H')->nv K vs H Q E
def nA(T:Txt K mg c):Callee P w K mg base "combined_bound" 2 ["bounds","factors"] (nv K):=by
 exists T.xy.ok ["bounds","factors","factor"]
 ·obtain⟨a,b,bs,fs,n,rfl,ha,hb,hl,hz,hw,hn,q⟩:=h;have big:=bI;refine⟨_,(aq (az (aF (Ol T) hr (aa (aF (mJ T) hr (aa (pv 0) (aa (gR rfl nd (RL.YQ K (pv 1)) (own:=[("factor",2)]) (cn rfl) (λ_ _ _ _ _=>(qn 2 nd)) (λ_ _ _ _ _=>cO) (λ_ _ _ _ _=>(bX Pz rfl T.Yr boot_abs (aa (pv 2) ai)))) ai))) ai)))),?_⟩;have turn: ∀(m:Nat) (x:V) (H':Hp) (Q':V->Hp->Prop),(ii fs)[m]? =some x->Q' (.int (if fs.getD m 0<0 then - fs.getD m 0 else fs.getD m 0)) H'->
    Zy (λxs H Q=> ∃i,xs=[.int i]/\Q (.int (if i<0 then -i else i)) H) (Kp (Jh 2) Ji) [some (.ref a),some (.ref b),some x] H' Q':=λm x H' Q' hx k=>by
   obtain⟨h1,rfl⟩:=oO hx;exact⟨_,rfl,_,rfl,k⟩
  have fin: ∀(D:Addr) (H':Hp),au H H'->H' D=some (.lst ((List.range fs.length).map λm=>V.int (if fs.getD m 0<0 then - fs.getD m 0 else fs.getD m 0)))->uK K [.ref a,.ref D] H' (λv H''=>Jn [v] H'' Q E0) E0:=λD H' hs hD=>by
   rw[range_one (f:=λz=>if z<0 then -z else z)] at hD;have e:fs.map (λz=>if z<0 then -z else z)=fs.map λ(f:Int)=>((f.natAbs:Nat):Int):=cC λz _=>by split <;> omega
   rw[e] at hD;rw[mQ] at ha;refine⟨a,D,_,_,rfl,hs.seq ha,.inl (bw.of hD),by simpa using hl,by simpa using hz,λx hx=> ?_,λH'' s2=>⟨n,by rw[<-hn],q H'' (hs.trans s2)⟩⟩;obtain⟨y,hy,rfl⟩:=aQ.mp hx;have:=hw y hy;omega
  rcases hb with hb|hb
  ·refine⟨_,rfl,_,rfl,b,rfl,.inl ⟨⟨_,hb⟩,?_⟩⟩;refine ff (K:=K) (a:=b) (xs:=ii fs) (i:=2) (λm=>V.int (if fs.getD m 0<0 then - fs.getD m 0 else fs.getD m 0)) (λ_ H2=>au H H2) (by simp;omega) (au.refl H) (λ_ H2 D o h hD=>au.at' h hD) (λ_ H2 _ h=>h.seq hb) (λm x H2 Q' hx fX k=>turn m x H2 Q' hx (k H2 fX λ_ _ _ e=>e)) (λD H2 _ fX hD=>fin D H2 fX (by simpa using hD))
  ·refine⟨_,rfl,_,rfl,b,rfl,.inr ⟨⟨_,hb⟩,?_⟩⟩;refine RL.Ro (K:=K) (a:=b) (xs:=ii fs) (i:=2) (λm=>V.int (if fs.getD m 0<0 then - fs.getD m 0 else fs.getD m 0)) (λ_ H2=>au H H2) (by simp;omega) (au.refl H) (λ_ H2 D o h hD=>au.at' h hD) (λ_ H2 _ h=>h.Cj hb) (λm x H2 Q' hx fX k=>turn m x H2 Q' hx (k H2 fX λ_ _ _ e=>e)) (λD H2 _ fX hD=>fin D H2 fX (by simpa using hD))
def W8(n:Nat)(fs:List Int)(ls:List ax):(bO n (fs.zip ls)).a=(List.range n).map λi=>Wqarav.word (Sb.wsum (ls.map λ(s:ax)=>((s.a.getD i 0:Nat):Int)) fs):=by
 unfold bO;refine cC λi _=> ?_;rw[<-Sb.sy (λ(s:ax)=>((s.a.getD i 0:Nat):Int))]
def Z1(n:Nat)(fs:List Int)(ls:List ax):(bO n (fs.zip ls)).b=Wqarav.word (Sb.wsum (ls.map λ(s:ax)=>((s.b:Nat):Int)) fs):=by
 unfold bO;rw[<-Sb.sy (λ(s:ax)=>((s.b:Nat):Int))]
def sH{α:Type}{f:α->Int}{ls:List α}{d:α}:((List.range ls.length).map λn=>V.int (f (ls.getD n d)))=ii (ls.map f):=by
 refine bW (by simp) λn h1 h2=> ?_;have h3:n<ls.length:=by simpa using h1
 simp[ae,af h3]
def vY{ts:List Addr}{ls:List ax}{H:Hp}{A:Addr}{i:Nat}{σ:L2.St}{te:TE}{Qd:Addr->Hp->Prop}(f:ax->Int)(hA:H A=some (.lst (ts.map V.ref)))(hP:Paired (λt r=>cQ c H t r) ts ls)(hl:ls.length<=1000)
  (hs: ∀(t:Addr) (s:ax) (H':Hp) (Q':V->Hp->Prop),s∈ls->cQ c H' t s->Q' (.int (f s)) H'->te ((wipe σ [i]).set i (some (.ref t))) H' Q')
  (hq: ∀D H',au H H'->H D=none->H' D=some (.lst (ii (ls.map f)))->Qd D H'):
  ∀D,H D=none-> ∃W:Nat->Nat->Hp->Prop,(∃m,W 0 m (upd H D (.lst [])))/\ ∀n m H,W n m H->
   ((zI K A).stop n H/\Qd D H)\/((zI K A).go n H/\ ∃Nx:Hp->Prop,(∀H',Nx H'-> ∃m',m'<m/\W (n + 1) m' H')/\ ∀x H',(zI K A).wR n H x H'->gq i x (wipe σ [i]) H' λσ2 H2=>wipe σ2 [i]=wipe σ [i]/\lV σ2 H2 λb H3=>
    if b=true then te σ2 H3 λy H4=> ∃acc,H4 D=some (.lst acc)/\acc.length<sizeLine/\Nx (upd H4 D (.lst (acc++[y]))) else Nx H3):=by
 have big:=bI;have hlen:ts.length=ls.length:=Paired.length hP;refine ff (K:=K) (a:=A) (xs:=ts.map V.ref) (i:=i) (λm=>V.int (f (ls.getD m Sb.dI))) (λ_ H2=>au H H2) (by rw[ag];omega) (au.refl H) (λ_ H2 D o h hD=>au.at' h hD) (λ_ H2 _ h=>h.seq (bw.of hA)) (λm x H2 Q' hx fX k=> ?_) (λD H2 wN fX hD=> ?_)
 ·rw[aI] at hx;cases e:ts[m]? with
  |none=>rw[e] at hx;cases hx
  |some t=>
   rw[e] at hx;have ex:x=V.ref t:=(ao hx).symm;subst ex;obtain⟨r,er,hr⟩:=cX hP e;have e2:ls.getD m Sb.dI=r:=by rw[ae,er];rfl
   refine hs t r H2 Q' (aZ er) (hr.mono fX) ?_;have k2:=k H2 fX λ_ _ _ e=>e;rw[e2] at k2;exact k2
 ·rw[ag,hlen,sH] at hD;exact hq D H2 fX wN hD
inductive yg(c:Cs)(K:ab)(vs:List V)(H:Hp)(Q:VK)(E:XK):Prop
 |mk (A b:Addr) (ls:List ax) (fs:List Int) (n:Nat):vs=[.ref A,.ref b]->dS H A (cQ c) ls->(bw K H b (ii fs)\/gU K H b (ii fs))->ls.length=fs.length->ls≠[]->ls.length<=1000->(∀s∈ls,Wf n s)->n<=4->(∀(p:Addr) (H':Hp),au H H'->H p=none->cQ c H' p (bO n (fs.zip ls))->Q (.ref p) H')->yg c K vs H Q E
def Zf.mono{H H':Hp}{b:Addr}{xs:List V}(h:bw K H b xs\/gU K H b xs)(s:au H H'):bw K H' b xs\/gU K H' b xs:=h.imp (λh=>s.seq h) (λh=>s.Cj h)
def rq(T:Txt K mg c):Callee P w K mg base "combined" 3 ["seals","factors"] (yg c K):=by
 exists T.JZ.ok ["seals","factors","totals","place","seal","last"]
 ·obtain⟨A,b,ls,fs,n,rfl,⟨ts,hA,hP⟩,hb,hl,pC,hz,hw,hn4,q⟩:=h;have big:=bI;refine⟨_,(aj (bS 2 nd (cx ai))
   (aj (fD PassesOwn.never rfl (fh rfl T.gj (aa (bX (cI K) rfl T.f7 boot_len (aa (fld K (gT K (pv 0) ay)) ai)) ai)) (qn 3 nd) (aq (fU (kP bH cT cS iR (pv 2) (aa (aM eW (aF (mJ T) hr (aa (gR rfl nd (sI K (pv 0)) (own:=[("seal",4)]) (cn rfl) (λ_ _ _ _ _=>(qn 4 nd)) (λ_ _ _ _ _=>cO) (λ_ _ _ _ _=>(gT K (fld K (pv 4)) (pv 3)))) (aa (pv 1) ai))) (qg T.og)) ai)))))
   (aj (bS 5 nd (aM eW (aF (mJ T) hr (aa (gR rfl nd (sI K (pv 0)) (own:=[("seal",4)]) (cn rfl) (λ_ _ _ _ _=>(qn 4 nd)) (λ_ _ _ _ _=>cO) (λ_ _ _ _ _=>(fld K (pv 4)))) (aa (pv 1) ai))) (qg T.og)))
   (aq (az (i6 (nE T) hr (aa (pv 2) (aa (pv 5) (aa (aF (nA T) hr (aa (gR rfl nd (sI K (pv 0)) (own:=[("seal",4)]) (cn rfl) (λ_ _ _ _ _=>(qn 4 nd)) (λ_ _ _ _ _=>cO) (λ_ _ _ _ _=>(fld K (pv 4)))) (aa (pv 1) ai))) ai))))))))),?_⟩
  have hlen:ts.length=ls.length:=Paired.length hP;obtain⟨s0,hs0⟩: ∃s0,ls[0]? =some s0:=⟨ls[0]'(iE.mpr pC),af _⟩;obtain⟨t0,SX⟩: ∃t0,ts[0]? =some t0:=⟨ts[0]'(by rw[hlen];exact iE.mpr pC),af _⟩;obtain⟨r0,Zd,UY⟩:=cX hP SX;rw[hs0] at Zd;have Zd:s0=r0:=ao Zd;subst Zd;have hw0:=hw s0 (aZ hs0);have mem: ∀{s},s∈ls->Wf n s:=λh=>hw _ h;refine⟨aC _,λp np=> ?_⟩;have sp:=au.new (o:=HO.lst []) np;obtain⟨dx0,wa0,w1,w2⟩:=UY.mono sp;refine⟨_,rfl,A,_,_,_,rfl,rfl,bw.of (sp _ _ hA),c8 (j:=0) (by rw[aI,SX];rfl),t0,c.Seal,dx0,_,_,rfl,w1,T.fI,T.gk,rfl,wa0,_,rfl,.inl (bw.of w2),((n:Nat):Int),by rw[bR,hw0.len],by omega,by omega,?_⟩;rw[bb];refine jj (λi σ H'=>au H H'/\H' p=some (.lst (iv ((bO n (fs.zip ls)).a.take i)))/\ ∃v o,σ=[some (.ref A),some (.ref b),some (.ref p),v,o,none]) ⟨sp,ak,none,none,rfl⟩ (λi σ H' hi h=> ?_) (λσ H' h=> ?_)
  ·obtain⟨h1,h2,v,o,rfl⟩:=h;refine⟨_,rfl,.inl ⟨rfl,_,bw.of h2⟩,_,rfl,A,rfl,⟨_,bw.of (h1 _ _ hA)⟩,?_⟩;refine vY (c:=c) (λs=>((s.a.getD i 0:Nat):Int)) (h1 _ _ hA) (Paired.ja hP λt r q=>q.mono h1) hz (λt s H2 Q' hm hS k=> ?_) (λD H2 s2 nD hD=> ?_)
   ·obtain⟨dx,wa,g1,g2⟩:=hS;have VU:=(mem hm).len;refine⟨_,rfl,t,c.Seal,dx,_,_,rfl,g1,T.fI,T.gk,rfl,_,rfl,wa,_,_,_,rfl,rfl,bw.of g2,?_,k⟩;rw[gC];refine c8 ?_;rw[iv,aI,ae,af (by omega)];rfl
   ·refine⟨_,rfl,D,b,_,fs,rfl,bw.of hD,Zf.mono hb (h1.trans s2),by simpa using hl,by simpa using hz,λx hx=> ?_,λH3 s3=> ?_⟩
    ·obtain⟨s,hs,rfl⟩:=aQ.mp hx;have RN:s.a.getD i 0<65536:=by
      rw[ae];cases e:s.a[i]? with
      |none=>show 0<65536;decide
      |some y=>exact(mem hs).words y (aZ e)
     generalize s.a.getD i 0=y at RN ⊢;omega
    ·refine⟨_,_,rfl,rfl,(by show(0:Int)<65536;decide),p,_,_,rfl,rfl,s3 _ _ (s2 _ _ h2),?_,?_⟩
     ·rw[bR,bo];omega
     ·refine⟨au.at' (h1.trans (s2.trans s3)) np,?_,_,_,rfl⟩;have e:(bO n (fs.zip ls)).a[i]? =some (Wqarav.word (Sb.wsum (ls.map λ(s:ax)=>((s.a.getD i 0:Nat):Int)) fs)):=by
       rw[W8,aI,wK hi];rfl
      rw[ak,take_snoc e,iv,iv,bF,bB,sf,jX]
  ·obtain⟨h1,h2,v,o,rfl⟩:=h;have eA:(bO n (fs.zip ls)).a.take n=(bO n (fs.zip ls)).a:=aU (by rw[W8];simp);rw[eA] at h2;refine⟨_,rfl,A,rfl,⟨_,bw.of (h1 _ _ hA)⟩,?_⟩;refine vY (c:=c) (λs=>((s.b:Nat):Int)) (h1 _ _ hA) (Paired.ja hP λt r q=>q.mono h1) hz (λt s H2 Q' hm hS k=> ?_) (λD H2 s2 nD hD=> ?_)
   ·obtain⟨dx,wa,g1,g2⟩:=hS;exact⟨_,rfl,t,c.Seal,dx,_,_,rfl,g1,T.fI,T.iG,rfl,k⟩
   ·refine⟨_,rfl,D,b,_,fs,rfl,bw.of hD,Zf.mono hb (h1.trans s2),by simpa using hl,by simpa using hz,λx hx=> ?_,λH3 s3=> ?_⟩
    ·obtain⟨s,hs,rfl⟩:=aQ.mp hx;have:=(mem hs).last;omega
    refine⟨_,_,rfl,rfl,(by show(0:Int)<65536;decide),?_⟩;have mq:=h1.trans (s2.trans s3);refine⟨_,rfl,_,rfl,_,rfl,A,rfl,⟨_,bw.of (mq _ _ hA)⟩,?_⟩;refine vY (c:=c) (λs=>((s.bound:Nat):Int)) (mq _ _ hA) (Paired.ja hP λt r q=>q.mono mq) hz (λt s H4 Q' hm hS k=> ?_) (λD4 H4 s4 nD4 Mm=> ?_)
    ·obtain⟨dx,wa,g1,g2⟩:=hS;exact⟨_,rfl,t,c.Seal,dx,_,_,rfl,g1,T.fI,T.gm,rfl,k⟩
    ·have e4:ii (ls.map λ(s:ax)=>((s.bound:Nat):Int))=iv (ls.map λ(s:ax)=>s.bound):=by rw[mQ,bP];rfl
     rw[e4] at Mm;refine⟨_,rfl,D4,b,ls.map (λ(s:ax)=>s.bound),fs,Wqarav.sum ((fs.zip ls).map λx=>x.1.natAbs*x.2.bound),rfl,bw.of Mm,Zf.mono hb (mq.trans s4),by simpa using hl,by simpa using hz,λx hx=> ?_,by rw[Sb.MT,bP];rfl,λH5 s5=> ?_⟩
     ·obtain⟨s,hs,rfl⟩:=aQ.mp hx;exact(mem hs).bound
     ·have ZG:=s4.trans s5;have e6:Sb.wsum (ls.map λ(s:ax)=>((s.b:Nat):Int)) fs % 65536=(((bO n (fs.zip ls)).b:Nat):Int):=by rw[Z1,jX]
      refine λl dl nl He ne=>⟨l,dl,p,bO n (fs.zip ls),?_,ak,?_,λH6 hS6 k6=> ?_⟩
      ·(try dsimp only)
       rw[e6];rfl
      ·have JF:=ZG _ _ (s3 _ _ (s2 _ _ h2));rw[aJ (aO JF nl),aJ (aO JF He)];exact JF
      ·refine⟨rfl,q l H6 ((mq.trans ZG).trans (au.made nl He k6)) ((mq.trans ZG).free nl) hS6⟩
inductive ye(K:ab)(vs:List V)(H:Hp)(Q:VK)(E:XK):Prop
 |mk (a b:Addr) (l m:List Int):vs=[.ref a,.ref b]->bw K H a (ii l)->bw K H b (ii m)->l.length=m.length->l.length<=1000->(∀(p:Addr) (H':Hp),au H H'->H p=none->H' p=some (.lst (ii (VH l m)))->Q (.ref p) H')->ye K vs H Q E
def G5(T:Txt K mg c):Callee P w K mg base "lessened" 1 ["first","second"] (ye K):=by
 exists T.JX.ok ["first","second","x","y"]
 ·obtain⟨a,b,l,m,rfl,ha,hb,Ta,hl,q⟩:=h;have big:=bI;refine⟨_,(aq (az (gR rfl nd (EM rfl T.Ep (aa (pv 0) (aa (pv 1) ai))) (own:=[("x",2),("y",3)]) (cn rfl) (λ_ _ _ _ _=>(QZ K (n:=2) rfl (eV (qn 2 nd) (eV (qn 3 nd) lY)))) (λ_ _ _ _ _=>cO) (λ_ _ _ _ _=>(aM eW (aM ik (pv 2) (pv 3)) (qg T.oh)))))),?_⟩;refine⟨_,rfl,_,rfl,a,b,_,_,rfl,ha,hb,?_⟩;refine zA (i:=2) (j:=3) (λn=>V.int ((l.getD n 0 - m.getD n 0)% 4503599627370496)) (λ_ H'=>au H H') (by simp;omega) (by simpa using Ta) (by decide) (au.refl H) (λ_ H' D o h hD=>au.at' h hD) (λ_ H' D o h hD=>au.gv h hD)
   (λ_ H' _ h=>h.seq ha) (λ_ H' _ h=>h.seq hb) (λn x y H' Q' hx hy hs k=> ?_) (λD H' wN hs hD=> ?_)
  ·obtain⟨h1,rfl⟩:=oO hx;obtain⟨h2,rfl⟩:=oO hy;exact⟨_,rfl,_,rfl,_,_,rfl,rfl,_,_,rfl,rfl,(by show(0:Int)<4503599627370496;decide),k H' hs λ_ _ _ e=>e⟩
  ·rw[ag,sG (f:=λx y=>(x - y)% 4503599627370496) Ta] at hD;rw[jK] at hD;exact q D H' hs wN hD
def Wt(l:List Int):xU l=Sb.xS l:=rfl
inductive qT(K:ab)(vs:List V)(H:Hp)(Q:VK)(E:XK):Prop
 |mk (a:Addr) (l:List Int) (e:Nat):vs=[.ref a,.int (e:Int)]->bw K H a (ii l)->l≠[]->l.length<=1000->Sb.Red l->e<=1000->(∀(p:Addr) (H':Hp),au H H'->H p=none->H' p=some (.lst (ii (oY e l)))->Q (.ref p) H')->qT K vs H Q E
def rl(T:Txt K mg c):Callee P w K mg base "times_power" 2 ["polynomial","power"] (qT K):=by
 exists T.CH.ok ["polynomial","power","turned","turn","number"]
 ·obtain⟨a,l,e,rfl,ha,pC,hl,hR,he,q⟩:=h;have big:=bI;refine⟨_,(aj (bS 2 nd (kS (jU K) rfl T.rX boot_list (aa (pv 0) ai)))
   (aj (fD PassesOwn.never rfl (fh rfl T.gj (aa (pv 1) ai)) (qn 3 nd) (aq (bS 2 nd (aF (AQ T) hr (aa (pv 2) ai)))))
   (aq (az (gR rfl nd (sI K (pv 2)) (own:=[("number",4)]) (cn rfl) (λ_ _ _ _ _=>(qn 4 nd)) (λ_ _ _ _ _=>cO) (λ_ _ _ _ _=>(aM eW (pv 4) (qg T.oh)))))))),?_⟩
  refine⟨_,rfl,a,_,rfl,.inl ha,λp0 kK=>⟨_,rfl,(e:Int),rfl,by omega,by omega,?_⟩⟩;rw[bb];refine jj (λi σ H'=>au H H'/\ ∃(t:Addr) (v o:Option V),H' t=some (.lst (ii (Sb.nI i l)))/\σ=[some (.ref a),some (.int (e:Int)),some (.ref t),v,o]) ⟨au.new kK,p0,none,none,ak,rfl⟩ (λi σ H' hi h=> ?_) (λσ H' h=> ?_)
  ·obtain⟨hs,t,v,o,ht,rfl⟩:=h;have E8:=Sb.sU i l pC;refine⟨_,rfl,t,_,rfl,bw.of ht,λz=>by rw[z] at E8;exact pC (eU.mp E8.symm),by omega,λp H2 s2 np hp=>⟨hs.trans s2,p,_,o,?_,rfl⟩⟩;rw[hp,Wt,Sb.Bt]
  ·obtain⟨hs,t,v,o,ht,rfl⟩:=h;have E8:=Sb.sU e l pC;refine⟨_,rfl,t,rfl,⟨_,bw.of ht⟩,?_⟩;refine ff (K:=K) (a:=t) (xs:=ii (Sb.nI e l)) (i:=4) (λn=>V.int ((Sb.nI e l).getD n 0 % 4503599627370496)) (λ_ H2=>au H' H2) (by simp;omega) (au.refl H') (λ_ H2 D o h hD=>au.at' h hD) (λ_ H2 _ h=>h.seq (bw.of ht)) (λn x H2 Q' hx fX k=> ?_) (λD H2 wN fX hD=> ?_)
   ·obtain⟨h1,rfl⟩:=oO hx;exact⟨_,rfl,_,_,rfl,rfl,(by show(0:Int)<4503599627370496;decide),k H2 fX λ_ _ _ e=>e⟩
   ·rw[ag,range_one (f:=λx=>x % 4503599627370496),jK] at hD;have e2:(Sb.nI e l).map (λx=>x % gE)=oY e l:=(Sb.wV e pC hR).symm;rw[e2] at hD;exact q D H2 (hs.trans fX) (hs.free wN) hD
def sC(n:Nat):(1:Int)*2^((n:Nat):Int).toNat=((2^n:Nat):Int):=by
 rw[Nr,bb,m8];rfl
inductive Ad(vs:List V)(H:Hp)(Q:VK)(E:XK):Prop
 |mk (v w b:Nat):vs=[.int (v:Int),.int (w:Int),.int (b:Int)]->b<=w->w<=100->v<2^w->Q (.int ((kL w b v:Nat):Int)) H->Ad vs H Q E
def N7{n:Nat}(h:n<=100):((2^n:Nat):Int)<2^200:=by
 have h1:2^n<=2^100:=mB (by decide) h;have h2:(2:Nat)^100<2^200:=by decide +kernel
 have h3:((2^200:Nat):Int)=(2:Int)^200:=by decide +kernel
 omega
def AR(T:Txt K mg c):Callee P w K mg base "rounded" 1 ["number","width","kept"] Ad:=by
 exists T.My.ok ["number","width","kept","dropped"]
 ·obtain⟨v,w,b,rfl,hbw,hw,hv,q⟩:=h;refine⟨_,(aj (cD (eh Oi (pv 2) (pv 1) (dC _)) (aq (az (pv 0))) bA)
   (aj (bS 3 nd (aM ik (pv 1) (pv 2)))
   (aq (az (aM eW (aM eX (aM cz (pv 0) (aM n6 ay (aM ik (pv 3) ay))) (aM n6 ay (pv 3))) (aM n6 ay (pv 2))))))),?_⟩
  refine⟨_,rfl,_,rfl,rfl,_,rfl,j9 (λh=> ?_) λh=> ?_⟩
  ·have h:(b:Int)=(w:Int):=by have:=of_decide_eq_true h;injection this
   have h:b=w:=by omega
   subst h;unfold kL at q;rw[if_neg (gF b),TM hv] at q;exact⟨_,rfl,q⟩
  ·have h: ¬(b:Int)=(w:Int):=λz=>h (decide_eq_true (by rw[z]));have ig:b<w:=by omega
   have e1:(w:Int)-(b:Int)=((w - b:Nat):Int):=by omega
   have e2:(w:Int)-(b:Int)- 1=((w - b - 1:Nat):Int):=by omega
   have z1:(0:Int)<((2^(w - b):Nat):Int):=by have:=Ew (w - b);omega
   have z2:(0:Int)<((2^b:Nat):Int):=by have:=Ew b;omega
   unfold kL at q;rw[if_pos ig] at q;have e2:((w - b:Nat):Int)- 1=((w - b - 1:Nat):Int):=by omega
   refine⟨_,rfl,_,rfl,_,_,rfl,rfl,?_⟩
   (try dsimp only)
   rw[e1];refine⟨_,rfl,_,rfl,_,_,rfl,rfl,_,_,rfl,rfl,⟨by omega,by omega,by decide⟩,_,_,rfl,rfl,_,rfl,_,_,rfl,rfl,⟨by omega,by omega,by decide⟩,_,_,rfl,rfl,?_,_,rfl,_,_,rfl,rfl,⟨by omega,by omega,by decide⟩,_,_,rfl,rfl,?_,?_⟩
   ·rw[sC];exact⟨z1,N7 (by omega)⟩
   ·(try dsimp only);rw[sC b];exact z2
   ·dsimp only;rw[e2,sC,sC,sC,<-bh,<-cu,<-dn];exact q
def qP(d:Nat):((2^d:Nat):Int)=(2:Int)^d:=by rw[m8];rfl
inductive pX(vs:List V)(H:Hp)(Q:VK)(E:XK):Prop
 |mk (u:Int) (d:Nat):vs=[.int (u %((2^d:Nat):Int)),.int ((2^d:Nat):Int)]->1<=d->Q (.int (Sb.uL d u)) H->pX vs H Q E
def yL(T:Txt K mg c):Callee P w K mg base "signed_digit" 1 ["digit","base"] pX:=by
 exists T.BC.ok ["digit","base"]
 ·obtain⟨u,d,rfl,hd,q⟩:=h;refine⟨_,(aj (cD (eh KH (pv 0) (aM eX (pv 1) ay) (dC _)) (aq (az (aM ik (pv 0) (pv 1)))) bA)
   (aq (az (pv 0)))),?_⟩
  have e:((2^d:Nat):Int)/ 2=(2:Int)^(d - 1):=by
   obtain⟨k,rfl⟩: ∃k,d=k + 1:=⟨d - 1,by omega⟩;rw[yH,<-qP,zN];omega
  unfold Sb.uL at q;rw[<-qP d,<-e] at q;refine⟨_,rfl,_,rfl,_,_,rfl,rfl,⟨by decide,by decide⟩,_,_,rfl,rfl,_,rfl,j9 (λh=> ?_) λh=> ?_⟩
  ·have h:((2^d:Nat):Int)/ 2<=u %((2^d:Nat):Int):=of_decide_eq_true h;rw[if_pos h] at q;exact⟨_,rfl,_,rfl,_,_,rfl,rfl,q⟩
  ·have h: ¬((2^d:Nat):Int)/ 2<=u %((2^d:Nat):Int):=λz=>h (decide_eq_true z);rw[if_neg h] at q;exact⟨_,rfl,q⟩
inductive vx(vs:List V)(H:Hp)(Q:VK)(E:XK):Prop
 |mk (v w m d:Nat):vs=[.int (v:Int),.int (w:Int),.int (m:Int),.int (d:Int)]->m*d<=w->w<=100->v<2^w->1<=d->d<=100->m<=100->(∀(p:Addr) (H':Hp),au H H'->H p=none->H' p=some (.lst (ii (iY w m d v)))->Q (.ref p) H')->vx vs H Q E
def vS(T:Txt K mg c):Callee P w K mg base "digits_of" 2 ["number","width","many","bits"] vx:=by
 exists T.HR.ok ["number","width","many","bits","base","rest","digits","turn","digit"]
 ·obtain⟨v,w,m,d,rfl,hmd,hw,hv,hd1,hd,hm,q⟩:=h;have big:=bI;refine⟨_,(aj (bS 4 nd (aM n6 ay (pv 3)))
   (aj (bS 5 nd (aF (AR T) hr (aa (pv 0) (aa (pv 1) (aa (aM cP (pv 2) (pv 3)) ai)))))
   (aj (bS 6 nd (cx ai))
   (aj (fD PassesOwn.never rfl (fh rfl T.gj (aa (pv 2) ai)) (qn 7 nd) (aj (bS 8 nd (aF (yL T) hr (aa (aM eW (pv 5) (pv 4)) (aa (pv 4) ai))))
   (aj (fU (kP bH cT cS iR (pv 6) (aa (pv 8) ai)))
   (aq (bS 5 nd (aM eX (aM ik (pv 5) (pv 8)) (pv 4)))))))
   (aq (az (RL.Jq K rfl rfl T.rX rfl T.va (aa (pv 6) ai)))))))),?_⟩
  have zb:(0:Int)<((2^d:Nat):Int):=by have:=Ew d;omega
  refine⟨_,rfl,_,_,rfl,rfl,⟨by omega,by omega,by decide⟩,?_⟩;dsimp only;rw[sC];refine⟨_,rfl,_,rfl,_,rfl,_,rfl,_,_,rfl,rfl,.inl ⟨by omega,by omega⟩,v,w,m*d,by rw[bf];rfl,hmd,hw,hv,aC _,λp np=>⟨_,rfl,(m:Int),rfl,by omega,by omega,?_⟩⟩;rw[bb];generalize hu:((kL w (m*d) v:Nat):Int)=u;refine jj (λi σ H'=>au H H'/\H' p=some (.lst (ii (Sb.kX d i u)))/\ ∃x y,σ=[some (.int (v:Int)),some (.int (w:Int)),some (.int (m:Int)),some (.int (d:Int)),some (.int ((2^d:Nat):Int)),some (.int (Sb.um d i u)),some (.ref p),x,y]) ⟨au.new np,ak,none,none,rfl⟩ (λi σ H' hi h=> ?_) (λσ H' h=> ?_)
  ·obtain⟨h1,h2,x,y,rfl⟩:=h;refine⟨_,rfl,_,rfl,_,_,rfl,rfl,zb,_,rfl,Sb.um d i u,d,rfl,hd1,?_⟩;refine⟨_,rfl,.inl ⟨rfl,_,bw.of h2⟩,_,rfl,p,_,_,rfl,rfl,h2,?_,?_⟩
   ·rw[gi,Sb.u9];omega
   refine⟨_,rfl,_,rfl,_,_,rfl,rfl,_,rfl,_,_,rfl,rfl,⟨zb,N7 hd⟩,au.at' h1 np,?_,some (.int (0 +(i:Int))),some (.int (Sb.uL d (Sb.um d i u))),?_⟩
   ·rw[ak,Sb.yC,ii,ii,bF];rfl
   ·rw[Sb.Ay,Sb.KI,<-qP];rfl
  ·obtain⟨h1,h2,x,y,rfl⟩:=h;refine⟨_,rfl,p,_,rfl,bw.of h2,λp2 zv=>q p2 _ (au.gv h1 zv) (h1.free zv) ?_⟩;rw[ak];have e:(ii (Sb.kX d m u)).reverse=ii (iY w m d v):=by
    unfold iY;rw[hu,Sb.nM,ii,ii,List.map_reverse]
   rw[e]
inductive Ac(c:Cs)(K:ab)(vs:List V)(H:Hp)(Q:VK)(E:XK):Prop
 |mk (a:Addr) (f:aB) (l:List Nat) (b:Nat):vs=[.ref a,.int (b:Int)]->bw K H a (iv l)->l.length=2*f.n + 2->f.n<=4->(∀(p:Addr) (H':Hp),au H H'->H p=none->cQ c H' p (ia f l b)->Q (.ref p) H')->Ac c K vs H Q E
def Jt(T:Txt K mg c):Callee P w K mg base "seal_of" 3 ["octets","bound"] (Ac c K):=by
 exists T.Mx.ok ["octets","bound","words"]
 ·obtain⟨a,f,l,b,rfl,ha,hl,hn,q⟩:=h;have big:=bI;refine⟨_,(aj (bS 2 nd (aF (iQ T) hr (aa (pv 0) (aa ay ai))))
   (aq (az (i6 (nE T) hr (aa (Cb K (pv 2) iV (dr (mE jR ay))) (aa (gT K (pv 2) (mE jR ay)) (aa (pv 1) ai))))))),?_⟩
  refine⟨_,rfl,a,l,2,f.n + 1,rfl,ha,by omega,by omega,by omega,by omega,λD H1 s1 nD hD=> ?_⟩;generalize hL:(bD 2 (f.n + 1) l).map bJ=L at hD;have Vd:L.length=f.n + 1:=by rw[<-hL,ag,fM]
  have pC:(L.map λ(n:Nat)=>(n:Int))≠[]:=λz=>by
   have:=congrArg List.length z;rw[ag,Vd] at this;cases this
  rw[mQ] at hD;have c1:iw (ii (L.map λ(n:Nat)=>(n:Int))) none (some (-1))=iv (L.take f.n):=by
   rw[wz pC,mQ,Lo,ag,Vd,fz];rfl
  have c2:xH (ii (L.map λ(n:Nat)=>(n:Int))) (-1)=some (V.int ((L.getD f.n 0:Nat):Int)):=by
   rw[FP pC,ag,Vd,yH,ae,aI,ae];cases L[f.n]? <;> rfl
  refine⟨_,rfl,1,rfl,_,rfl,D,_,rfl,bw.of hD,λp2 zv=> ?_⟩;refine⟨_,rfl,1,rfl,D,_,_,_,rfl,rfl,bw.of (au.new zv _ _ hD),c2,_,rfl,λl1 dl nl He ne=> ?_⟩;refine⟨l1,dl,p2,ia f l b,?_,ak,?_,λH3 hS k3=>⟨rfl,q l1 H3 ((au.gv s1 zv).trans (au.made nl He k3)) ((au.gv s1 zv).free nl) hS⟩⟩
  ·unfold ia;rw[hL];rfl
  ·have e2:(ia f l b).a=L.take f.n:=by unfold ia;rw[hL]
   rw[e2,<-c1];have JF:upd H1 p2 (.lst (iw (ii (L.map λ(n:Nat)=>(n:Int))) none (some (-1)))) p2=some (.lst (iw (ii (L.map λ(n:Nat)=>(n:Int))) none (some (-1)))):=ak;rw[aJ (aO JF nl),aJ (aO JF He)];exact JF
inductive Gy(c:Cs)(K:ab)(vs:List V)(H:Hp)(Q:VK)(E:XK):Prop
 |mk (fa a:Addr) (f:aB) (s:ax) (j:Nat):vs=[.ref fa,.ref a,.int (j:Int)]->dU c K H fa f->Small f->cQ c H a s->(∀(p:Addr) (H':Hp),au H H'->H p=none->cQ c H' p ⟨s.a,(s.b + j*f.step)% 65536,s.bound⟩->Q (.ref p) H')->Gy c K vs H Q E
def Oj(T:Txt K mg c):Callee P w K mg base "moved" 3 ["form","seal","number"] (Gy c K):=by
 exists T.RU.ok ["form","seal","number"]
 ·obtain⟨fa,a,f,s,j,rfl,⟨Gd,VQ,f1,f2⟩,hS,⟨dx,wa,h1,h2⟩,q⟩:=h;have st:=step_pos hS;refine⟨_,(aq (az (i6 (nE T) hr (aa (fld K (pv 1)) (aa (aM eW (aM cz (fld K (pv 1)) (aM cP (pv 2) (fld K (pv 0)))) (qg T.og)) (aa (fld K (pv 1)) ai)))))),?_⟩;refine⟨_,rfl,a,c.Seal,dx,_,_,rfl,h1,T.fI,T.gk,rfl,_,rfl,a,c.Seal,dx,_,_,rfl,h1,T.fI,T.iG,rfl,_,rfl,_,rfl,fa,c.Form,Gd,_,_,rfl,f1,T.bc,T.gg,rfl,_,_,rfl,rfl,.inr ⟨by omega,by omega⟩,_,_,rfl,rfl,_,_,rfl,rfl,(by show(0:Int)<65536;decide),_,rfl,a,c.Seal,dx,_,_,rfl,h1,T.fI,T.gm,rfl,λl dl nl He ne=> ?_⟩;refine⟨l,dl,wa,⟨s.a,(s.b + j*f.step)% 65536,s.bound⟩,?_,ak,?_,λH3 Wa k3=>⟨rfl,q l H3 (au.made nl He k3) nl Wa⟩⟩
  ·have e:((((s.b + j*f.step)% 65536:Nat)):Int)=((s.b:Int)+(j:Int)*(f.step:Int))% 65536:=by
    rw[dn,bh,bf];rfl
   dsimp only;rw[e];rfl
  ·rw[aJ (aO h2 nl),aJ (aO h2 He)];exact h2
inductive Aa(c:Cs)(K:ab)(vs:List V)(H:Hp)(Q:VK)(E:XK):Prop
 |mk (fa:Addr) (f:aB) (x:Nat):vs=[.ref fa,.int (x:Int)]->dU c K H fa f->Small f->Q (.int ((dm f x:Nat):Int)) H->Aa c K vs H Q E
def AO(T:Txt K mg c):Callee P w K mg base "to_ring" 1 ["form","word"] (Aa c K):=by
 exists T.Mv.ok ["form","word"]
 ·obtain⟨fa,f,x,rfl,⟨dx,na,hf,hn⟩,hS,q⟩:=h;have r8:=hS.r8;have AB:=hS.AB;have hp:(0:Int)<32768 /(f.ring:Int)/\32768 /(f.ring:Int)<2^200:=by
   rcases hS.ring with e|e|e <;> rw[e] <;> decide +kernel
  refine⟨_,(aq (az (aM eW (aM eX (aM cz (pv 1) (aM eX (qg T.rQ) (fld K (pv 0)))) (aM eX (qg T.rR) (fld K (pv 0)))) (aM cP ay (fld K (pv 0)))))),?_⟩;refine⟨_,rfl,_,rfl,fa,c.Form,dx,_,_,rfl,hf,T.bc,T.b9,rfl,_,_,rfl,rfl,⟨by omega,by omega⟩,_,_,rfl,rfl,_,rfl,fa,c.Form,dx,_,_,rfl,hf,T.bc,T.b9,rfl,_,_,rfl,rfl,⟨by omega,by omega⟩,_,_,rfl,rfl,hp,_,rfl,fa,c.Form,dx,_,_,rfl,hf,T.bc,T.b9,rfl,_,_,rfl,rfl,.inl ⟨by decide,by decide⟩,_,_,rfl,rfl,(by show(0:Int)<2*(f.ring:Int);omega),?_⟩;unfold dm at q;rw[dn,cu,bh,cu,cu,bf] at q;exact q
def Dq{f:aB}(h:Small f)(x:Nat):dm f x<2*f.ring:=Qn _ (by have:=h.r8;omega)
def Sr(f:aB)(x:Nat):Nat:=(x + f.ring / f.p / 2)/(f.ring / f.p)
def Uc(f:aB)(x:Nat):Sr f x=(x + f.ring /(2*f.p))/(f.ring / f.p):=by
 unfold Sr;rw[tw,cj f.p 2]
def Ub{f:aB}(h:Good f){x:Nat}(hx:x<f.ring):Sr f x<=f.p:=by
 have hpp:=h.pp;unfold Sr;rcases h.ring with e|e|e <;> rcases h.p with e'|e'|e' <;> rw[e,e'] at hpp <;> rw[e] at hx <;> rw[e,e'] <;> omega
def Kn(g:List Nat):List Int:=(g.map λ(n:Nat)=>(n:Int))++[-(g.getD 0 0:Int)]
def ND{f:aB}{g:List Nat}(hl:g.length=f.p){y:Nat}(hy:y<=f.p):(Kn g)[y]? =some (if y<f.p then(g.getD y 0:Int) else -(g.getD 0 0:Int)):=by
 unfold Kn;by_cases h:y<f.p
 ·rw[if_pos h,hZ (by simp;omega),aI,ae,af (by omega)];rfl
 ·rw[if_neg h,dN (by simp;omega)];have:y -(g.map λ(n:Nat)=>(n:Int)).length=0:=by simp;omega
  rw[this];rfl
inductive lS(c:Cs)(K:ab)(vs:List V)(H:Hp)(Q:VK)(E:XK):Prop
 |mk (fa a:Addr) (f:aB) (g:List Nat):vs=[.ref fa,.ref a]->dU c K H fa f->Good f->H a=some (.lst (iv g))->g.length=f.p->(∀(p:Addr) (H':Hp),au H H'->H p=none->H' p=some (.lst (ii (gx f g)))->Q (.ref p) H')->lS c K vs H Q E
def tK(T:Txt K mg c):Callee P w K mg base "table_polynomial" 1 ["form","table"] (lS c K):=by
 exists T.uY.ok ["form","table","values","width","unit","power"]
 ·obtain⟨fa,a,f,g,rfl,hF,hG,ha,hl,q⟩:=h;have big:=bI;have r8:=hG.r8;have AB:=hG.AB;have p2:=hG.p2;have p8:=hG.p8;have hpp:=hG.pp;have wp:0<f.ring / f.p:=Nat.div_pos (by omega) (by omega);have wl:f.ring / f.p<=f.ring:=Nat.div_le_self _ _;have hu:(4503599627370496:Int)/(2*(f.p:Int))=gE /((2*f.p:Nat):Int):=by rw[jK,bf];rfl
  have Y0:(0:Int)<=gE /((2*f.p:Nat):Int)/\gE /((2*f.p:Nat):Int)<2^64:=by
   rcases hG.p with e|e|e <;> rw[e] <;> decide +kernel
  refine⟨_,(aj (bS 2 nd (aM ku (pv 1) (cx (aa (mE jR (gT K (pv 1) ay)) ai))))
   (aj (bS 3 nd (aM eX (fld K (pv 0)) (fld K (pv 0))))
   (aj (bS 4 nd (aM eX (qg T.oh) (aM cP ay (fld K (pv 0)))))
   (aq (az (gR rfl nd (fh rfl T.gj (aa (fld K (pv 0)) ai)) (own:=[("power",5)]) (cn rfl) (λ_ _ _ _ _=>(qn 5 nd)) (λ_ _ _ _ _=>cO) (λ_ _ _ _ _=>(aM eW (aM cP (gT K (pv 2) (aM eX (aM cz (pv 5) (aM eX (pv 3) ay)) (pv 3))) (pv 4)) (qg T.oh))))))))),?_⟩
  have g0:xH (iv g) 0=some (V.int ((g.getD 0 0:Nat):Int)):=c8 (j:=0) (by rw[iv,aI,ae,af (by omega)];rfl);refine⟨_,rfl,_,rfl,a,_,_,_,rfl,rfl,bw.of ha,g0,_,rfl,(by show 1<=sizeLine;omega),λp0 kK=>⟨a,p0,_,_,rfl,rfl,au.new kK _ _ ha,ak,(by rw[bR,hl];show f.p + 1<=sizeLine;omega),λp1 KL=> ?_⟩⟩;have s1:au H (upd (upd H p0 (.lst [.int (-((g.getD 0 0:Nat):Int))])) p1 (.lst (iv g++[.int (-((g.getD 0 0:Nat):Int))]))):=au.gv (au.new kK) KL;obtain⟨dx,na,hf,hn⟩:=hF.mono s1;have hv:(upd (upd H p0 (.lst [.int (-((g.getD 0 0:Nat):Int))])) p1 (.lst (iv g++[.int (-((g.getD 0 0:Nat):Int))]))) p1=some (.lst (ii (Kn g))):=by
   rw[ak,Kn,ii,bF,mQ];rfl
  generalize (upd (upd H p0 (.lst [.int (-((g.getD 0 0:Nat):Int))])) p1 (.lst (iv g++[.int (-((g.getD 0 0:Nat):Int))])))=H1 at s1 hf hn hv;refine⟨_,rfl,fa,c.Form,dx,_,_,rfl,hf,T.bc,T.b9,rfl,_,rfl,fa,c.Form,dx,_,_,rfl,hf,T.bc,T.eY,rfl,_,_,rfl,rfl,⟨by omega,by omega⟩,?_⟩
  (try dsimp only)
  rw[<-cu];refine⟨_,rfl,fa,c.Form,dx,_,_,rfl,hf,T.bc,T.eY,rfl,_,_,rfl,rfl,.inl ⟨by decide,by decide⟩,_,_,rfl,rfl,⟨by omega,by omega⟩,?_⟩
  (try dsimp only)
  rw[hu];refine⟨_,rfl,fa,c.Form,dx,_,_,rfl,hf,T.bc,T.b9,rfl,(f.ring:Int),rfl,by omega,by omega,?_⟩;rw[bb];refine kW (i:=5) (λn=>V.int ((if Sr f n<f.p then(g.getD (Sr f n) 0:Int) else -(g.getD 0 0:Int))*(gE /((2*f.p:Nat):Int))% 4503599627370496)) (λ_ H'=>au H1 H') (by omega) (au.refl H1) (λ_ H' D o h hD=>au.at' h hD) (λn H' Q' XA h k=> ?_) (λD H' hD h Mn=> ?_)
  ·refine⟨_,rfl,_,rfl,_,rfl,_,_,rfl,rfl,⟨by decide,by decide⟩,_,_,rfl,rfl,_,rfl,_,_,rfl,rfl,⟨by omega,by omega⟩,p1,_,_,_,rfl,rfl,bw.of (h _ _ hv),?_,_,rfl,_,_,rfl,rfl,.inr ⟨by omega,Y0.2⟩,_,_,rfl,rfl,(by show(0:Int)<4503599627370496;decide),k H' h λ_ _ _ e=>e⟩;have e:(0 +(n:Int)+((f.ring / f.p:Nat):Int)/ 2)/((f.ring / f.p:Nat):Int)=((Sr f n:Nat):Int):=by
    unfold Sr;rw[cu (n + _),bh,cu (f.ring / f.p),gC];rfl
   rw[e];exact fF (ND hl (Ub hG XA))
  ·refine q D H' (s1.trans h) (s1.free hD) ?_;rw[Mn];unfold gx;rw[ii,bP];congr 2;refine cC λx _=> ?_;show V.int _=V.int _;rw[Uc,jK]
def pb(f:aB)(g:List Nat):(gx f g).length=f.ring:=by simp[gx]
def uJ(f:aB)(g:List Nat):Sb.Red (gx f g):=λx hx=>by
 unfold gx at hx;obtain⟨y,_,rfl⟩:=aQ.mp hx;exact⟨kH _ (by have:=Sb.mi;omega),kJ _ Sb.mi⟩
def uX(f:aB)(g:List Nat)(b:Nat):dZ:=⟨fR f.ring,oY (2*f.ring - dm f b) (gx f g)⟩
inductive uh(c:Cs)(K:ab)(vs:List V)(H:Hp)(Q:VK)(E:XK):Prop
 |mk (fa sa a:Addr) (f:aB) (s:ax) (g:List Nat):vs=[.ref fa,.ref sa,.ref a]->dU c K H fa f->Good f->cQ c H sa s->H a=some (.lst (iv g))->g.length=f.p->(∀(t:Addr) (H':Hp),au H H'->H t=none->fP H' t (uX f g s.b)->Q (.ref t) H')->uh c K vs H Q E
def Cr(T:Txt K mg c):Callee P w K mg base "first_pair" 3 ["form","seal","table"] (uh c K):=by
 exists T.Fs.ok ["form","seal","table","power"]
 ·obtain⟨fa,sa,a,f,s,g,rfl,hF,hG,hS,ha,hl,q⟩:=h;have big:=bI;have r8:=hG.r8;have AB:=hG.AB;have tl:=Dq hG.toSmall s.b;refine⟨_,(aj (bS 3 nd (aM ik (aM cP ay (fld K (pv 0))) (aF (AO T) hr (aa (pv 0) (aa (fld K (pv 1)) ai)))))
   (aq (az (nZ (aa (aM ES (cx (aa ay ai)) (fld K (pv 0))) (aa (aF (rl T) hr (aa (aF (tK T) hr (aa (pv 0) (aa (pv 2) ai))) (aa (pv 3) ai))) ai)))))),?_⟩
  obtain⟨dx,na,hf,hn⟩:=id hF;obtain⟨Pl,wa,h1,h2⟩:=id hS;have e1:(2:Int)*(f.ring:Int)-((dm f s.b:Nat):Int)=((2*f.ring - dm f s.b:Nat):Int):=by omega
  refine⟨_,rfl,fa,c.Form,dx,_,_,rfl,hf,T.bc,T.b9,rfl,_,_,rfl,rfl,.inl ⟨by decide,by decide⟩,_,rfl,_,rfl,sa,c.Seal,Pl,_,_,rfl,h1,T.fI,T.iG,rfl,fa,f,s.b,rfl,hF,hG.toSmall,_,_,rfl,rfl,?_⟩;dsimp only;rw[e1];refine⟨(by show 1<=sizeLine;omega),λp0 kK=> ?_⟩;have s0:=au.new (o:=HO.lst [.int 0]) kK;refine⟨_,rfl,fa,c.Form,dx,_,_,rfl,s0 _ _ hf,T.bc,T.b9,rfl,p0,(f.ring:Int),_,rfl,rfl,ak,by omega,by omega,by simp;omega,λp1 KL=> ?_⟩;have e0:(bC ((f.ring:Int)).toNat [V.int 0]).flatten=ii (fR f.ring):=by
   rw[bb];simp[ii,fR,oq]
  dsimp only;rw[e0];have s1:au H (upd (upd H p0 (.lst [.int 0])) p1 (.lst (ii (fR f.ring)))):=au.gv s0 KL;have xq:(upd (upd H p0 (.lst [.int 0])) p1 (.lst (ii (fR f.ring)))) p1=some (.lst (ii (fR f.ring))):=ak;generalize (upd (upd H p0 (.lst [.int 0])) p1 (.lst (ii (fR f.ring))))=H1 at s1 xq;refine⟨_,rfl,_,rfl,fa,a,f,g,rfl,hF.mono s1,hG,s1 _ _ ha,hl,λp2 H2 s2 zv uV=>⟨_,rfl,p2,_,2*f.ring - dm f s.b,rfl,bw.of uV,λz=> ?_,by rw[pb];omega,uJ f g,by omega,λp3 H3 s3 SM JG=>⟨(by show 2<=sizeLine;omega),λt nt=> ?_⟩⟩⟩
  ·have:=pb f g;rw[z] at this;have:(0:Nat)=f.ring:=this;omega
  ·have mq:=s1.trans (s2.trans s3);refine q t _ (au.gv mq nt) (mq.free nt) ⟨p1,p3,ak,au.new nt _ _ ((s2.trans s3) _ _ xq),au.new nt _ _ JG⟩
def sF{rs:List (List Int)}{n:Nat}{r:List V}(h:(rs.map ii)[n]? =some r): ∃l,rs[n]? =some l/\r=ii l:=by
 rw[aI] at h;cases e:rs[n]? with
 |none=>rw[e] at h;cases h
 |some l=>rw[e] at h;exact⟨l,rfl,(ao h).symm⟩
def ju{ts:List Addr}{n:Nat}{x:V}(h:(ts.map V.ref)[n]? =some x): ∃t,ts[n]? =some t/\x= .ref t:=by
 rw[aI] at h;cases e:ts[n]? with
 |none=>rw[e] at h;cases h
 |some l=>rw[e] at h;exact⟨l,rfl,(ao h).symm⟩
def Ku{H:Hp}{u p:Addr}{l:List Int}{ts:List Addr}(h1:H u=some (.lst (ii l)))(h2:H p=some (.lst (ts.map V.ref)))(hl:l≠[]):u≠p:=λz=>by
 subst z;rw[h1] at h2;have e:ii l=ts.map V.ref:=by injection h2 with h2;injection h2
 cases l with
 |nil=>exact hl rfl
 |cons x r=>
  cases ts with
  |nil=>cases e
  |cons t ts=>injection e with e _;cases e
def mI{α β:Type}{F:α->β->Prop}{a a':List α}{b b':List β}(h:Paired F a b)(h':Paired F a' b'):Paired F (a++a') (b++b'):=by
 induction h with
 |nil=>exact h'
 |cons x _ ih=>exact .cons x ih
def GU{α β:Type}{F:α->β->Prop}{a:List α}{b:List β}(h:Paired F a b): ∀n,Paired F (a.drop n) (b.drop n):=by
 induction h with
 |nil=>intro n;simp;exact .nil
 |cons x h ih=>
  intro n;cases n with
  |zero=>exact .cons x h
  |succ n=>exact ih n
def GS{α β:Type}{F:α->β->Prop}{a:List α}{b:List β}(h:Paired F a b): ∀n,Paired F (a.take n) (b.take n):=by
 induction h with
 |nil=>intro n;simp;exact .nil
 |cons x h ih=>
  intro n;cases n with
  |zero=>exact .nil
  |succ n=>exact .cons x (ih n)
def Js{α β γ:Type}{F:α->β->Prop}{G:α->γ->Prop}(g:β->γ){a:List α}{b:List β}(h:Paired F a b)(hg: ∀x y,F x y->G x (g y)):Paired G a (b.map g):=by
 induction h with
 |nil=>exact .nil
 |cons x h ih=>exact .cons (hg _ _ x) ih
def dS.ext{H:Hp}{p:Addr}{ps qs:List (List Int)}{ts us:List Addr}(hp:H p=some (.lst (ts.map V.ref)))(h1:Paired (λt r=>dD H t r) ts (ps.map ii))(h2:Paired (λt r=>dD H t r) us (qs.map ii))(n1: ∀l∈ps,l≠[])(n2: ∀l∈qs,l≠[]):
  dS (upd H p (.lst (ts.map V.ref++us.map V.ref))) p dD ((ps++qs).map ii):=by
 refine⟨ts++us,by rw[ak,bF],?_⟩;have go: ∀(ts:List Addr) (ps:List (List Int)),Paired (λt r=>dD H t r) ts (ps.map ii)->(∀l∈ps,l≠[])-> ∀{Qz:List Addr},H p=some (.lst (Qz.map V.ref))->Paired (λt r=>dD (upd H p (.lst (Qz.map V.ref++us.map V.ref))) t r) ts (ps.map ii):=by
  intro ts ps
  induction ps generalizing ts with
  |nil=>intro h _ Qz _;cases h;exact .nil
  |cons l r ih=>
   intro h hn Qz F9;rw[bB] at h ⊢;cases h with
   |cons x y=>
    refine .cons ?_ (ih _ y (λz hz=>hn z (aK _ hz)) F9);show upd H p _ _=_;rw[aJ (Ku x F9 (hn l (aY ..)))];exact x
 rw[bF];exact mI (go ts ps h1 n1 hp) (go us qs h2 n2 hp)
inductive Dz(vs:List V)(H:Hp)(Q:VK)(E:XK):Prop
 |mk (a:Addr) (rs:List (List Int)) (i:Nat):vs=[.ref a,.int (i:Int)]->dS H a dD (rs.map ii)->(∀r∈rs,i<r.length)->rs.length<=10000->(∀(p:Addr) (H':Hp),au H H'->H p=none->H' p=some (.lst (ii (rs.map λr=>r.getD i 0)))->Q (.ref p) H')->Dz vs H Q E
def DR(T:Txt K mg c):Callee P w K mg base "column" 1 ["rows","place"] Dz:=by
 exists T.Ph.ok ["rows","place","row"]
 ·obtain⟨a,rs,i,rfl,⟨ts,ha,hP⟩,hi,hl,q⟩:=h;have big:=bI;have hlen:ts.length=rs.length:=by rw[Paired.length hP,ag]
  refine⟨_,(aq (az (gR rfl nd (sI K (pv 0)) (own:=[("row",2)]) (cn rfl) (λ_ _ _ _ _=>(qn 2 nd)) (λ_ _ _ _ _=>cO) (λ_ _ _ _ _=>(gT K (pv 2) (pv 1)))))),?_⟩;refine⟨_,rfl,a,rfl,⟨_,bw.of ha⟩,?_⟩;refine ff (K:=K) (a:=a) (xs:=ts.map V.ref) (i:=2) (λm=>V.int ((rs.getD m []).getD i 0)) (λ_ H2=>au H H2) (by rw[ag];omega) (au.refl H) (λ_ H2 D o h hD=>au.at' h hD) (λ_ H2 _ h=>h.seq (bw.of ha)) (λm x H2 Q' hx fX k=> ?_) (λD H2 wN fX hD=> ?_)
  ·obtain⟨t,et,rfl⟩:=ju hx;obtain⟨r,er,hr⟩:=cX hP et;obtain⟨l,el,rfl⟩:=sF er;have e2:rs.getD m []=l:=by rw[ae,el];rfl
   have E8:=hi l (aZ el);have k2:=k H2 fX λ_ _ _ e=>e;rw[e2] at k2;have hr:H t=some (.lst (ii l)):=hr;refine⟨_,rfl,_,rfl,t,_,_,_,rfl,rfl,bw.of (fX _ _ hr),fF (j:=i) ?_,k2⟩;rw[ae,af E8];rfl
  ·rw[ag,hlen,sH (f:=λ(r:List Int)=>r.getD i 0)] at hD;exact q D H2 fX wN hD
inductive lA(c:Cs)(K:ab)(vs:List V)(H:Hp)(Q:VK)(E:XK):Prop
 |mk (fa a:Addr) (f:aB) (l:List Int):vs=[.ref fa,.ref a]->dU c K H fa f->Small f->bw K H a (ii l)->l.length<=100->Sb.Red l->(∀(D:Addr) (H':Hp),au H H'->H D=none->dS H' D dD ((cU f l).map ii)->Q (.ref D) H')->lA c K vs H Q E
def rp(T:Txt K mg c):Callee P w K mg base "digit_polynomials" 3 ["form","polynomial"] (lA c K):=by
 exists T.tO.ok ["form","polynomial","many","apart","number","place"]
 ·obtain⟨fa,a,f,l,rfl,hF,hS,ha,hl,hR,q⟩:=h;have big:=bI;have d1:=hS.d1;have d4:=hS.d4;have w1:=hS.w1;have w8:=hS.w8;have hdw:f.digits*f.width<=4*8:=cN d4 w8;refine⟨_,(aj (bS 2 nd (fld K (pv 0)))
   (aj (bS 3 nd (gR rfl nd (sI K (pv 1)) (own:=[("number",4)]) (cn rfl) (λ_ _ _ _ _=>(qn 4 nd)) (λ_ _ _ _ _=>cO) (λ_ _ _ _ _=>(aF (vS T) hr (aa (pv 4) (aa (qg T.rP) (aa (pv 2) (aa (fld K (pv 0)) ai))))))))
   (aq (az (gR rfl nd (fh rfl T.gj (aa (pv 2) ai)) (own:=[("place",5)]) (cn rfl) (λ_ _ _ _ _=>(qn 5 nd)) (λ_ _ _ _ _=>cO) (λ_ _ _ _ _=>(aF (DR T) hr (aa (pv 3) (aa (pv 5) ai))))))))),?_⟩
  obtain⟨dx,na,hf,hn⟩:=hF;refine⟨_,rfl,fa,c.Form,dx,_,_,rfl,hf,T.bc,T.dQ,rfl,?_⟩;refine⟨_,rfl,a,rfl,⟨_,ha⟩,?_⟩;refine Hn (K:=K) (a:=a) (xs:=ii l) (i:=4) (λD m z H'=> ∃p,z= .ref p/\p≠D/\H' p=some (.lst (ii (iY 52 f.digits f.width (l.getD m 0).toNat)))) (λD m z H1 H2 h kb=> ?_) (by rw[gi];omega) ha (λD m x H1 Q' hD hx hs RP kq=> ?_) (λD H1 zs hD hs hz S3 Gb=> ?_)
  ·obtain⟨p,rfl,np,hp⟩:=h;exact⟨p,rfl,np,kb _ _ hp np⟩
  ·obtain⟨hm,rfl⟩:=oO hx;have hv:=hR (l.getD m 0) (by rw[ae,af hm];exact gH hm);rw[<-jK] at hv;refine⟨_,rfl,_,rfl,_,rfl,fa,c.Form,dx,_,_,rfl,hs _ _ hf,T.bc,T.fV,rfl,(l.getD m 0).toNat,52,f.digits,f.width,by rw[aR hv.1];rfl,by omega,by omega,?_,w1,by omega,by omega,λp H4 s4 np hp=>kq _ H4 s4 ⟨p,rfl,λz=> ?_,hp⟩⟩
   ·show(l.getD m 0).toNat<4503599627370496;omega
   ·obtain⟨acc,e⟩:=RP;rw[z,e] at np;cases np
  ·rw[gi] at hz;obtain⟨ts,e1,e2⟩:=jY (S:=λp r=>dD H1 p r) zs ((l.map λx=>iY 52 f.digits f.width x.toNat).map ii) (by rw[hz];simp) λm z Ea=>by
    obtain⟨p,rfl,_,hp⟩:=S3 m z Ea;have hm:m<l.length:=by rw[<-hz];exact(aD.mp Ea).1
    refine⟨p,_,rfl,by rw[aI,aI,af hm];rfl,?_⟩;rw[ae,af hm] at hp;exact hp
   refine⟨_,rfl,(f.digits:Int),rfl,by omega,by omega,?_⟩;rw[bb];refine RL.L4 (i:=5) (λD2 m z H'=> ∃p,z= .ref p/\p≠D2/\H' p=some (.lst (ii ((l.map λx=>iY 52 f.digits f.width x.toNat).map λr=>r.getD m 0)))) (λD2 m z H1 H2 h kb=> ?_) (by omega) (λD2 m H2 Q' IL hm fX RP kq=> ?_) (λD2 H2 zs2 IL fX SV uv abf=> ?_)
   ·obtain⟨p,rfl,np,hp⟩:=h;exact⟨p,rfl,np,kb _ _ hp np⟩
   ·refine⟨_,rfl,_,rfl,D,l.map (λx=>iY 52 f.digits f.width x.toNat),m,by rw[gC];rfl,⟨ts,by rw[fX _ _ Gb,e1],Paired.ja e2 λt r q=>fX _ _ q⟩,λr hr=> ?_,by rw[ag];omega,λp H4 s4 np hp=>kq _ H4 s4 ⟨p,rfl,λz=> ?_,hp⟩⟩
    ·obtain⟨x,_,rfl⟩:=aQ.mp hr;rw[Sb.u7];exact hm
    ·obtain⟨acc,e⟩:=RP;rw[z,e] at np;cases np
   ·obtain⟨us,u1,u2⟩:=jY (S:=λp r=>dD H2 p r) zs2 ((cU f l).map ii) (by rw[SV,ag,Sb.gw]) λm z Ea=>by
     obtain⟨p,rfl,_,hp⟩:=uv m z Ea;have hm:m<f.digits:=by rw[<-SV];exact(aD.mp Ea).1
     refine⟨p,_,rfl,?_,hp⟩;unfold cU;rw[aI,aI,wK hm];rfl
    exact q D2 H2 (hs.trans fX) (hs.free IL) ⟨us,by rw[abf,u1],u2⟩
def Er(a b:List Int):Iu a b=ki a b:=by unfold Iu ki;rw[jK]
def chg(e:Nat)(l:List Int):List Int:=VH (oY e l) l
structure Es(N:Nat)(p:dZ):Prop where
 la:p.a.length=N
 lb:p.b.length=N
 a:Sb.Red p.a
 b:Sb.Red p.b
def QU(f:aB)(e:Nat)(p:dZ):Nat->List (List Int)
 |0=>[]
 |1=>cU f (chg e p.a)
 |_=>cU f (chg e p.a)++cU f (chg e p.b)
def FH{N e:Nat}{l:List Int}(h:l.length=N)(hN:8<=N)(hr:Sb.Red l):(chg e l).length=N:=by
 have ne:l≠[]:=λz=>by rw[z] at h;have:(0:Nat)=N:=h;omega
 unfold chg;rw[Sb.oK,Sb.i5 e ne hr,h,ly]
def AF{f:aB}{e:Nat}{p:dZ}(h:Es f.ring p)(hN:8<=f.ring)(i:Nat): ∀l∈QU f e p i,l.length=f.ring:=λl hl=>by
 have d1: ∀l∈cU f (chg e p.a),l.length=f.ring:=λl hl=>by rw[Sb.fZ l hl,FH h.la hN h.a]
 have d2: ∀l∈cU f (chg e p.b),l.length=f.ring:=λl hl=>by rw[Sb.fZ l hl,FH h.lb hN h.b]
 match i,hl with
 |0,hl=>simp[QU] at hl
 |1,hl=>exact d1 l hl
 |_ + 2,hl=>
  rcases cJ.mp hl with hl|hl
  ·exact d1 l hl
  ·exact d2 l hl
def mr{l:List Int}{N:Nat}(h:l.length=N)(hN:8<=N):l≠[]:=λz=>by
 rw[z] at h;have:(0:Nat)=N:=h;omega
def Bz{α β:Type}(f:β->α->β)(b:β)(l:List α)(i:Nat){x:α}(h:l[i]? =some x):(l.take (i + 1)).foldl f b=f ((l.take i).foldl f b) x:=by
 rw[take_snoc h,List.foldl_append];rfl
inductive qS(c:Cs)(K:ab)(vs:List V)(H:Hp)(Q:VK)(E:XK):Prop
 |mk (pa t:Addr) (k:cW) (pr:dZ) (i e:Nat):vs=[.ref pa,.ref t,.int (i:Int),.int (e:Int)]->iq c K H pa k->iS k->fP H t pr->Es k.form.ring pr->i<k.form.n->e<=1000->(∀(t':Addr) (H':Hp),au H H'->H t'=none->fP H' t' (Dd k i e pr)->Q (.ref t') H')->qS c K vs H Q E
def AN(T:Txt K mg c):Callee P w K mg base "turned_pair" 4 ["part","pair","index","power"] (qS c K):=by
 exists T.CG.ok ["part","pair","index","power","form","digits","polynomial","change","a","b","first","factor","turning"]
 ·obtain⟨pa,t,k,pr,i,e,rfl,hP,hW,⟨ua,ub,ht,hua,Y0⟩,hR,hi,he,q⟩:=h;have big:=bI;have hG:=hW.good;have r8:=hG.r8;have AB:=hG.AB;have d4:=hG.d4;have n4:=hG.n4;refine⟨_,(aj (bS 4 nd (fld K (pv 0)))
   (aj (bS 5 nd (cx ai))
   (aj (fD PassesOwn.never rfl (RL.YQ K (pv 1)) (qn 6 nd) (aj (bS 7 nd (aF (G5 T) hr (aa (aF (rl T) hr (aa (pv 6) (aa (pv 3) ai))) (aa (pv 6) ai))))
   (aq (fU (kP bH dv du j0 (pv 5) (aa (aF (rp T) hr (aa (pv 4) (aa (pv 7) ai))) ai))))))
   (aj (bS 8 nd (Nb K (pv 1) ay))
   (aj (bS 9 nd (Nb K (pv 1) ay))
   (aj (bS 10 nd (aM cP (pv 2) (bX (cI K) rfl T.f7 boot_len (aa (pv 5) ai))))
   (aj (fD PassesOwn.never rfl (EM rfl T.Ep (aa (pv 5) (aa (Cb K (fld K (pv 0)) (dr (pv 10)) (dr (aM cz (pv 10) (bX (cI K) rfl T.f7 boot_len (aa (pv 5) ai))))) ai))) (QZ K (n:=2) rfl (eV (qn 11 nd) (eV (qn 12 nd) lY))) (aj (bS 8 nd (aF (Be T) hr (aa (pv 8) (aa (aF (uP T) hr (aa (pv 11) (aa (Nb K (pv 12) ay) ai))) ai))))
   (aq (bS 9 nd (aF (Be T) hr (aa (pv 9) (aa (aF (uP T) hr (aa (pv 11) (aa (Nb K (pv 12) ay) ai))) ai)))))))
   (aq (az (nZ (aa (pv 8) (aa (pv 9) ai)))))))))))),?_⟩
  obtain⟨qu,fa,pp,ra,g1,g2,g3,g4⟩:=id hP;refine⟨_,rfl,pa,c.cB,qu,_,_,rfl,g1,T.bY,T.bK,rfl,aC _,λp np=> ?_⟩;have s0:=au.new (o:=HO.lst []) np;refine⟨_,rfl,t,rfl,.inr ⟨⟨_,gU.of (s0 _ _ ht)⟩,?_⟩⟩;refine zD (K:=K) (a:=t) (xs:=[.ref ua,.ref ub]) (λm σ H'=>au H H'/\dS H' p dD ((QU k.form e pr m).map ii)/\ ∃x y,σ=[some (.ref pa),some (.ref t),some (.int (i:Int)),some (.int (e:Int)),some (.ref fa),some (.ref p),x,y,none,none,none,none,none])
   ⟨s0,⟨[],ak,.nil⟩,none,none,rfl⟩ (λm σ H' _ h=>gU.of (h.1 _ _ ht)) (λm x σ H' hx h=> ?_) (λσ H' h=> ?_)
  ·obtain⟨h1,⟨ts,hp,Mc⟩,x0,y0,rfl⟩:=h;obtain⟨u,l,rfl,hu,ll,lr,hps⟩: ∃u l,x= .ref u/\H u=some (.lst (ii l))/\l.length=k.form.ring/\Sb.Red l/\QU k.form e pr (m + 1)=QU k.form e pr m++cU k.form (chg e l):=by
    match m,hx with
    |0,hx=>exact⟨ua,pr.a,(ao hx).symm,hua,hR.la,hR.a,rfl⟩
    |1,hx=>exact⟨ub,pr.b,(ao hx).symm,Y0,hR.lb,hR.b,rfl⟩
    |m + 2,hx=>simp at hx
   have Z7:=mr ll r8;refine⟨_,rfl,_,rfl,u,l,e,rfl,bw.of (h1 _ _ hu),Z7,by omega,lr,he,λp7 H7 s7 np7 hp7=> ?_⟩;refine⟨_,rfl,p7,u,_,l,rfl,bw.of hp7,bw.of ((h1.trans s7) _ _ hu),by rw[Sb.i5 e Z7 lr],by rw[Sb.i5 e Z7 lr];omega,λp8 H8 s8 np8 hp8=> ?_⟩;have YO:=h1.trans (s7.trans s8);have cl:(chg e l).length=k.form.ring:=FH ll r8 lr;refine⟨_,rfl,.inl ⟨rfl,_,bw.of ((s7.trans s8) _ _ hp)⟩,_,rfl,_,rfl,fa,p8,k.form,chg e l,rfl,g2.mono YO,hG.toSmall,bw.of hp8,by omega,Sb.LW _ _,λD H9 s9 nD ⟨us,hD,RE⟩=> ?_⟩;have YK:=s7.trans (s8.trans s9);have l1:ts.length<=8:=by
    rw[Paired.length Mc,ag]
    match m,hx with
    |0,_=>exact aC _
    |1,_=>show(cU k.form (chg e pr.a)).length<=8;rw[Sb.gw];omega
    |m + 2,hx=>simp at hx
   have l2:us.length<=8:=by rw[Paired.length RE,ag,Sb.gw];omega
   refine⟨p,D,_,_,rfl,rfl,YK _ _ hp,hD,by rw[ag,ag];omega,au.at' (h1.trans YK) np,?_,_,_,rfl⟩;rw[hps];refine dS.ext (YK _ _ hp) (Paired.ja Mc λt r q=>YK _ _ q) RE (λl hl=>mr (AF hR r8 m l hl) r8) (λl' hl=>mr (by rw[Sb.fZ l' hl,cl]) r8)
  ·obtain⟨h1,⟨ts,hp,Mc⟩,x0,y0,rfl⟩:=h;have Mc:Paired (λt r=>dD H' t r) ts ((QU k.form e pr 2).map ii):=Mc;have lps:(QU k.form e pr 2).length=2*k.form.digits:=by
    show(cU k.form (chg e pr.a)++cU k.form (chg e pr.b)).length=_;rw[aP,Sb.gw,Sb.gw];omega
   have Hl:ts.length=2*k.form.digits:=by rw[Paired.length Mc,ag,lps]
   refine⟨_,rfl,t,_,_,_,rfl,rfl,gU.of (h1 _ _ ht),c8 (j:=0) rfl,?_⟩;refine⟨_,rfl,t,_,_,_,rfl,rfl,gU.of (h1 _ _ ht),c8 (j:=1) rfl,?_⟩;refine⟨_,rfl,_,rfl,p,_,rfl,.inl (bw.of hp),_,_,rfl,rfl,.inl ⟨by omega,by omega⟩,?_⟩;have e1:(i:Int)*(((ts.map V.ref).length:Nat):Int)=((i*(2*k.form.digits):Nat):Int):=by rw[ag,Hl,bf i]
   (try dsimp(config:={proj:=false}) only)
   rw[e1];obtain⟨vs,v1,v2⟩:=g3;refine⟨_,rfl,_,rfl,pa,c.cB,qu,_,_,rfl,h1 _ _ g1,T.bY,T.iW,rfl,_,rfl,_,rfl,_,rfl,_,rfl,p,_,rfl,.inl (bw.of hp),_,_,rfl,rfl,_,rfl,pp,_,rfl,bw.of (h1 _ _ v1),λp2 zv=> ?_⟩;have e2:((i*(2*k.form.digits):Nat):Int)+(((ts.map V.ref).length:Nat):Int)=((i*(2*k.form.digits)+ 2*k.form.digits:Nat):Int):=by rw[ag,Hl,bh]
   dsimp(config:={proj:=false}) only;rw[e2,pF];have abD:((vs.map V.ref).drop (i*(2*k.form.digits))).take (2*k.form.digits)=((vs.drop (i*(2*k.form.digits))).take (2*k.form.digits)).map V.ref:=by rw[fz,iu]
   rw[abD];have tP:Paired (λt r=>fP H t r) ((vs.drop (i*(2*k.form.digits))).take (2*k.form.digits)) (Sb.turns k i):=GS (GU v2 _) _;generalize aeG:(vs.drop (i*(2*k.form.digits))).take (2*k.form.digits)=P7 at tP;have lt2:P7.length=2*k.form.digits:=by rw[Paired.length tP,Sb.so hW.lt hi]
   have s2:=au.new (o:=HO.lst (P7.map V.ref)) zv;refine⟨p,p2,_,_,rfl,bw.of (s2 _ _ hp),bw.of ak,?_⟩;have jI:=h1.trans s2;have F9:=s2 _ _ hp;have Xv:(upd H' p2 (.lst (P7.map V.ref))) p2=some (.lst (P7.map V.ref)):=ak;have Xm:=Paired.ja Mc λt r (q:dD H' t r)=>show dD (upd H' p2 (.lst (P7.map V.ref))) t r from s2 _ _ q;generalize upd H' p2 (.lst (P7.map V.ref))=H2 at jI F9 Xv Xm;let zl:=(QU k.form e pr 2).zip (Sb.turns k i);have lz:zl.length=2*k.form.digits:=by rw[List.length_zip,lps,Sb.so hW.lt hi];omega
   refine RL.RQ (K:=K) (a:=p) (b:=p2) (xs:=ts.map V.ref) (ys:=P7.map V.ref) (λm σ H3=>au H2 H3/\ ∃(xa xb:Addr) (v y:Option V),H3 xa=some (.lst (ii (((zl.map λy=>eE y.1 y.2.a).take m).foldl ki pr.a)))/\H3 xb=some (.lst (ii (((zl.map λy=>eE y.1 y.2.b).take m).foldl ki pr.b)))/\
     σ=[some (.ref pa),some (.ref t),some (.int (i:Int)),some (.int (e:Int)),some (.ref fa),some (.ref p),x0,y0,some (.ref xa),some (.ref xb),some (.int ((i*(2*k.form.digits):Nat):Int)),v,y])
    (by rw[ag,ag,Hl,lt2]) ⟨au.refl H2,ua,ub,none,none,jI _ _ hua,jI _ _ Y0,rfl⟩ (λm σ H3 _ h=>h.1.seq (bw.of F9)) (λm σ H3 _ h=>h.1.seq (bw.of Xv)) (λm x y TT σ H3 hx hy h W6=> ?_) (λσ H3 h=> ?_)
   ·obtain⟨h3,xa,xb,v0,w0,SW,P9,rfl⟩:=h;obtain⟨tx,etx,rfl⟩:=ju hx;obtain⟨ty,ety,rfl⟩:=ju hy;obtain⟨rx,erx,hrx⟩:=cX Xm etx;obtain⟨dl,edl,rfl⟩:=sF erx;obtain⟨py,epy,⟨uy,vy,Y2,huy,hvy⟩⟩:=cX tP ety;have ZH:au H (upd H3 TT (.tup [.ref tx,.ref ty])):=au.gv (jI.trans h3) W6;have V6:dD (upd H3 TT (.tup [.ref tx,.ref ty])) tx (ii dl):=(au.gv h3 W6) _ _ hrx;have YV:=AF hR r8 2 dl (aZ edl);have Sx:=hW.turning py (eT (cM (aZ epy)));have small: ∀x∈dl,-(2^64)<x/\x<2^64:=by
     rcases cJ.mp (show dl∈cU k.form (chg e pr.a)++cU k.form (chg e pr.b) from aZ edl) with h|h
     ·exact Sb.oR hG.w8 dl h
     ·exact Sb.oR hG.w8 dl h
    have ez:zl[m]? =some (dl,py):=by
     show((QU k.form e pr 2).zip (Sb.turns k i))[m]? =_;rw[List.getElem?_zip_eq_some];exact⟨edl,epy⟩
    have za:(zl.map λy=>eE y.1 y.2.a)[m]? =some (eE dl py.a):=by rw[aI,ez];rfl
    have zb:(zl.map λy=>eE y.1 y.2.b)[m]? =some (eE dl py.b):=by rw[aI,ez];rfl
    have W9: ∀y∈zl,y.1.length=k.form.ring/\y.2.a.length=k.form.ring/\y.2.b.length=k.form.ring:=λy hy=>by
     obtain⟨y1,y2⟩:=y;have hz:=kj hy;have hw:=hW.turning y2 (eT (cM hz.2));exact⟨AF hR r8 2 y1 hz.1,hw.la,hw.lb⟩
    have la:(((zl.map λy=>eE y.1 y.2.a).take m).foldl ki pr.a).length=k.form.ring:=(Sb.mR _ pr.a hR.la hR.a (λx hx=>by
     obtain⟨y,hy,rfl⟩:=aQ.mp (cM hx);have:=W9 y hy;rw[Sb.fg (by omega)];omega)).1
    have lb:(((zl.map λy=>eE y.1 y.2.b).take m).foldl ki pr.b).length=k.form.ring:=(Sb.mR _ pr.b hR.lb hR.b (λx hx=>by
     obtain⟨y,hy,rfl⟩:=aQ.mp (cM hx);have:=W9 y hy;rw[Sb.fg (by omega)];omega)).1
    have sT:=au.new (o:=HO.tup [.ref tx,.ref ty]) W6;refine⟨TT,[.ref tx,.ref ty],rfl,gU.of ak,rfl,_,[.ref ty],rfl,_,[],rfl,rfl,?_⟩;refine⟨_,rfl,_,rfl,_,rfl,ty,_,_,_,rfl,rfl,gU.of (ZH _ _ Y2),c8 (j:=0) rfl,tx,uy,dl,py.a,rfl,bw.of V6,bw.of (ZH _ _ huy),by rw[YV,Sx.la],mr Sx.la r8,by omega,small,λp5 H5 s5 Rh JF=> ?_⟩;refine⟨xa,p5,_,_,rfl,bw.of (s5 _ _ (sT _ _ SW)),bw.of JF,by rw[la,Sb.fg (by rw[YV,Sx.la]),Sx.la],by omega,λp6 H6 s6 np6 Y5=> ?_⟩;have YL:=s5.trans s6;have s36:=ZH.trans YL;refine⟨_,rfl,_,rfl,_,rfl,ty,_,_,_,rfl,rfl,gU.of (s36 _ _ Y2),c8 (j:=1) rfl,tx,vy,dl,py.b,rfl,bw.of (YL _ _ V6),bw.of (s36 _ _ hvy),by rw[YV,Sx.lb],mr Sx.lb r8,by omega,small,λp7 H7 s7 np7 hp7=> ?_⟩;refine⟨xb,p7,_,_,rfl,bw.of ((YL.trans s7) _ _ (sT _ _ P9)),bw.of hp7,by rw[lb,Sb.fg (by rw[YV,Sx.lb]),Sx.lb],by omega,λp8 H8 s8 np8 hp8=> ?_⟩;refine⟨h3.trans (sT.trans (YL.trans (s7.trans s8))),p6,p8,_,_,?_,?_,rfl⟩
    ·rw[(s7.trans s8) _ _ Y5,Er,Bz _ _ _ _ za]
    ·rw[hp8,Er,Bz _ _ _ _ zb]
   ·obtain⟨h3,xa,xb,v0,w0,SW,P9,rfl⟩:=h;rw[ag,Hl,aU (by rw[ag,lz];exact aE _)] at SW P9;refine⟨_,rfl,_,rfl,(by show 2<=sizeLine;omega),λt' nt=> ?_⟩;have mq:=jI.trans h3;refine q t' _ (au.gv mq nt) (mq.free nt) ?_;rw[Sb.z0 hW.lt hi e pr r8 hR.la hR.lb hR.a hR.b (λp hp=>⟨(hW.turning p hp).la,(hW.turning p hp).lb⟩)];exact⟨xa,xb,ak,au.new nt _ _ SW,au.new nt _ _ P9⟩
def Lw{v:Nat}(h:v<2^52):kL 52 16 v=fi (v:Int):=by
 unfold kL fi;rw[if_pos (by decide)];refine(Sb.EA ?_).symm;show(((v + 34359738368)/ 68719476736 % 65536:Nat):Int)=((v:Int)+ 34359738368)/ 68719476736 % 65536;omega
inductive xT(vs:List V)(H:Hp)(Q:VK)(E:XK):Prop
 |mk (x:Int):vs=[.int x]->0<=x->x<gE->Q (.int ((fi x:Nat):Int)) H->xT vs H Q E
def yo(T:Txt K mg c):Callee P w K mg base "word_out" 2 ["number"] xT:=by
 exists T.JM.ok ["number"]
 ·obtain⟨x,rfl,h0,h1,q⟩:=h;rw[<-jK] at h1;refine⟨_,(aq (az (aF (AR T) hr (aa (pv 0) (aa (qg T.rP) (aa (qg T.j6) ai)))))),?_⟩;have hx:x.toNat<2^52:=by show x.toNat<4503599627370496;omega
  refine⟨_,rfl,x.toNat,52,16,by rw[aR h0];rfl,by decide,by decide,hx,?_⟩;rw[Lw hx,aR h0];exact q
def yz(l:List Int):List Nat:=match l with
 | []=>[]
 |x::r=>fi x::r.reverse.map λ(y:Int)=>fi ((-y)% gE)
def mC(l:List Int):List Int:=l.take 1++(l.drop 1).reverse.map λ(y:Int)=>(-y)% gE
def xr(l:List Int):yz l=(mC l).map fi:=by
 cases l with
 |nil=>rfl
 |cons x r=>simp[yz,mC]
def NH{l:List Int}(h:Sb.Red l):Sb.Red (mC l):=λx hx=>by
 rcases cJ.mp hx with hx|hx
 ·exact h x (cM hx)
 ·obtain⟨y,_,rfl⟩:=aQ.mp hx;exact⟨kH _ (by have:=Sb.mi;omega),kJ _ Sb.mi⟩
def Gp(l:List Int):(mC l).length=l.length:=by
 unfold mC;rw[aP,bo,ag,m7,bT];omega
def wA(xs:List V)(i:Nat):iw xs (some (i:Int)) none=xs.drop i:=by
 unfold iw;rw[HT.sD];simp only[HT.DE];by_cases h:i<=xs.length
 ·rw[i4 h,aU (by rw[bT];omega)]
 ·rw[lU (by omega),cK (aE _),cK (by omega),IF]
def J4(xs:List V)(i:Nat):iw xs none (some (i:Int))=xs.take i:=by
 unfold iw;rw[HT.sD];simp only[HT.DE];rw[js,tq];by_cases h:i<=xs.length
 ·rw[i4 h]
 ·rw[lU (by omega),aU (aE _),aU (by omega)]
inductive p9(K:ab)(vs:List V)(H:Hp)(Q:VK)(E:XK):Prop
 |mk (a:Addr) (l:List Int):vs=[.ref a]->bw K H a (ii l)->l.length<=100->Sb.Red l->(∀(p:Addr) (H':Hp),au H H'->H p=none->H' p=some (.lst (iv (yz l)))->Q (.ref p) H')->p9 K vs H Q E
def yO(T:Txt K mg c):Callee P w K mg base "hiding_words" 3 ["polynomial"] (p9 K):=by
 exists T.BG.ok ["polynomial","turned","number"]
 ·obtain⟨a,l,rfl,ha,hl,hR,q⟩:=h;have big:=bI;refine⟨_,(aj (iK (i:=1) rfl nd rfl rfl (jH rfl rfl rfl rfl) (ym rfl T.va (aa (Cb K (pv 0) (dr ay) iV) ai)) (own:=[("number",2)]) (cn rfl) (λ_ _ _ _ _=>(qn 2 nd)) (λ_ _ _ _ _=>cO) (λ_ _ _ _ _=>(aM eW (mE jR (pv 2)) (qg T.oh))))
   (aq (az (gR rfl nd (sI K (aM ku (Cb K (pv 0) iV (dr ay)) (pv 1))) (own:=[("number",2)]) (cn rfl) (λ_ _ _ _ _=>(qn 2 nd)) (λ_ _ _ _ _=>cO) (λ_ _ _ _ _=>(aF (yo T) hr (aa (pv 2) ai))))))),?_⟩
  have c1:iw (ii l) (some 1) none=ii (l.drop 1):=by
   rw[show(1:Int)=((1:Nat):Int) from rfl,wA,we]
  have c2:iw (ii l) none (some 1)=ii (l.take 1):=by
   rw[show(1:Int)=((1:Nat):Int) from rfl,J4,E6]
  refine⟨_,rfl,_,rfl,a,_,rfl,ha,λp0 kK=> ?_⟩;rw[c1];have s0:=au.new (o:=HO.lst (ii (l.drop 1))) kK;have CD:upd H p0 (.lst (ii (l.drop 1))) p0=some (.lst (ii (l.drop 1))):=ak;generalize upd H p0 (.lst (ii (l.drop 1)))=H1 at s0 CD;refine⟨p0,_,rfl,bw.of CD,?_⟩;refine RL.Rp (K:=K) (a:=p0) (xs:=ii (l.drop 1)) (i:=2) (λn=>V.int ((-((l.drop 1).reverse.getD n 0))% 4503599627370496)) (λ_ H2=>au H1 H2) (by rw[gi,bT];omega) (au.refl H1) (λ_ H2 D o h hD=>au.at' h hD) (λ_ H2 _ h=>h.seq (bw.of CD)) (λn x H2 Q' hn hx fX k=> ?_) (λD H2 wN fX hD=> ?_)
  ·obtain⟨h1,rfl⟩:=oO hx;rw[gi] at h1 hn;have e:(l.drop 1).getD ((ii (l.drop 1)).length - 1 - n) 0=(l.drop 1).reverse.getD n 0:=by
    rw[gi,ae,ae,Ln (by omega)]
   rw[e];exact⟨_,rfl,_,rfl,_,_,rfl,rfl,(by show(0:Int)<4503599627370496;decide),k H2 fX λ_ _ _ e=>e⟩
  ·have e:(List.range (ii (l.drop 1)).length).map (λn=>V.int ((-((l.drop 1).reverse.getD n 0))% 4503599627370496))=ii ((l.drop 1).reverse.map λ(y:Int)=>(-y)% gE):=by
    rw[gi,<-m7,range_one (f:=λy=>(-y)% 4503599627370496),jK]
   rw[e] at hD;have jI:=s0.trans fX;refine⟨_,rfl,_,rfl,a,_,rfl,jI.seq ha,λp3 SM=> ?_⟩;rw[c2];have s3:=au.new (o:=HO.lst (ii (l.take 1))) SM;refine⟨_,rfl,p3,D,_,_,rfl,rfl,ak,s3 _ _ hD,by rw[gi,gi,ag,m7,bT,bo];omega,λp4 II=> ?_⟩;have e4:ii (l.take 1)++ii ((l.drop 1).reverse.map λ(y:Int)=>(-y)% gE)=ii (mC l):=by rw[mC,ii,ii,ii,bF]
   rw[e4];have s4:au H (upd (upd H2 p3 (.lst (ii (l.take 1)))) p4 (.lst (ii (mC l)))):=au.gv (jI.trans s3) II;have Md:(upd (upd H2 p3 (.lst (ii (l.take 1)))) p4 (.lst (ii (mC l)))) p4=some (.lst (ii (mC l))):=ak;generalize (upd (upd H2 p3 (.lst (ii (l.take 1)))) p4 (.lst (ii (mC l))))=H4 at s4 Md;refine⟨p4,rfl,⟨_,bw.of Md⟩,?_⟩;refine ff (K:=K) (a:=p4) (xs:=ii (mC l)) (i:=2) (λn=>V.int ((fi ((mC l).getD n 0):Nat):Int)) (λ_ H5=>au H4 H5) (by rw[gi,Gp];omega) (au.refl H4) (λ_ H5 D o h hD=>au.at' h hD) (λ_ H5 _ h=>h.seq (bw.of Md)) (λn x H5 Q' hx hs5 k=> ?_) (λD5 H5 abi hs5 hD5=> ?_)
   ·obtain⟨h1,rfl⟩:=oO hx;have hv:=NH hR _ (show(mC l).getD n 0∈mC l by rw[ae,af h1];exact gH h1);exact⟨_,rfl,_,rfl,hv.1,hv.2,k H5 hs5 λ_ _ _ e=>e⟩
   ·refine q D5 H5 (s4.trans hs5) (s4.free abi) ?_;rw[hD5,gi,sH (f:=λ(x:Int)=>((fi x:Nat):Int)),xr,mQ,bP];rfl
def tJ(r:fJ):List Int:=(r.a++[r.b]).map λ(n:Nat)=>(n:Int)
def NZ{n:Nat}{r:fJ}(h:B9 n r):(tJ r).length=n + 1:=by simp[tJ,h.la]
def Ut{n i:Nat}{r:fJ}(h:B9 n r)(hi:i<n):(tJ r).getD i 0=((r.a.getD i 0:Nat):Int):=by
 have:=h.la;rw[tJ,ae,aI,hZ (by omega),ae,af (by omega)];rfl
def Us{n:Nat}{r:fJ}(h:B9 n r):(tJ r).getD n 0=((r.b:Nat):Int):=by
 have:=h.la;rw[tJ,ae,aI,dN (by omega),this,lu];rfl
def QO{n i:Nat}{r:fJ}(h:B9 n r):0<=(tJ r).getD i 0/\(tJ r).getD i 0<65536:=by
 rw[ae];cases e:(tJ r)[i]? with
 |none=>show(0:Int)<=0/\(0:Int)<65536;decide
 |some x=>
  have hx:=aZ e;unfold tJ at hx;obtain⟨y,hy,rfl⟩:=aQ.mp hx;have ig:y<65536:=by
   rcases cJ.mp hy with hy|hy
   ·exact h.a y hy
   ·rw[br.mp hy];exact h.b
  show(0:Int)<=(y:Int)/\(y:Int)<65536;omega
def HV(f:aB)(e:List Nat):List Int:=e.flatMap λ(x:Nat)=>iY 16 f.kdigits f.kwidth x
theorem BZ(f:aB): ∀e:List Nat,(HV f e).length=e.length*f.kdigits
 | []=>by simp[HV]
 |x::r=>by
  have:=BZ f r;unfold HV at this ⊢;rw[dF,aP,Sb.u7,this,bV,jL];omega
def qR(k:cW)(e:List Nat)(i:Nat):Int:=Sb.wsum (k.changing.map λr=>(tJ r).getD i 0) (HV k.form e)
def B0{k:cW}(h:iS k)(e:List Nat)(b:Nat):(gD k (e,b)).a=(List.range k.form.n).map λi=>Wqarav.word (-(qR k e i)):=by
 unfold gD;refine cC λi hi=> ?_;have hi:=F3.mp hi;dsimp only;rw[Sb.sy (λ(r:fJ)=>((r.a.getD i 0:Nat):Int))];unfold qR;rw[cC λr hr=>Ut (h.changing r hr) hi];rfl
def HY{k:cW}(h:iS k)(e:List Nat)(b:Nat):(gD k (e,b)).b=Wqarav.word ((b:Int)- qR k e k.form.n):=by
 unfold gD;dsimp only;rw[Sb.sy (λ(r:fJ)=>((r.b:Nat):Int))];unfold qR;rw[cC λr hr=>Us (h.changing r hr)];rfl
def J6{k:cW}(h:iS k)(e:List Nat)(b:Nat):Wf k.form.n (gD k (e,b)):=by
 refine⟨by rw[B0 h];simp,λx hx=> ?_,by rw[HY h];exact nk _,Ey ..⟩;rw[B0 h] at hx;obtain⟨i,_,rfl⟩:=aQ.mp hx;exact nk _
inductive qd(c:Cs)(K:ab)(vs:List V)(H:Hp)(Q:VK)(E:XK):Prop
 |mk (pa ha:Addr) (k:cW) (e:List Nat) (b:Nat):vs=[.ref pa,.ref ha,.int (b:Int)]->iq c K H pa k->iS k->H ha=some (.lst (iv e))->e.length=k.form.ring->(∀x∈e,x<65536)->(∀(p:Addr) (H':Hp),au H H'->H p=none->cQ c H' p (gD k (e,b))->Q (.ref p) H')->qd c K vs H Q E
def yQ(T:Txt K mg c):Callee P w K mg base "changed_seal" 5 ["part","hiding","last"] (qd c K):=by
 exists T.BK.ok ["part","hiding","last","form","digits","word","totals","place","words","total"]
 ·obtain⟨pa,ha,k,e,b,rfl,hP,hW,he,Qg,hew,q⟩:=h;have big:=bI;have hG:=hW.good;have r8:=hG.r8;have AB:=hG.AB;have OO:=hG.OO;have n4:=hG.n4;have hkv:=hG.kv;have hlen:e.length*k.form.kdigits<=32*16:=cN (by omega) OO;refine⟨_,(aj (bS 3 nd (fld K (pv 0)))
   (aj (bS 4 nd (cx ai))
   (aj (fD PassesOwn.never rfl (sI K (pv 1)) (qn 5 nd) (aq (fU (kP bH dv du j0 (pv 4) (aa (aF (vS T) hr (aa (pv 5) (aa (qg T.j6) (aa (fld K (pv 3)) (aa (fld K (pv 3)) ai))))) ai)))))
   (aj (iK (i:=6) rfl nd rfl rfl (jH rfl rfl rfl rfl) (fh rfl T.gj (aa (aM cz (fld K (pv 3)) ay) ai)) (own:=[("place",7)]) (cn rfl) (λ_ _ _ _ _=>(qn 7 nd)) (λ_ _ _ _ _=>cO) (λ_ _ _ _ _=>(aF (mJ T) hr (aa (aF (DR T) hr (aa (fld K (pv 0)) (aa (pv 7) ai))) (aa (pv 4) ai)))))
   (aj (iK (i:=8) rfl nd rfl rfl (jH rfl rfl rfl rfl) (sI K (Cb K (pv 6) iV (dr (mE jR ay)))) (own:=[("total",9)]) (cn rfl) (λ_ _ _ _ _=>(qn 9 nd)) (λ_ _ _ _ _=>cO) (λ_ _ _ _ _=>(aM eW (mE jR (pv 9)) (qg T.og))))
   (aq (az (i6 (nE T) hr (aa (pv 8) (aa (aM eW (aM ik (pv 2) (gT K (pv 6) (mE jR ay))) (qg T.og)) (aa (aF (uq T) hr (aa (pv 3) ai)) ai))))))))))),?_⟩
  obtain⟨qu,fa,pp,ra,g1,g2,g3,g4⟩:=id hP;refine⟨_,rfl,pa,c.cB,qu,_,_,rfl,g1,T.bY,T.bK,rfl,aC _,λp np=> ?_⟩;have s0:=au.new (o:=HO.lst []) np;refine⟨_,rfl,ha,rfl,⟨_,bw.of (s0 _ _ he)⟩,?_⟩;refine jb (K:=K) (a:=ha) (xs:=iv e) (λi σ H'=>au H H'/\H' p=some (.lst (ii (HV k.form (e.take i))))/\ ∃v,σ=[some (.ref pa),some (.ref ha),some (.int (b:Int)),some (.ref fa),some (.ref p),v,none,none,none,none]) ⟨s0,ak,none,rfl⟩ (λi σ H' _ h=>h.1.seq (bw.of he)) (λi y σ H' hi h=> ?_) (λσ H' h=> ?_)
  ·obtain⟨h1,h2,v,rfl⟩:=h;obtain⟨z,hz,rfl⟩:=jT hi;obtain⟨Gd,VQ,f1,f2⟩:=g2.mono h1;have E8:i<e.length:=(aD.mp hz).1;refine⟨_,rfl,.inl ⟨rfl,_,bw.of h2⟩,_,rfl,_,rfl,fa,c.Form,Gd,_,_,rfl,f1,T.bc,T.df,rfl,_,rfl,fa,c.Form,Gd,_,_,rfl,f1,T.bc,T.dR,rfl,z,16,k.form.kdigits,k.form.kwidth,rfl,hkv,by decide,by show z<65536;exact hew z (aZ hz),hG.v1,by have:=hG.v8;omega,by omega,λq' H2 s2 hq2 hb=>⟨p,q',_,_,rfl,rfl,s2 _ _ h2,hb,?_,au.at' (h1.trans s2) np,?_,_,rfl⟩⟩
   ·rw[gi,gi,BZ,Sb.u7,bo];have:min i e.length*k.form.kdigits<=32*16:=cN (by omega) OO;omega
   ·rw[ak,take_snoc hz,HV,HV,iF,ii,ii,ii,bF,dF,fQ,dz]
  ·obtain⟨h1,h2,v,rfl⟩:=h;rw[bR,aU (aE _)] at h2;obtain⟨Gd,VQ,f1,f2⟩:=g2.mono h1;refine⟨_,rfl,fa,c.Form,Gd,_,_,rfl,f1,T.bc,T.dj,rfl,_,_,rfl,rfl,((k.form.n + 1:Nat):Int),by rw[bh];rfl,by omega,by omega,?_⟩;rw[bb];obtain⟨vs,v1,v2⟩:=g4;have Uq: ∀{H2:Hp},au H H2->dS H2 ra dD ((k.changing.map tJ).map ii):=λ{H2} s2=>by
    refine⟨vs,s2 _ _ v1,?_⟩;rw[bP];exact Js (λr=>ii (tJ r)) v2 λt r q=>by
     show H2 t=_;rw[s2 _ _ (show H t=_ from q),mQ];rfl
   refine kW (i:=7) (λi=>V.int (qR k e i)) (λ_ H2=>au H' H2) (by omega) (au.refl H') (λ_ H2 D o h hD=>au.at' h hD) (λi H2 Q' V1 fX kk=> ?_) (λD H2 wN fX hD=> ?_)
   ·have jI:=h1.trans fX;refine⟨_,rfl,pa,c.cB,qu,_,_,rfl,jI _ _ g1,T.bY,T.ji,rfl,_,rfl,ra,k.changing.map tJ,i,by rw[gC];rfl,Uq jI,λr hr=> ?_,by rw[ag,hW.lc,<-Qg];omega,λp3 H3 s3 SM JG=> ?_⟩
    ·obtain⟨r0,UY,rfl⟩:=aQ.mp hr;rw[NZ (hW.changing r0 UY)];exact V1
    ·refine⟨_,rfl,p3,p,_,HV k.form e,rfl,bw.of JG,.inl (bw.of ((fX.trans s3) _ _ h2)),by rw[ag,ag,BZ,hW.lc,Qg],by rw[ag,ag,hW.lc,<-Qg];omega,λx hx=> ?_,λH4 s4=> ?_⟩
     ·rw[bP] at hx;obtain⟨r0,UY,rfl⟩:=aQ.mp hx;have:=QO (i:=i) (hW.changing r0 UY);show -(2^64)<(tJ r0).getD i 0/\(tJ r0).getD i 0<2^64;omega
     ·have:=kk H4 (fX.trans (s3.trans s4)) λD acc _ e=>(s3.trans s4) _ _ e;unfold qR at this;rw[bP];exact this
   ·have jI:=h1.trans fX;generalize hL:(List.range (k.form.n + 1)).map (qR k e)=L;have Vd:L.length=k.form.n + 1:=by rw[<-hL];simp
    have hDL:H2 D=some (.lst (ii L)):=by rw[hD,<-hL,ii,bP];rfl
    have pC:L≠[]:=λz=>by rw[z] at Vd;cases Vd
    have cL:L.dropLast=(List.range k.form.n).map (qR k e):=by
     rw[<-hL,tF,bF];simp
    have aL:L.getD (L.length - 1) 0=qR k e k.form.n:=by
     rw[Vd,yH,<-hL,ae,aI,wK (jM _)];rfl
    refine⟨_,rfl,1,rfl,_,rfl,D,_,rfl,bw.of hDL,λp5 Rh=> ?_⟩;rw[wz pC,cL];have s5:=au.new (o:=HO.lst (ii ((List.range k.form.n).map (qR k e)))) Rh;have JF:upd H2 p5 (.lst (ii ((List.range k.form.n).map (qR k e)))) p5=some (.lst (ii ((List.range k.form.n).map (qR k e)))):=ak;generalize upd H2 p5 (.lst (ii ((List.range k.form.n).map (qR k e))))=H5 at s5 JF;refine⟨p5,rfl,⟨_,bw.of JF⟩,?_⟩;refine ff (K:=K) (a:=p5) (xs:=ii ((List.range k.form.n).map (qR k e))) (i:=9) (λm=>V.int ((-(((List.range k.form.n).map (qR k e)).getD m 0))% 65536)) (λ_ H6=>au H5 H6) (by rw[gi];simp;omega) (au.refl H5) (λ_ H6 D o h hD=>au.at' h hD) (λ_ H6 _ h=>h.seq (bw.of JF)) (λm x H6 Q' hx RH kk=> ?_) (λD6 H6 abg RH We=> ?_)
    ·obtain⟨hm,rfl⟩:=oO hx;exact⟨_,rfl,_,rfl,_,_,rfl,rfl,(by show(0:Int)<65536;decide),kk H6 RH λ_ _ _ e=>e⟩
    ·have hw:H6 D6=some (.lst (iv (gD k (e,b)).a)):=by
      rw[We,gi,range_one (f:=λx=>(-x)% 65536),B0 hW,mQ,bP,bP];congr 2;refine congrArg ii (cC λi _=> ?_);show(-(qR k e i))% 65536=((Wqarav.word (-(qR k e i)):Nat):Int);rw[jX]
     have SA:=jI.trans (s5.trans RH);refine⟨_,rfl,_,rfl,_,rfl,1,rfl,D,_,_,_,rfl,rfl,bw.of ((s5.trans RH) _ _ hDL),FP pC,_,_,rfl,rfl,_,_,rfl,rfl,(by show(0:Int)<65536;decide),_,rfl,fa,k.form,rfl,g2.mono SA,hG,λl dl nl He ne=> ?_⟩;rw[aL];refine⟨l,dl,D6,gD k (e,b),?_,ak,?_,λH7 hS7 k7=>⟨rfl,q l H7 (SA.trans (au.made nl He k7)) (SA.free nl) hS7⟩⟩
     ·rw[HY hW,jX];rfl
     ·rw[aJ (aO hw nl),aJ (aO hw He)];exact hw
def Lz{k:cW}(hW:iS k){i:Nat}(hi:i<k.form.n)(e:Nat){p:dZ}(h:Es k.form.ring p):Es k.form.ring (Dd k i e p):=by
 have:=Sb.Gw hW.lt hi e p hW.good.r8 h.la h.lb h.a h.b (λp hp=>⟨(hW.turning p hp).la,(hW.turning p hp).lb⟩);exact⟨this.1,this.2.1,this.2.2.1,this.2.2.2⟩
def RT{f:aB}(hG:Good f)(g:List Nat)(b:Nat):Es f.ring (uX f g b):=by
 have ne:gx f g≠[]:=mr (pb f g) hG.r8;exact⟨Sb.lD _,by show(oY _ _).length=_;rw[Sb.i5 _ ne (uJ f g),pb],Sb.yq _,Sb.Jb _ ne (uJ f g)⟩
def Gs(p:dZ):Ql p=(yz p.a,fi (p.b.headD 0)):=by
 unfold Ql yz;cases p.a <;> rfl
def RK(l:List Int): ∀x∈yz l,x<65536:=λx hx=>by
 rw[xr] at hx;obtain⟨y,_,rfl⟩:=aQ.mp hx;unfold fi;exact nk _
def Kt{k:cW}(h:iS k)(g:List Nat)(s:ax):Wf k.form.n (tU k g s):=by
 unfold tU;rw[Gs];exact J6 h _ _
inductive oz(c:Cs)(K:ab)(vs:List V)(H:Hp)(Q:VK)(E:XK):Prop
 |mk (pa sa ta:Addr) (k:cW) (s:ax) (g:List Nat):vs=[.ref pa,.ref sa,.ref ta]->iq c K H pa k->iS k->cQ c H sa s->Wf k.form.n s->H ta=some (.lst (iv g))->g.length=k.form.p->(∀(p:Addr) (H':Hp),au H H'->H p=none->cQ c H' p (tU k g s)->Q (.ref p) H')->oz c K vs H Q E
def oI(T:Txt K mg c):Callee P w K mg base "through_table" 6 ["part","seal","table"] (oz c K):=by
 exists T.y9.ok ["part","seal","table","pair","index","word"]
 ·obtain⟨pa,sa,ta,k,s,g,rfl,hP,hW,hS,hw,hta,V2,q⟩:=h;have big:=bI;have hG:=hW.good;have r8:=hG.r8;have AB:=hG.AB;have n4:=hG.n4;refine⟨_,(aj (bS 3 nd (aF (Cr T) hr (aa (fld K (pv 0)) (aa (pv 1) (aa (pv 2) ai)))))
   (aj (fD PassesOwn.never rfl (KA rfl T.yE (aa (fld K (pv 1)) ai)) (QZ K (n:=2) rfl (eV (qn 4 nd) (eV (qn 5 nd) lY))) (aq (bS 3 nd (aF (AN T) hr (aa (pv 0) (aa (pv 3) (aa (pv 4) (aa (aF (AO T) hr (aa (fld K (pv 0)) (aa (pv 5) ai))) ai))))))))
   (aq (az (aF (yQ T) hr (aa (pv 0) (aa (aF (yO T) hr (aa (Nb K (pv 3) ay) ai)) (aa (aF (yo T) hr (aa (gT K (Nb K (pv 3) ay) ay) ai)) ai)))))))),?_⟩
  obtain⟨qu,fa,pp,ra,g1,g2,g3,g4⟩:=id hP;obtain⟨Pl,wa,w1,w2⟩:=id hS;refine⟨_,rfl,pa,c.cB,qu,_,_,rfl,g1,T.bY,T.bK,rfl,_,rfl,_,rfl,fa,sa,ta,k.form,s,g,rfl,g2,hG,hS,hta,V2,λt0 H1 s1 nt0 SX=> ?_⟩;refine⟨_,rfl,sa,c.Seal,Pl,_,_,rfl,s1 _ _ w1,T.fI,T.gk,rfl,wa,_,rfl,bw.of (s1 _ _ w2),?_⟩;refine RL.By (K:=K) (a:=wa) (xs:=iv s.a) (λm σ H'=>au H H'/\ ∃(t:Addr) (v y:Option V),fP H' t (Sb.stN k (s.a.map (dm k.form)) (uX k.form g s.b) m)/\Es k.form.ring (Sb.stN k (s.a.map (dm k.form)) (uX k.form g s.b) m)/\
    σ=[some (.ref pa),some (.ref sa),some (.ref ta),some (.ref t),v,y]) ⟨s1,t0,none,none,SX,RT hG g s.b,rfl⟩ (λm σ H' _ h=>h.1.seq (bw.of w2)) (λm x TT σ H' hx h W6=> ?_) (λσ H' h=> ?_)
  ·obtain⟨h1,t,v,y,ht,hR,rfl⟩:=h;obtain⟨z,hz,rfl⟩:=jT hx;have hm:m<s.a.length:=(aD.mp hz).1;have S9:m<k.form.n:=by rw[<-hw.len];exact hm
   have sT:=au.new (o:=HO.tup [.int ((m:Nat):Int),.int (z:Int)]) W6;have jI:=h1.trans sT;refine⟨TT,[.int ((m:Nat):Int),.int (z:Int)],rfl,gU.of ak,rfl,_,[.int (z:Int)],rfl,_,[],rfl,rfl,?_⟩;refine⟨_,rfl,_,rfl,_,rfl,_,rfl,pa,c.cB,qu,_,_,rfl,jI _ _ g1,T.bY,T.bK,rfl,_,rfl,fa,k.form,z,rfl,g2.mono jI,hG.toSmall,pa,t,k,_,m,dm k.form z,rfl,hP.mono jI,hW,ht.mono _ _ _ _ sT,hR,S9,by have:=Dq hG.toSmall z;omega,λt' H3 s3 nt' ht'=>⟨jI.trans s3,t',_,_,?_,?_,rfl⟩⟩
   ·have e:(s.a.map (dm k.form)).getD m 0=dm k.form z:=by rw[ae,aI,hz];rfl
    show fP H3 t' (Dd k m ((s.a.map (dm k.form)).getD m 0) _);rw[e];exact ht'
   ·exact Lz hW S9 _ hR
  ·obtain⟨h1,t,v,y,⟨xa,xb,ht,SW,P9⟩,hR,rfl⟩:=h;rw[bR] at SW P9 hR;have eS:tU k g s=gD k (yz (Sb.stN k (s.a.map (dm k.form)) (uX k.form g s.b) s.a.length).a,fi ((Sb.stN k (s.a.map (dm k.form)) (uX k.form g s.b) s.a.length).b.headD 0)):=by
    unfold tU;rw[Gs,Sb.Cg,ag];rfl
   rw[eS] at q;generalize Sb.stN k (s.a.map (dm k.form)) (uX k.form g s.b) s.a.length=pr at SW P9 hR q;have V9:pr.b[0]? =some (pr.b.headD 0):=by
    have:=hR.lb;cases e:pr.b with
    |nil=>rw[e] at this;have:(0:Nat)=k.form.ring:=this;omega
    |cons x r=>rfl
   have hv:=hR.b _ (aZ V9);refine⟨_,rfl,_,rfl,t,_,_,_,rfl,rfl,gU.of ht,c8 (j:=0) rfl,xa,pr.a,rfl,bw.of SW,by rw[hR.la];omega,hR.a,λp3 H3 s3 SM JG=> ?_⟩;refine⟨_,rfl,t,_,_,_,rfl,rfl,gU.of (s3 _ _ ht),c8 (j:=1) rfl,xb,_,_,_,rfl,rfl,bw.of (s3 _ _ P9),fF (j:=0) V9,_,rfl,hv.1,hv.2,?_⟩;have mq:=h1.trans s3;refine⟨pa,p3,k,yz pr.a,fi (pr.b.headD 0),rfl,hP.mono mq,hW,JG,by rw[xr,ag,Gp,hR.la],RK _,λp H' s' np hp=>q p H' (mq.trans s') (mq.free np) hp⟩
def WY:Option Nat->V
 | .none=> .fC
 | .some n=> .int (n:Int)
def FieldsAt(K:ab)(H:Hp)(b:Addr)(fs:List (Nat×Nat)):Prop:= ∃ts:List Addr,(bw K H b (ts.map V.ref)\/gU K H b (ts.map V.ref))/\Paired (λt (f:Nat×Nat)=>gU K H t [.int (f.1:Int),.int (f.2:Int)]) ts fs
def nU(K:ab)(H:Hp)(b:Addr)(fs:List (Nat×Nat)):Prop:= ∃ts:List Addr,H b=some (.lst (ts.map V.ref))/\Paired (λt (f:Nat×Nat)=>gU K H t [.int (f.1:Int),.int (f.2:Int)]) ts fs
def nU.at{K:ab}{H:Hp}{b:Addr}{fs:List (Nat×Nat)}(h:nU K H b fs):FieldsAt K H b fs:=by
 obtain⟨ts,h1,h2⟩:=h;exact⟨ts,.inl (bw.of h1),h2⟩
def nU.mono{K:ab}{H H':Hp}{b:Addr}{fs:List (Nat×Nat)}(h:nU K H b fs)(s:au H H'):nU K H' b fs:=by
 obtain⟨ts,h1,h2⟩:=h;exact⟨ts,s _ _ h1,Paired.ja h2 λt f q=>s.Cj q⟩
def vG{K:ab}{H:Hp}{t p:Addr}{ys zs xs:List V}(h:gU K H t ys)(hp:H p=some (.lst xs)):gU K (upd H p (.lst zs)) t ys:=by
 rcases h with(h|⟨o,h⟩)|h
 ·exact .inl (.inl (by rw[aJ (jw h hp (by intro z;cases z))];exact h))
 ·exact .inl (.inr ⟨o,by rw[aJ (jw h hp (by intro z;cases z))];exact h⟩)
 ·exact .inr h
theorem HB{α:Type}(z:α): ∀o:Nat,(bC o [z]).flatten=bC o z
 |0=>rfl
 |n + 1=>by rw[d8,lh,HB z n,d8];rfl
theorem AL{α β:Type}{F:α->β->Prop}{x:α}{y:β}(h:F x y): ∀o:Nat,Paired F (bC o x) (bC o y)
 |0=> .nil
 |n + 1=> .cons h (AL h n)
theorem B4(m:Nat): ∀c t,Sb.jB m (c + 1) t=Sb.jB m c t++[(1,16),(2,m +(t + c)),(2,m +(t + c))]
 |0,t=>rfl
 |c + 1,t=>by
  show(1,16)::(2,m + t)::(2,m + t)::Sb.jB m (c + 1) (t + 1)=_;rw[B4 m c (t + 1),show t + 1 + c=t +(c + 1) by omega];rfl
def NC{l:List Nat}(h:4<=l.length):(bD 2 2 (l.take 4)).map bJ=[Wqarav.two l 0,Wqarav.two l 2]:=by
 match l,h with
 |a::b::d::e::r,_=>rfl
inductive qc(K:ab)(vs:List V)(H:Hp)(Q:VK)(E:XK):Prop
 |mk (a b:Addr) (l:List Nat) (fs:List (Nat×Nat)):vs=[.ref a,.ref b]->bw K H a (iv l)->FieldsAt K H b fs->(∀H',au H H'->Q (WY (Sb.de l fs 0)) H')->qc K vs H Q E
def qt(T:Txt K mg c):Callee P w K mg base "fields_fault" 2 ["octets","fields"] (qc K):=by
 exists T.BJ.ok ["octets","fields","place","size","limit"]
 ·obtain⟨a,b,l,fs,rfl,ha,⟨ts,hb,hP⟩,q⟩:=h;refine⟨_,(aj (bS 2 nd ay)
   (aj (fD PassesOwn.never rfl (RL.YQ K (pv 1)) (QZ K (n:=2) rfl (eV (qn 3 nd) (eV (qn 4 nd) lY))) (aj (cD (eh rk (aM cz (pv 2) (pv 3)) (bX (cI K) rfl T.f7 boot_len (aa (pv 0) ai)) (dC _)) (aq (az (bX (cI K) rfl T.f7 boot_len (aa (pv 0) ai)))) bA)
   (aj (cD (eh KH (aF (jg T) hr (aa (Cb K (pv 0) (dr (pv 2)) (dr (aM cz (pv 2) (pv 3)))) ai)) (pv 4) (dC _)) (aq (az (pv 2))) bA)
   (aq (bS 2 nd (aM cz (pv 2) (pv 3)))))))
   (aq (az pj)))),?_⟩
  have hlen:ts.length=fs.length:=Paired.length hP;refine⟨_,rfl,b,rfl,?_⟩;refine RL.RR (K:=K) (a:=b) (xs:=ts.map V.ref) (λi σ H'=>au H H'/\ ∃(n:Nat) (v y:Option V),Sb.de l fs 0=Sb.de l (fs.drop i) n/\σ=[some (.ref a),some (.ref b),some (.int (n:Int)),v,y]) ⟨au.refl H,0,none,none,rfl,rfl⟩
   (hb.imp (λh i σ H' _ hh=>hh.1.seq h) (λh i σ H' _ hh=>hh.1.Cj h)) (λi x σ H' hx h=> ?_) (λσ H' h=> ?_)
  ·obtain⟨h1,n,v,y,e,rfl⟩:=h;obtain⟨t,et,rfl⟩:=ju hx;obtain⟨fl,ef,hT⟩:=cX hP et;have E8:i<fs.length:=(aD.mp ef).1;have ed:fs.drop i=fl::fs.drop (i + 1):=by
    rw[fG E8];rw[af E8] at ef;rw[ao ef]
   have Nh:=h1.seq ha;rw[ed] at e;have e0:Sb.de l (fl::fs.drop (i + 1)) n=if l.length<n + fl.1 then some l.length else if fl.2<=bJ ((l.drop n).take fl.1) then some n else Sb.de l (fs.drop (i + 1)) (n + fl.1):=rfl;rw[e0] at e;refine⟨t,_,rfl,h1.Cj hT,rfl,_,[.int (fl.2:Int)],rfl,_,[],rfl,rfl,?_⟩;refine⟨_,rfl,_,rfl,_,_,rfl,rfl,_,rfl,a,_,rfl,.inl Nh,_,_,rfl,rfl,_,rfl,j9 (λhc=> ?_) λhc=> ?_⟩
   ·have hc:(((iv l).length:Nat):Int)<(n:Int)+(fl.1:Int):=of_decide_eq_true hc;rw[bR] at hc;have q':=q H' h1;rw[e,if_pos (by omega)] at q';refine⟨_,rfl,a,_,rfl,.inl Nh,?_⟩;rw[bR];exact q'
   ·have hc: ¬(((iv l).length:Nat):Int)<(n:Int)+(fl.1:Int):=λz=>hc (decide_eq_true z);rw[bR] at hc;rw[if_neg (by omega)] at e;refine⟨_,rfl,_,rfl,_,rfl,_,rfl,_,rfl,_,_,rfl,rfl,_,rfl,a,_,rfl,Nh,λp np=> ?_⟩;have e1:(n:Int)+(fl.1:Int)=((n + fl.1:Nat):Int):=by rw[bh]
    rw[e1,pF];have e2:((iv l).drop n).take fl.1=iv ((l.drop n).take fl.1):=by rw[iv,iv,fz,iu]
    rw[e2];have s2:=au.new (o:=HO.lst (iv ((l.drop n).take fl.1))) np;refine⟨p,_,rfl,bw.of ak,_,rfl,_,_,rfl,rfl,_,rfl,j9 (λhd=> ?_) λhd=> ?_⟩
    ·have hd:(fl.2:Int)<=((bJ ((l.drop n).take fl.1):Nat):Int):=of_decide_eq_true hd;have q':=q _ (h1.trans s2);rw[e,if_pos (by omega)] at q';exact⟨_,rfl,q'⟩
    ·have hd: ¬(fl.2:Int)<=((bJ ((l.drop n).take fl.1):Nat):Int):=λz=>hd (decide_eq_true z);rw[if_neg (by omega)] at e;refine⟨_,rfl,_,rfl,_,_,rfl,rfl,h1.trans s2,n + fl.1,some (.int (fl.1:Int)),some (.int (fl.2:Int)),e,?_⟩;rw[<-e1];rfl
  ·obtain⟨h1,n,v,y,e,rfl⟩:=h;rw[ag,hlen,cK (aE _)] at e;have q':=q H' h1;rw[e] at q';exact q'
inductive qX(K:ab)(vs:List V)(H:Hp)(Q:VK)(E:XK):Prop
 |mk (a:Addr) (l:List Nat) (m:Nat):vs=[.ref a,.int (m:Int)]->bw K H a (iv l)->4<=l.length->Wqarav.two l 0<=64->Wqarav.two l 2<=16->m<=100->(∀(D:Addr) (H':Hp),au H H'->H D=none->nU K H' D (Sb.jC l m)->Q (.ref D) H')->qX K vs H Q E
theorem sZ(m:Nat): ∀c t,(Sb.jB m c t).length=3*c
 |0,_=>rfl
 |c + 1,t=>by show(Sb.jB m c (t + 1)).length + 3=3*(c + 1);rw[sZ m c];omega
def AW(T:Txt K mg c):Callee P w K mg base "body_fields" 3 ["octets","incoming"] (qX K):=by
 exists T.CL.ok ["octets","incoming","counts","fields","wires"]
 ·obtain⟨a,l,m,rfl,ha,hl,h64,h16,hm,q⟩:=h;have big:=bI;refine⟨_,(aj (bS 2 nd (aF (iQ T) hr (aa (Cb K (pv 0) iV (dr (qg T.pI))) (aa ay ai))))
   (aj (bS 3 nd (cx ai))
   (aj (fD PassesOwn.never rfl (LI rfl T.gj (aa (pv 1) (aa (aM cz (pv 1) (gT K (pv 2) ay)) ai))) (qn 4 nd) (aq (fU (kP bH dv du j0 (pv 3) (aa (cx (aa (nZ (aa ay (aa (qg T.wF) ai))) (aa (nZ (aa ay (aa (pv 4) ai))) (aa (nZ (aa ay (aa (pv 4) ai))) ai)))) ai)))))
   (aq (az (aM ku (pv 3) (aM ES (cx (aa (nZ (aa ay (aa (aM cz (pv 1) (gT K (pv 2) ay)) ai))) ai)) (gT K (pv 2) ay)))))))),?_⟩
  refine⟨_,rfl,_,rfl,a,_,rfl,ha,λp0 kK=> ?_⟩;have c1:iw (iv l) none (some 4)=iv (l.take 4):=by
   rw[show(4:Int)=((4:Nat):Int) from rfl,J4,iv,iv,fz]
  rw[c1];have s0:=au.new (o:=HO.lst (iv (l.take 4))) kK;refine⟨p0,l.take 4,2,2,rfl,bw.of ak,by rw[bo];omega,by decide,by decide,by decide,λD H1 s1 nD hD=> ?_⟩;rw[NC hl] at hD;have Na:=s0.trans s1;generalize hg:Wqarav.two l 0=g at*;generalize ho:Wqarav.two l 2=o at*;refine⟨aC _,λp np=> ?_⟩;have s2:=au.new (o:=HO.lst []) np;refine⟨_,rfl,_,rfl,_,rfl,D,_,_,_,rfl,rfl,bw.of (s2 _ _ hD),c8 (j:=0) rfl,_,_,rfl,rfl,(m:Int),(m:Int)+(g:Int),rfl,⟨by omega,by omega,by omega,by omega⟩,?_⟩;have eg:((m:Int)+(g:Int)-(m:Int)).toNat=g:=by omega
  rw[eg];refine jj (lo:=(m:Int)) (λi σ H'=>au H1 H'/\nU K H' p (Sb.jB m i 0)/\ ∃v,σ=[some (.ref a),some (.int (m:Int)),some (.ref D),some (.ref p),v]) ⟨s2,⟨[],ak,.nil⟩,none,rfl⟩ (λi σ H' hi h=> ?_) (λσ H' h=> ?_)
  ·obtain⟨h1,⟨ts,hp,Mc⟩,v,rfl⟩:=h;have Hl:ts.length=3*i:=by rw[Paired.length Mc,sZ]
   refine⟨_,rfl,.inl ⟨rfl,_,bw.of hp⟩,(by show 2<=sizeLine;omega),λt1 ZU=>⟨_,rfl,(by show 2<=sizeLine;omega),λt2 nt2=>⟨_,rfl,(by show 2<=sizeLine;omega),λt3 nt3=>⟨(by show 3<=sizeLine;omega),λL nL=> ?_⟩⟩⟩⟩;have em:(m:Int)+(i:Int)=((m + i:Nat):Int):=by rw[bh]
   rw[em] at nt3 nL ⊢;have q1:=au.new (o:=HO.tup [.int 1,.int 16]) ZU;have q2:=au.new (o:=HO.tup [.int 2,.int ((m + i:Nat):Int)]) nt2;have q3:=au.new (o:=HO.tup [.int 2,.int ((m + i:Nat):Int)]) nt3;have q4:=au.new (o:=HO.lst [.ref t1,.ref t2,.ref t3]) nL;have k1:upd H' t1 (.tup [.int 1,.int 16]) t1=some (.tup [.int 1,.int 16]):=ak;have k2:upd (upd H' t1 (.tup [.int 1,.int 16])) t2 (.tup [.int 2,.int ((m + i:Nat):Int)]) t2=some (.tup [.int 2,.int ((m + i:Nat):Int)]):=ak;have k3:upd (upd (upd H' t1 (.tup [.int 1,.int 16])) t2 (.tup [.int 2,.int ((m + i:Nat):Int)])) t3 (.tup [.int 2,.int ((m + i:Nat):Int)]) t3=some (.tup [.int 2,.int ((m + i:Nat):Int)]):=ak;have k1':=(q2.trans (q3.trans q4)) _ _ k1;have k2':=(q3.trans q4) _ _ k2;have k3':=q4 _ _ k3;have s4:=q1.trans (q2.trans (q3.trans q4));have Md:=s4 _ _ hp;refine⟨p,L,_,_,rfl,rfl,Md,ak,by rw[ag,Hl];show 3*i + 3<=sizeLine;omega,?_⟩;refine⟨au.at' (h1.trans s4) np,⟨ts++[t1,t2,t3],by rw[ak,bF];rfl,?_⟩,_,rfl⟩;rw[B4,nW];refine mI (Paired.ja Mc λt f q=>vG (s4.Cj q) Md) (.cons (vG (gU.of k1') Md) (.cons (vG (gU.of k2') Md) (.cons (vG (gU.of k3') Md) .nil)))
  ·obtain⟨h1,⟨ts,hp,Mc⟩,v,rfl⟩:=h;have Hl:ts.length=3*g:=by rw[Paired.length Mc,sZ]
   refine⟨_,rfl,_,rfl,_,rfl,D,_,_,_,rfl,rfl,bw.of (h1 _ _ hD),c8 (j:=0) rfl,_,_,rfl,rfl,(by show 2<=sizeLine;omega),λt1 ZU=>⟨(by show 1<=sizeLine;omega),λL nL=> ?_⟩⟩;have em:(m:Int)+(g:Int)=((m + g:Nat):Int):=by rw[bh]
   have q1:=au.new (o:=HO.tup [.int 2,.int ((m:Int)+(g:Int))]) ZU;have q2:=au.new (o:=HO.lst [.ref t1]) nL;have k1:upd H' t1 (.tup [.int 2,.int ((m:Int)+(g:Int))]) t1=some (.tup [.int 2,.int ((m + g:Nat):Int)]):=by rw[<-em];exact ak
   have WO:=q1.trans q2;refine⟨_,rfl,D,_,_,_,rfl,rfl,bw.of (WO _ _ (h1 _ _ hD)),c8 (j:=1) rfl,L,(o:Int),_,rfl,rfl,ak,by omega,by omega,by simp;omega,λR nR=> ?_⟩;have eR:(bC ((o:Int)).toNat [V.ref t1]).flatten=(bC o t1).map V.ref:=by
    rw[bb,oq,HB]
   rw[eR];have q3:=au.new (o:=HO.lst ((bC o t1).map V.ref)) nR;have wM:=WO.trans q3;refine⟨p,R,_,_,rfl,rfl,wM _ _ hp,ak,by rw[ag,ag,lN,Hl];omega,λF nF=> ?_⟩;have q4:=au.new (o:=HO.lst (ts.map V.ref++(bC o t1).map V.ref)) nF;have WN:=wM.trans q4;have GF:=Na.trans (h1.trans WN);refine q F _ GF (au.free (Na.trans (h1.trans wM)) nF) ⟨ts++bC o t1,by rw[ak,bF],?_⟩;unfold Sb.jC;rw[hg,ho];refine mI (Paired.ja Mc λt f q=>WN.Cj q) ?_;exact AL (F:=λt (f:Nat×Nat)=>gU K _ t [.int (f.1:Int),.int (f.2:Int)]) (y:=(2,m + g)) (gU.of ((q2.trans (q3.trans q4)) _ _ k1)) o
def X5(g:tV):List (Str×V):=[("kind",.int (g.kind:Int)),("first",.int (g.a:Int)),("second",.int (g.b:Int))]
def oj(c:Cs)(H:Hp)(a:Addr)(g:tV):Prop:= ∃dx,H a=some (.ins c.Gate dx (X5 g))
def oj.mono(c:Cs)(H H':Hp)(a:Addr)(g:tV)(h:oj c H a g)(m:au H H'):oj c H' a g:=by
 obtain⟨dx,h1⟩:=h;exact⟨dx,m _ _ h1⟩
def Tr(ga oa:Addr):List (Str×V):=[("gates",.ref ga),("outs",.ref oa)]
def k0(c:Cs)(H:Hp)(a:Addr)(x:fT):Prop:= ∃dx ga oa,H a=some (.ins c.Circuit dx (Tr ga oa))/\dS H ga (oj c) x.gates/\H oa=some (.lst (iv x.outs))
theorem k0.mono{c:Cs}{H H':Hp}{a:Addr}{x:fT}(h:k0 c H a x)(m:au H H'):k0 c H' a x:=by
 obtain⟨dx,ga,oa,h1,h2,h3⟩:=h;exact⟨dx,ga,oa,m _ _ h1,h2.mono (oj.mono c) m,m _ _ h3⟩
def JL(fs:List (Nat×Nat)):(fs.map λf=>((f.1:Nat):Int)).sum=((Sb.iD fs:Nat):Int):=by
 unfold Sb.iD
 induction fs with
 |nil=>rfl
 |cons f r ih=>rw[bB,fw,bB,fw,bh,ih]
inductive vD(c:Cs)(vs:List V)(H:Hp)(Q:VK)(E:XK):Prop
 |mk (p dx:Addr) (g:tV):vs=[.ref p,.int (g.kind:Int),.int (g.a:Int),.int (g.b:Int)]->H p=some (.ins c.Gate dx [])->(∀H',oj c H' p g->cg p H H'->Q .fC H')->vD c vs H Q E
theorem zw(T:Txt K mg c):Maker P w K mg base "Gate" c.Gate 1 ["self","kind","first","second"] (vD c):=by
 exists T.zw.ok T.OL ["self","kind","first","second"]
 ·obtain⟨p,dx,g,rfl,hp,q⟩:=h;refine⟨_,(aj (dw (pv 0) (pv 1) rfl)
   (aj (dw (pv 0) (pv 2) rfl)
   (aq (dw (pv 0) (pv 3) rfl)))),?_⟩
  refine⟨_,rfl,_,rfl,p,c.Gate,dx,_,rfl,hp,T.jJ,T.ma,(by show 0<1000;decide),?_⟩;refine⟨_,rfl,_,rfl,p,c.Gate,dx,_,rfl,ak,T.jJ,T.jy,(by show 1<1000;decide),?_⟩;rw[dG];refine⟨_,rfl,_,rfl,p,c.Gate,dx,_,rfl,ak,T.jJ,T.i9,(by show 2<1000;decide),?_⟩;rw[dG];exact q _ ⟨dx,ak⟩ cg.upd
inductive qj(c:Cs)(vs:List V)(H:Hp)(Q:VK)(E:XK):Prop
 |mk (p dx ga oa:Addr):vs=[.ref p,.ref ga,.ref oa]->H p=some (.ins c.Circuit dx [])->(∀H',H' p=some (.ins c.Circuit dx (Tr ga oa))->cg p H H'->Q .fC H')->qj c vs H Q E
theorem pA(T:Txt K mg c):Maker P w K mg base "Circuit" c.Circuit 1 ["self","gates","outs"] (qj c):=by
 exists T.pA.ok T.DY ["self","gates","outs"]
 ·obtain⟨p,dx,ga,oa,rfl,hp,q⟩:=h;refine⟨_,(aj (dw (pv 0) (pv 1) rfl)
   (aq (dw (pv 0) (pv 2) rfl))),?_⟩
  refine⟨_,rfl,_,rfl,p,c.Circuit,dx,_,rfl,hp,T.f6,T.eK,(by show 0<1000;decide),?_⟩;refine⟨_,rfl,_,rfl,p,c.Circuit,dx,_,rfl,ak,T.f6,T.iM,(by show 1<1000;decide),?_⟩;rw[dG];exact q _ ak cg.upd
def Hu{ts:List Addr}(hl:ts.length=2)(hi: ∀(i:Nat) (t:Addr) (p:Int×Int),ts[i]? =some t->([(2,65),(2,17)]:List (Int×Int))[i]? =some p-> ∀H:Hp,gU K H t [.int p.1,.int p.2])(H:Hp):
  Paired (λt (f:Nat×Nat)=>gU K H t [.int (f.1:Int),.int (f.2:Int)]) ts Sb.ir:=by
 match ts,hl with
 | [t1,t2],_=>exact .cons (hi 0 t1 _ rfl rfl H) (.cons (hi 1 t2 _ rfl rfl H) .nil)
def Mh{l:List Nat}(h:Sb.de l Sb.ir 0=none):4<=l.length/\Wqarav.two l 0<=64/\Wqarav.two l 2<=16:=by
 have e0:Sb.de l Sb.ir 0=if l.length<2 then some l.length else if 65<=Wqarav.two l 0 then some 0 else if l.length<4 then some l.length else if 17<=Wqarav.two l 2 then some 2 else none:=rfl;rw[e0] at h;by_cases h3:l.length<2
 ·rw[if_pos h3] at h;cases h
 rw[if_neg h3] at h;by_cases h4:65<=Wqarav.two l 0
 ·rw[if_pos h4] at h;cases h
 rw[if_neg h4] at h;by_cases h5:l.length<4
 ·rw[if_pos h5] at h;cases h
 rw[if_neg h5] at h;by_cases h6:17<=Wqarav.two l 2
 ·rw[if_pos h6] at h;cases h
 omega
inductive oB(K:ab)(vs:List V)(H:Hp)(Q:VK)(E:XK):Prop
 |mk (a:Addr) (l:List Nat) (m:Nat):vs=[.ref a,.int (m:Int)]->bw K H a (iv l)->m<=100->(∀H',au H H'->Q (WY (Sb.lQ l m)) H')->oB K vs H Q E
def kT(T:Txt K mg c):Callee P w K mg base "circuit_fault" 4 ["octets","incoming"] (oB K):=by
 exists T.zh.ok ["octets","incoming","fault","fields","size","field"]
 ·obtain⟨a,l,m,rfl,ha,hm,q⟩:=h;have big:=bI;obtain⟨ah,ts,Nc,hT,OV,hti⟩:=T.Ue;have OV:ts.length=2:=OV;refine⟨_,(aj (bS 2 nd (aF (qt T) hr (aa (pv 0) (aa (qr Nc) ai))))
   (aj (cD (fN (lZ (pv 2))) (aq (az (pv 2))) bA)
   (aj (bS 3 nd (aM ku (kS (jU K) rfl T.rX boot_list (aa (qr Nc) ai)) (aF (AW T) hr (aa (pv 0) (aa (pv 1) ai)))))
   (aj (bS 2 nd (aF (qt T) hr (aa (pv 0) (aa (pv 3) ai))))
   (aj (cD (fN (lZ (pv 2))) (aq (az (pv 2))) bA)
   (aj (bS 4 nd (bX (Eg rfl) rfl T.Tt boot_sum (aa (gR rfl nd (sI K (pv 3)) (own:=[("field",5)]) (cn rfl) (λ_ _ _ _ _=>(qn 5 nd)) (λ_ _ _ _ _=>cO) (λ_ _ _ _ _=>(Nb K (pv 5) ay))) ai)))
   (aj (cD (eh rk (bX (cI K) rfl T.f7 boot_len (aa (pv 0) ai)) (pv 4) (dC _)) (aq (az (pv 4))) bA)
   (aq (az pj))))))))),?_⟩
  have hP:=λH=>Hu (K:=K) OV hti H;refine⟨_,rfl,a,ah,l,Sb.ir,rfl,ha,⟨ts,.inr (hT H),hP H⟩,λH1 s1=> ?_⟩;cases h0:Sb.de l Sb.ir 0 with
  |some e=>
   have q':=q H1 s1;unfold Sb.lQ at q';rw[h0] at q';exact⟨_,rfl,_,rfl,cY ⟨_,rfl,q'⟩⟩
  |none=>
   obtain⟨hl4,h64,h16⟩:=Mh h0;refine⟨_,rfl,_,rfl,dJ ⟨ah,_,rfl,.inr (hT H1),λp np=> ?_⟩⟩;have s2:=au.new (o:=HO.lst (ts.map V.ref)) np;have uV:upd H1 p (.lst (ts.map V.ref)) p=some (.lst (ts.map V.ref)):=ak;refine⟨_,rfl,_,rfl,a,l,m,rfl,(s1.trans s2).seq ha,hl4,h64,h16,hm,λD H2 s3 nD ⟨us,hD,RE⟩=> ?_⟩;have Oz:us.length=3*Wqarav.two l 0 + Wqarav.two l 2:=by
    rw[Paired.length RE];unfold Sb.jC;rw[aP,sZ,lN]
   refine⟨p,D,_,_,rfl,rfl,s3 _ _ uV,hD,by rw[ag,ag,OV,Oz];omega,λF nF=> ?_⟩;have s4:=au.new (o:=HO.lst (ts.map V.ref++us.map V.ref)) nF;have GF:=s1.trans (s2.trans (s3.trans s4));have hF:nU K (upd H2 F (.lst (ts.map V.ref++us.map V.ref))) F (Sb.ir++Sb.jC l m):=⟨ts++us,by rw[ak,bF],mI (hP _) (Paired.ja RE λt f q=>s4.Cj q)⟩;have lF:(Sb.ir++Sb.jC l m).length<=1000:=by
    rw[aP,<-Paired.length RE,Oz];show 2 + _<=1000;omega
   generalize upd H2 F (.lst (ts.map V.ref++us.map V.ref))=H4 at GF hF;refine⟨_,rfl,_,rfl,a,F,l,Sb.ir++Sb.jC l m,rfl,GF.seq ha,hF.at,λH5 s5=> ?_⟩;have VM:=GF.trans s5;cases h1:Sb.de l (Sb.ir++Sb.jC l m) 0 with
   |some e=>
    have q':=q H5 VM;unfold Sb.lQ at q';rw[h0] at q';dsimp only at q';rw[h1] at q';exact⟨_,rfl,_,rfl,cY ⟨_,rfl,q'⟩⟩
   |none=>
    obtain⟨vs,VW,VV⟩:=hF.mono s5;have lvs:vs.length=(Sb.ir++Sb.jC l m).length:=Paired.length VV;refine⟨_,rfl,_,rfl,dJ ⟨_,rfl,F,rfl,⟨_,bw.of VW⟩,?_⟩⟩;refine ff (K:=K) (a:=F) (xs:=vs.map V.ref) (i:=5) (λn=>V.int ((((Sb.ir++Sb.jC l m).getD n (0,0)).1:Nat):Int)) (λ_ H6=>au H5 H6) (by rw[ag,lvs];omega) (au.refl H5) (λ_ H6 D o h hD=>au.at' h hD) (λ_ H6 _ h=>h.seq (bw.of VW)) (λn x H6 Q' hx RH k=> ?_) (λD6 H6 abg RH We=> ?_)
    ·obtain⟨t,et,rfl⟩:=ju hx;obtain⟨fl,ef,hTt⟩:=cX VV et;have e2:(Sb.ir++Sb.jC l m).getD n (0,0)=fl:=by rw[ae,ef];rfl
     have k2:=k H6 RH λ_ _ _ e=>e;rw[e2] at k2;exact⟨_,rfl,t,_,_,_,rfl,rfl,RH.Cj hTt,c8 (j:=0) rfl,k2⟩
    ·rw[ag,lvs,sH (f:=λ(f:Nat×Nat)=>((f.1:Nat):Int))] at We;refine⟨D6,_,rfl,bw.of We,?_⟩;rw[JL];have SA:=VM.trans RH;have q':=q H6 SA;unfold Sb.lQ at q';rw[h0] at q';dsimp only at q';rw[h1] at q';dsimp only at q';refine⟨_,rfl,a,_,rfl,.inl (SA.seq ha),_,rfl,_,_,rfl,rfl,_,rfl,j9 (λhc=> ?_) λhc=> ?_⟩
     ·have hc:((Sb.iD (Sb.ir++Sb.jC l m):Nat):Int)<(((iv l).length:Nat):Int):=of_decide_eq_true hc;rw[bR] at hc;rw[if_pos (by omega)] at q';exact⟨_,rfl,q'⟩
     ·have hc: ¬((Sb.iD (Sb.ir++Sb.jC l m):Nat):Int)<(((iv l).length:Nat):Int):=λz=>hc (decide_eq_true z);rw[bR] at hc;rw[if_neg (by omega)] at q';exact q'
def Px(l:List Nat)(i n:Nat):iw (iv l) (some (i:Int)) (some ((i + n:Nat):Int))=iv ((l.drop i).take n):=by
 rw[pF,iv,iv,fz,iu]
def La(l:List Nat)(i:Nat):iw (iv l) (some (i:Int)) none=iv (l.drop i):=by
 rw[wA,iv,iv,iu]
def R3(l:List Nat)(i:Nat):iw (iv l) none (some (i:Int))=iv (l.take i):=by
 rw[J4,iv,iv,fz]
def PF{l:List Nat}{j:Nat}(h:j<l.length):xH (iv l) (j:Int)=some (V.int ((l.getD j 0:Nat):Int)):=
 c8 (by rw[iv,aI,ae,af h];rfl)
def RgD(g:Nat):Bool:=decide ((5:Int)≠0)&&(decide ((5:Int).natAbs<1073741824)&&(Builtin.Range.small 4 (4 + 5*(g:Int)) 5&&decide (Builtin.Range.rangeSize 4 (4 + 5*(g:Int)) 5=(g:Int))))
def QP:((List.range 65).all RgD)=true:=by decide +kernel
def WS{g:Nat}(h:g<=64):RgC 4 (4 + 5*(g:Int)) 5 g:=by
 have h1:=gI.mp QP g (F3.mpr (by omega));unfold RgD at h1;simp only[cq,decide_eq_true_eq] at h1;exact⟨h1.1,h1.2.1,h1.2.2.1,h1.2.2.2⟩
inductive Am(c:Cs)(K:ab)(vs:List V)(H:Hp)(Q:VK)(E:XK):Prop
 |mk (a:Addr) (l:List Nat):vs=[.ref a]->bw K H a (iv l)->l.length=5->(∀(p:Addr) (H':Hp),au H H'->H p=none->oj c H' p ⟨l.getD 0 0,bJ ((l.drop 1).take 2),bJ (l.drop 3)⟩->Q (.ref p) H')->Am c K vs H Q E
def Jv(T:Txt K mg c):Callee P w K mg base "gate_of" 3 ["octets"] (Am c K):=by
 exists T.MH.ok ["octets"]
 ·obtain⟨a,l,rfl,ha,hl,q⟩:=h;refine⟨_,(aq (az (i6 (zw T) hr (aa (gT K (pv 0) ay) (aa (aF (jg T) hr (aa (Cb K (pv 0) (dr ay) (dr ay)) ai)) (aa (aF (jg T) hr (aa (Cb K (pv 0) (dr ay) iV) ai)) ai)))))),?_⟩;have c1:iw (iv l) (some 1) (some 3)=iv ((l.drop 1).take 2):=Px l 1 2;have c2:iw (iv l) (some 3) none=iv (l.drop 3):=La l 3;refine⟨_,rfl,a,_,_,_,rfl,rfl,ha,PF (j:=0) (by omega),_,rfl,_,rfl,_,rfl,a,_,rfl,ha,λp1 KL=> ?_⟩;have s1:=au.new (o:=HO.lst (iw (iv l) (some 1) (some 3))) KL;refine⟨p1,(l.drop 1).take 2,rfl,bw.of (by rw[ak,c1]),_,rfl,_,rfl,a,_,rfl,s1.seq ha,λp2 zv=> ?_⟩;have s2:=au.new (o:=HO.lst (iw (iv l) (some 3) none)) zv;refine⟨p2,l.drop 3,rfl,bw.of (by rw[ak,c2]),λx dx nx CB ne=>⟨x,dx,⟨l.getD 0 0,bJ ((l.drop 1).take 2),bJ (l.drop 3)⟩,rfl,ak,λH3 hG k3=>⟨rfl,q x H3 ((s1.trans s2).trans (au.made nx CB k3)) ((s1.trans s2).free nx) hG⟩⟩⟩
inductive ui(c:Cs)(K:ab)(vs:List V)(H:Hp)(Q:VK)(E:XK):Prop
 |mk (a:Addr) (l:List Nat) (m:Nat):vs=[.ref a]->bw K H a (iv l)->Sb.Kd l m->(∀(p:Addr) (H':Hp),au H H'->H p=none->k0 c H' p (Sb.uz l)->Q (.ref p) H')->ui c K vs H Q E
def n9(T:Txt K mg c):Callee P w K mg base "circuit_of" 4 ["octets"] (ui c K):=by
 exists T.Ft.ok ["octets","end","gates","place"]
 ·obtain⟨a,l,m,rfl,ha,hC,q⟩:=h;have big:=bI;have hlen:=hC.len;have aaV:=hC.gates;have aeZ:=hC.outs;refine⟨_,(aj (bS 1 nd (aM cz (qg T.pI) (aM cP (qg T.pJ) (aF (jg T) hr (aa (Cb K (pv 0) iV (dr ay)) ai)))))
   (aj (iK (i:=2) rfl nd rfl rfl (jH rfl rfl rfl rfl) (DK rfl T.gj (aa (qg T.pI) (aa (pv 1) (aa (qg T.pJ) ai)))) (own:=[("place",3)]) (cn rfl) (λ_ _ _ _ _=>(qn 3 nd)) (λ_ _ _ _ _=>cO) (λ_ _ _ _ _=>(aF (Jv T) hr (aa (Cb K (pv 0) (dr (pv 3)) (dr (aM cz (pv 3) (qg T.pJ)))) ai))))
   (aq (az (i6 (pA T) hr (aa (pv 2) (aa (aF (iQ T) hr (aa (Cb K (pv 0) (dr (pv 1)) iV) (aa ay ai))) ai))))))),?_⟩
  have c0:iw (iv l) none (some 2)=iv (l.take 2):=R3 l 2;refine⟨_,rfl,_,rfl,a,_,rfl,ha,λp0 kK=> ?_⟩;have s0:=au.new (o:=HO.lst (iw (iv l) none (some 2))) kK;have e0:bJ (l.take 2)=Wqarav.two l 0:=rfl;refine⟨p0,l.take 2,rfl,bw.of (by rw[ak,c0]),?_⟩;rw[e0];generalize upd H p0 (.lst (iw (iv l) none (some 2)))=H1 at s0;generalize hg:Wqarav.two l 0=g at*;generalize ho:Wqarav.two l 2=o at*;refine⟨_,_,rfl,rfl,.inl ⟨by decide,by decide⟩,_,_,rfl,rfl,_,rfl,4,4 + 5*(g:Int),5,g,rfl,WS aaV,?_⟩;refine Bo (i:=3) (λD k z H'=> ∃p,z= .ref p/\p≠D/\oj c H' p ⟨l.getD (4 + 5*k) 0,Wqarav.two l (4 + 5*k + 1),Wqarav.two l (4 + 5*k + 3)⟩) (λD k z Ha Hb h kb=> ?_) (by omega) (λD k H' Q' hD hk hs RP kq=> ?_) (λD H' zs hD hs hz uv Gb=> ?_)
  ·obtain⟨p,rfl,np,dx,hp⟩:=h;exact⟨p,rfl,np,dx,kb _ _ hp np⟩
  ·refine⟨_,rfl,_,rfl,_,rfl,_,rfl,_,_,rfl,rfl,_,rfl,a,_,rfl,(s0.trans hs).seq ha,λp np=> ?_⟩;have e1:(4:Int)+(k:Int)*5=((4 + 5*k:Nat):Int):=by omega
   have e2:(4:Int)+(k:Int)*5 + 5=((4 + 5*k + 5:Nat):Int):=by omega
   rw[e2,e1,Px];have s2:=au.new (o:=HO.lst (iv ((l.drop (4 + 5*k)).take 5))) np;refine⟨p,(l.drop (4 + 5*k)).take 5,rfl,bw.of ak,by rw[bo,bT];omega,λpg H3 s3 npg hgt=>kq _ H3 (s2.trans s3) ⟨pg,rfl,λz=> ?_,?_⟩⟩
   ·obtain⟨acc,e⟩:=RP;rw[z,s2 _ _ e] at npg;cases npg
   ·have g1:((l.drop (4 + 5*k)).take 5).getD 0 0=l.getD (4 + 5*k) 0:=by
     rw[ae,xO,if_pos (by decide),kG,ae];rfl
    have g2:bJ ((((l.drop (4 + 5*k)).take 5).drop 1).take 2)=Wqarav.two l (4 + 5*k + 1):=by
     unfold Wqarav.two;rw[vc,F2,gM];rfl
    have g3:bJ (((l.drop (4 + 5*k)).take 5).drop 3)=Wqarav.two l (4 + 5*k + 3):=by
     unfold Wqarav.two;rw[vc,gM]
    rw[g1,g2,g3] at hgt;exact hgt
  ·obtain⟨ts,t1,t2⟩:=jY (S:=λp r=>oj c H' p r) zs (Sb.uz l).gates (by rw[hz];show g=(Sb.lP l (Wqarav.two l 0) 4).length;rw[Sb.pD,hg]) λk z hkz=>by
    obtain⟨p,rfl,_,hp⟩:=uv k z hkz;have hk:k<g:=by rw[<-hz];exact(aD.mp hkz).1
    refine⟨p,_,rfl,?_,hp⟩;show(Sb.lP l (Wqarav.two l 0) 4)[k]? =_;rw[Sb.uW l _ _ _ (by rw[hg];exact hk)]
   have Na:=s0.trans hs;refine⟨_,rfl,_,rfl,_,rfl,_,rfl,a,_,rfl,Na.seq ha,λp3 SM=> ?_⟩;have e3:(4:Int)+ 5*(g:Int)=((4 + 5*g:Nat):Int):=by omega
   have c3:iw (iv l) (some (4 + 5*(g:Int))) none=iv (l.drop (4 + 5*g)):=by rw[e3,La]
   have s3:=au.new (o:=HO.lst (iw (iv l) (some (4 + 5*(g:Int))) none)) SM;refine⟨p3,l.drop (4 + 5*g),2,o,rfl,bw.of (by rw[<-c3];exact ak),by rw[bT];omega,by decide,by decide,by omega,λD4 H4 s4 nD4 Mm=> ?_⟩;rw[Sb.AM] at Mm;have GF:=Na.trans (s3.trans s4);have WN:=s3.trans s4;refine λx dx nx CB ne=>⟨x,dx,D,D4,rfl,ak,λH5 hx k5=>⟨rfl,?_⟩⟩;have s5:=au.made nx CB k5;refine q x H5 (GF.trans s5) (GF.free nx) ⟨dx,D,D4,hx,⟨ts,(WN.trans s5) _ _ (by rw[Gb,t1]),Paired.ja t2 λt r q=>oj.mono c _ _ t r q (WN.trans s5)⟩,?_⟩;show H5 D4=some (.lst (iv (Sb.qm l (Wqarav.two l 2) (4 + 5*Wqarav.two l 0))));rw[hg,ho];exact s5 _ _ Mm
inductive Ai(c:Cs)(K:ab)(vs:List V)(H:Hp)(Q:VK)(E:XK):Prop
 |mk (ca wa:Addr) (x:fT) (ws:List V):vs=[.ref ca,.ref wa]->k0 c H ca x->bw K H wa ws->(∀o∈x.outs,o<ws.length)->x.outs.length<=1000->(∀(p:Addr) (H':Hp),au H H'->H p=none->H' p=some (.lst (x.outs.map λo=>ws.getD o .fC))->Q (.ref p) H')->Ai c K vs H Q E
def AS(T:Txt K mg c):Callee P w K mg base "outs_of" 1 ["circuit","wires"] (Ai c K):=by
 exists T.MD.ok ["circuit","wires","out"]
 ·obtain⟨ca,wa,x,ws,rfl,⟨dx,ga,oa,h1,h2,h3⟩,hw,ho,hl,q⟩:=h;have big:=bI;refine⟨_,(aq (az (gR rfl nd (sI K (fld K (pv 0))) (own:=[("out",2)]) (cn rfl) (λ_ _ _ _ _=>(qn 2 nd)) (λ_ _ _ _ _=>cO) (λ_ _ _ _ _=>(gT K (pv 1) (pv 2)))))),?_⟩;refine⟨_,rfl,ca,c.Circuit,dx,_,_,rfl,h1,T.f6,T.iM,rfl,oa,rfl,⟨_,bw.of h3⟩,?_⟩;refine ff (K:=K) (a:=oa) (xs:=iv x.outs) (i:=2) (λn=>ws.getD (x.outs.getD n 0) .fC) (λ_ H2=>au H H2) (by rw[bR];omega) (au.refl H) (λ_ H2 D o h hD=>au.at' h hD) (λ_ H2 _ h=>h.seq (bw.of h3)) (λn y H2 Q' hy fX k=> ?_) (λD H2 wN fX hD=> ?_)
  ·obtain⟨z,hz,rfl⟩:=jT hy;have e:x.outs.getD n 0=z:=by rw[ae,hz];rfl
   have k2:=k H2 fX λ_ _ _ e=>e;rw[e] at k2;refine⟨_,rfl,_,rfl,wa,_,_,_,rfl,rfl,fX.seq hw,c8 ?_,k2⟩;rw[ae,af (ho z (aZ hz))];rfl
  ·refine q D H2 fX wN ?_;rw[hD,bR];congr 2;refine bW (by simp) λn a1 a2=> ?_;have hn:n<x.outs.length:=by simpa using a1
   simp[ae,af hn]
inductive vm(vs:List V)(H:Hp)(Q:VK)(E:XK):Prop
 |mk (k:Nat) (b1 b2:Bool):vs=[.int (k:Int),.int ((b1.toNat:Nat):Int),.int ((b2.toNat:Nat):Int)]->Q (.int (((k.testBit (b1.toNat + 2*b2.toNat)).toNat:Nat):Int)) H->vm vs H Q E
def EU(T:Txt K mg c):Callee P w K mg base "open_gate" 1 ["kind","first","second"] vm:=by
 exists T.HJ.ok ["kind","first","second"]
 ·obtain⟨k,b1,b2,rfl,q⟩:=h;refine⟨_,(aq (az (aM eW (aM Oh (pv 0) (aM cz (pv 1) (aM cP ay (pv 2)))) ay))),?_⟩;have e1:((b1.toNat:Nat):Int)+ 2*((b2.toNat:Nat):Int)=((b1.toNat + 2*b2.toNat:Nat):Int):=by rw[bh,bf];rfl
  refine⟨_,rfl,_,rfl,_,rfl,_,_,rfl,rfl,.inl ⟨by decide,by decide⟩,_,_,rfl,rfl,_,_,rfl,rfl,(by show(0:Int)<=((b1.toNat:Nat):Int)+ 2*((b2.toNat:Nat):Int);omega),_,_,rfl,rfl,(by show(0:Int)<2;decide),?_⟩;rw[Sb.xR] at q;have e2:(k:Int)/ 2^(((b1.toNat:Nat):Int)+ 2*((b2.toNat:Nat):Int)).toNat % 2=((k / 2^(b1.toNat + 2*b2.toNat)% 2:Nat):Int):=by
   rw[e1,bb,dn,cu,qP];rfl
  show Q (.int ((k:Int)/ 2^(((b1.toNat:Nat):Int)+ 2*((b2.toNat:Nat):Int)).toNat % 2)) H;rw[e2];exact q
inductive xW(c:Cs)(K:ab)(vs:List V)(H:Hp)(Q:VK)(E:XK):Prop
 |mk (ca ba:Addr) (x:fT) (bs:List Bool):vs=[.ref ca,.ref ba]->k0 c H ca x->bw K H ba (iv (bs.map xP))->Sb.Iy x bs.length->bs.length<=100->(∀(p:Addr) (H':Hp),au H H'->H p=none->H' p=some (.lst (iv (x.outs.map λi=>((dY x.gates bs).getD i false).toNat)))->Q (.ref p) H')->xW c K vs H Q E
def GW(T:Txt K mg c):Callee P w K mg base "run_open" 2 ["circuit","bits"] (xW c K):=by
 exists T.JO.ok ["circuit","bits","wires","gate"]
 ·obtain⟨ca,ba,x,bs,rfl,hC,hb,hw,hl,q⟩:=h;have big:=bI;have lg:=hw.lg;obtain⟨dx,ga,oa,h1,⟨ts,h2,hP⟩,h3⟩:=id hC;have Hl:ts.length=x.gates.length:=Paired.length hP;refine⟨_,(aj (bS 2 nd (kS (jU K) rfl T.rX boot_list (aa (pv 1) ai)))
   (aj (fD PassesOwn.never rfl (sI K (fld K (pv 0))) (qn 3 nd) (aq (fU (kP bH cT cS iR (pv 2) (aa (aF (EU T) hr (aa (fld K (pv 3)) (aa (gT K (pv 2) (fld K (pv 3))) (aa (gT K (pv 2) (fld K (pv 3))) ai)))) ai)))))
   (aq (az (aF (AS T) hr (aa (pv 0) (aa (pv 2) ai))))))),?_⟩
  refine⟨_,rfl,ba,_,rfl,.inl hb,λp np=> ?_⟩;have s0:=au.new (o:=HO.lst (iv (bs.map xP))) np;refine⟨_,rfl,ca,c.Circuit,dx,_,_,rfl,s0 _ _ h1,T.f6,T.eK,rfl,ga,rfl,⟨_,bw.of (s0 _ _ h2)⟩,?_⟩;refine jb (K:=K) (a:=ga) (xs:=ts.map V.ref) (λm σ H'=>au H H'/\H' p=some (.lst (iv ((dY (x.gates.take m) bs).map xP)))/\ ∃v,σ=[some (.ref ca),some (.ref ba),some (.ref p),v]) ⟨s0,ak,none,rfl⟩ (λm σ H' _ h=>h.1.seq (bw.of h2)) (λm y σ H' hy h=> ?_) (λσ H' h=> ?_)
  ·obtain⟨hs,hp,v,rfl⟩:=h;obtain⟨t,et,rfl⟩:=ju hy;obtain⟨g,eg,dg,hg⟩:=cX hP et;have Qe:=hs _ _ hg;have hm:m<x.gates.length:=(aD.mp eg).1;have Z5:(dY (x.gates.take m) bs).length=bs.length + m:=by rw[Sb.plain_len,bo];omega
   have Wh:=hw.a m g eg;have Wg:=hw.b m g eg;have rd: ∀i,i<bs.length + m->xH (iv ((dY (x.gates.take m) bs).map xP)) (i:Int)=some (V.int ((((dY (x.gates.take m) bs).getD i false).toNat:Nat):Int)):=λi hi=>by
    rw[PF (by rw[ag];omega),ae,aI,ae,af (by omega)];rfl
   refine⟨_,rfl,.inl ⟨rfl,_,bw.of hp⟩,_,rfl,t,c.Gate,dg,_,_,rfl,Qe,T.jJ,T.ma,rfl,_,rfl,_,rfl,t,c.Gate,dg,_,_,rfl,Qe,T.jJ,T.jy,rfl,p,_,_,_,rfl,rfl,bw.of hp,rd _ Wh,_,rfl,_,rfl,t,c.Gate,dg,_,_,rfl,Qe,T.jJ,T.i9,rfl,p,_,_,_,rfl,rfl,bw.of hp,rd _ Wg,g.kind,_,_,rfl,p,_,_,rfl,rfl,hp,by rw[bR,ag,Z5];omega,au.at' hs np,?_,_,rfl⟩;rw[ak,take_snoc eg,Sb.AG,bF,<-Br];rfl
  ·obtain⟨hs,hp,v,rfl⟩:=h;rw[ag,Hl,aU (aE _)] at hp;have Z5:(dY x.gates bs).length=bs.length + x.gates.length:=Sb.plain_len _ _;refine⟨_,rfl,_,rfl,ca,p,x,_,rfl,hC.mono hs,bw.of hp,λo ho=>by rw[bR,ag,Z5];exact hw.outs o ho,by have:=hw.lo;omega,λp2 H2 s2 zv uV=>q p2 H2 (hs.trans s2) (hs.free zv) ?_⟩;refine uV.trans (congrArg (λl=>some (HO.lst l)) ?_);show _=(x.outs.map λi=>((dY x.gates bs).getD i false).toNat).map λ(n:Nat)=>V.int (n:Int);rw[bP];refine cC λo ho=> ?_;have:=hw.outs o ho;rw[ae,iv,aI,aI,af (by omega)];show V.int _=V.int ((((dY x.gates bs).getD o false).toNat:Nat):Int);rw[ae,af (by omega)];rfl
theorem cQ.upd{c:Cs}{H:Hp}{a p:Addr}{s:ax}{ts:List Addr}{zs:List V}(h:cQ c H a s)(hs:s.a≠[])(hp:H p=some (.lst (ts.map V.ref))):cQ c (upd H p (.lst zs)) a s:=by
 obtain⟨dx,wa,h1,h2⟩:=h;refine⟨dx,wa,by rw[aJ (jw h1 hp (by intro z;cases z))];exact h1,?_⟩;have h3:=h2;rw[mQ] at h3;rw[aJ (Ku h3 hp (by simpa using hs))];exact h2
def Wf.ne{n:Nat}{s:ax}(h:Wf n s)(hn:1<=n):s.a≠[]:=λz=>by
 have:=h.len;rw[z] at this;have:(0:Nat)=n:=this;omega
def Jr{α β:Type}{F G:α->β->Prop}{a:List α}{b:List β}(h:Paired F a b)(hg: ∀x y,y∈b->F x y->G x y):Paired G a b:=by
 induction h with
 |nil=>exact .nil
 |cons x h ih=>exact .cons (hg _ _ (aY ..) x) (ih λx y hy=>hg x y (aK _ hy))
def Jp{c:Cs}{n:Nat}{H:Hp}{p q:Addr}{ts:List Addr}{ls:List ax}{s:ax}(hn:1<=n)(hp:H p=some (.lst (ts.map V.ref)))(hP:Paired (λt r=>cQ c H t r) ts ls)(hw: ∀s∈ls,Wf n s)(hs:cQ c H q s)(Qa:Wf n s):
  dS (upd H p (.lst (ts.map V.ref++[V.ref q]))) p (cQ c) (ls++[s]):=by
 refine⟨ts++[q],by rw[ak,bF];rfl,?_⟩;refine mI (Jr hP λt r hr q=> ?_) (.cons (hs.upd (Qa.ne hn) hp) .nil);exact cQ.upd q ((hw r hr).ne hn) hp
inductive vw(c:Cs)(K:ab)(vs:List V)(H:Hp)(Q:VK)(E:XK):Prop
 |mk (a:Addr) (f:aB):vs=[.ref a]->dU c K H a f->Q (.bl (decide (3<f.p))) H->vw c K vs H Q E
def vQ(T:Txt K mg c):Callee P w K mg base "has_gates" 1 ["form"] (vw c K):=by
 exists T.HQ.ok ["form"]
 ·obtain⟨a,f,rfl,⟨dx,na,hf,hn⟩,q⟩:=h;refine⟨_,(aq (az (jf rk (fld K (pv 0)) ay (dC _)))),?_⟩;refine⟨_,rfl,a,c.Form,dx,_,_,rfl,hf,T.bc,T.eY,rfl,_,_,rfl,rfl,?_⟩;have e:decide (3<f.p)=decide ((f.p:Int)> 3):=decide_eq_decide.mpr ⟨λh=>by omega,λh=>by omega⟩;rw[e] at q;exact q
inductive ug(c:Cs)(K:ab)(vs:List V)(H:Hp)(Q:VK)(E:XK):Prop
 |mk (a:Addr) (f:aB) (k:Nat):vs=[.ref a,.int (k:Int)]->dU c K H a f->Small f->(∀(p:Addr) (H':Hp),au H H'->H p=none->H' p=some (.lst (iv (eQ f.p k)))->Q (.ref p) H')->ug c K vs H Q E
def ur(T:Txt K mg c):Callee P w K mg base "gate_table" 1 ["form","kind"] (ug c K):=by
 exists T.Fq.ok ["form","kind","place"]
 ·obtain⟨a,f,kd,rfl,⟨dx,na,hf,hn⟩,hS,q⟩:=h;have big:=bI;have p8:=hS.p8;refine⟨_,(aq (az (gR rfl nd (fh rfl T.gj (aa (fld K (pv 0)) ai)) (own:=[("place",2)]) (cn rfl) (λ_ _ _ _ _=>(qn 2 nd)) (λ_ _ _ _ _=>cO) (λ_ _ _ _ _=>(AI (eh yn (pv 2) ay (dC _)) (aM eW (aM Oh (pv 1) (pv 2)) ay) ay))))),?_⟩;refine⟨_,rfl,a,c.Form,dx,_,_,rfl,hf,T.bc,T.eY,rfl,(f.p:Int),rfl,by omega,by omega,?_⟩;rw[bb];refine kW (i:=2) (λt=>V.int ((if t<4/\kd.testBit t=true then 1 else 0:Nat):Int)) (λ_ H'=>au H H') (by omega) (au.refl H) (λ_ H' D o h hD=>au.at' h hD) (λn H' Q' XA h k=> ?_) (λD H' hD h Mn=> ?_)
  ·have k2:=k H' h λ_ _ _ e=>e;exists 23
   ·have hc:(0:Int)+(n:Int)<4:=of_decide_eq_true hc;have e:(kd:Int)/ 2^((0:Int)+(n:Int)).toNat % 2=((if n<4/\kd.testBit n=true then 1 else 0:Nat):Int):=by
     rw[gC,bb,<-qP];have e2:((kd:Int)/((2^n:Nat):Int)% 2)=((kd / 2^n % 2:Nat):Int):=by rw[dn,cu];rfl
     rw[e2,<-Sb.xR];cases kd.testBit n with
     |true=>rw[if_pos ⟨by omega,rfl⟩];rfl
     |false=>rw[if_neg (λz=>by cases z.2)];rfl
    refine⟨_,rfl,_,rfl,_,_,rfl,rfl,(by show(0:Int)<=0 +(n:Int);omega),_,_,rfl,rfl,(by show(0:Int)<2;decide),?_⟩;rw[<-e] at k2;exact k2
   ·have hc: ¬(0:Int)+(n:Int)<4:=λz=>hc (decide_eq_true z);rw[if_neg (λz=>by omega)] at k2;exact k2
  ·refine q D H' h hD ?_;rw[Mn,eQ,iv,bP];rfl
inductive nu(c:Cs)(K:ab)(vs:List V)(H:Hp)(Q:VK)(E:XK):Prop
 |mk (fa ca ba:Addr) (f:aB) (x:fT) (bs:List Nat):vs=[.ref fa,.ref ca,.ref ba]->dU c K H fa f->Good f->k0 c H ca x->bw K H ba (iv bs)->Sb.Iy x bs.length->bs.length<=100->(∀b∈bs,b<=32768)->(∀H',au H H'->Q (.bl (Sb.lj f x.gates bs)) H')->nu c K vs H Q E
def vR(T:Txt K mg c):Callee P w K mg base "gates_are_sure" 5 ["form","circuit","bounds"] (nu c K):=by
 exists T.xw.ok ["form","circuit","bounds","wires","gate"]
 ·obtain⟨fa,ca,ba,f,x,bs,rfl,hF,hG,hC,hb,hw,hl,hbb,q⟩:=h;have big:=bI;have lg:=hw.lg;obtain⟨aw,Nc,hT⟩:=T.wX;obtain⟨dx,ga,oa,h1,⟨ts,h2,hP⟩,h3⟩:=id hC;have Hl:ts.length=x.gates.length:=Paired.length hP;refine⟨_,(aj (bS 3 nd (kS (jU K) rfl T.rX boot_list (aa (pv 2) ai)))
   (aj (fD PassesOwn.never rfl (sI K (fld K (pv 1))) (qn 4 nd) (aj (cD (d6 (dB (aF (uQ T) hr (aa (pv 0) (aa (aF (nA T) hr (aa (cx (aa (gT K (pv 3) (fld K (pv 4))) (aa (gT K (pv 3) (fld K (pv 4))) ai))) (aa (qr Nc) ai))) ai))))) (aq (az Of)) bA)
   (aq (fU (kP bH cT cS iR (pv 3) (aa (aF (uq T) hr (aa (pv 0) ai)) ai))))))
   (aq (az Of)))),?_⟩
  refine⟨_,rfl,ba,_,rfl,.inl hb,λp np=> ?_⟩;have s0:=au.new (o:=HO.lst (iv bs)) np;refine⟨_,rfl,ca,c.Circuit,dx,_,_,rfl,s0 _ _ h1,T.f6,T.eK,rfl,ga,rfl,⟨_,bw.of (s0 _ _ h2)⟩,?_⟩;refine jb (K:=K) (a:=ga) (xs:=ts.map V.ref) (λm σ H'=>au H H'/\ ∃(C7:List Nat) (v:Option V),H' p=some (.lst (iv C7))/\C7.length=bs.length + m/\(∀b∈C7,b<=32768)/\Sb.lj f x.gates bs=Sb.lj f (x.gates.drop m) C7/\σ=[some (.ref fa),some (.ref ca),some (.ref ba),some (.ref p),v]) ⟨s0,bs,none,ak,rfl,hbb,rfl,rfl⟩ (λm σ H' _ h=>h.1.seq (bw.of h2)) (λm y σ H' hy h=> ?_) (λσ H' h=> ?_)
  ·obtain⟨hs,C7,v,hp,RM,Ng,he,rfl⟩:=h;obtain⟨t,et,rfl⟩:=ju hy;obtain⟨g,eg,dg,hg⟩:=cX hP et;have Qe:=hs _ _ hg;have hm:m<x.gates.length:=(aD.mp eg).1;have Wh:=hw.a m g eg;have Wg:=hw.b m g eg;have ed:x.gates.drop m=g::x.gates.drop (m + 1):=by
    rw[fG hm];rw[af hm] at eg;rw[ao eg]
   have e1:Sb.lj f (g::x.gates.drop (m + 1)) C7=if gu f (min bZ (C7.getD g.a bZ + 2*C7.getD g.b bZ))=true then Sb.lj f (x.gates.drop (m + 1)) (C7++[min bZ (fo f)]) else false:=rfl;rw[ed,e1] at he;have rd: ∀i,i<bs.length + m->C7[i]? =some (C7.getD i bZ):=λi hi=>by rw[ae,af (by omega)];rfl
   have xa:C7.getD g.a bZ<=32768:=Ng _ (aZ (rd _ Wh));have xb:C7.getD g.b bZ<=32768:=Ng _ (aZ (rd _ Wg));have ra:xH (iv C7) (g.a:Int)=some (V.int ((C7.getD g.a bZ:Nat):Int)):=c8 (by rw[iv,aI,rd _ Wh];rfl);have rb:xH (iv C7) (g.b:Int)=some (V.int ((C7.getD g.b bZ:Nat):Int)):=c8 (by rw[iv,aI,rd _ Wg];rfl);generalize C7.getD g.a bZ=ya at he xa ra;generalize C7.getD g.b bZ=yb at he xb rb;refine⟨_,rfl,_,rfl,_,rfl,t,c.Gate,dg,_,_,rfl,Qe,T.jJ,T.jy,rfl,p,_,_,_,rfl,rfl,bw.of hp,ra,_,rfl,_,rfl,t,c.Gate,dg,_,_,rfl,Qe,T.jJ,T.i9,rfl,p,_,_,_,rfl,rfl,bw.of hp,rb,(by show 2<=sizeLine;omega),λL nL=> ?_⟩;have sL:=au.new (o:=HO.lst [.int (ya:Int),.int (yb:Int)]) nL;refine⟨L,aw,[ya,yb],[1,2],ya + 2*yb,rfl,bw.of ak,.inr (hT _),rfl,(by show 2<=1000;decide),λz hz=> ?_,?_,λH3 s3=> ?_⟩
   ·simp at hz;rcases hz with rfl|rfl <;> assumption
   ·show((ya + 2*yb:Nat):Int)=(ya:Int)*1 +((yb:Int)*2 + 0);omega
   have wM:=sL.trans s3;refine⟨fa,f,_,rfl,hF.mono (hs.trans wM),hG.toSmall,_,rfl,?_⟩;cases S1:gu f (min bZ (ya + 2*yb)) with
   |false=>
    rw[S1,if_neg (by decide)] at he;have q':=q H3 (hs.trans wM);rw[he] at q';exact cY q'
   |true=>
    rw[S1,if_pos rfl] at he;refine dJ ⟨_,rfl,.inl ⟨rfl,_,bw.of (wM _ _ hp)⟩,_,rfl,fa,f,rfl,hF.mono (hs.trans wM),hG,p,_,_,rfl,rfl,wM _ _ hp,by rw[bR];omega,au.at' (hs.trans wM) np,C7++[min bZ (fo f)],_,?_,by rw[aP,RM];show bs.length + m + 1=_;omega,λb RN=> ?_,he,rfl⟩
    ·rw[ak,<-Br];rfl
    ·rcases cJ.mp RN with RN|RN
     ·exact Ng b RN
     ·rw[br.mp RN];exact Ey ..
  ·obtain⟨hs,C7,v,hp,RM,Ng,he,rfl⟩:=h;rw[ag,Hl,cK (aE _)] at he;have q':=q H' hs;rw[he] at q';exact q'
inductive tY(c:Cs)(K:ab)(vs:List V)(H:Hp)(Q:VK)(E:XK):Prop
 |mk (pa ca sa:Addr) (k:cW) (x:fT) (ls:List ax):vs=[.ref pa,.ref ca,.ref sa]->iq c K H pa k->iS k->k0 c H ca x->dS H sa (cQ c) ls->(∀s∈ls,Wf k.form.n s)->Sb.Iy x ls.length->ls.length<=100->(∀(D:Addr) (H':Hp),au H H'->H D=none->dS H' D (cQ c) (x.outs.map λi=>(Sb.j8 k x.gates ls).getD i Sb.dI)->Q (.ref D) H')->tY c K vs H Q E
def Fc{k:cW}(h:iS k)(kd:Nat)(x y:ax):Wf k.form.n (Kf k kd x y):=Kt h _ _
def Cm(T:Txt K mg c):Callee P w K mg base "run_sealed" 7 ["part","circuit","seals"] (tY c K):=by
 exists T.Ff.ok ["part","circuit","seals","wires","gate","total"]
 ·obtain⟨pa,ca,sa,k,x,ls,rfl,Wc,hW,hC,⟨us,hu1,Y1⟩,Mb,hw,hl,q⟩:=h;have big:=bI;have lg:=hw.lg;have hG:=hW.good;have n1:=hG.n1;have n4:=hG.n4;obtain⟨aw,Nc,hT⟩:=T.wX;obtain⟨dx,ga,oa,h1,⟨ts,h2,hP⟩,h3⟩:=id hC;obtain⟨qu,fa,pp,ra,g1,g2,g3,g4⟩:=id Wc;have Hl:ts.length=x.gates.length:=Paired.length hP;have Oz:us.length=ls.length:=Paired.length Y1;refine⟨_,(aj (bS 3 nd (kS (jU K) rfl T.rX boot_list (aa (pv 2) ai)))
   (aj (fD PassesOwn.never rfl (sI K (fld K (pv 1))) (qn 4 nd) (aj (bS 5 nd (aF (rq T) hr (aa (cx (aa (gT K (pv 3) (fld K (pv 4))) (aa (gT K (pv 3) (fld K (pv 4))) ai))) (aa (qr Nc) ai))))
   (aq (fU (kP bH cT cS iR (pv 3) (aa (aF (oI T) hr (aa (pv 0) (aa (pv 5) (aa (aF (ur T) hr (aa (fld K (pv 0)) (aa (fld K (pv 4)) ai))) ai)))) ai))))))
   (aq (az (aF (AS T) hr (aa (pv 1) (aa (pv 3) ai))))))),?_⟩
  refine⟨_,rfl,sa,_,rfl,.inl (bw.of hu1),λp np=> ?_⟩;have s0:=au.new (o:=HO.lst (us.map V.ref)) np;refine⟨_,rfl,ca,c.Circuit,dx,_,_,rfl,s0 _ _ h1,T.f6,T.eK,rfl,ga,rfl,⟨_,bw.of (s0 _ _ h2)⟩,?_⟩;refine jb (K:=K) (a:=ga) (xs:=ts.map V.ref) (λm σ H'=>au H H'/\dS H' p (cQ c) (Sb.j8 k (x.gates.take m) ls)/\(∀s∈Sb.j8 k (x.gates.take m) ls,Wf k.form.n s)/\ ∃v y,σ=[some (.ref pa),some (.ref ca),some (.ref sa),some (.ref p),v,y]) ⟨s0,⟨us,ak,Paired.ja Y1 λt r q=>q.mono s0⟩,Mb,none,none,rfl⟩ (λm σ H' _ h=>h.1.seq (bw.of h2)) (λm y σ H' hy h=> ?_) (λσ H' h=> ?_)
  ·obtain⟨hs,⟨ws,hp,Qa⟩,VT,v,y0,rfl⟩:=h;obtain⟨t,et,rfl⟩:=ju hy;obtain⟨g,eg,dg,hg⟩:=cX hP et;have Qe:=hs _ _ hg;have hm:m<x.gates.length:=(aD.mp eg).1;have Wh:=hw.a m g eg;have Wg:=hw.b m g eg;have Rk:(Sb.j8 k (x.gates.take m) ls).length=ls.length + m:=by rw[Sb.zq,bo];omega
   have Z4:ws.length=ls.length + m:=by rw[Paired.length Qa,Rk]
   have abr:Sb.j8 k (x.gates.take (m + 1)) ls=Sb.j8 k (x.gates.take m) ls++[Kf k g.kind ((Sb.j8 k (x.gates.take m) ls).getD g.a Sb.dI) ((Sb.j8 k (x.gates.take m) ls).getD g.b Sb.dI)]:=by
    rw[take_snoc eg,Sb.GH]
   rw[abr];generalize Sb.j8 k (x.gates.take m) ls=run at Qa VT Rk;have rd: ∀i,i<ls.length + m-> ∃u,ws[i]? =some u/\cQ c H' u (run.getD i Sb.dI)/\Wf k.form.n (run.getD i Sb.dI):=λi hi=>by
    obtain⟨u,hu⟩: ∃u,ws[i]? =some u:=⟨ws[i]'(by omega),af _⟩;obtain⟨r,er,hr⟩:=cX Qa hu;have e:run.getD i Sb.dI=r:=by rw[ae,er];rfl
    rw[e];exact⟨u,hu,hr,VT r (aZ er)⟩
   obtain⟨ua,eua,sua,wua⟩:=rd _ Wh;obtain⟨ub,eub,sub,wub⟩:=rd _ Wg;generalize run.getD g.a Sb.dI=ya at sua wua;generalize run.getD g.b Sb.dI=yb at sub wub;have QR:xH (ws.map V.ref) (g.a:Int)=some (V.ref ua):=c8 (by rw[aI,eua];rfl);have rb':xH (ws.map V.ref) (g.b:Int)=some (V.ref ub):=c8 (by rw[aI,eub];rfl);refine⟨_,rfl,_,rfl,t,c.Gate,dg,_,_,rfl,Qe,T.jJ,T.jy,rfl,p,_,_,_,rfl,rfl,bw.of hp,QR,_,rfl,_,rfl,t,c.Gate,dg,_,_,rfl,Qe,T.jJ,T.i9,rfl,p,_,_,_,rfl,rfl,bw.of hp,rb',(by show 2<=sizeLine;omega),λL nL=> ?_⟩;have sL:=au.new (o:=HO.lst [.ref ua,.ref ub]) nL;refine⟨L,aw,[ya,yb],[1,2],k.form.n,rfl,⟨[ua,ub],ak,.cons (sua.mono sL) (.cons (sub.mono sL) .nil)⟩,.inr (hT _),rfl,by simp,(by show 2<=1000;decide),λz hz=> ?_,n4,λp3 H3 s3 SM Wa=> ?_⟩
   ·simp at hz;rcases hz with rfl|rfl <;> assumption
   have wM:=sL.trans s3;have mq:=hs.trans wM;have Zo:Wf k.form.n (bO k.form.n (([1,2]:List Int).zip [ya,yb])):=by
    have:=Sb.vW k.form.n (([1,2]:List Int).zip [ya,yb]);exact⟨this.1,this.2.1,this.2.2.1,this.2.2.2⟩
   refine⟨_,rfl,.inl ⟨rfl,_,bw.of (wM _ _ hp)⟩,_,rfl,_,rfl,_,rfl,pa,c.cB,qu,_,_,rfl,mq _ _ g1,T.bY,T.bK,rfl,_,rfl,t,c.Gate,dg,_,_,rfl,wM _ _ Qe,T.jJ,T.ma,rfl,fa,k.form,g.kind,rfl,g2.mono mq,hG.toSmall,λp4 H4 s4 II Md=> ?_⟩;refine⟨pa,p3,p4,k,bO k.form.n (([1,2]:List Int).zip [ya,yb]),eQ k.form.p g.kind,rfl,Wc.mono (mq.trans s4),hW,Wa.mono s4,Zo,Md,by simp[eQ],λp5 H5 s5 Rh hS5=> ?_⟩;have YN:=wM.trans (s4.trans s5);refine⟨p,_,_,rfl,rfl,YN _ _ hp,by rw[ag,Z4];omega,au.at' (hs.trans YN) np,?_,λz hz=> ?_,_,_,rfl⟩
   ·exact Jp n1 (YN _ _ hp) (Paired.ja Qa λt r q=>q.mono YN) VT hS5 (Fc hW _ _ _)
   ·rcases cJ.mp hz with hz|hz
    ·exact VT z hz
    ·rw[br.mp hz];exact Fc hW _ _ _
  ·obtain⟨hs,⟨ws,hp,Qa⟩,VT,v,y0,rfl⟩:=h;rw[ag,Hl,aU (aE _)] at Qa VT;have Rk:(Sb.j8 k x.gates ls).length=ls.length + x.gates.length:=Sb.zq _ _ _;have Z4:ws.length=ls.length + x.gates.length:=by rw[Paired.length Qa,Rk]
   refine⟨_,rfl,_,rfl,ca,p,x,_,rfl,hC.mono hs,bw.of hp,λo ho=>by rw[ag,Z4];exact hw.outs o ho,by have:=hw.lo;omega,λp2 H2 s2 zv uV=>q p2 H2 (hs.trans s2) (hs.free zv) ⟨x.outs.map λo=>ws.getD o 0,?_,?_⟩⟩
   ·rw[uV,bP];congr 2;refine cC λo ho=> ?_;have:=hw.outs o ho;show(ws.map V.ref).getD o .fC=V.ref (ws.getD o 0);rw[ae,aI,ae,af (by omega)];rfl
   ·have go: ∀os:List Nat,(∀o∈os,o<ls.length + x.gates.length)->Paired (λt r=>cQ c H2 t r) (os.map λo=>ws.getD o 0) (os.map λi=>(Sb.j8 k x.gates ls).getD i Sb.dI):=by
     intro os
     induction os with
     |nil=>intro _;exact .nil
     |cons o r ih=>
      intro h;refine .cons ?_ (ih λz hz=>h z (aK _ hz));have ho:=h o (aY ..);obtain⟨u,hu⟩: ∃u,ws[o]? =some u:=⟨ws[o]'(by omega),af _⟩;obtain⟨rr,er,hr⟩:=cX Qa hu;have e1:(Sb.j8 k x.gates ls).getD o Sb.dI=rr:=by rw[ae,er];rfl
      have e2:ws.getD o 0=u:=by rw[ae,hu];rfl
      dsimp only;rw[e1,e2];exact hr.mono s2
    exact go x.outs hw.outs
def hU.put{M:List Addr}{H H2 H3 H4:Hp}{b d p:Addr}{m:fS}{Q:V->Hp->Prop}(q:hU c K M H b d m Q)(hb:b∈M)(hd:d∈M)(s2:au H H2)(Mo:eN c K (cf M H2) H3 b d m.1)(k3:jE [b,d] H2 H3)(s4:au H3 H4)(np:H3 p=none)(hp:H4 p=some (.lst (zm m.2))):Q (.ref p) H4:=by
 obtain⟨RY,pa3,sv3,mo3,kv3,t1,t2,t3,t4,t5,t6⟩:=Mo.obj;have VY:p≠b:=λz=>by rw[z,t1] at np;cases np
 have S6:p≠d:=λz=>by rw[z,t5] at np;cases np
 have kK:H p=none:=by
  cases e:H p with
  |none=>rfl
  |some o=>rw[k3 p o (s2 _ _ e) (by simp[VY,S6])] at np;cases np
 refine q p H4 (λy o e hy=>s4 _ _ (k3 y o (s2 _ _ e) hy)) kK hp (Mo.mono (λy o e=> ?_) (by rw[t1];exact s4 _ _ t1) (by rw[t5];exact s4 _ _ t5));obtain⟨y1,y2⟩:=lI e;rw[cV y1];exact s4 _ _ (k3 y o y2 λz=>by
  simp at z;rcases z with z|z
  ·exact y1 (by rw[z];exact hb)
  ·exact y1 (by rw[z];exact hd))
inductive Aj(c:Cs)(K:ab)(vs:List V)(H:Hp)(Q:VK)(E:XK):Prop
 |mk (Hi:Hp) (b d:Addr) (bx:a9) (m:Nat):vs=[.ref b,.int (m:Int)]->eN c K Hi H b d bx->Q (.bl (decide (m=0)||bx.may m)) H->Aj c K vs H Q E
def AU(T:Txt K mg c):Callee P w K mg base "may_use" 1 ["box","many"] (Aj c K):=by
 exists T.ME.ok ["box","many"]
 ·obtain⟨Hi,b,d,bx,n,rfl,⟨⟨dx,pa,sv,m,bE,h1,h2,h3,h4,h5,h6⟩,hw⟩,q⟩:=h;refine⟨_,(aq (az (SH (jf Oi (pv 1) ay (dC _)) (SH (w4 (jo (fld K (pv 0)))) (ER (jf oH (aM cz (fld K (pv 0)) (pv 1)) (fld K (pv 0)) (dC _))))))),?_⟩;refine⟨_,rfl,rfl,_,rfl,?_⟩;have e0:decide (V.int (n:Int)=V.int 0)=decide (n=0):=decide_eq_decide.mpr ⟨λh=>by injection h with h;omega,λh=>by rw[h];rfl⟩;rw[e0];by_cases hn:n=0
  ·rw[decide_eq_true hn] at q ⊢;exact cY q
  ·rw[decide_eq_false hn,IH] at q;rw[decide_eq_false hn];refine dJ ⟨_,rfl,b,c.Box,dx,_,_,rfl,h1,T.cE,T.lG,rfl,_,rfl,?_⟩;unfold Wqarav.Box.may at q;cases hc:bx.cap with
   |none=>
    rw[hc] at h4 q;have e:m= .fC:=h4;subst e;exact cY q
   |some k=>
    rw[hc] at h4 q;have e:m= .int (k:Int):=h4;subst e;dsimp only at q;have e1:decide (bx.uses + n<=k)=decide ((bx.uses:Int)+(n:Int)<=(k:Int)):=decide_eq_decide.mpr ⟨λh=>by omega,λh=>by omega⟩;rw[e1] at q;exact dJ ⟨_,rfl,b,c.Box,dx,_,_,rfl,h1,T.cE,T.iB,rfl,_,rfl,_,_,rfl,rfl,_,rfl,b,c.Box,dx,_,_,rfl,h1,T.cE,T.lG,rfl,_,_,rfl,rfl,q⟩
theorem xI{Hi:Hp}{n:Nat}{bE:List (Key×V)}{bx:a9}(S:iX c Hi n bE bx.seals): ∀hs:List Nat,
  ((hs.map λ(h:Nat)=>(fL bE (bQ (h:Int))).isSome).all id=false/\bx.all hs=none)\/
  ((hs.map λ(h:Nat)=>(fL bE (bQ (h:Int))).isSome).all id=true/\ ∃(ls:List ax) (ts:List Addr),bx.all hs=some ls/\ls.length=hs.length/\(hs.map λ(h:Nat)=>(fL bE (bQ (h:Int))).getD .fC)=ts.map V.ref/\Paired (λt r=>cQ c Hi t r) ts ls/\ ∀s∈ls,Wf n s)
 | []=> .inr ⟨rfl,[],[],rfl,rfl,rfl,.nil,λs hs=>by simp at hs⟩
 |h::r=>by
  rcases ij S h with⟨e1,e2⟩|⟨s,sa,e1,hw,e2,hs⟩
  ·exact .inl ⟨by rw[bB,pU,e2];rfl,Sb.uD e1⟩
  ·rcases xI S r with⟨a1,a2⟩|⟨a1,ls,ts,a2,a3,a4,a5,a6⟩
   ·exact .inl ⟨by rw[bB,pU,e2,a1];rfl,Sb.B7 a2⟩
   ·refine .inr ⟨by rw[bB,pU,e2,a1];rfl,s::ls,sa::ts,Sb.uC e1 a2,by rw[bV,a3,bV],by rw[bB,e2,a4];rfl,.cons hs a5,λz hz=> ?_⟩;rcases aA.mp hz with rfl|hz
    ·exact hw
    ·exact a6 z hz
inductive xV(c:Cs)(K:ab)(vs:List V)(H:Hp)(Q:VK)(E:XK):Prop
 |mk (Hi:Hp) (b d pl:Addr) (bx:a9) (hs:List Nat):vs=[.ref b,.ref pl]->eN c K Hi H b d bx->bw K H pl (iv hs)->hs.length<=10000->(bx.all hs=none-> ∀H',au H H'->Q .fC H')->(∀(ls:List ax) (ts:List Addr) (D:Addr) (H':Hp),bx.all hs=some ls->ls.length=hs.length->(∀s∈ls,Wf bx.work.form.n s)->au H H'->H D=none->H' D=some (.lst (ts.map V.ref))->Paired (λt r=>cQ c Hi t r) ts ls->Q (.ref D) H')->xV c K vs H Q E
def rn(T:Txt K mg c):Callee P w K mg base "seals_at" 1 ["box","places"] (xV c K):=by
 exists T.JN.ok ["box","places","place"]
 ·obtain⟨Hi,b,d,pl,bx,hs,rfl,⟨⟨dx,pa,sv,m,bE,h1,h2,h3,h4,h5,h6⟩,hw⟩,hp,hl,q0,q1⟩:=h;have hu:=rJ hr;have big:=bI;refine⟨_,(aj (cD (d6 (dB (bX (oT rfl) rfl T.Io boot_all (aa (gR rfl nd (sI K (pv 1)) (own:=[("place",2)]) (cn rfl) (λ_ _ _ _ _=>(qn 2 nd)) (λ_ _ _ _ _=>cO) (λ_ _ _ _ _=>(w4 (Og hu (pv 2) (fld K (pv 0)))))) ai)))) (aq (az pj)) bA)
   (aq (az (gR rfl nd (sI K (pv 1)) (own:=[("place",2)]) (cn rfl) (λ_ _ _ _ _=>(qn 2 nd)) (λ_ _ _ _ _=>cO) (λ_ _ _ _ _=>(Q4 hu (fld K (pv 0)) (pv 2) (λ_ _=>rfl))))))),?_⟩
  refine⟨_,rfl,pl,rfl,⟨_,hp⟩,?_⟩;refine ff (K:=K) (a:=pl) (xs:=iv hs) (i:=2) (λn=>V.bl (fL bE (bQ ((hs.getD n 0:Nat):Int))).isSome) (λ_ H2=>au H H2) (by rw[bR];omega) (au.refl H) (λ_ H2 D o h hD=>au.at' h hD) (λ_ H2 _ h=>h.seq hp) (λn x H2 Q' hx fX k=> ?_) (λD H2 wN fX hD=> ?_)
  ·obtain⟨z,hz,rfl⟩:=jT hx;have e:hs.getD n 0=z:=by rw[ae,hz];rfl
   have k2:=k H2 fX λ_ _ _ e=>e;rw[e] at k2;exact⟨_,rfl,_,rfl,b,c.Box,dx,_,_,rfl,fX _ _ h1,T.cE,T.cZ,rfl,d,_,rfl,ng.k (k:=bQ (z:Int)) (fX _ _ h5),k2⟩
  ·have e:(List.range (iv hs).length).map (λn=>V.bl (fL bE (bQ ((hs.getD n 0:Nat):Int))).isSome)=(hs.map λ(h:Nat)=>(fL bE (bQ (h:Int))).isSome).map V.bl:=by
    rw[bR,bP];refine bW (by simp) λn a1 a2=> ?_;have hn:n<hs.length:=by simpa using a1
    simp[ae,af hn]
   rw[e] at hD;refine⟨D,_,rfl,bw.of hD,_,rfl,?_⟩;rcases xI h6 hs with⟨a1,a2⟩|⟨a1,ls,ts,a2,a3,a4,a5,a6⟩
   ·rw[a1];exact cY (q0 a2 H2 fX)
   ·rw[a1];refine dJ ⟨_,rfl,pl,rfl,⟨_,fX.seq hp⟩,?_⟩;have there: ∀n z,hs[n]? =some z-> ∃v,fL bE (bQ ((z:Nat):Int))=some v:=λn z hz=>by
     have:((hs.map λ(h:Nat)=>(fL bE (bQ (h:Int))).isSome)).all id=true:=a1;rw[sh] at this;have t:=gI.mp this z (aZ hz);exact oZ.mp t
    refine ff (K:=K) (a:=pl) (xs:=iv hs) (i:=2) (λn=>(fL bE (bQ ((hs.getD n 0:Nat):Int))).getD .fC) (λ_ H3=>au H2 H3) (by rw[bR];omega) (au.refl H2) (λ_ H3 D o h hD=>au.at' h hD) (λ_ H3 _ h=>h.seq (fX.seq hp)) (λn x H3 Q' hx D0 k=> ?_) (λD3 H3 XY D0 Tf=> ?_)
    ·obtain⟨z,hz,rfl⟩:=jT hx;obtain⟨v,hv⟩:=there n z hz;have e:hs.getD n 0=z:=by rw[ae,hz];rfl
     have k2:=k H3 D0 λ_ _ _ e=>e;rw[e,hv] at k2;have mq:=fX.trans D0;have hg:=ng.k (k:=bQ (z:Int)) (mq _ _ h5);rw[hv] at hg;exact⟨_,rfl,b,c.Box,dx,_,_,rfl,mq _ _ h1,T.cE,T.cZ,rfl,_,rfl,d,v,rfl,hg,k2⟩
    ·have e3:(List.range (iv hs).length).map (λn=>(fL bE (bQ ((hs.getD n 0:Nat):Int))).getD .fC)=ts.map V.ref:=by
      rw[<-a4,bR];refine bW (by simp) λn a1 a2=> ?_;have hn:n<hs.length:=by simpa using a1
      simp[ae,af hn]
     rw[e3] at Tf;exact q1 ls ts D3 H3 a2 a3 a6 (fX.trans D0) (fX.free XY) Tf a5
inductive vk(c:Cs)(K:ab)(vs:List V)(H:Hp)(Q:VK)(E:XK):Prop
 |mk (Hi:Hp) (b d sa:Addr) (bx:a9) (ts:List Addr) (ls:List ax):vs=[.ref b,.ref sa]->eN c K Hi H b d bx->H sa=some (.lst (ts.map V.ref))->Paired (λt r=>cQ c Hi t r) ts ls->(∀s∈ls,Wf bx.work.form.n s)->ls.length<=bx.free->(∀(p:Addr) (H':Hp),eN c K Hi H' b d (bx.putAll ls).1->cg d H H'->H p=none->H' p=some (.lst (iv (bx.putAll ls).2))->Q (.ref p) H')->vk c K vs H Q E
def vO(T:Txt K mg c):Callee P w K mg base "put_seals" 2 ["box","seals"] (vk c K):=by
 exists T.HH.ok ["box","seals","seal"]
 ·obtain⟨Hi,b,d,sa,bx,ts,ls,rfl,hB,ha,hP,hw,Mg,q⟩:=h;have big:=bI;obtain⟨dx,pa,sv,m,bE,h1,h2,h3,h4,h5,h6⟩:=hB.obj;have hlen:ts.length=ls.length:=Paired.length hP;have XF:bx.free<=32:=by rw[free_eq bx h6.len];omega
  have had:sa≠d:=jw ha h5 (by intro z;cases z);refine⟨_,(aq (az (gR rfl nd (sI K (pv 1)) (own:=[("seal",2)]) (cn rfl) (λ_ _ _ _ _=>(qn 2 nd)) (λ_ _ _ _ _=>cO) (λ_ _ _ _ _=>(aF (jZ T) hr (aa (pv 0) (aa (pv 2) ai))))))),?_⟩;refine⟨_,rfl,sa,rfl,⟨_,bw.of ha⟩,?_⟩;refine ff (K:=K) (a:=sa) (xs:=ts.map V.ref) (i:=2) (λn=>V.int (((bx.putAll ls).2.getD n 0:Nat):Int)) (λn H2=>eN c K Hi H2 b d (bx.putAll (ls.take n)).1/\cg d H H2) (by rw[ag];omega) ⟨hB,λ_ _ e _=>e⟩ (λn H2 D o h hD=> ?_) (λn H2 _ h=>bw.of (h.2 _ _ ha had)) (λn x H2 Q' hx h k=> ?_) (λD H2 wN h hD=> ?_)
  ·have hDb:b≠D:=aO h1 hD;have hDd:d≠D:=aO h5 hD;exact⟨h.1.mono (au.refl Hi) (aJ hDb) (aJ hDd),λy u e hy=>by rw[aJ (aO e hD)];exact h.2 y u e hy⟩
  ·obtain⟨Mp,k2⟩:=h;obtain⟨t,et,rfl⟩:=ju hx;obtain⟨s,es,hs⟩:=cX hP et;obtain⟨hh,f1,f2,f3⟩:=Sb.LH bx ls Mg es;have ew:=Sb.yk (ls.take n) bx;refine⟨_,rfl,_,rfl,Hi,b,d,t,(bx.putAll (ls.take n)).1,s,hh,rfl,Mp,hs,by rw[ew];exact hw s (aZ es),f1,λH4 Th k4=> ?_⟩;have kk:=k H4 ⟨by rw[f2];exact Th,λy u e hy=>k4 y u (k2 y u e hy) hy⟩ λD acc hD e=>k4 D _ e (λz=>by rw[z,h5] at hD;cases hD);rw[f3] at kk;exact kk
  ·obtain⟨Mp,k2⟩:=h;rw[ag,hlen,aU (aE _)] at Mp;refine q D H2 Mp k2 wN ?_;rw[hD,ag,hlen];congr 2;have hl:=Sb.i7 bx ls Mg ls.length (aE _);rw[aU (aE _)] at hl;refine bW (by simp[hl]) λn a1 a2=> ?_;have hn:n<(bx.putAll ls).2.length:=by rw[hl];simpa using a1
   simp[ae,af hn]
def hU.from{M:List Addr}{H H':Hp}{b d:Addr}{m:fS}{Q:V->Hp->Prop}(q:hU c K M H b d m Q)(s:au H H'):hU c K M H' b d m Q:=
 λp H2 k np hp hB=>q p H2 (λy o e hy=>k y o (s _ _ e) hy) (s.free np) hp hB
def Bg{b:a9}{hs:List Nat}{l:List ax}{g:List ax->fS}(e:b.all hs=some l):Wqarav.of b hs g=g l:=by
 unfold Wqarav.of;rw[e]
def Bf{b:a9}{hs:List Nat}{g:List ax->fS}(e:b.all hs=none):Wqarav.of b hs g=(b,Wqarav.no (-5)):=by
 unfold Wqarav.of;rw[e]
def Hh{b:a9}{l:List ax}(h:l.length<=b.free):Wqarav.made b l=((b.putAll l).1,cy (b.putAll l).2):=by
 unfold Wqarav.made;rw[if_neg (by omega)]
def Oy{b:a9}{l:List ax}(h: ¬l.length<=b.free):Wqarav.made b l=(b,Wqarav.no (-3)):=by
 unfold Wqarav.made;rw[if_pos (by omega)]
def cg.oN{b d:Addr}{H H':Hp}(k:cg d H H'):jE [b,d] H H':=λy o e hy=>k y o e λz=>hy (by rw[z];simp)
inductive xX(c:Cs)(K:ab)(vs:List V)(H:Hp)(Q:VK)(E:XK):Prop
 |mk (M:List Addr) (b d pl fr:Addr) (bx:a9) (hs:List Nat) (rows:List (List Int)):vs=[.ref b,.ref pl,.ref fr]->eN c K (cf M H) H b d bx->b∈M->d∈M->Kept M H->bw K H pl (iv hs)->dS H fr dD (rows.map ii)->hs≠[]->hs.length<=1000->rows.length<=1000->(∀r∈rows,r.length=hs.length)->hU c K M H b d (Wqarav.of bx hs λ(l:List ax)=>Wqarav.made bx (rows.map λr=>bO bx.form.n (r.zip l))) Q->xX c K vs H Q E
def nz(T:Txt K mg c):Callee P w K mg base "put_sums" 4 ["box","places","factor_rows"] (xX c K):=by
 exists T.JP.ok ["box","places","factor_rows","seals","factors"]
 ·obtain⟨M,b,d,pl,fr,bx,hs,rows,rfl,hB,hb,hd,hT,m5,⟨us,Mg,RE⟩,pC,hl,S2,K0,q⟩:=h;have big:=bI;have hG:=hB.wf.good;have n1:=hG.n1;have n4:=hG.n4;have Oz:us.length=rows.length:=by rw[Paired.length RE,ag]
  refine⟨_,(aj (bS 3 nd (aF (rn T) hr (aa (pv 0) (aa (pv 1) ai))))
   (aj (cD (fN (jo (pv 3))) (aq (az (aF (bt T) hr (aa (qg T.ip) ai)))) bA)
   (aj (cD (d6 (dB (aF (i8 T) hr (aa (pv 0) (aa (bX (cI K) rfl T.f7 boot_len (aa (pv 2) ai)) ai))))) (aq (az (aF (bt T) hr (aa (qg T.kY) ai)))) bA)
   (aq (az (aM ku (cx (aa ay ai)) (aF (vO T) hr (aa (pv 0) (aa (gR rfl nd (sI K (pv 2)) (own:=[("factors",4)]) (cn rfl) (λ_ _ _ _ _=>(qn 4 nd)) (λ_ _ _ _ _=>cO) (λ_ _ _ _ _=>(aF (rq T) hr (aa (pv 3) (aa (pv 4) ai))))) ai))))))))),?_⟩
  refine⟨_,rfl,_,rfl,cf M H,b,d,pl,bx,hs,rfl,hB,m5,by omega,λe H1 s1=> ?_,λls ts D H1 e Tb hw s1 nD hD hP=> ?_⟩
  ·rw[Bf e] at q;exact⟨_,rfl,_,rfl,cY ⟨5,rfl,λp H' sm np hp=>q.dA hB rfl (s1.trans sm) (s1.free np) hp⟩⟩
  ·rw[Bg e] at q;have IM:=hB.same s1;refine⟨_,rfl,_,rfl,dJ ⟨_,rfl,_,rfl,fr,_,rfl,.inl (bw.of (s1 _ _ Mg)),cf M H1,b,d,bx,(us.map V.ref).length,rfl,IM,_,rfl,?_⟩⟩;by_cases nJ:rows.length<=bx.free
   ·rw[decide_eq_true (show(us.map V.ref).length<=bx.free by rw[ag,Oz];exact nJ)];rw[Hh (by rw[ag];exact nJ)] at q;refine dJ ⟨(by show 1<=sizeLine;omega),λp0 kK=> ?_⟩;have s2:=au.new (o:=HO.lst [.int 0]) kK;have CD:upd H1 p0 (.lst [.int 0]) p0=some (.lst [.int 0]):=ak;have jI:=s1.trans s2;have IL:=s2 _ _ hD;generalize upd H1 p0 (.lst [.int 0])=H2 at s2 CD jI IL;refine⟨_,rfl,_,rfl,fr,rfl,⟨_,bw.of (jI _ _ Mg)⟩,?_⟩;refine RL.L5 (K:=K) (a:=fr) (xs:=us.map V.ref) (i:=4) (λD' m z H'=> ∃p dx wa,z= .ref p/\p≠D'/\wa≠D'/\H' p=some (.ins c.Seal dx (Sy wa (bO bx.form.n ((rows.getD m []).zip ls))))/\H' wa=some (.lst (iv (bO bx.form.n ((rows.getD m []).zip ls)).a))) (λD' m z Ha Hb h kb=> ?_) (by rw[ag];omega) (bw.of (jI _ _ Mg)) (λD' m x H3 Q' acc Mn hx D0 Hx XT kq=> ?_) (λD' H3 zs Mn D0 hz hR3 Gb=> ?_)
    ·obtain⟨p,dx,wa,rfl,e1,e2,e3,e4⟩:=h;exact⟨p,dx,wa,rfl,e1,e2,kb _ _ e3 e1,kb _ _ e4 e2⟩
    ·obtain⟨u,eu,rfl⟩:=ju hx;obtain⟨r0,er,UY⟩:=cX RE eu;obtain⟨r,RW,rfl⟩:=sF er;have e2:rows.getD m []=r:=by rw[ae,RW];rfl
     have aeN:=K0 r (aZ RW);have mq:=jI.trans D0;have sM:au (cf M H) H3:=(aX M H).trans mq;refine⟨_,rfl,_,rfl,D,u,ls,r,bx.form.n,rfl,⟨ts,D0 _ _ IL,Paired.ja hP λt r q=>q.mono sM⟩,.inl (bw.of (mq _ _ UY)),by omega,λz=> ?_,by omega,hw,n4,λp H4 s4 np hS=> ?_⟩
     ·rw[z] at Tb;exact pC (eU.mp Tb.symm)
     ·obtain⟨dx,wa,w1,w2⟩:=hS;refine kq _ H4 s4 ⟨p,dx,wa,rfl,(λz=>by rw[z,Hx] at np;cases np),λz=> ?_,by rw[e2];exact w1,by rw[e2];exact w2⟩;have U4:=Sb.vW bx.form.n (r.zip ls);have ea:acc=iv (bO bx.form.n (r.zip ls)).a:=by
       have:=s4 _ _ Hx;rw[<-z,w2] at this;injection this with this;injection this with this;exact this.symm
      cases hx0:(bO bx.form.n (r.zip ls)).a with
      |nil=>
       have:=U4.1;rw[hx0] at this;have:(0:Nat)=bx.form.n:=this;have n1':1<=bx.form.n:=n1;omega
      |cons y yr=>
       rw[hx0] at ea;obtain⟨p',_,_,e9,_⟩:=XT 0 (V.int (y:Int)) (by rw[ea];rfl);cases e9
    ·rw[ag,Oz] at hz;have mq:=jI.trans D0;obtain⟨vs,v1,v2⟩:=jY (S:=λp r=>cQ c H3 p r) zs (rows.map λr=>bO bx.form.n (r.zip ls)) (by rw[hz,ag]) λm z Ea=>by
      obtain⟨p,dx,wa,rfl,_,_,e3,e4⟩:=hR3 m z Ea;have hm:m<rows.length:=by rw[<-hz];exact(aD.mp Ea).1
      rw[ae,af hm] at e3 e4;exact⟨p,_,rfl,by rw[aI,af hm];rfl,dx,wa,e3,e4⟩
     have kM:=hT.same mq;refine⟨cf M H3,b,d,D',bx,vs,rows.map λr=>bO bx.form.n (r.zip ls),rfl,hB.same mq,by rw[Gb,v1],Paired.ja v2 λt r q=>q.LU kM,λs hs=> ?_,by rw[ag];exact nJ,λpn H4 Th k4 npn Xs=> ?_⟩
     ·obtain⟨r,_,rfl⟩:=aQ.mp hs;have:=Sb.vW bx.form.n (r.zip ls);exact⟨this.1,this.2.1,this.2.2.1,this.2.2.2⟩
     ·obtain⟨dx,pa,sv,mo,bE,h1,h2,h3,h4,h5,h6⟩:=hB.obj;have JG:=D0 _ _ CD;have U2:p0≠d:=jw JG (mq _ _ h5) (by intro z;cases z);have aaz:(bx.putAll (rows.map λr=>bO bx.form.n (r.zip ls))).2.length<=32:=by
       have:=Sb.i7 bx (rows.map λr=>bO bx.form.n (r.zip ls)) (by rw[ag];exact nJ) _ (aE _);rw[aU (aE _),ag] at this;have XF:bx.free<=32:=by rw[free_eq bx h6.len];omega
       omega
      refine⟨p0,pn,_,_,rfl,rfl,k4 _ _ JG U2,Xs,by rw[bR];show 1 + _<=sizeLine;omega,λp np=> ?_⟩;refine hU.put q hb hd mq Th (cg.oN k4) (au.new np) np ?_;rw[ak,gO];rfl
   ·rw[decide_eq_false (show¬(us.map V.ref).length<=bx.free by rw[ag,Oz];exact nJ)];rw[Oy (by rw[ag];exact nJ)] at q;exact cY ⟨3,rfl,λp H' sm np hp=>q.dA hB rfl (s1.trans sm) (s1.free np) hp⟩
theorem sk{k k':Key}: ∀bE:List (Key×V),fL (j5 bE k) k'=if k'=k then none else fL bE k'
 | []=>by unfold j5 fL;simp
 |p::r=>by
  have ih:=sk (k:=k) (k':=k') r;by_cases hp:p.1=k
  ·rw[xC hp,ih];by_cases h:k'=k
   ·rw[if_pos h,if_pos h]
   ·rw[if_neg h,if_neg h];unfold fL;rw[sg (by simp;intro z;exact h (by rw[<-z,hp]))]
  ·rw[sW hp];unfold fL at ih ⊢;by_cases h2:p.1=k'
   ·rw[Kj (by simp[h2]),Kj (by simp[h2]),if_neg (λz=>hp (by rw[h2,z]))]
   ·rw[sg (by simp[h2]),sg (by simp[h2])];exact ih
theorem An: ∀{l:List (Option ax)} {i:Nat} {s:ax},l[i]? =some (some s)->oE (l.set i none)+ 1=oE l
 | [],i,s,h=>by simp at h
 |x::r,0,s,h=>by
  have e:x=some s:=ao h;subst e;unfold oE;simp
 |x::r,i + 1,s,h=>by
  have ih:=An (l:=r) (i:=i) (s:=s) h;unfold oE at ih ⊢;cases x <;> simp <;> simpa using ih
def iX.drop{c:Cs}{Hi:Hp}{n:Nat}{bE:List (Key×V)}{seals:List (Option ax)}{h:Nat}{s:ax}(S:iX c Hi n bE seals)(hh:seals[h]? =some (some s)):iX c Hi n (j5 bE (bQ (h:Int))) (seals.set h Option.none):=by
 obtain⟨_,sa,hv,_⟩:=S.there h s hh;have hl:h<seals.length:=(aD.mp hh).1;have JH:(bQ (h:Int):Key)∈bE.map (·.1):=by
  apply gK;intro hn;have:=BY hn;have e:=sk (k:=bQ (h:Int)) (k':=bQ (h:Int)) bE;rw[this,hv,if_pos rfl] at e;cases e
 refine⟨by rw[dO];exact S.len,Bj S.nd,?_,λi s' e=> ?_,λi e=> ?_⟩
 ·have a1:=Ee S.nd JH;have a2:=An hh;have a3:=S.cnt;omega
 ·have hi:h≠i:=λz=>by
   subst z;rw[dW hl] at e;cases e
  rw[dM hi] at e;obtain⟨w1,sb,q1,q2⟩:=S.there i s' e;exact⟨w1,sb,by rw[sk,if_neg (λz=>hi (by have:=jd z;omega))];exact q1,q2⟩
 ·rw[sk];by_cases hi:h=i
  ·subst hi;rw[if_pos rfl]
  ·rw[if_neg (λz=>hi (by have:=jd z;omega))];exact S.none i λs' e'=>e s' (by rw[dM hi];exact e')
inductive vv(vs:List V)(H:Hp)(Q:VK)(E:XK):Prop
 |mk (z:Int):vs=[.int z]->Q (.bl (c9 z)) H->vv vs H Q E
def vP(T:Txt K mg c):Callee P w K mg base "is_factor" 1 ["number"] vv:=by
 exists T.HP.ok ["number"]
 ·obtain⟨z,rfl,q⟩:=h;refine⟨_,(aq (az (AJ oH yn (mE jR (qg T.rS)) (pv 0) (qg T.rS)))),?_⟩;unfold c9 at q;refine⟨_,rfl,_,rfl,_,_,rfl,rfl,_,rfl,j9 (λhc=> ?_) λhc=> ?_⟩
  ·have hc:(-128:Int)<=z:=of_decide_eq_true hc;rw[decide_eq_true hc,eI] at q;refine⟨_,_,rfl,rfl,?_⟩;have e:decide (z<=127)=decide (z<128):=decide_eq_decide.mpr ⟨λh=>by omega,λh=>by omega⟩;rw[e] at q;exact q
  ·have hc: ¬(-128:Int)<=z:=λy=>hc (decide_eq_true y);rw[decide_eq_false hc,eJ] at q;exact q
def Hf(a b:Nat):Bool:=decide (1<=a)&&(decide (a<=8)&&(decide (b % a=0)&&(decide (1<=b / a)&&decide (b / a<=8))))
inductive qY(vs:List V)(H:Hp)(Q:VK)(E:XK):Prop
 |mk (a b:Nat):vs=[.int (a:Int),.int (b:Int)]->Q (.bl (Hf a b)) H->qY vs H Q E
def AX(T:Txt K mg c):Callee P w K mg base "are_mixable" 1 ["seal_count","factor_count"] qY:=by
 exists T.CM.ok ["seal_count","factor_count"]
 ·obtain⟨a,b,rfl,q⟩:=h;refine⟨_,(aj (cD (AE (d6 (N5 oH oH ay (pv 0) (qg T.wC))) (uN (eh KG (aM eW (pv 1) (pv 0)) ay (dC _)))).pt (aq (az Of)) bA)
   (aq (az (AJ oH oH ay (aM eX (pv 1) (pv 0)) (qg T.wC))))),?_⟩
  unfold Hf at q;have no: ∀{x:Bool},x=false->Q (.bl x) H->Q (.bl false) H:=λh q=>h▸q;exists 23
  ·have hc:(1:Int)<=(a:Int):=of_decide_eq_true hc;have hc:1<=a:=by omega
   rw[decide_eq_true hc,eI] at q;refine⟨_,_,rfl,rfl,_,rfl,?_⟩;have e8:decide ((a:Int)<=8)=decide (a<=8):=decide_eq_decide.mpr ⟨λh=>by omega,λh=>by omega⟩;rw[e8];by_cases h8:a<=8
   ·rw[decide_eq_true h8,eI] at q;rw[decide_eq_true h8];refine dJ ⟨_,rfl,_,rfl,_,_,rfl,rfl,(by show(0:Int)<(a:Int);omega),rfl,_,rfl,?_⟩;have em:(!decide (V.int ((b:Int)%(a:Int))=V.int 0))= !decide (b % a=0):=by
     congr 1;refine decide_eq_decide.mpr ⟨λh=> ?_,λh=> ?_⟩
     ·injection h with h;have:((b % a:Nat):Int)=0:=by rw[dn];exact h
      omega
     ·have:((b % a:Nat):Int)=0:=by omega
      rw[dn] at this;rw[this]
    show if(!decide (V.int ((b:Int)%(a:Int))=V.int 0))=true then _ else _;rw[em];by_cases h0:b % a=0
    ·rw[decide_eq_true h0,eI] at q;rw[decide_eq_true h0];refine dJ ⟨_,rfl,_,rfl,_,_,rfl,rfl,⟨by omega,by omega⟩,_,_,rfl,rfl,_,rfl,j9 (λhd=> ?_) λhd=> ?_⟩
     ·have hd:(1:Int)<=(b:Int)/(a:Int):=of_decide_eq_true hd;rw[<-cu] at hd;rw[decide_eq_true (show 1<=b / a by omega),eI] at q;refine⟨_,_,rfl,rfl,?_⟩;have e:decide (b / a<=8)=decide ((b:Int)/(a:Int)<=8):=by
       rw[<-cu];exact decide_eq_decide.mpr ⟨λh=>by omega,λh=>by omega⟩
      rw[e] at q;exact q
     ·have hd: ¬(1:Int)<=(b:Int)/(a:Int):=λy=>hd (decide_eq_true y);rw[<-cu] at hd;rw[decide_eq_false (show¬1<=b / a by omega),eJ] at q;exact q
    ·rw[decide_eq_false h0,eJ] at q;rw[decide_eq_false h0];exact cY q
   ·rw[decide_eq_false h8,eJ] at q;rw[decide_eq_false h8];exact cY (cY q)
  ·have hc: ¬(1:Int)<=(a:Int):=λy=>hc (decide_eq_true y);rw[decide_eq_false (show¬1<=a by omega),eJ] at q;exact⟨_,rfl,cY (cY q)⟩
def lX{H:Hp}{ra:Addr}{rs:List (List Int)}{i:Nat}{r:List Int}(h:dS H ra dD (rs.map ii))(hi:rs[i]? =some r): ∃(us:List Addr) (u:Addr),H ra=some (.lst (us.map V.ref))/\xH (us.map V.ref) (i:Int)=some (V.ref u)/\H u=some (.lst (ii r)):=by
 obtain⟨us,h1,h2⟩:=h;have hl:us.length=rs.length:=by rw[Paired.length h2,ag]
 have E8:i<rs.length:=(aD.mp hi).1;obtain⟨u,hu⟩: ∃u,us[i]? =some u:=⟨us[i]'(by omega),af _⟩;obtain⟨x,ex,hx⟩:=cX h2 hu;obtain⟨l,el,rfl⟩:=sF ex;rw[hi] at el;have el:r=l:=ao el;subst el;exact⟨us,u,h1,c8 (by rw[aI,hu];rfl),hx⟩
def LQ{l:List Nat}(h: ∀x∈l,x<256):bJ (l.take 2)<65536:=by
 match l,h with
 | [],_=>show 0<65536;decide
 | [a],h=>
  have:=h a (by simp);show a + 256*0<65536;omega
 |a::b::r,h=>
  have h1:=h a (by simp);have h2:=h b (by simp);show a + 256*(b + 256*0)<65536;omega
theorem GJ: ∀(c:Nat) (l:List Nat),(∀x∈l,x<256)-> ∀y∈(bD 2 c l).map bJ,y<65536
 |0,l,_,y,hy=>by simp[bD] at hy
 |c + 1,l,h,y,hy=>by
  have e:(bD 2 (c + 1) l).map bJ=bJ (l.take 2)::(bD 2 c (l.drop 2)).map bJ:=rfl;rw[e] at hy;rcases aA.mp hy with rfl|hy
  ·exact LQ h
  ·exact GJ c (l.drop 2) (λx hx=>h x (eT hx)) y hy
def LD{f:aB}{l:List Nat}{b:Nat}(hl:l.length=2*f.n + 2)(h: ∀x∈l,x<256)(hb:b<=32768):Wf f.n (ia f l b):=by
 have hlen:((bD 2 (f.n + 1) l).map bJ).length=f.n + 1:=by rw[ag,fM]
 have ig:=GJ (f.n + 1) l h;unfold ia;refine⟨by dsimp only;rw[bo,hlen];omega,λx hx=>ig x (cM hx),?_,hb⟩;dsimp only;rw[ae];cases e:((bD 2 (f.n + 1) l).map bJ)[f.n]? with
 |none=>show 0<65536;decide
 |some y=>exact ig y (aZ e)
def zu{M:List Addr}{H H2:Hp}{b d p:Addr}{bx:a9}{s:ax}{Q:V->Hp->Prop}{E:XK}(q:hU c K M H b d (Wqarav.made bx [s]) Q)(hB:eN c K (cf M H) H b d bx)(hb:b∈M)(hd:d∈M)(hT:Kept M H)(s2:au H H2)(hS:cQ c H2 p s)(hw:Wf bx.work.form.n s)(hr:1<=bx.free):
  qU c K [.ref b,.ref p] H2 (λv H3=>2<=sizeLine/\ ∀p4,H3 p4=none->Q (.ref p4) (upd H3 p4 (.lst [.int 0,v]))) E:=by
 obtain⟨dx,pa,sv,mo,bE,h1,h2,h3,h4,h5,h6⟩:=hB.obj;obtain⟨i,hi,hm⟩:=Hj (s:=s) h6.len hr;rw[hm] at q;exact⟨cf M H2,b,d,p,bx,s,i,rfl,hB.same s2,hS.LU (hT.same s2),hw,hi,λH3 Mo k3=>⟨by decide,λp4 II=>hU.put q hb hd s2 Mo (cg.oN k3) (au.new II) II ak⟩⟩
def yX(T:Txt K mg c):Callee P w K mg base "answer_count" 1 ["box","numbers","rows"] (jn c K 1 λ_=> .count 0):=by
 exists T.BS.ok ["box","numbers","rows"]
 ·obtain⟨M,b,d,na,bx,nums,ra,rs,rfl,hB,hb,hd,hT,hn,hl,h0,hR,q⟩:=h;obtain⟨dx,pa,sv,mo,bE,h1,h2,h3,h4,h5,h6⟩:=hB.obj;refine⟨_,(aq (az (cx (aa ay (aa (bX Ei rfl T.f7 boot_len (aa (fld K (pv 0)) ai)) ai))))),?_⟩;have q:hU c K M H b d (bx,cy [IB - bx.free]) Q:=q;refine⟨_,rfl,b,c.Box,dx,_,_,rfl,h1,T.cE,T.cZ,rfl,d,bE,rfl,h5,(by show 2<=sizeLine;decide),λp np=>q.dA hB rfl (au.new np) np ?_⟩;have e:IB - bx.free=bE.length:=by
   rw[free_eq bx h6.len,h6.cnt];have:=ph (l:=bx.seals);rw[h6.len] at this;show 32 - _=_;omega
  rw[e,gO,ak];rfl
def Bb(T:Txt K mg c):Callee P w K mg base "answer_drop" 2 ["box","numbers","rows"] (jn c K 2 λnums=> .drop 0 (dq nums 1)):=by
 exists T.C2.ok ["box","numbers","rows","h"]
 ·obtain⟨M,b,d,na,bx,nums,ra,rs,rfl,hB,hb,hd,hT,hn,hl,h0,hR,q⟩:=h;obtain⟨dx,pa,sv,mo,bE,h1,h2,h3,h4,h5,h6⟩:=hB.obj;have hu:=rJ hr;have hN:=(aX M H).seq hn;refine⟨_,(aj (bS 3 nd (gT K (pv 1) ay))
   (aj (cD (fN (LJ hu (pv 3) (fld K (pv 0)))) (aq (az (aF (bt T) hr (aa (qg T.ip) ai)))) bA)
   (aj (fU (Oc (fld K (pv 0)) (pv 3) ⟨rfl,rfl,rfl,rfl⟩))
   (aq (az (cx (aa ay ai))))))),?_⟩
  refine⟨_,rfl,na,_,_,_,rfl,rfl,hN,fF (j:=1) (fE (by omega) h0),?_⟩;have q:hU c K M H b d (Wqarav.of bx [dq nums 1] λ_=>(⟨bx.work,bx.secret,bx.seals.set (dq nums 1) none,bx.uses,bx.cap⟩,cy [])) Q:=q;refine⟨_,rfl,_,rfl,b,c.Box,dx,_,_,rfl,h1,T.cE,T.cZ,rfl,d,_,rfl,ng.k (k:=bQ ((dq nums 1:Nat):Int)) h5,_,rfl,?_⟩;rcases ij h6 (dq nums 1) with⟨e1,e2⟩|⟨s,sa,e1,hw,e2,hs⟩
  ·rw[e2];rw[of_none e1] at q;exact cY ⟨5,rfl,λp H' sm np hp=>q.dA hB rfl sm np hp⟩
  ·have hh:bx.seals[dq nums 1]? =some (some s):=by
    unfold Wqarav.Box.get at e1;cases z:bx.seals[dq nums 1]? with
    |none=>rw[z] at e1;cases e1
    |some x=>rw[z] at e1;have e1:x=some s:=e1;rw[e1]
   have XO:b≠d:=jw h1 h5 (by intro z;cases z);rw[l8 e1] at q;have K5:=e2;rw[e2];refine dJ ⟨_,rfl,b,c.Box,dx,_,_,rfl,h1,T.cE,T.cZ,rfl,d,rfl,.inl ⟨bE,.inl h5⟩,_,rfl,bE,bQ ((dq nums 1:Nat):Int),_,h5,rfl,K5,(by show 1<=sizeLine;decide),λp np=> ?_⟩;refine hU.put q hb hd (au.refl H) (H3:=upd H d (.dK (j5 bE (bQ ((dq nums 1:Nat):Int))))) ⟨⟨dx,pa,sv,mo,_,by rw[aJ XO];exact h1,h2,h3,h4,ak,h6.drop hh⟩,hB.wf⟩ (cg.oN cg.upd) (au.new np) np ak
def A1(T:Txt K mg c):Callee P w K mg base "answer_sure" 3 ["box","numbers","rows"] (jn c K 2 λnums=> .sure 0 (dq nums 1)):=by
 exists T.CQ.ok ["box","numbers","rows","seal"]
 ·obtain⟨M,b,d,na,bx,nums,ra,rs,rfl,hB,hb,hd,hT,hn,hl,h0,hR,q⟩:=h;obtain⟨dx,pa,sv,mo,bE,h1,h2,h3,h4,h5,h6⟩:=hB.obj;have hu:=rJ hr;have hN:=(aX M H).seq hn;have hP:=h2.mono (aX M H);obtain⟨qu,fa,pp,QR,g1,g2,g3,g4⟩:=id hP;refine⟨_,(aj (bS 3 nd (mF hu (fld K (pv 0)) (gT K (pv 1) ay) ⟨rfl,rfl,rfl,rfl⟩))
   (aj (cD (fN (jo (pv 3))) (aq (az (aF (bt T) hr (aa (qg T.ip) ai)))) bA)
   (aq (az (cx (aa ay (aa (AI (dB (aF (uQ T) hr (aa (fld K (fld K (pv 0))) (aa (fld K (pv 3)) ai)))) ay ay) ai))))))),?_⟩
  refine⟨_,rfl,b,c.Box,dx,_,_,rfl,h1,T.cE,T.cZ,rfl,d,rfl,.inl ⟨bE,.inl h5⟩,_,rfl,na,_,_,_,rfl,rfl,hN,fF (j:=1) (fE (by omega) h0),_,ng.k (k:=bQ ((dq nums 1:Nat):Int)) h5,?_⟩;have q:hU c K M H b d (Wqarav.of bx [dq nums 1] λ(l:List ax)=>(bx,cy (l.map λ(c:ax)=>if gu bx.form c.bound=true then 1 else 0))) Q:=q;rcases ij h6 (dq nums 1) with⟨e1,e2⟩|⟨s,sa,e1,hw,e2,hs⟩
  ·exists 10
  ·rw[e2];rw[l8 e1] at q;obtain⟨Pl,wa,w1,w2⟩:=hs.mono (aX M H);refine⟨_,rfl,_,rfl,dJ ⟨_,rfl,b,c.Box,dx,_,_,rfl,h1,T.cE,T.cR,rfl,pa,c.cB,qu,_,_,rfl,g1,T.bY,T.bK,rfl,_,rfl,sa,c.Seal,Pl,_,_,rfl,w1,T.fI,T.gm,rfl,fa,bx.work.form,s.bound,rfl,g2,hB.wf.good.toSmall,_,rfl,?_⟩⟩;have eb:bx.form=bx.work.form:=rfl;cases S1:gu bx.work.form s.bound with
   |true=>
    refine cY ⟨(by show 2<=sizeLine;decide),λp np=>q.dA hB rfl (au.new np) np ?_⟩;rw[ak,gO,bB,eb,S1,if_pos rfl];rfl
   |false=>
    refine dJ ⟨(by show 2<=sizeLine;decide),λp np=>q.dA hB rfl (au.new np) np ?_⟩;rw[ak,gO,bB,eb,S1,if_neg (by decide)];rfl
def A5(T:Txt K mg c):Callee P w K mg base "answer_plus" 4 ["box","numbers","rows"] (jn c K 3 λnums=> .plus 0 (dq nums 1) (dq nums 2)):=by
 exists T.CV.ok ["box","numbers","rows","seal","number","form"]
 ·obtain⟨M,b,d,na,bx,nums,ra,rs,rfl,hB,hb,hd,hT,hn,hl,h0,hR,q⟩:=h;obtain⟨dx,pa,sv,mo,bE,h1,h2,h3,h4,h5,h6⟩:=hB.obj;have hu:=rJ hr;have hN:=(aX M H).seq hn;have hP:=h2.mono (aX M H);obtain⟨qu,fa,pp,QR,g1,g2,g3,g4⟩:=id hP;have hG:=hB.wf.good;refine⟨_,(aj (bS 3 nd (mF hu (fld K (pv 0)) (gT K (pv 1) ay) ⟨rfl,rfl,rfl,rfl⟩))
   (aj (bS 4 nd (gT K (pv 1) ay))
   (aj (bS 5 nd (fld K (fld K (pv 0))))
   (aj (cD (d6 (dB (aF (kx T) hr (aa (pv 5) (aa (pv 4) ai))))) (aq (az (aF (bt T) hr (aa (qg T.cF) ai)))) bA)
   (aj (cD (fN (jo (pv 3))) (aq (az (aF (bt T) hr (aa (qg T.ip) ai)))) bA)
   (aj (cD (d6 (dB (aF (i8 T) hr (aa (pv 0) (aa ay ai))))) (aq (az (aF (bt T) hr (aa (qg T.kY) ai)))) bA)
   (aq (az (cx (aa ay (aa (aF (jZ T) hr (aa (pv 0) (aa (aF (Oj T) hr (aa (pv 5) (aa (pv 3) (aa (pv 4) ai)))) ai))) ai))))))))))),?_⟩
  refine⟨_,rfl,b,c.Box,dx,_,_,rfl,h1,T.cE,T.cZ,rfl,d,rfl,.inl ⟨bE,.inl h5⟩,_,rfl,na,_,_,_,rfl,rfl,hN,fF (j:=1) (fE (by omega) h0),_,ng.k (k:=bQ ((dq nums 1:Nat):Int)) h5,?_⟩;refine⟨_,rfl,na,_,_,_,rfl,rfl,hN,fF (j:=2) (fE (by omega) h0),?_⟩;refine⟨_,rfl,b,c.Box,dx,_,_,rfl,h1,T.cE,T.cR,rfl,pa,c.cB,qu,_,_,rfl,g1,T.bY,T.bK,rfl,?_⟩;have q:hU c K M H b d (if 2*bx.form.p<=dq nums 2 then(bx,Wqarav.no (-1)) else Wqarav.of bx [dq nums 1] λ(l:List ax)=>Wqarav.made bx (l.map λ(c:ax)=>⟨c.a,(c.b + dq nums 2*bx.form.step)% 65536,c.bound⟩)) Q:=q;refine⟨_,rfl,_,rfl,fa,bx.work.form,dq nums 2,rfl,g2,_,rfl,?_⟩;by_cases hj:dq nums 2<2*bx.work.form.p
  ·rw[decide_eq_true hj];rw[if_neg (show¬2*bx.form.p<=dq nums 2 from gr.mpr hj)] at q;refine dJ ?_;rcases ij h6 (dq nums 1) with⟨e1,e2⟩|⟨s,sa,e1,hw,e2,hs⟩
   ·exists 10
   ·rw[e2];rw[l8 e1] at q;refine⟨_,rfl,_,rfl,dJ ⟨_,rfl,cf M H,b,d,bx,1,rfl,hB,_,rfl,?_⟩⟩;by_cases uv:1<=bx.free
    ·rw[decide_eq_true uv];refine dJ ⟨_,rfl,_,rfl,_,rfl,_,rfl,fa,sa,bx.work.form,s,dq nums 2,rfl,g2,hG.toSmall,hs.mono (aX M H),λp H2 s2 np hS=> ?_⟩;exact zu (E:=E0) q hB hb hd hT s2 hS ⟨hw.len,hw.words,Qn _ (by decide),hw.bound⟩ uv
    ·rw[decide_eq_false uv];have q:hU c K M H b d (Wqarav.made bx [⟨s.a,(s.b + dq nums 2*bx.form.step)% 65536,s.bound⟩]) Q:=q;rw[zy uv] at q;exact cY ⟨3,rfl,λp H' sm np hp=>q.dA hB rfl sm np hp⟩
  ·rw[decide_eq_false hj];rw[if_pos (show 2*bx.form.p<=dq nums 2 from fB.mp hj)] at q;exists 20
theorem yy(m:Nat): ∀(k:Nat) (l:List Int),fq m k l=qE m k l
 |0,_=>rfl
 |k + 1,l=>by show l.take m::fq m k (l.drop m)=l.take m::qE m k (l.drop m);rw[yy m k]
theorem rH(m:Nat): ∀(k:Nat) (l:List Int),(fq m k l).length=k
 |0,_=>rfl
 |k + 1,l=>by show(fq m k (l.drop m)).length + 1=k + 1;rw[rH m k]
theorem wd(m:Nat): ∀(k:Nat) (l:List Int),l.length=m*k-> ∀r∈fq m k l,r.length=m
 |0,_,_,r,hr=>by simp[fq] at hr
 |k + 1,l,h,r,hr=>by
  rw[gB] at h;rcases aA.mp (show r∈l.take m::fq m k (l.drop m) from hr) with rfl|hr
  ·rw[bo];omega
  ·exact wd m k (l.drop m) (by rw[bT];omega) r hr
def DT(a b:Nat):Hf a b=true↔ ¬(a=0\/8<a\/b % a≠0\/b=0\/8*a<b):=by
 unfold Hf;simp only[cq,decide_eq_true_eq];constructor
 ·rintro⟨h1,h2,h3,h4,h5⟩ h;have e:=Ez b a;rw[h3,zP] at e;rcases h with h|h|h|h|h
  ·omega
  ·omega
  ·exact h h3
  ·rw[h,Nat.zero_div] at h4;omega
  ·have:a*(b / a)<=a*8:=nh a h5;omega
 ·intro h;have h1:1<=a:=yG λz=>h (.inl z);have h2:a<=8:=fB.mp λz=>h (.inr (.inl z));have h3:b % a=0:=gK λz=>h (.inr (.inr (.inl z)));have h4:b≠0:=λz=>h (.inr (.inr (.inr (.inl z))));have h5:b<=8*a:=fB.mp λz=>h (.inr (.inr (.inr (.inr z))));have e:=Ez b a;rw[h3,zP] at e;refine⟨h1,h2,h3,yG λz=> ?_,?_⟩
  ·rw[z,lx] at e;exact h4 e.symm
  ·exact vd (by rw[cj];exact h5)
def A4(T:Txt K mg c):Callee P w K mg base "answer_read" 4 ["box","numbers","rows"] (ny c K 2 1 (λnums rs=>(∀v∈nums,0<=v)/\ ∀r∈rs,∀v∈r,0<=v/\v<256) λnums rs=> .read 0 (dq nums 1) (nats (rs.getD 0 []))):=by
 exists T.CU.ok ["box","numbers","rows","bound","octets"]
 ·obtain⟨M,b,d,na,bx,nums,ra,rs,rfl,hB,hb,hd,hT,hn,hl,⟨h0,V8⟩,⟨hR,S2⟩,q⟩:=h;obtain⟨dx,pa,sv,mo,bE,h1,h2,h3,h4,h5,h6⟩:=hB.obj;have hN:=(aX M H).seq hn;have hP:=h2.mono (aX M H);obtain⟨qu,fa,pp,QR,g1,g2,g3,g4⟩:=id hP;have hG:=hB.wf.good;obtain⟨r,OZ⟩: ∃r,rs=[r]:=by
   match rs,S2 with
   | [r],_=>exact⟨r,rfl⟩
  subst OZ;obtain⟨us,u,sV,Ga,hu⟩:=lX (hR.mono dD.mono (aX M H)) (i:=0) (r:=r) rfl;have V8:=V8 r (by simp);rw[rB λv hv=>(V8 v hv).1] at hu;have q:hU c K M H b d (if bZ<dq nums 1 then(bx,Wqarav.no (-1)) else if(nats r).length≠2*bx.form.n + 2 then(bx,Wqarav.no (-2)) else Wqarav.made bx [ia bx.form (nats r) (dq nums 1)]) Q:=q;have Te: ∀x∈nats r,x<256:=λx hx=>by
   obtain⟨v,hv,rfl⟩:=aQ.mp hx;have:=V8 v hv;omega
  have hu:H u=some (.lst (iv (nats r))):=hu;generalize nats r=l at q Te hu;refine⟨_,(aj (bS 3 nd (gT K (pv 1) ay))
   (aj (bS 4 nd (gT K (pv 2) ay))
   (aj (cD (eh rk (pv 3) (qg T.oU) (dC _)) (aq (az (aF (bt T) hr (aa (qg T.cF) ai)))) bA)
   (aj (cD (eh KG (bX (cI K) rfl T.f7 boot_len (aa (pv 4) ai)) (aF (vM T) hr (aa (fld K (fld K (pv 0))) ai)) (dC _)) (aq (az (aF (bt T) hr (aa (qg T.kE) ai)))) bA)
   (aj (cD (d6 (dB (aF (i8 T) hr (aa (pv 0) (aa ay ai))))) (aq (az (aF (bt T) hr (aa (qg T.kY) ai)))) bA)
   (aq (az (cx (aa ay (aa (aF (jZ T) hr (aa (pv 0) (aa (aF (Jt T) hr (aa (pv 4) (aa (pv 3) ai))) ai))) ai)))))))))),?_⟩
  refine⟨_,rfl,na,_,_,_,rfl,rfl,hN,fF (j:=1) (fE (by omega) h0),?_⟩;refine⟨_,rfl,ra,_,_,_,rfl,rfl,bw.of sV,Ga,?_⟩;generalize hz:dq nums 1=z at q ⊢;exists 23
  ·have hc:(32768:Int)<(z:Int):=of_decide_eq_true hc;rw[if_pos (show bZ<z by show 32768<z;omega)] at q;exact⟨1,rfl,λp H' sm np hp=>q.dA hB rfl sm np hp⟩
  ·have hc: ¬(32768:Int)<(z:Int):=λy=>hc (decide_eq_true y);rw[if_neg (show¬bZ<z by show¬32768<z;omega)] at q;refine⟨_,rfl,u,_,rfl,.inl (bw.of hu),_,rfl,b,c.Box,dx,_,_,rfl,h1,T.cE,T.cR,rfl,pa,c.cB,qu,_,_,rfl,g1,T.bY,T.bK,rfl,fa,bx.work.form,rfl,g2,hG.toSmall,rfl,_,rfl,?_⟩;by_cases hlen:l.length=2*bx.work.form.n + 2
   ·rw[if_neg (show¬l.length≠2*bx.form.n + 2 from λy=>y hlen)] at q;have e:(!decide (V.int (((iv l).length:Nat):Int)=V.int ((2*bx.work.form.n + 2:Nat):Int)))=false:=by rw[bR,hlen];simp
    show if(!decide (V.int (((iv l).length:Nat):Int)=V.int ((2*bx.work.form.n + 2:Nat):Int)))=true then _ else _;rw[e];refine dJ ⟨_,rfl,cf M H,b,d,bx,1,rfl,hB,_,rfl,?_⟩;by_cases uv:1<=bx.free
    ·rw[decide_eq_true uv];refine dJ ⟨_,rfl,_,rfl,_,rfl,u,bx.work.form,l,z,rfl,bw.of hu,hlen,hG.n4,λp H2 s2 np hS=> ?_⟩;exact zu (E:=E0) q hB hb hd hT s2 hS (LD hlen Te (by omega)) uv
    ·rw[decide_eq_false uv];rw[zy uv] at q;exact cY ⟨3,rfl,λp H' sm np hp=>q.dA hB rfl sm np hp⟩
   ·rw[if_pos (show l.length≠2*bx.form.n + 2 from hlen)] at q;have e:(!decide (V.int (((iv l).length:Nat):Int)=V.int ((2*bx.work.form.n + 2:Nat):Int)))=true:=by
     rw[bR,decide_eq_false (λy=>by injection y with y;omega)];rfl
    show if(!decide (V.int (((iv l).length:Nat):Int)=V.int ((2*bx.work.form.n + 2:Nat):Int)))=true then _ else _;rw[e];exact cY ⟨2,rfl,λp H' sm np hp=>q.dA hB rfl sm np hp⟩
def Gu{nums:List Int}(hl:nums.length=3)(h0: ∀v∈nums,0<=v):iw (ii nums) (some 1) none=iv [dq nums 1,dq nums 2]:=by
 rw[show(1:Int)=((1:Nat):Int) from rfl,wA,we]
 match nums,hl with
 | [x,y,z],_=>
  have e1:((y.toNat:Nat):Int)=y:=aR (h0 y (by simp));have e2:((z.toNat:Nat):Int)=z:=aR (h0 z (by simp));show[V.int y,V.int z]=[V.int ((y.toNat:Nat):Int),V.int ((z.toNat:Nat):Int)];rw[e1,e2]
def CA(T:Txt K mg c):Callee P w K mg base "answer_add" 5 ["box","numbers","rows"] (jn c K 3 λnums=> .add 0 (dq nums 1) (dq nums 2)):=by
 exists T.FA.ok ["box","numbers","rows"]
 ·obtain⟨M,b,d,na,bx,nums,ra,rs,rfl,hB,hb,hd,hT,hn,hl,h0,hR,q⟩:=h;have hN:=(aX M H).seq hn;refine⟨_,(aq (az (aF (nz T) hr (aa (pv 0) (aa (Cb K (pv 1) (dr ay) iV) (aa (cx (aa (cx (aa ay (aa ay ai))) ai)) ai)))))),?_⟩;refine⟨_,rfl,_,rfl,_,rfl,na,_,rfl,hN,λp0 kK=>⟨(by show 2<=sizeLine;decide),λL1 UG=>⟨(by show 1<=sizeLine;decide),λL2 W7=> ?_⟩⟩⟩;have s0:=au.new (o:=HO.lst (iw (ii nums) (some 1) none)) kK;have s1:=au.new (o:=HO.lst [.int 1,.int 1]) UG;have s2:=au.new (o:=HO.lst [.ref L1]) W7;have jI:=s0.trans (s1.trans s2);have q:hU c K M H b d (Wqarav.of bx [dq nums 1,dq nums 2] λ(l:List ax)=>Wqarav.made bx ([[1,1]].map λr=>bO bx.form.n (r.zip l))) Q:=q;exact⟨M,b,d,p0,L2,bx,[dq nums 1,dq nums 2],[[1,1]],rfl,hB.same jI,hb,hd,hT.same jI,bw.of ((s1.trans s2) _ _ (by rw[ak,Gu hl h0])),⟨[L1],ak,.cons (s2 _ _ ak) .nil⟩,by simp,by simp,by simp,λr hr=>by rw[br.mp hr];rfl,q.from jI⟩
def Ct(T:Txt K mg c):Callee P w K mg base "answer_sub" 5 ["box","numbers","rows"] (jn c K 3 λnums=> .sub 0 (dq nums 1) (dq nums 2)):=by
 exists T.Fu.ok ["box","numbers","rows"]
 ·obtain⟨M,b,d,na,bx,nums,ra,rs,rfl,hB,hb,hd,hT,hn,hl,h0,hR,q⟩:=h;have hN:=(aX M H).seq hn;refine⟨_,(aq (az (aF (nz T) hr (aa (pv 0) (aa (Cb K (pv 1) (dr ay) iV) (aa (cx (aa (cx (aa ay (aa (mE jR ay) ai))) ai)) ai)))))),?_⟩;refine⟨_,rfl,_,rfl,_,rfl,na,_,rfl,hN,λp0 kK=>⟨_,rfl,(by show 2<=sizeLine;decide),λL1 UG=>⟨(by show 1<=sizeLine;decide),λL2 W7=> ?_⟩⟩⟩;have s0:=au.new (o:=HO.lst (iw (ii nums) (some 1) none)) kK;have s1:=au.new (o:=HO.lst [.int 1,.int (-1)]) UG;have s2:=au.new (o:=HO.lst [.ref L1]) W7;have jI:=s0.trans (s1.trans s2);have q:hU c K M H b d (Wqarav.of bx [dq nums 1,dq nums 2] λ(l:List ax)=>Wqarav.made bx ([[1,-1]].map λr=>bO bx.form.n (r.zip l))) Q:=q;exact⟨M,b,d,p0,L2,bx,[dq nums 1,dq nums 2],[[1,-1]],rfl,hB.same jI,hb,hd,hT.same jI,bw.of ((s1.trans s2) _ _ (by rw[ak,Gu hl h0])),⟨[L1],ak,.cons (s2 _ _ ak) .nil⟩,by simp,by simp,by simp,λr hr=>by rw[br.mp hr];rfl,q.from jI⟩
def yT(T:Txt K mg c):Callee P w K mg base "answer_times" 5 ["box","numbers","rows"] (ny c K 3 0 (λnums _=>0<=nums.getD 1 0) λnums _=> .times 0 (dq nums 1) (nums.getD 2 0)):=by
 exists T.BO.ok ["box","numbers","rows","factor"]
 ·obtain⟨M,b,d,na,bx,nums,ra,rs,rfl,hB,hb,hd,hT,hn,hl,h0,hR,q⟩:=h;have hN:=(aX M H).seq hn;have Wi:xH (ii nums) 1=some (V.int ((dq nums 1:Nat):Int)):=fF (j:=1) (by rw[dq,aR h0,ae,af (by omega)];rfl);have at2:xH (ii nums) 2=some (V.int (nums.getD 2 0)):=fF (j:=2) (by rw[ae,af (by omega)];rfl);refine⟨_,(aj (bS 3 nd (gT K (pv 1) ay))
   (aj (cD (d6 (dB (aF (vP T) hr (aa (pv 3) ai)))) (aq (az (aF (bt T) hr (aa (qg T.cF) ai)))) bA)
   (aq (az (aF (nz T) hr (aa (pv 0) (aa (cx (aa (gT K (pv 1) ay) ai)) (aa (cx (aa (cx (aa (pv 3) ai)) ai)) ai)))))))),?_⟩
  have q:hU c K M H b d (if c9 (nums.getD 2 0)=false then(bx,Wqarav.no (-1)) else Wqarav.of bx [dq nums 1] λ(l:List ax)=>Wqarav.made bx ([[nums.getD 2 0]].map λr=>bO bx.form.n (r.zip l))) Q:=q;generalize nums.getD 2 0=z at q at2;refine⟨_,rfl,na,_,_,_,rfl,rfl,hN,at2,?_⟩;refine⟨_,rfl,z,rfl,_,rfl,?_⟩;cases hz:c9 z with
  |false=>
   rw[if_pos hz] at q;exists 20
  |true=>
   rw[if_neg (by rw[hz];decide)] at q;refine dJ ⟨_,rfl,_,rfl,na,_,_,_,rfl,rfl,hN,Wi,(by show 1<=sizeLine;decide),λp0 kK=>⟨_,rfl,(by show 1<=sizeLine;decide),λL1 UG=>⟨(by show 1<=sizeLine;decide),λL2 W7=> ?_⟩⟩⟩;have s0:=au.new (o:=HO.lst [.int ((dq nums 1:Nat):Int)]) kK;have s1:=au.new (o:=HO.lst [.int z]) UG;have s2:=au.new (o:=HO.lst [.ref L1]) W7;have jI:=s0.trans (s1.trans s2);exact⟨M,b,d,p0,L2,bx,[dq nums 1],[[z]],rfl,hB.same jI,hb,hd,hT.same jI,bw.of ((s1.trans s2) _ _ ak),⟨[L1],ak,.cons (s2 _ _ ak) .nil⟩,by simp,by simp,by simp,λr hr=>by rw[br.mp hr];rfl,q.from jI⟩
def Cv(T:Txt K mg c):Callee P w K mg base "answer_mix" 5 ["box","numbers","rows"] (ny c K 1 2 (λ_ rs=> ∀v∈rs.getD 0 [],0<=v) λ_ rs=> .mix 0 (nats (rs.getD 0 [])) (rs.getD 1 [])):=by
 exists T.Fw.ok ["box","numbers","rows","places","factors","factor"]
 ·obtain⟨M,b,d,na,bx,nums,ra,rs,rfl,hB,hb,hd,hT,hn,hl,h0,⟨hR,S2⟩,q⟩:=h;have big:=bI;obtain⟨r,cs,OZ⟩: ∃r cs,rs=[r,cs]:=by
   match rs,S2 with
   | [r,cs],_=>exact⟨r,cs,rfl⟩
  subst OZ;have XU:=hR.mono dD.mono (aX M H);obtain⟨us,u,sV,Ga,hu⟩:=lX XU (i:=0) (r:=r) rfl;obtain⟨Qz,u',O0,Mi,F7⟩:=lX XU (i:=1) (r:=cs) rfl;have h0: ∀v∈r,0<=v:=h0;rw[rB h0] at hu;have hu:H u=some (.lst (iv (nats r))):=hu;have q:hU c K M H b d (if(nats r).length=0\/8<(nats r).length\/cs.length %(nats r).length≠0\/cs.length=0\/8*(nats r).length<cs.length\/cs.all c9=false then(bx,Wqarav.no (-1)) else
   Wqarav.of bx (nats r) λ(l:List ax)=>Wqarav.made bx ((fq (nats r).length (cs.length /(nats r).length) cs).map λ(c:List Int)=>bO bx.form.n (c.zip l))) Q:=q
  generalize nats r=hs at q hu;refine⟨_,(aj (bS 3 nd (gT K (pv 2) ay))
   (aj (bS 4 nd (gT K (pv 2) ay))
   (aj (cD (PW.pt (AE (d6 (dB (aF (AX T) hr (aa (bX (cI K) rfl T.f7 boot_len (aa (pv 3) ai)) (aa (bX (cI K) rfl T.f7 boot_len (aa (pv 4) ai)) ai))))) (uN (d6 (dB (bX (oT rfl) rfl T.Io boot_all (aa (gR rfl nd (sI K (pv 4)) (own:=[("factor",5)]) (cn rfl) (λ_ _ _ _ _=>(qn 5 nd)) (λ_ _ _ _ _=>cO) (λ_ _ _ _ _=>(aF (vP T) hr (aa (pv 5) ai)))) ai))))))) (aq (az (aF (bt T) hr (aa (qg T.cF) ai)))) bA)
   (aq (az (aF (nz T) hr (aa (pv 0) (aa (pv 3) (aa (aF (kC T) hr (aa (pv 4) (aa (bX (cI K) rfl T.f7 boot_len (aa (pv 3) ai)) ai))) ai))))))))),?_⟩
  refine⟨_,rfl,ra,_,_,_,rfl,rfl,bw.of sV,Ga,?_⟩;refine⟨_,rfl,ra,_,_,_,rfl,rfl,bw.of O0,Mi,?_⟩;refine⟨_,rfl,u,_,rfl,.inl (bw.of hu),_,rfl,u',_,rfl,.inl (bw.of F7),(iv hs).length,(ii cs).length,rfl,_,rfl,?_⟩;rw[bR,gi];cases hm:Hf hs.length cs.length with
  |false=>
   have O8:hs.length=0\/8<hs.length\/cs.length % hs.length≠0\/cs.length=0\/8*hs.length<cs.length:=gK λz=>by
    rw[(DT _ _).mpr z] at hm;cases hm
   rw[if_pos (by rcases O8 with h|h|h|h|h <;> simp[h])] at q;exact cY (cY ⟨1,rfl,λp H' sm np hp=>q.dA hB rfl sm np hp⟩)
  |true=>
   have eC:=(DT _ _).mp hm;have a1:1<=hs.length:=yG λz=>eC (.inl z);have a2:hs.length<=8:=fB.mp λz=>eC (.inr (.inl z));have a3:cs.length % hs.length=0:=gK λz=>eC (.inr (.inr (.inl z)));have a5:cs.length<=8*hs.length:=fB.mp λz=>eC (.inr (.inr (.inr (.inr z))));have ecs:cs.length=hs.length*(cs.length / hs.length):=by
    have:=Ez cs.length hs.length;omega
   refine dJ ⟨_,rfl,u',rfl,⟨_,bw.of F7⟩,?_⟩;refine ff (K:=K) (a:=u') (xs:=ii cs) (i:=5) (λn=>V.bl (c9 (cs.getD n 0))) (λ_ H2=>au H H2) (by rw[gi];omega) (au.refl H) (λ_ H2 D o h hD=>au.at' h hD) (λ_ H2 _ h=>h.seq (bw.of F7)) (λn x H2 Q' hx fX k=> ?_) (λD H2 wN fX hD=> ?_)
   ·obtain⟨h1,rfl⟩:=oO hx;exact⟨_,rfl,_,rfl,k H2 fX λ_ _ _ e=>e⟩
   ·have e:(List.range (ii cs).length).map (λn=>V.bl (c9 (cs.getD n 0)))=(cs.map c9).map V.bl:=by
     rw[gi,bP];refine bW (by simp) λn b1 b2=> ?_;have hn:n<cs.length:=by simpa using b1
     simp[ae,af hn]
    rw[e] at hD;have e2:(cs.map c9).all id=cs.all c9:=by rw[sh];rfl
    refine⟨D,_,rfl,bw.of hD,_,rfl,?_⟩;rw[e2];cases qC:cs.all c9 with
    |false=>
     rw[if_pos (by simp[qC])] at q;exact cY ⟨1,rfl,λp H' sm np hp=>q.dA hB rfl (fX.trans sm) (fX.free np) hp⟩
    |true=>
     rw[if_neg (λz=>by
      rcases z with h|h|h|h|h|h
      ·exact eC (.inl h)
      ·exact eC (.inr (.inl h))
      ·exact eC (.inr (.inr (.inl h)))
      ·exact eC (.inr (.inr (.inr (.inl h))))
      ·exact eC (.inr (.inr (.inr (.inr h))))
      ·rw[qC] at h;cases h)] at q
     have hk8:cs.length / hs.length<=8:=vd (by rw[cj];exact a5);refine dJ ⟨_,rfl,_,rfl,_,rfl,_,rfl,u,_,rfl,.inl (bw.of (fX _ _ hu)),u',ii cs,hs.length,cs.length / hs.length,by rw[bR];rfl,bw.of (fX _ _ F7),by rw[gi];exact ecs,a1,by omega,by rw[<-ecs];omega,λF H3 s3 nF hF=> ?_⟩;have mq:=fX.trans s3;have eF:qE hs.length (cs.length / hs.length) (ii cs)=(fq hs.length (cs.length / hs.length) cs).map ii:=by
      rw[yy,ii,Ld]
     rw[eF] at hF;exact⟨M,b,d,u,F,bx,hs,fq hs.length (cs.length / hs.length) cs,rfl,hB.same mq,hb,hd,hT.same mq,bw.of (mq _ _ hu),hF,(λz=>by rw[z] at a1;cases a1),by omega,by rw[rH];omega,wd _ _ _ ecs,q.from mq⟩
def hU.via{M:List Addr}{H H3:Hp}{b d:Addr}{m:fS}{bx:a9}{Hi:Hp}{Q:V->Hp->Prop}(q:hU c K M H b d m Q)(k:jE [b,d] H H3)(hB:eN c K Hi H3 b d bx):hU c K M H3 b d m Q:=λp H' k' np hp X0=>by
 obtain⟨RY,pa3,sv3,mo3,kv3,t1,t2,t3,t4,t5,t6⟩:=hB.obj;have VY:p≠b:=λz=>by rw[z,t1] at np;cases np
 have S6:p≠d:=λz=>by rw[z,t5] at np;cases np
 refine q p H' (λy o e hy=>k' y o (k y o e hy) hy) ?_ hp X0;cases e:H p with
 |none=>rfl
 |some o=>rw[k p o e (by simp[VY,S6])] at np;cases np
def Km{M:List Addr}{H:Hp}{b d dx pa:Addr}{sv mo:V}{bE:List (Key×V)}{bx:a9}{n:Nat}{z:Int}(hB:eN c K (cf M H) H b d bx)(hb:b∈M)(hT:Kept M H)(h1:H b=some (.ins c.Box dx (kZ pa sv d bx.uses mo)))(h2:iq c K (cf M H) pa bx.work)(h3:J9 c (cf M H) bx.work.form.n bx.work.form.ring sv bx.secret)(h4:YA mo bx.cap)(h5:H d=some (.dK bE))(h6:iX c (cf M H) bx.work.form.n bE bx.seals)(hz:z=((bx.uses + n:Nat):Int)):
  eN c K (cf M (upd H b (.ins c.Box dx (iJ "uses" (.int z) (kZ pa sv d bx.uses mo))))) (upd H b (.ins c.Box dx (iJ "uses" (.int z) (kZ pa sv d bx.uses mo)))) b d (bx.used n)/\
  jE [b,d] H (upd H b (.ins c.Box dx (iJ "uses" (.int z) (kZ pa sv d bx.uses mo))))/\Kept M (upd H b (.ins c.Box dx (iJ "uses" (.int z) (kZ pa sv d bx.uses mo))))/\au (cf M H) (upd H b (.ins c.Box dx (iJ "uses" (.int z) (kZ pa sv d bx.uses mo)))):=by
 have XO:d≠b:=jw h5 h1 (by intro z;cases z);have kl:jE [b,d] H (upd H b (.ins c.Box dx (iJ "uses" (.int z) (kZ pa sv d bx.uses mo)))):=λy o e hy=>by rw[aJ (λz=>hy (by rw[z];simp))];exact e
 have sm:au (cf M H) (cf M (upd H b (.ins c.Box dx (iJ "uses" (.int z) (kZ pa sv d bx.uses mo))))):=λy o e=>by
  obtain⟨y1,y2⟩:=lI e;rw[cV y1,aJ (λz=>y1 (by rw[z];exact hb))];exact y2
 have hBn:eN c K (cf M (upd H b (.ins c.Box dx (iJ "uses" (.int z) (kZ pa sv d bx.uses mo))))) (upd H b (.ins c.Box dx (iJ "uses" (.int z) (kZ pa sv d bx.uses mo)))) b d (bx.used n):=by
  refine⟨⟨dx,pa,sv,mo,bE,?_,h2.mono sm,h3.mono sm,h4,by rw[aJ XO];exact h5,h6.mono sm⟩,hB.wf⟩;rw[ak,hz];rfl
 exact⟨hBn,kl,hT.after kl hB hBn,sm.trans (aX M _)⟩
inductive NQ(c:Cs)(K:ab)(vs:List V)(H:Hp)(Q:VK)(E:XK):Prop
 |mk (M:List Addr) (b d pl fc ta:Addr) (bx:a9) (hs:List Nat) (fs:List Int) (g:List Nat):vs=[.ref b,.ref pl,.ref fc,.ref ta]->eN c K (cf M H) H b d bx->b∈M->d∈M->Kept M H->bw K H pl (iv hs)->(bw K H fc (ii fs)\/gU K H fc (ii fs))->hs.length=fs.length->hs≠[]->hs.length<=1000->H ta=some (.lst (iv g))->g.length=bx.form.p->hU c K M H b d (Wqarav.of bx hs λ(l:List ax)=>dt bx g (bO bx.form.n (fs.zip l))) Q->NQ c K vs H Q E
def lC(T:Txt K mg c):Callee P w K mg base "put_through_table" 7 ["box","places","factors","table"] (NQ c K):=by
 exists T.tN.ok ["box","places","factors","table","seals","total"]
 ·obtain⟨M,b,d,pl,fc,ta,bx,hs,fs,g,rfl,hB,hb,hd,hT,m5,hfc,hlf,pC,hl,hta,V2,q⟩:=h;have hG:=hB.wf.good;refine⟨_,(aj (bS 4 nd (aF (rn T) hr (aa (pv 0) (aa (pv 1) ai))))
   (aj (cD (fN (jo (pv 4))) (aq (az (aF (bt T) hr (aa (qg T.ip) ai)))) bA)
   (aj (cD (d6 (dB (aF (i8 T) hr (aa (pv 0) (aa ay ai))))) (aq (az (aF (bt T) hr (aa (qg T.kY) ai)))) bA)
   (aj (cD (d6 (dB (aF (AU T) hr (aa (pv 0) (aa ay ai))))) (aq (az (aF (bt T) hr (aa (qg T.uA) ai)))) bA)
   (aj (bS 5 nd (aF (rq T) hr (aa (pv 4) (aa (pv 2) ai))))
   (aj (cD (d6 (dB (aF (uQ T) hr (aa (fld K (fld K (pv 0))) (aa (fld K (pv 5)) ai))))) (aq (az (aF (bt T) hr (aa (qg T.B2) ai)))) bA)
   (aj (dw (pv 0) (aM cz (fld K (pv 0)) ay) rfl)
   (aq (az (cx (aa ay (aa (aF (jZ T) hr (aa (pv 0) (aa (aF (oI T) hr (aa (fld K (pv 0)) (aa (pv 5) (aa (pv 3) ai)))) ai))) ai)))))))))))),?_⟩
  refine⟨_,rfl,_,rfl,cf M H,b,d,pl,bx,hs,rfl,hB,m5,by omega,λe H1 s1=> ?_,λls ts D H1 e Tb hw s1 nD hD hP=> ?_⟩
  ·rw[Bf e] at q;exact⟨_,rfl,_,rfl,cY ⟨5,rfl,λp H' sm np hp=>q.dA hB rfl (s1.trans sm) (s1.free np) hp⟩⟩
  rw[Bg e] at q;have IM:=hB.same s1;unfold dt at q;refine⟨_,rfl,_,rfl,dJ ⟨_,rfl,cf M H1,b,d,bx,1,rfl,IM,_,rfl,?_⟩⟩;by_cases nJ:1<=bx.free
  case neg=>
   rw[decide_eq_false nJ];rw[if_pos (by omega)] at q;exact cY ⟨3,rfl,λp H' sm np hp=>q.dA hB rfl (s1.trans sm) (s1.free np) hp⟩
  rw[decide_eq_true nJ];rw[if_neg (by omega)] at q;refine dJ ⟨_,rfl,cf M H1,b,d,bx,1,rfl,IM,_,rfl,?_⟩;rw[show decide (1=0)=false from rfl,IH];cases Me:bx.may 1 with
  |false=>
   rw[if_pos Me] at q;exact cY ⟨7,rfl,λp H' sm np hp=>q.dA hB rfl (s1.trans sm) (s1.free np) hp⟩
  |true=>
   rw[if_neg (by rw[Me];decide)] at q;refine dJ ⟨_,rfl,_,rfl,D,fc,ls,fs,bx.form.n,rfl,⟨ts,hD,Paired.ja hP λt r q=>q.mono ((aX M H).trans s1)⟩,Zf.mono hfc s1,by omega,λz=> ?_,by omega,hw,hG.n4,λpT H2 s2 npT hST=> ?_⟩
   ·rw[z] at Tb;exact pC (eU.mp Tb.symm)
   have jI:=s1.trans s2;have Mp:=hB.same jI;obtain⟨dx,pa,sv,mo,bE,h1,h2,h3,h4,h5,h6⟩:=Mp.obj;have Wc:=h2.mono (aX M H2);obtain⟨qu,fa,pp,QR,g1,g2,g3,g4⟩:=id Wc;obtain⟨Pl,wa,w1,w2⟩:=id hST;have U4:=Sb.vW bx.form.n (fs.zip ls);generalize bO bx.form.n (fs.zip ls)=VI at q hST w1 w2 U4;refine⟨_,rfl,b,c.Box,dx,_,_,rfl,h1,T.cE,T.cR,rfl,pa,c.cB,qu,_,_,rfl,g1,T.bY,T.bK,rfl,_,rfl,pT,c.Seal,Pl,_,_,rfl,w1,T.fI,T.gm,rfl,fa,bx.work.form,VI.bound,rfl,g2,hG.toSmall,_,rfl,?_⟩;cases S1:gu bx.work.form VI.bound with
   |false=>
    rw[if_pos (show gu bx.form VI.bound=false from S1)] at q;exact cY ⟨8,rfl,λp H' sm np hp=>q.dA hB rfl (jI.trans sm) (jI.free np) hp⟩
   |true=>
    rw[if_neg (show¬gu bx.form VI.bound=false by show¬gu bx.work.form VI.bound=false;rw[S1];decide)] at q;refine dJ ⟨_,rfl,b,c.Box,dx,_,_,rfl,h1,T.cE,T.iB,rfl,_,_,rfl,rfl,_,rfl,b,c.Box,dx,_,rfl,h1,T.cE,T.iB,(by show 5<1000;decide),?_⟩;have Qj:=hT.same jI;obtain⟨Mo,k3,Y9,ZC⟩:=Km (n:=1) (z:=(bx.uses:Int)+ 1) Mp hb Qj h1 h2 h3 h4 h5 h6 (by rw[bh];rfl);have Wa:=(hST.LU Qj).mono ZC;have hP3:=h2.mono ZC;have Xo:upd H2 b (.ins c.Box dx (iJ "uses" (.int ((bx.uses:Int)+ 1)) (kZ pa sv d bx.uses mo))) ta=some (.lst (iv g)):=by
     have:=jI _ _ hta;rw[aJ (jw this h1 (by intro z;cases z))];exact this
    have q3:=hU.via (Hi:=cf M (upd H2 b (.ins c.Box dx (iJ "uses" (.int ((bx.uses:Int)+ 1)) (kZ pa sv d bx.uses mo))))) (q.from jI) k3 Mo;have Ti:upd H2 b (.ins c.Box dx (iJ "uses" (.int ((bx.uses:Int)+ 1)) (kZ pa sv d bx.uses mo))) b=some (.ins c.Box dx (iJ "uses" (.int ((bx.uses:Int)+ 1)) (kZ pa sv d bx.uses mo))):=ak;generalize upd H2 b (.ins c.Box dx (iJ "uses" (.int ((bx.uses:Int)+ 1)) (kZ pa sv d bx.uses mo)))=H3 at Mo k3 Y9 ZC Wa hP3 Xo q3 Ti;refine⟨_,rfl,_,rfl,b,c.Box,dx,_,_,rfl,Ti,T.cE,T.cR,rfl,_,rfl,_,rfl,pa,pT,ta,bx.work,VI,g,rfl,hP3,hB.wf,Wa,⟨U4.1,U4.2.1,U4.2.2.1,U4.2.2.2⟩,Xo,V2,λp4 H4 s4 II hS4=> ?_⟩;exact zu (E:=E0) q3 Mo hb hd Y9 s4 hS4 (Kt hB.wf _ _) nJ
def yU(T:Txt K mg c):Callee P w K mg base "answer_table" 8 ["box","numbers","rows"] (ny c K 2 1 (λnums rs=>(∀v∈nums,0<=v)/\ ∀r∈rs,∀v∈r,0<=v) λnums rs=> .table 0 (dq nums 1) (nats (rs.getD 0 []))):=by
 exists T.BP.ok ["box","numbers","rows","form","table","number"]
 ·obtain⟨M,b,d,na,bx,nums,ra,rs,rfl,hB,hb,hd,hT,hn,hl,⟨h0,V8⟩,⟨hR,S2⟩,q⟩:=h;obtain⟨dx,pa,sv,mo,bE,h1,h2,h3,h4,h5,h6⟩:=hB.obj;have big:=bI;have hN:=(aX M H).seq hn;have hP:=h2.mono (aX M H);obtain⟨qu,fa,pp,QR,g1,g2,g3,g4⟩:=id hP;have hG:=hB.wf.good;have p8:=hG.p8;obtain⟨r,OZ⟩: ∃r,rs=[r]:=by
   match rs,S2 with
   | [r],_=>exact⟨r,rfl⟩
  subst OZ;obtain⟨us,u,sV,Ga,hu⟩:=lX (hR.mono dD.mono (aX M H)) (i:=0) (r:=r) rfl;rw[rB (V8 r (by simp))] at hu;have hu:H u=some (.lst (iv (nats r))):=hu;have q:hU c K M H b d (if(nats r).length≠bx.form.p then(bx,Wqarav.no (-2)) else if(nats r).any (λ(x:Nat)=>decide (2*bx.form.p<=x))=true then(bx,Wqarav.no (-1)) else Wqarav.of bx [dq nums 1] λ(l:List ax)=>match l with
   |c::_=>dt bx (nats r) c
   | []=>(bx,Wqarav.no (-5))) Q:=q
  generalize nats r=l at q hu;refine⟨_,(aj (bS 3 nd (fld K (fld K (pv 0))))
   (aj (bS 4 nd (gT K (pv 2) ay))
   (aj (cD (eh KG (bX (cI K) rfl T.f7 boot_len (aa (pv 4) ai)) (fld K (pv 3)) (dC _)) (aq (az (aF (bt T) hr (aa (qg T.kE) ai)))) bA)
   (aj (cD (d6 (dB (bX (oT rfl) rfl T.Io boot_all (aa (gR rfl nd (sI K (pv 4)) (own:=[("number",5)]) (cn rfl) (λ_ _ _ _ _=>(qn 5 nd)) (λ_ _ _ _ _=>cO) (λ_ _ _ _ _=>(aF (kx T) hr (aa (pv 3) (aa (pv 5) ai))))) ai)))) (aq (az (aF (bt T) hr (aa (qg T.cF) ai)))) bA)
   (aq (az (aF (lC T) hr (aa (pv 0) (aa (cx (aa (gT K (pv 1) ay) ai)) (aa (cx (aa ay ai)) (aa (pv 4) ai))))))))))),?_⟩
  refine⟨_,rfl,b,c.Box,dx,_,_,rfl,h1,T.cE,T.cR,rfl,pa,c.cB,qu,_,_,rfl,g1,T.bY,T.bK,rfl,?_⟩;refine⟨_,rfl,ra,_,_,_,rfl,rfl,bw.of sV,Ga,?_⟩;obtain⟨Gd,VQ,f1,f2⟩:=id g2;refine⟨_,rfl,u,_,rfl,.inl (bw.of hu),_,rfl,fa,c.Form,Gd,_,_,rfl,f1,T.bc,T.eY,rfl,rfl,_,rfl,?_⟩;show if(!decide (V.int (((iv l).length:Nat):Int)=V.int (bx.work.form.p:Int)))=true then _ else _;by_cases hlen:l.length=bx.work.form.p
  case neg=>
   rw[if_pos (show l.length≠bx.form.p from hlen)] at q;have e:(!decide (V.int (((iv l).length:Nat):Int)=V.int (bx.work.form.p:Int)))=true:=by
    rw[bR,decide_eq_false (λy=>by injection y with y;omega)];rfl
   rw[e];exact cY ⟨2,rfl,λp H' sm np hp=>q.dA hB rfl sm np hp⟩
  rw[if_neg (show¬l.length≠bx.form.p from λy=>y hlen)] at q;have e:(!decide (V.int (((iv l).length:Nat):Int)=V.int (bx.work.form.p:Int)))=false:=by rw[bR,hlen];simp
  rw[e];refine dJ ⟨_,rfl,u,rfl,⟨_,bw.of hu⟩,?_⟩;refine ff (K:=K) (a:=u) (xs:=iv l) (i:=5) (λn=>V.bl (decide (l.getD n 0<2*bx.work.form.p))) (λ_ H2=>au H H2) (by rw[bR];omega) (au.refl H) (λ_ H2 D o h hD=>au.at' h hD) (λ_ H2 _ h=>h.seq (bw.of hu)) (λn x H2 Q' hx fX k=> ?_) (λD H2 wN fX hD=> ?_)
  ·obtain⟨z,hz,rfl⟩:=jT hx;have e:l.getD n 0=z:=by rw[ae,hz];rfl
   have k2:=k H2 fX λ_ _ _ e=>e;rw[e] at k2;exact⟨_,rfl,_,rfl,fa,bx.work.form,z,rfl,g2.mono fX,k2⟩
  have e3:(List.range (iv l).length).map (λn=>V.bl (decide (l.getD n 0<2*bx.work.form.p)))=(l.map λx=>decide (x<2*bx.work.form.p)).map V.bl:=by
   rw[bR,bP];refine bW (by simp) λn b1 b2=> ?_;have hn:n<l.length:=by simpa using b1
   simp[ae,af hn]
  rw[e3] at hD;refine⟨D,_,rfl,bw.of hD,_,rfl,?_⟩;have e4:((l.map λx=>decide (x<2*bx.work.form.p)).all id)= !(l.any λ(x:Nat)=>decide (2*bx.form.p<=x)):=by
   rw[sh,IT];congr 1;funext x;show decide (x<2*bx.work.form.p)= !decide (2*bx.work.form.p<=x);by_cases h:x<2*bx.work.form.p
   ·rw[decide_eq_true h,decide_eq_false (by omega)];rfl
   ·rw[decide_eq_false h,decide_eq_true (by omega)];rfl
  rw[e4];cases Mj:l.any λ(x:Nat)=>decide (2*bx.form.p<=x) with
  |true=>
   rw[if_pos Mj] at q;exact cY ⟨1,rfl,λp H' sm np hp=>q.dA hB rfl (fX.trans sm) (fX.free np) hp⟩
  |false=>
   rw[if_neg (by rw[Mj];decide)] at q;have Wi:xH (ii nums) 1=some (V.int ((dq nums 1:Nat):Int)):=fF (j:=1) (fE (by omega) h0);refine dJ ⟨_,rfl,_,rfl,na,_,_,_,rfl,rfl,fX.seq hN,Wi,(by show 1<=sizeLine;omega),λp0 kK=>⟨(by show 1<=sizeLine;omega),λL1 UG=>⟨_,rfl,?_⟩⟩⟩;have s0:=au.new (o:=HO.lst [.int ((dq nums 1:Nat):Int)]) kK;have s1:=au.new (o:=HO.lst [.int 1]) UG;have jI:=fX.trans (s0.trans s1);have eq1:(Wqarav.of bx [dq nums 1] λ(l':List ax)=>match l' with
     |c::_=>dt bx l c
     | []=>(bx,Wqarav.no (-5)))=Wqarav.of bx [dq nums 1] λ(l':List ax)=>dt bx l (bO bx.form.n (([1]:List Int).zip l')):=by
    rcases ij h6 (dq nums 1) with⟨e1,e2⟩|⟨s,sa,e1,hw,e2,hs⟩
    ·rw[of_none e1,of_none e1]
    ·rw[l8 e1,l8 e1];show dt bx l s=dt bx l (bO bx.form.n [((1:Int),s)]);rw[Sb.LV (show s.a.length=bx.form.n from hw.len) hw.words hw.last hw.bound]
   rw[eq1] at q;exact⟨M,b,d,p0,L1,u,bx,[dq nums 1],[1],l,rfl,hB.same jI,hb,hd,hT.same jI,bw.of (s1 _ _ ak),.inl (bw.of ak),rfl,by simp,by simp,jI _ _ hu,hlen,q.from jI⟩
def Pa{nums:List Int}(hl:nums.length=4)(h0: ∀v∈nums,0<=v):iw (ii nums) (some 2) none=iv [dq nums 2,dq nums 3]:=by
 rw[show(2:Int)=((2:Nat):Int) from rfl,wA,we]
 match nums,hl with
 | [x,y,z,t],_=>
  have e1:((z.toNat:Nat):Int)=z:=aR (h0 z (by simp));have e2:((t.toNat:Nat):Int)=t:=aR (h0 t (by simp));show[V.int z,V.int t]=[V.int ((z.toNat:Nat):Int),V.int ((t.toNat:Nat):Int)];rw[e1,e2]
def Ba(T:Txt K mg c):Callee P w K mg base "answer_gate" 8 ["box","numbers","rows"] (jn c K 4 λnums=> .gate 0 (dq nums 1) (dq nums 2) (dq nums 3)):=by
 exists T.C1.ok ["box","numbers","rows","form","kind"]
 ·obtain⟨M,b,d,na,bx,nums,ra,rs,rfl,hB,hb,hd,hT,hn,hl,h0,hR,q⟩:=h;obtain⟨dx,pa,sv,mo,bE,h1,h2,h3,h4,h5,h6⟩:=hB.obj;have hN:=(aX M H).seq hn;have hP:=h2.mono (aX M H);obtain⟨qu,fa,pp,QR,g1,g2,g3,g4⟩:=id hP;have hG:=hB.wf.good;obtain⟨aw,Nc,hTw⟩:=T.wX;have q:hU c K M H b d (if 15<dq nums 1\/bx.form.p=2 then(bx,Wqarav.no (-1)) else Wqarav.of bx [dq nums 2,dq nums 3] λ(l:List ax)=>match l with
   |x::y::_=>dt bx (eQ bx.form.p (dq nums 1)) (Df bx.form x y)
   |_=>(bx,Wqarav.no (-5))) Q:=q
  refine⟨_,(aj (bS 3 nd (fld K (fld K (pv 0))))
   (aj (bS 4 nd (gT K (pv 1) ay))
   (aj (cD (PW.pt (AE (eh KH (pv 4) (qg T.wF) (dC _)) (uN (d6 (dB (aF (vQ T) hr (aa (pv 3) ai))))))) (aq (az (aF (bt T) hr (aa (qg T.cF) ai)))) bA)
   (aq (az (aF (lC T) hr (aa (pv 0) (aa (Cb K (pv 1) (dr ay) iV) (aa (qr Nc) (aa (aF (ur T) hr (aa (pv 3) (aa (pv 4) ai))) ai)))))))))),?_⟩
  refine⟨_,rfl,b,c.Box,dx,_,_,rfl,h1,T.cE,T.cR,rfl,pa,c.cB,qu,_,_,rfl,g1,T.bY,T.bK,rfl,?_⟩;refine⟨_,rfl,na,_,_,_,rfl,rfl,hN,fF (j:=1) (fE (by omega) h0),?_⟩;generalize dq nums 1=kd at q ⊢;exists 23
  ·have hc:(16:Int)<=(kd:Int):=of_decide_eq_true hc;rw[if_pos (.inl (by omega))] at q;exists 20
  ·have hc: ¬(16:Int)<=(kd:Int):=λy=>hc (decide_eq_true y);refine⟨_,rfl,fa,bx.work.form,rfl,g2,_,rfl,?_⟩;by_cases X1:3<bx.work.form.p
   case neg=>
    have uV:bx.form.p=2:=by
     show bx.work.form.p=2;rcases hG.p with e|e|e <;> omega
    rw[decide_eq_false X1];rw[if_pos (.inr uV)] at q;exists 20
   rw[decide_eq_true X1];rw[if_neg (λz=>by
    rcases z with z|z
    ·omega
    ·have z:bx.work.form.p=2:=z;omega)] at q
   refine dJ ⟨_,rfl,_,rfl,_,rfl,na,_,rfl,hN,λp0 kK=> ?_⟩;have s0:=au.new (o:=HO.lst (iw (ii nums) (some 2) none)) kK;refine⟨_,rfl,_,rfl,fa,bx.work.form,kd,rfl,g2.mono s0,hG.toSmall,λpt H1 s1 npt hpt=> ?_⟩;have Na:=s0.trans s1;have eq1:(Wqarav.of bx [dq nums 2,dq nums 3] λ(l:List ax)=>match l with
     |x::y::_=>dt bx (eQ bx.form.p kd) (Df bx.form x y)
     |_=>(bx,Wqarav.no (-5)))=Wqarav.of bx [dq nums 2,dq nums 3] λ(l:List ax)=>dt bx (eQ bx.form.p kd) (bO bx.form.n (([1,2]:List Int).zip l)):=by
    rcases xI h6 [dq nums 2,dq nums 3] with⟨a1,a2⟩|⟨a1,ls,ts,a2,a3,a4,a5,a6⟩
    ·rw[Bf a2,Bf a2]
    ·rw[Bg a2,Bg a2]
     match ls,a3 with
     | [x,y],_=>rfl
   rw[eq1] at q;exact⟨M,b,d,p0,aw,pt,bx,[dq nums 2,dq nums 3],[1,2],eQ bx.form.p kd,rfl,hB.same Na,hb,hd,hT.same Na,bw.of (s1 _ _ (by rw[ak,Pa hl h0])),.inr (hTw _),rfl,by simp,by simp,hpt,by simp[eQ],q.from Na⟩
def k0.box{c:Cs}{H:Hp}{a b C dx pa d:Addr}{sv m:V}{u:Nat}{o:HO}{x:fT}(h:k0 c H a x)(hb:H b=some (.ins C dx (kZ pa sv d u m))):k0 c (upd H b o) a x:=by
 obtain⟨Vo,ga,oa,h1,⟨ts,h2,h3⟩,h4⟩:=h;have no: ∀{y C' To:Addr} {n:Str} {v:V} {fs:List (Str×V)},H y=some (.ins C' To ((n,v)::fs))->n≠"part"->y≠b:=λe hn z=>by
  rw[z,hb] at e;injection e with e;injection e with _ _ e;injection e with e _;injection e with e _;exact hn e.symm
 refine⟨Vo,ga,oa,by rw[aJ (no h1 (by decide))];exact h1,⟨ts,by rw[aJ (jw h2 hb (by intro z;cases z))];exact h2,Paired.ja h3 λt r q=> ?_⟩,by rw[aJ (jw h4 hb (by intro z;cases z))];exact h4⟩;obtain⟨dg,q⟩:=q;exact⟨dg,by rw[aJ (no q (by decide))];exact q⟩
theorem NV{k:cW}(h:iS k): ∀(gs:List tV) (ls:List ax),(∀s∈ls,Wf k.form.n s)-> ∀s∈Sb.j8 k gs ls,Wf k.form.n s
 | [],ls,hw,s,hs=>hw s hs
 |g::r,ls,hw,s,hs=>NV h r (ls++[Kf k g.kind (ls.getD g.a Sb.dI) (ls.getD g.b Sb.dI)]) (λz hz=>by
   rcases cJ.mp hz with hz|hz
   ·exact hw z hz
   ·rw[br.mp hz];exact Fc h _ _ _) s hs
inductive xZ(c:Cs)(K:ab)(vs:List V)(H:Hp)(Q:VK)(E:XK):Prop
 |mk (M:List Addr) (b d pl ca:Addr) (bx:a9) (hs:List Nat) (x:fT):vs=[.ref b,.ref pl,.ref ca]->eN c K (cf M H) H b d bx->b∈M->d∈M->Kept M H->bw K H pl (iv hs)->hs.length<=100->k0 c H ca x->Sb.Iy x hs.length->hU c K M H b d (Wqarav.of bx hs λ(l:List ax)=>jq bx x l) Q->xZ c K vs H Q E
def GY(T:Txt K mg c):Callee P w K mg base "put_outs" 8 ["box","places","circuit"] (xZ c K):=by
 exists T.JS.ok ["box","places","circuit","seals","seal"]
 ·obtain⟨M,b,d,pl,ca,bx,hs,x,rfl,hB,hb,hd,hT,m5,hl,hC,Za,q⟩:=h;have big:=bI;have hG:=hB.wf.good;refine⟨_,(aj (bS 3 nd (aF (rn T) hr (aa (pv 0) (aa (pv 1) ai))))
   (aj (cD (fN (jo (pv 3))) (aq (az (aF (bt T) hr (aa (qg T.ip) ai)))) bA)
   (aj (cD (d6 (dB (aF (i8 T) hr (aa (pv 0) (aa (bX (cI K) rfl T.f7 boot_len (aa (fld K (pv 2)) ai)) ai))))) (aq (az (aF (bt T) hr (aa (qg T.kY) ai)))) bA)
   (aj (cD (d6 (dB (aF (AU T) hr (aa (pv 0) (aa (bX (cI K) rfl T.f7 boot_len (aa (fld K (pv 2)) ai)) ai))))) (aq (az (aF (bt T) hr (aa (qg T.uA) ai)))) bA)
   (aj (cD (d6 (dB (aF (vR T) hr (aa (fld K (fld K (pv 0))) (aa (pv 2) (aa (gR rfl nd (sI K (pv 3)) (own:=[("seal",4)]) (cn rfl) (λ_ _ _ _ _=>(qn 4 nd)) (λ_ _ _ _ _=>cO) (λ_ _ _ _ _=>(fld K (pv 4)))) ai)))))) (aq (az (aF (bt T) hr (aa (qg T.B2) ai)))) bA)
   (aj (dw (pv 0) (aM cz (fld K (pv 0)) (bX (cI K) rfl T.f7 boot_len (aa (fld K (pv 2)) ai))) rfl)
   (aq (az (aM ku (cx (aa ay ai)) (aF (vO T) hr (aa (pv 0) (aa (aF (Cm T) hr (aa (fld K (pv 0)) (aa (pv 2) (aa (pv 3) ai)))) ai)))))))))))),?_⟩
  refine⟨_,rfl,_,rfl,cf M H,b,d,pl,bx,hs,rfl,hB,m5,by omega,λe H1 s1=> ?_,λls ts D H1 e Tb hw s1 nD hD hP=> ?_⟩
  ·rw[Bf e] at q;exact⟨_,rfl,_,rfl,cY ⟨5,rfl,λp H' sm np hp=>q.dA hB rfl (s1.trans sm) (s1.free np) hp⟩⟩
  rw[Bg e] at q;have IM:=hB.same s1;have hT1:=hT.same s1;have q1:=q.from s1;have hC1:=hC.mono s1;have hP1:Paired (λt r=>cQ c (cf M H1) t r) ts ls:=Paired.ja hP λt r q=>q.mono (jE.mask (bs:=[]) (au.oN s1) (λ_ h=>nomatch h));clear hB hT q hC hP;rw[<-Tb] at Za;have O2:ls.length<=100:=by omega
  obtain⟨Vo,ga,oa,c1,⟨gs,c2,c3⟩,c4⟩:=id hC1;have lgs:gs.length=x.gates.length:=Paired.length c3;obtain⟨dx,pa,sv,mo,bE,h1,h2,h3,h4,h5,h6⟩:=IM.obj;have Wc:=h2.mono (aX M H1);obtain⟨qu,fa,pp,QR,g1,g2,g3,g4⟩:=id Wc;unfold jq at q1;refine⟨_,rfl,_,rfl,dJ ⟨_,rfl,_,rfl,ca,c.Circuit,Vo,_,_,rfl,c1,T.f6,T.iM,rfl,oa,_,rfl,.inl (bw.of c4),cf M H1,b,d,bx,(iv x.outs).length,rfl,IM,_,rfl,?_⟩⟩;rw[bR];by_cases nJ:x.outs.length<=bx.free
  case neg=>
   rw[decide_eq_false nJ];rw[if_pos (by omega)] at q1;exact cY ⟨3,rfl,λp H' sm np hp=>q1.dA IM rfl sm np hp⟩
  rw[decide_eq_true nJ];rw[if_neg (by omega)] at q1;refine dJ ⟨_,rfl,_,rfl,ca,c.Circuit,Vo,_,_,rfl,c1,T.f6,T.eK,rfl,ga,_,rfl,.inl (bw.of c2),cf M H1,b,d,bx,(gs.map V.ref).length,rfl,IM,_,rfl,?_⟩;rw[ag,lgs];have hgn:(x.gates≠[]/\bx.may x.gates.length=false)↔(decide (x.gates.length=0)||bx.may x.gates.length)=false:=by
   rw[Bool.or_eq_false_iff,decide_eq_false_iff_not];constructor
   ·rintro⟨z1,z2⟩;exact⟨λz=>z1 (eU.mp z),z2⟩
   ·rintro⟨z1,z2⟩;exact⟨λz=>z1 (by rw[z];rfl),z2⟩
  cases Me:(decide (x.gates.length=0)||bx.may x.gates.length) with
  |false=>
   rw[if_pos (hgn.mpr Me)] at q1;exact cY ⟨7,rfl,λp H' sm np hp=>q1.dA IM rfl sm np hp⟩
  |true=>
   rw[if_neg (λz=>by rw[hgn.mp z] at Me;cases Me),Sb.Gi] at q1;refine dJ ⟨_,rfl,b,c.Box,dx,_,_,rfl,h1,T.cE,T.cR,rfl,pa,c.cB,qu,_,_,rfl,g1,T.bY,T.bK,rfl,_,rfl,_,rfl,D,rfl,⟨_,bw.of hD⟩,?_⟩;refine vY (c:=c) (λs=>((s.bound:Nat):Int)) hD (Paired.ja hP1 λt r q=>q.mono (aX M H1)) (by omega) (λt s H2 Q' hm hS k=> ?_) (λD2 H2 s2 nD2 IL=> ?_)
   ·obtain⟨Pl,wa,w1,w2⟩:=hS;exact⟨_,rfl,t,c.Seal,Pl,_,_,rfl,w1,T.fI,T.gm,rfl,k⟩
   have e4:ii (ls.map λ(s:ax)=>((s.bound:Nat):Int))=iv (ls.map λ(s:ax)=>s.bound):=by rw[mQ,bP];rfl
   rw[e4] at IL;refine⟨fa,ca,D2,bx.work.form,x,ls.map (λ(s:ax)=>s.bound),rfl,g2.mono s2,hG,hC1.mono s2,bw.of IL,by rw[ag];exact Za,by rw[ag];exact O2,λz hz=> ?_,λH3 s3=> ?_⟩
   ·obtain⟨s,hs,rfl⟩:=aQ.mp hz;exact(hw s hs).bound
   have wM:=s2.trans s3;refine⟨_,rfl,?_⟩;cases S0:Sb.lj bx.work.form x.gates (ls.map λ(s:ax)=>s.bound) with
   |false=>
    rw[if_neg (by rw[S0];decide)] at q1;exact cY ⟨8,rfl,λp H' sm np hp=>q1.dA IM rfl (wM.trans sm) (wM.free np) hp⟩
   |true=>
    rw[if_pos S0] at q1;have q1:hU c K M H1 b d (Wqarav.made (bx.used x.gates.length) (x.outs.map λ(i:Nat)=>(Sb.j8 bx.work x.gates ls).getD i Sb.dI)) Q:=q1;have Mo:=IM.same wM;have Y9:=hT1.same wM;have mm:au (cf M H1) (cf M H3):=jE.mask (bs:=[]) (au.oN wM) (λ_ h=>nomatch h);have k1:=wM _ _ h1;refine dJ ⟨_,rfl,b,c.Box,dx,_,_,rfl,k1,T.cE,T.iB,rfl,_,rfl,ca,c.Circuit,Vo,_,_,rfl,wM _ _ c1,T.f6,T.eK,rfl,ga,_,rfl,.inl (bw.of (wM _ _ c2)),_,_,rfl,rfl,_,rfl,b,c.Box,dx,_,rfl,k1,T.cE,T.iB,(by show 5<1000;decide),?_⟩;have ez:(bx.uses:Int)+(((gs.map V.ref).length:Nat):Int)=((bx.uses + x.gates.length:Nat):Int):=by rw[ag,lgs,bh]
    obtain⟨Th,k4,hT4,ZA⟩:=Km (n:=x.gates.length) (z:=(bx.uses:Int)+(((gs.map V.ref).length:Nat):Int)) Mo hb Y9 k1 (h2.mono mm) (h3.mono mm) h4 (wM _ _ h5) (h6.mono mm) ez;have Wd:Paired (λt r=>cQ c (upd H3 b (.ins c.Box dx (iJ "uses" (.int ((bx.uses:Int)+(((gs.map V.ref).length:Nat):Int))) (kZ pa sv d bx.uses mo)))) t r) ts ls:=Paired.ja hP1 λt r q=>q.mono (mm.trans ZA);have XW:=h2.mono (mm.trans ZA);have hC4:k0 c (upd H3 b (.ins c.Box dx (iJ "uses" (.int ((bx.uses:Int)+(((gs.map V.ref).length:Nat):Int))) (kZ pa sv d bx.uses mo)))) ca x:=(hC1.mono wM).box k1;have Mm:upd H3 b (.ins c.Box dx (iJ "uses" (.int ((bx.uses:Int)+(((gs.map V.ref).length:Nat):Int))) (kZ pa sv d bx.uses mo))) D=some (.lst (ts.map V.ref)):=by
     have:=wM _ _ hD;rw[aJ (jw this k1 (by intro z;cases z))];exact this
    have q4:=hU.via (q1.from wM) k4 Th;have h14:upd H3 b (.ins c.Box dx (iJ "uses" (.int ((bx.uses:Int)+(((gs.map V.ref).length:Nat):Int))) (kZ pa sv d bx.uses mo))) b=some (.ins c.Box dx (iJ "uses" (.int ((bx.uses:Int)+(((gs.map V.ref).length:Nat):Int))) (kZ pa sv d bx.uses mo))):=ak;generalize upd H3 b (.ins c.Box dx (iJ "uses" (.int ((bx.uses:Int)+(((gs.map V.ref).length:Nat):Int))) (kZ pa sv d bx.uses mo)))=H4 at Th k4 hT4 ZA Wd XW hC4 Mm q4 h14;have aax: ∀s∈(x.outs.map λ(i:Nat)=>(Sb.j8 bx.work x.gates ls).getD i Sb.dI),Wf bx.work.form.n s:=λs hs=>by
     obtain⟨o,ho,rfl⟩:=aQ.mp hs;have:=Za.outs o ho;have JH:(Sb.j8 bx.work x.gates ls).getD o Sb.dI∈Sb.j8 bx.work x.gates ls:=by
      have hlr:=Sb.zq bx.work x.gates ls;rw[ae,af (by omega)];exact gH _
     exact NV IM.wf x.gates ls hw _ JH
    refine⟨(by show 1<=sizeLine;omega),λp0 kK=> ?_⟩;have s5:=au.new (o:=HO.lst [.int 0]) kK;have CD:upd H4 p0 (.lst [.int 0]) p0=some (.lst [.int 0]):=ak;generalize upd H4 p0 (.lst [.int 0])=H5 at s5 CD;refine⟨_,rfl,_,rfl,b,c.Box,dx,_,_,rfl,s5 _ _ h14,T.cE,T.cR,rfl,_,rfl,_,rfl,pa,ca,D,bx.work,x,ls,rfl,XW.mono s5,IM.wf,hC4.mono s5,⟨ts,s5 _ _ Mm,Paired.ja Wd λt r q=>q.mono s5⟩,hw,Za,O2,λD' H6 s6 nD' ⟨vs,Mn,hvs⟩=> ?_⟩;have YM:=s5.trans s6;have hl6:(x.outs.map λ(i:Nat)=>(Sb.j8 bx.work x.gates ls).getD i Sb.dI).length<=(bx.used x.gates.length).free:=by rw[ag];exact nJ
    rw[Hh hl6] at q4;refine⟨cf M H6,b,d,D',bx.used x.gates.length,vs,x.outs.map λ(i:Nat)=>(Sb.j8 bx.work x.gates ls).getD i Sb.dI,rfl,Th.same YM,Mn,Paired.ja hvs λt r q=>q.LU (hT4.same YM),aax,hl6,λpn H7 hB7 k7 npn Xs=> ?_⟩;obtain⟨dx7,pa7,sv7,mo7,kv7,u1,u2,u3,u4,u5,u6⟩:=(Th.same YM).obj;have Y5:=s6 _ _ CD;have U2:p0≠d:=jw Y5 u5 (by intro z;cases z);have aaz:((bx.used x.gates.length).putAll (x.outs.map λ(i:Nat)=>(Sb.j8 bx.work x.gates ls).getD i Sb.dI)).2.length<=32:=by
     have:=Sb.i7 _ _ hl6 _ (aE _);rw[aU (aE _)] at this;have XF:(bx.used x.gates.length).free<=32:=by rw[free_eq _ u6.len];omega
     omega
    refine⟨p0,pn,_,_,rfl,rfl,k7 _ _ Y5 U2,Xs,by rw[bR];show 1 + _<=sizeLine;omega,λp np=> ?_⟩;refine hU.put q4 hb hd YM hB7 (cg.oN k7) (au.new np) np ?_;rw[ak,gO];rfl
def vU(T:Txt K mg c):Callee P w K mg base "answer_circuit" 9 ["box","numbers","rows"] (ny c K 1 2 (λ_ rs=> ∀r∈rs,∀v∈r,0<=v) λ_ rs=> .circuit 0 (nats (rs.getD 0 [])) (nats (rs.getD 1 []))):=by
 exists T.xB.ok ["box","numbers","rows","places","octets","fault"]
 ·obtain⟨M,b,d,na,bx,nums,ra,rs,rfl,hB,hb,hd,hT,hn,hl,h0,⟨hR,S2⟩,q⟩:=h;obtain⟨dx,pa,sv,mo,bE,h1,h2,h3,h4,h5,h6⟩:=hB.obj;have hG:=hB.wf.good;have hP:=h2.mono (aX M H);obtain⟨qu,fa,pp,QR,g1,g2,g3,g4⟩:=id hP;obtain⟨r,r',OZ⟩: ∃r r',rs=[r,r']:=by
   match rs,S2 with
   | [r,r'],_=>exact⟨r,r',rfl⟩
  subst OZ;have XU:=hR.mono dD.mono (aX M H);obtain⟨us,u,sV,Ga,hu⟩:=lX XU (i:=0) (r:=r) rfl;obtain⟨Qz,u',O0,Mi,F7⟩:=lX XU (i:=1) (r:=r') rfl;rw[rB (h0 r (by simp))] at hu;rw[rB (h0 r' (by simp))] at F7;have hu:H u=some (.lst (iv (nats r))):=hu;have F7:H u'=some (.lst (iv (nats r'))):=F7;have q:hU c K M H b d (if kg<(nats r).length\/bx.form.p=2 then(bx,Wqarav.no (-1)) else match dH (nats r') (nats r).length with
   | .error e=>(bx,⟨-9,[(e:Int)]⟩)
   | .ok x=>Wqarav.of bx (nats r) λ(l:List ax)=>jq bx x l) Q:=q
  generalize nats r=hs at q hu;generalize nats r'=l at q F7;refine⟨_,(aj (bS 3 nd (gT K (pv 2) ay))
   (aj (bS 4 nd (gT K (pv 2) ay))
   (aj (cD (PW.pt (AE (eh rk (bX (cI K) rfl T.f7 boot_len (aa (pv 3) ai)) (qg T.pH) (dC _)) (uN (d6 (dB (aF (vQ T) hr (aa (fld K (fld K (pv 0))) ai))))))) (aq (az (aF (bt T) hr (aa (qg T.cF) ai)))) bA)
   (aj (bS 5 nd (aF (kT T) hr (aa (pv 4) (aa (bX (cI K) rfl T.f7 boot_len (aa (pv 3) ai)) ai))))
   (aj (cD (fN (lZ (pv 5))) (aq (az (aF (lp T) hr (aa (pv 5) ai)))) bA)
   (aq (az (aF (GY T) hr (aa (pv 0) (aa (pv 3) (aa (aF (n9 T) hr (aa (pv 4) ai)) ai))))))))))),?_⟩
  refine⟨_,rfl,ra,_,_,_,rfl,rfl,bw.of sV,Ga,?_⟩;refine⟨_,rfl,ra,_,_,_,rfl,rfl,bw.of O0,Mi,?_⟩;refine⟨_,rfl,u,_,rfl,.inl (bw.of hu),_,_,rfl,rfl,_,rfl,j9 (λhc=> ?_) λhc=> ?_⟩
  ·have hc:(16:Int)<(((iv hs).length:Nat):Int):=of_decide_eq_true hc;rw[bR] at hc;rw[if_pos (.inl (show 16<hs.length by omega))] at q;exists 20
  have hc: ¬(16:Int)<(((iv hs).length:Nat):Int):=λy=>hc (decide_eq_true y);rw[bR] at hc;refine⟨_,rfl,b,c.Box,dx,_,_,rfl,h1,T.cE,T.cR,rfl,pa,c.cB,qu,_,_,rfl,g1,T.bY,T.bK,rfl,fa,bx.work.form,rfl,g2,_,rfl,?_⟩;by_cases X1:3<bx.work.form.p
  case neg=>
   have uV:bx.form.p=2:=by
    show bx.work.form.p=2;rcases hG.p with e|e|e <;> omega
   rw[decide_eq_false X1];rw[if_pos (.inr uV)] at q;exists 20
  rw[decide_eq_true X1];rw[if_neg (λz=>by
   rcases z with z|z
   ·have z:16<hs.length:=z;omega
   ·have z:bx.work.form.p=2:=z;omega),Sb.zt] at q
  refine dJ ⟨_,rfl,_,rfl,u,_,rfl,.inl (bw.of hu),u',l,hs.length,by rw[bR];rfl,bw.of F7,by omega,λH1 s1=> ?_⟩;cases O7:Sb.lQ l hs.length with
  |some e=>
   rw[O7] at q;exact⟨_,rfl,_,rfl,cY ⟨_,rfl,_,rfl,λp H' sm np hp=>q.dA hB rfl (s1.trans sm) (s1.free np) hp⟩⟩
  |none=>
   rw[O7] at q;have eC:=Sb.sX O7;refine⟨_,rfl,_,rfl,dJ ⟨_,rfl,_,rfl,_,rfl,u',l,hs.length,rfl,bw.of (s1 _ _ F7),eC,λpc H2 s2 ZV hC=> ?_⟩⟩;have jI:=s1.trans s2;exact⟨M,b,d,u,pc,bx,hs,Sb.uz l,rfl,hB.same jI,hb,hd,hT.same jI,bw.of (jI _ _ hu),by omega,hC,Sb.FG eC,q.from jI⟩
def wq(f:aB):PyData:= .list [.int (f.n:Int),.int (f.ring:Int),.int (f.p:Int),.int (f.digits:Int),.int (f.width:Int),.int (f.kdigits:Int),.int (f.kwidth:Int),.int (f.noise:Int)]
def HA{K:ab}{H:Hp}{a:Addr}{f:aB}(h:H a=some (.lst (iv f.numbers))):Dp K H (.ref a) (wq f):=
 Dp.lst (bw.of h) (.cons (.int _) (.cons (.int _) (.cons (.int _) (.cons (.int _) (.cons (.int _) (.cons (.int _) (.cons (.int _) (.cons (.int _) .nil))))))))
def wo(f:aB):SeqAt.shaped (wq f)=true:=rfl
def Ry(a b:Nat):((a:Int)==(b:Int))=decide (a=b):=by
 rw[iZ];simp;omega
def Ms(f g:aB):PyData.eqv (wq f) (wq g)=decide (f=g):=by
 have e:PyData.eqv (wq f) (wq g)=(((f.n:Int)==(g.n:Int))&&(((f.ring:Int)==(g.ring:Int))&&(((f.p:Int)==(g.p:Int))&&(((f.digits:Int)==(g.digits:Int))&&(((f.width:Int)==(g.width:Int))&&(((f.kdigits:Int)==(g.kdigits:Int))&&(((f.kwidth:Int)==(g.kwidth:Int))&&(((f.noise:Int)==(g.noise:Int))&&true)))))))):=by
  simp[wq,PyData.eqv,PyData.eqvAll]
 rw[e];simp only[Ry];rw[iZ];cases f;cases g;simp
inductive xY(c:Cs)(K:ab)(vs:List V)(H:Hp)(Q:VK)(E:XK):Prop
 |mk (M:List Addr) (b1 d1 b d:Addr) (Ej bx:a9) (h:Nat):vs=[.ref b1,.int (h:Int),.ref b]->eN c K (cf M H) H b1 d1 Ej->eN c K (cf M H) H b d bx->b∈M->d∈M->Kept M H->hU c K M H b d (match Ej.get h with|none=>(bx,Wqarav.no (-5))|some s=>if Ej.form=bx.form then Wqarav.made bx [s] else(bx,Wqarav.no (-2))) Q->xY c K vs H Q E
def GX(T:Txt K mg c):Callee P w K mg base "put_sent" 2 ["sender","h","receiver"] (xY c K):=by
 exists T.JQ.ok ["sender","h","receiver","seal"]
 ·obtain⟨M,b1,d1,b,d,Ej,bx,h,rfl,IM,hB,hb,hd,hT,q⟩:=h;have hu:=rJ hr;obtain⟨Ze,pa1,sv1,mo1,Z9,t1,t2,t3,t4,t5,t6⟩:=IM.obj;obtain⟨dx,pa,sv,mo,bE,u1,u2,u3,u4,u5,u6⟩:=hB.obj;obtain⟨aby,fa1,pp1,ra1,g1,⟨abz,na1,g2,g3⟩,_,_⟩:=t2.mono (aX M H);obtain⟨qu,fa,pp,ra,k1,⟨Gd,na,k2,k3⟩,_,_⟩:=u2.mono (aX M H);refine⟨_,(aj (bS 3 nd (mF hu (fld K (pv 0)) (pv 1) ⟨rfl,rfl,rfl,rfl⟩))
   (aj (cD (fN (jo (pv 3))) (aq (az (aF (bt T) hr (aa (qg T.ip) ai)))) bA)
   (aj (cD (eh (UC hr.units) (fld K (fld K (fld K (pv 0)))) (fld K (fld K (fld K (pv 2)))) (dC _)) (aq (az (aF (bt T) hr (aa (qg T.kE) ai)))) bA)
   (aj (cD (d6 (dB (aF (i8 T) hr (aa (pv 2) (aa ay ai))))) (aq (az (aF (bt T) hr (aa (qg T.kY) ai)))) bA)
   (aq (az (cx (aa ay (aa (aF (jZ T) hr (aa (pv 2) (aa (pv 3) ai))) ai))))))))),?_⟩
  refine⟨_,rfl,b1,c.Box,Ze,_,_,rfl,t1,T.cE,T.cZ,rfl,d1,rfl,.inl ⟨Z9,.inl t5⟩,_,rfl,_,ng.k (k:=bQ (h:Int)) t5,?_⟩;rcases ij t6 h with⟨e1,e2⟩|⟨s,sa,e1,hw,e2,hs⟩
  ·rw[e2];rw[e1] at q;exact⟨_,rfl,_,rfl,cY ⟨5,rfl,λp H' sm np hp=>q.dA hB rfl sm np hp⟩⟩
  ·rw[e2];rw[e1] at q;have q:hU c K M H b d (if Ej.form=bx.form then Wqarav.made bx [s] else(bx,Wqarav.no (-2))) Q:=q;refine⟨_,rfl,_,rfl,dJ ⟨_,rfl,b1,c.Box,Ze,_,_,rfl,t1,T.cE,T.cR,rfl,pa1,c.cB,aby,_,_,rfl,g1,T.bY,T.bK,rfl,fa1,c.Form,abz,_,_,rfl,g2,T.bc,T.gN,rfl,_,rfl,b,c.Box,dx,_,_,rfl,u1,T.cE,T.cR,rfl,pa,c.cB,qu,_,_,rfl,k1,T.bY,T.bK,rfl,fa,c.Form,Gd,_,_,rfl,k2,T.bc,T.gN,rfl,wq Ej.work.form,wq bx.work.form,HA g3,HA k3,wo _,wo _,_,rfl,?_⟩⟩;rw[Ms];by_cases hf:Ej.work.form=bx.work.form
   ·rw[decide_eq_true hf];rw[if_pos (show Ej.form=bx.form from hf)] at q;refine dJ ⟨_,rfl,cf M H,b,d,bx,1,rfl,hB,_,rfl,?_⟩;by_cases uv:1<=bx.free
    ·rw[decide_eq_true uv];refine dJ ⟨_,rfl,_,rfl,?_⟩;exact zu (E:=E0) q hB hb hd hT (au.refl H) (hs.mono (aX M H)) (by rw[<-hf];exact hw) uv
    ·rw[decide_eq_false uv];rw[zy uv] at q;exact cY ⟨3,rfl,λp H' sm np hp=>q.dA hB rfl sm np hp⟩
   ·rw[decide_eq_false hf];rw[if_neg (show¬Ej.form=bx.form from hf)] at q;exact cY ⟨2,rfl,λp H' sm np hp=>q.dA hB rfl sm np hp⟩
theorem Ao{s:dP}{k h j:Nat}{Ej:a9}(hk:k<3)(e1:s.getD k none=some Ej):Wqarav.step s (.send k h j)=di s j λ(d:a9)=>match Ej.get h with
  |none=>(s,Wqarav.no (-5))
  |some c=>if Ej.form=d.form then(s.set j (some (Wqarav.made d [c]).1),(Wqarav.made d [c]).2) else(s,Wqarav.no (-2)):=by
 show di s k _=_
 conv=>lhs;unfold di
 rw[if_neg (show¬cG<=k from gr.mpr hk),kF,e1];rfl
def GA{s:List (Option a9)}{j:Nat}{bx:a9}(h:s.getD j none=some bx):s.set j (some bx)=s:=by
 refine ie λi=> ?_;rw[o8];by_cases e:j=i
 ·subst e;rw[if_pos rfl];rw[ae] at h;cases z:s[j]? with
  |none=>rw[z] at h;cases h
  |some o=>
   rw[z] at h;have h:o=some bx:=h;have hl:j<s.length:=(aD.mp z).1;rw[if_pos hl,h]
 ·rw[if_neg e]
def A2(T:Txt K mg c):Callee P w K mg base "answer_send" 3 ["boxes","numbers","rows"] (sA c K 3 0 λnums _=> .send (dq nums 0) (dq nums 1) (dq nums 2)):=by
 exists T.CS.ok ["boxes","numbers","rows","place","fault"]
 ·obtain⟨M,B,na,ra,nums,rs,s,rfl,W,hn,sV,hl,hk,h0,h1,_,q⟩:=h;have hN0:H na=some (.lst (ii nums)):=aX M H _ _ hn;obtain⟨xs,_,_,hx,OT,_⟩:=id W.ex;refine⟨_,(aj (fD PassesOwn.never rfl (RL.YQ K (nZ (aa (gT K (pv 1) ay) (aa (gT K (pv 1) ay) ai)))) (qn 3 nd) (aj (bS 4 nd (aF (pq T) hr (aa (pv 0) (aa (pv 3) ai))))
   (aq (cD (fN (lZ (pv 4))) (aq (az (aF (bt T) hr (aa (pv 4) ai)))) bA))))
   (aq (az (aF (GX T) hr (aa (gT K (pv 0) (gT K (pv 1) ay)) (aa (gT K (pv 1) ay) (aa (gT K (pv 0) (gT K (pv 1) ay)) ai))))))),?_⟩
  have at0:=fF (j:=0) (fE (nums:=nums) (i:=0) (by omega) h0);have Wi:=fF (j:=1) (fE (nums:=nums) (i:=1) (by omega) h0);have at2:=fF (j:=2) (fE (nums:=nums) (i:=2) (by omega) h0);refine⟨_,rfl,na,_,_,_,rfl,rfl,bw.of hN0,at0,_,rfl,na,_,_,_,rfl,rfl,bw.of hN0,at2,(by show 2<=sizeLine;decide),λt nt=> ?_⟩;have q:FT c K M H B (Wqarav.step s (.send (dq nums 0) (dq nums 1) (dq nums 2))) Q:=q;generalize dq nums 0=k at q at0 nt ⊢;generalize dq nums 1=h at q Wi;generalize dq nums 2=j at q at2 nt ⊢;have s0:=au.new (o:=HO.tup [.int (k:Int),.int (j:Int)]) nt;have ht:upd H t (.tup [.int (k:Int),.int (j:Int)]) t=some (.tup [.int (k:Int),.int (j:Int)]):=ak;generalize upd H t (.tup [.int (k:Int),.int (j:Int)])=H1 at s0 ht;have W1:=W.same s0;have RC:=s0 _ _ hx;refine⟨t,rfl,.inr ⟨⟨_,gU.of ht⟩,?_⟩⟩;refine zD (K:=K) (a:=t) (xs:=[.int (k:Int),.int (j:Int)]) (λi σ H'=>H'=H1/\(1<=i-> ∃bx,k<3/\s.getD k none=some bx)/\(2<=i-> ∃bx,j<3/\s.getD j none=some bx)/\ ∃v y,σ=[some (.ref B),some (.ref na),some (.ref ra),v,y])
   ⟨rfl,λz=>absurd z (by decide),λz=>absurd z (by decide),none,none,rfl⟩ (λi σ H' _ h=>by rw[h.1];exact gU.of ht) (λi x σ H' RB hh=> ?_) (λσ H' hh=> ?_)
  ·obtain⟨rfl,hA,hBb,v,y,rfl⟩:=hh;obtain⟨m,rfl,hm,hq⟩: ∃m:Nat,x= .int (m:Int)/\((i=0/\m=k)\/(i=1/\m=j))/\((¬m<3->Wqarav.step s (.send k h j)=(s,Wqarav.no (-1)))/\(m<3->s.getD m none=none->Wqarav.step s (.send k h j)=(s,Wqarav.no (-4)))):=by
    match i,RB with
    |0,RB=>
     refine⟨k,(ao RB).symm,.inl ⟨rfl,rfl⟩,λuw=> ?_,λuw e=> ?_⟩
     ·show di s k _=_;unfold di;rw[if_pos (show cG<=k from fB.mp uw)]
     ·show di s k _=_;unfold di;rw[if_neg (show¬cG<=k from gr.mpr uw),kF,e]
    |1,RB=>
     obtain⟨Ej,uw,e1⟩:=hA (by decide);refine⟨j,(ao RB).symm,.inr ⟨rfl,rfl⟩,λE7=> ?_,λE7 e=> ?_⟩
     ·rw[Ao uw e1];unfold di;rw[if_pos (show cG<=j from fB.mp E7)]
     ·rw[Ao uw e1];unfold di;rw[if_neg (show¬cG<=j from gr.mpr E7),kF,e]
    |i + 2,RB=>simp at RB
   refine⟨_,rfl,_,rfl,B,xs,m,rfl,bw.of RC,OT,?_⟩;rcases rM W1 RC m with⟨e1,e2⟩|⟨e1,e3,e2⟩|⟨bx,e1,e3,e2⟩
   ·rw[e2];rw[hq.1 e1] at q;exact⟨_,rfl,_,rfl,cY ⟨_,rfl,1,rfl,λp H' sm np hp=>q.dA W (s0.trans sm) (s0.free np) hp⟩⟩
   ·rw[e2];rw[hq.2 e1 e3] at q;exact⟨_,rfl,_,rfl,cY ⟨_,rfl,4,rfl,λp H' sm np hp=>q.dA W (s0.trans sm) (s0.free np) hp⟩⟩
   ·rw[e2];refine⟨_,rfl,_,rfl,dJ ⟨rfl,λ_=> ?_,λV1=> ?_,some (.int (m:Int)),some .fC,rfl⟩⟩
    ·rcases hm with⟨rfl,rfl⟩|⟨rfl,rfl⟩
     ·exact⟨bx,e1,e3⟩
     ·exact hA (by decide)
    ·rcases hm with⟨rfl,rfl⟩|⟨rfl,rfl⟩
     ·exact absurd V1 (by decide)
     ·exact⟨bx,e1,e3⟩
  ·obtain⟨rfl,hA,hBb,v,y,rfl⟩:=hh;obtain⟨Ej,uw,e1⟩:=hA (by show 1<=2;decide);obtain⟨bx,E7,e2⟩:=hBb (by show 2<=2;decide);rw[Ao uw e1] at q;unfold di at q;rw[if_neg (show¬cG<=j from gr.mpr E7),kF,e2] at q;obtain⟨xs1,b1,d1,a1,a2,a3,a4,a5,a6,_⟩:=W1.after uw e1;obtain⟨xs2,b2,d2,c1,c2,c3,c4,c5,c6,c7⟩:=W1.after E7 e2;have ex1:xs=xs1:=by rw[RC] at a1;injection a1 with a1;injection a1
   have ex2:xs=xs2:=by rw[RC] at c1;injection c1 with c1;injection c1
   subst ex1;subst ex2;have Nd:xH xs (k:Int)=some (.ref b1):=c8 (by rw[<-a3,ae,af (by omega)];rfl);have hj1:xH xs (j:Int)=some (.ref b2):=c8 (by rw[<-c3,ae,af (by omega)];rfl);have hN1:=s0 _ _ hN0;refine⟨_,rfl,_,rfl,na,_,_,_,rfl,rfl,bw.of hN1,at0,B,_,_,_,rfl,rfl,bw.of RC,Nd,_,rfl,na,_,_,_,rfl,rfl,bw.of hN1,Wi,_,rfl,_,rfl,na,_,_,_,rfl,rfl,bw.of hN1,at2,B,_,_,_,rfl,rfl,bw.of RC,hj1,?_⟩;refine⟨M,b1,d1,b2,d2,Ej,bx,h,rfl,a6,c6,c4,c5,W1.kept,λp H' kp np hp X0=> ?_⟩;have W':=c7 H' _ kp X0;have ko:zH M H H':=λy o e hy=>kp y o (s0 _ _ e) λz=>by
    simp at z;rcases z with z|z
    ·exact hy (by rw[z];exact c4)
    ·exact hy (by rw[z];exact c5)
   have npM:p∉M:=W1.kept.out np;refine q p H' M ?_ ko (λ_ h=> .inl h) (s0.free np) npM ?_
   ·cases hg:Ej.get h with
    |none=>
     rw[hg] at W';have W':eO c K M H' B (s.set j (some bx)):=W';rw[GA e2] at W';exact W'
    |some sl=>
     rw[hg] at W';dsimp only at W' ⊢;by_cases hf:Ej.form=bx.form
     ·rw[if_pos hf] at W' ⊢;exact W'
     ·rw[if_neg hf] at W' ⊢;have W':eO c K M H' B (s.set j (some bx)):=W';rw[GA e2] at W';exact W'
   ·cases hg:Ej.get h with
    |none=>rw[hg] at hp;exact hp
    |some sl=>
     rw[hg] at hp;dsimp only at hp ⊢;by_cases hf:Ej.form=bx.form
     ·rw[if_pos hf] at hp ⊢;exact hp
     ·rw[if_neg hf] at hp ⊢;exact hp
theorem yW(T:Txt K mg c):Callee P w K mg base "answer_judge" 5 ["boxes","numbers","rows"] (pd 1 1 λnums rs=>if kg<dq nums 0 then Wqarav.no (-1) else match dH (nats (rs.getD 0 [])) (dq nums 0) with
  | .error e=>⟨-9,[(e:Int)]⟩
  | .ok c=>cy [c.gates.length,c.outs.length]):=by
 exists T.BR.ok ["boxes","numbers","rows","incoming","octets","fault","circuit"]
 ·obtain⟨B,na,ra,nums,rs,rfl,hn,hR,hl,hk,h0,h1,q⟩:=h;obtain⟨r,OZ⟩: ∃r,rs=[r]:=by
   match rs,hk with
   | [r],_=>exact⟨r,rfl⟩
  subst OZ;obtain⟨us,u,sV,Ga,hu⟩:=lX hR (i:=0) (r:=r) rfl;rw[rB (h1 r (by simp))] at hu;have hu:H u=some (.lst (iv (nats r))):=hu;have e0:([r]:List (List Int)).getD 0 []=r:=rfl
  (try dsimp only at q)
  rw[e0] at q;generalize nats r=l at q hu;refine⟨_,(aj (bS 3 nd (gT K (pv 1) ay))
   (aj (bS 4 nd (gT K (pv 2) ay))
   (aj (cD (eh rk (pv 3) (qg T.pH) (dC _)) (aq (az (aF (bt T) hr (aa (qg T.cF) ai)))) bA)
   (aj (bS 5 nd (aF (kT T) hr (aa (pv 4) (aa (pv 3) ai))))
   (aj (cD (fN (lZ (pv 5))) (aq (az (aF (lp T) hr (aa (pv 5) ai)))) bA)
   (aj (bS 6 nd (aF (n9 T) hr (aa (pv 4) ai)))
   (aq (az (cx (aa ay (aa (bX (cI K) rfl T.f7 boot_len (aa (fld K (pv 6)) ai)) (aa (bX (cI K) rfl T.f7 boot_len (aa (fld K (pv 6)) ai)) ai)))))))))))),?_⟩
  refine⟨_,rfl,na,_,_,_,rfl,rfl,bw.of hn,fF (j:=0) (fE (by omega) h0),?_⟩;refine⟨_,rfl,ra,_,_,_,rfl,rfl,bw.of sV,Ga,?_⟩;generalize dq nums 0=m at q ⊢;exists 23
  ·have hc:(16:Int)<(m:Int):=of_decide_eq_true hc;rw[if_pos (show kg<m by show 16<m;omega)] at q;exact⟨1,rfl,λp H' sm np hp=>q p H' sm np hp⟩
  have hc: ¬(16:Int)<(m:Int):=λy=>hc (decide_eq_true y);rw[if_neg (show¬kg<m by show¬16<m;omega),Sb.zt] at q;refine⟨_,rfl,_,rfl,u,l,m,rfl,bw.of hu,by omega,λH1 s1=> ?_⟩;cases O7:Sb.lQ l m with
  |some e=>
   rw[O7] at q;exact⟨_,rfl,_,rfl,cY ⟨_,rfl,_,rfl,λp H' sm np hp=>q p H' (s1.trans sm) (s1.free np) hp⟩⟩
  |none=>
   rw[O7] at q;have eC:=Sb.sX O7;refine⟨_,rfl,_,rfl,dJ ⟨_,rfl,u,l,m,rfl,bw.of (s1 _ _ hu),eC,λpc H2 s2 ZV ⟨dx,ga,oa,c1,⟨gs,c2,c3⟩,c4⟩=> ?_⟩⟩;have jI:=s1.trans s2;refine⟨_,rfl,pc,c.Circuit,dx,_,_,rfl,c1,T.f6,T.eK,rfl,ga,_,rfl,.inl (bw.of c2),_,rfl,pc,c.Circuit,dx,_,_,rfl,c1,T.f6,T.iM,rfl,oa,_,rfl,.inl (bw.of c4),(by show 3<=sizeLine;decide),λp np=>q p _ (au.gv jI np) (jI.free np) ?_⟩;rw[ak,gO,ag,Paired.length c3,bR];rfl
def PD{l:List Nat}(h: ∀x∈l,x<=1):l=(l.map λ(x:Nat)=>x==1).map xP:=by
 rw[bP]
 conv=>lhs;rw[<-Zj l]
 refine cC λx hx=> ?_;have:=h x hx;have:x=0\/x=1:=by omega
 rcases this with rfl|rfl <;> rfl
theorem yV(T:Txt K mg c):Callee P w K mg base "answer_plain" 5 ["boxes","numbers","rows"] (pd 0 2 λ_ rs=>if kg<(nats (rs.getD 0 [])).length\/(nats (rs.getD 0 [])).any (λ(x:Nat)=>decide (1<x))=true then Wqarav.no (-1) else match dH (nats (rs.getD 1 [])) (nats (rs.getD 0 [])).length with
  | .error e=>⟨-9,[(e:Int)]⟩
  | .ok c=>cy (c.outs.map λ(i:Nat)=>((dY c.gates ((nats (rs.getD 0 [])).map λ(x:Nat)=>x==1)).getD i false).toNat)):=by
 exists T.BQ.ok ["boxes","numbers","rows","bits","octets","bit","fault"]
 ·obtain⟨B,na,ra,nums,rs,rfl,hn,hR,hl,hk,h0,h1,q⟩:=h;have big:=bI;obtain⟨r,r',OZ⟩: ∃r r',rs=[r,r']:=by
   match rs,hk with
   | [r,r'],_=>exact⟨r,r',rfl⟩
  subst OZ;obtain⟨us,u,sV,Ga,hu⟩:=lX hR (i:=0) (r:=r) rfl;obtain⟨Qz,u',O0,Mi,F7⟩:=lX hR (i:=1) (r:=r') rfl;rw[rB (h1 r (by simp))] at hu;rw[rB (h1 r' (by simp))] at F7;have hu:H u=some (.lst (iv (nats r))):=hu;have F7:H u'=some (.lst (iv (nats r'))):=F7;have e0:([r,r']:List (List Int)).getD 0 []=r:=rfl;have e1:([r,r']:List (List Int)).getD 1 []=r':=rfl
  (try dsimp only at q)
  rw[e0,e1] at q;generalize nats r=bl at q hu;generalize nats r'=l at q F7;refine⟨_,(aj (bS 3 nd (gT K (pv 2) ay))
   (aj (bS 4 nd (gT K (pv 2) ay))
   (aj (cD (PW.pt (AE (eh rk (bX (cI K) rfl T.f7 boot_len (aa (pv 3) ai)) (qg T.pH) (dC _)) (uN (d6 (dB (bX (oT rfl) rfl T.Io boot_all (aa (gR rfl nd (sI K (pv 3)) (own:=[("bit",5)]) (cn rfl) (λ_ _ _ _ _=>(qn 5 nd)) (λ_ _ _ _ _=>cO) (λ_ _ _ _ _=>(jf oH (pv 5) ay (dC _)))) ai))))))) (aq (az (aF (bt T) hr (aa (qg T.cF) ai)))) bA)
   (aj (bS 6 nd (aF (kT T) hr (aa (pv 4) (aa (bX (cI K) rfl T.f7 boot_len (aa (pv 3) ai)) ai))))
   (aj (cD (fN (lZ (pv 6))) (aq (az (aF (lp T) hr (aa (pv 6) ai)))) bA)
   (aq (az (aM ku (cx (aa ay ai)) (aF (GW T) hr (aa (aF (n9 T) hr (aa (pv 4) ai)) (aa (pv 3) ai))))))))))),?_⟩
  refine⟨_,rfl,ra,_,_,_,rfl,rfl,bw.of sV,Ga,?_⟩;refine⟨_,rfl,ra,_,_,_,rfl,rfl,bw.of O0,Mi,?_⟩;refine⟨_,rfl,u,_,rfl,.inl (bw.of hu),_,_,rfl,rfl,_,rfl,j9 (λhc=> ?_) λhc=> ?_⟩
  ·have hc:(16:Int)<(((iv bl).length:Nat):Int):=of_decide_eq_true hc;rw[bR] at hc;rw[if_pos (.inl (show 16<bl.length by omega))] at q;exact cY ⟨1,rfl,λp H' sm np hp=>q p H' sm np hp⟩
  have hc: ¬(16:Int)<(((iv bl).length:Nat):Int):=λy=>hc (decide_eq_true y);rw[bR] at hc;refine⟨_,rfl,u,rfl,⟨_,bw.of hu⟩,?_⟩;refine ff (K:=K) (a:=u) (xs:=iv bl) (i:=5) (λn=>V.bl (decide (bl.getD n 0<=1))) (λ_ H2=>au H H2) (by rw[bR];omega) (au.refl H) (λ_ H2 D o h hD=>au.at' h hD) (λ_ H2 _ h=>h.seq (bw.of hu)) (λn x H2 Q' hx fX k=> ?_) (λD H2 wN fX hD=> ?_)
  ·obtain⟨z,hz,rfl⟩:=jT hx;have e:bl.getD n 0=z:=by rw[ae,hz];rfl
   have k2:=k H2 fX λ_ _ _ e=>e;have e3:decide (z<=1)=decide ((z:Int)<=1):=decide_eq_decide.mpr ⟨λh=>by omega,λh=>by omega⟩;rw[e,e3] at k2;exact⟨_,rfl,_,_,rfl,rfl,k2⟩
  have e3:(List.range (iv bl).length).map (λn=>V.bl (decide (bl.getD n 0<=1)))=(bl.map λx=>decide (x<=1)).map V.bl:=by
   rw[bR,bP];refine bW (by simp) λn b1 b2=> ?_;have hn:n<bl.length:=by simpa using b1
   simp[ae,af hn]
  rw[e3] at hD;refine⟨D,_,rfl,bw.of hD,_,rfl,?_⟩;have e4:((bl.map λx=>decide (x<=1)).all id)= !(bl.any λ(x:Nat)=>decide (1<x)):=by
   rw[sh,IT];congr 1;funext x;show decide (x<=1)= !decide (1<x);by_cases h:x<=1
   ·rw[decide_eq_true h,decide_eq_false (by omega)];rfl
   ·rw[decide_eq_false h,decide_eq_true (by omega)];rfl
  rw[e4];cases Mj:bl.any λ(x:Nat)=>decide (1<x) with
  |true=>
   rw[if_pos (.inr Mj)] at q;exact cY ⟨1,rfl,λp H' sm np hp=>q p H' (fX.trans sm) (fX.free np) hp⟩
  |false=>
   rw[if_neg (λz=>by
    rcases z with z|z
    ·have z:16<bl.length:=z;omega
    ·rw[Mj] at z;cases z),Sb.zt] at q
   have Vb: ∀x∈bl,x<=1:=λx hx=>by
    have:=Qo.mp Mj x hx;simp at this;exact this
   refine dJ ⟨_,rfl,_,rfl,u,_,rfl,.inl (bw.of (fX _ _ hu)),u',l,bl.length,by rw[bR];rfl,bw.of (fX _ _ F7),by omega,λH3 s3=> ?_⟩;have mq:=fX.trans s3;cases O7:Sb.lQ l bl.length with
   |some e=>
    rw[O7] at q;exact⟨_,rfl,_,rfl,cY ⟨_,rfl,_,rfl,λp H' sm np hp=>q p H' (mq.trans sm) (mq.free np) hp⟩⟩
   |none=>
    rw[O7] at q;have eC:=Sb.sX O7;refine⟨_,rfl,_,rfl,dJ ⟨(by show 1<=sizeLine;omega),λp0 kK=> ?_⟩⟩;have s4:=au.new (o:=HO.lst [.int 0]) kK;have CD:upd H3 p0 (.lst [.int 0]) p0=some (.lst [.int 0]):=ak;have GF:=mq.trans s4;generalize upd H3 p0 (.lst [.int 0])=H4 at s4 CD GF;refine⟨_,rfl,u',l,bl.length,rfl,bw.of (GF _ _ F7),eC,λpc H5 s5 ZV hC=> ?_⟩;have hbs:=PD Vb;have hu5:=(GF.trans s5) _ _ hu;have cw:=Sb.FG eC;refine⟨_,rfl,pc,u,Sb.uz l,bl.map λ(x:Nat)=>x==1,rfl,hC,bw.of (by rw[<-hbs];exact hu5),by rw[ag];exact cw,by rw[ag];omega,λpr H6 s6 npr hpr=> ?_⟩;refine⟨p0,pr,_,_,rfl,rfl,(s5.trans s6) _ _ CD,hpr,by rw[bR,ag];have:=cw.lo;show 1 + _<=sizeLine;omega,λp np=>q p _ (au.gv (GF.trans (s5.trans s6)) np) ((GF.trans (s5.trans s6)).free np) ?_⟩;rw[ak,gO];rfl
structure Ask(z:Int)(nums:List Int)(rs:List (List Int))(x:Wqarav.Call):Prop where
 shape:PyWqarav.shape z=some (nums.length,rs.length)
 asked:o6 ((z::nums)::rs)=true
 call:Cc ((z::nums)::rs)=some x
def Ask.E2{z:Int}{nums:List Int}{rs:List (List Int)}{x:Wqarav.Call}(h:Ask z nums rs x){n k:Nat}(e:PyWqarav.shape z=some (n,k)):nums.length=n/\rs.length=k:=by
 have:=h.shape;rw[e] at this;injection this with this;injection this with a b;exact⟨a.symm,b.symm⟩
def dh{z:Int}(h:aN z=true):0<=z:=by
 unfold aN at h;simp only[cq,decide_eq_true_eq] at h;exact h.1
def EI{z:Int}(h:lL z=true):0<=z:=by
 unfold lL at h;simp only[cq,decide_eq_true_eq] at h;exact h.1
def sP{a:Int}{q:Bool}(h:(aN a&&q)=true):0<=a/\q=true:=⟨dh (a8.mp h).1,(a8.mp h).2⟩
def Ask.Na{z:Int}{nums:List Int}{rs:List (List Int)}{x:Wqarav.Call}(h:Ask z nums rs x)(e:PyWqarav.shape z=some (0,1)): ∃r,nums=[]/\rs=[r]:=by
 obtain⟨i,j⟩:=h.E2 e;obtain rfl:=Sb.len0 i;obtain⟨r,rfl⟩:=Sb.mO j;exact⟨r,rfl,rfl⟩
def Ask.jI{z:Int}{nums:List Int}{rs:List (List Int)}{x:Wqarav.Call}(h:Ask z nums rs x)(e:PyWqarav.shape z=some (0,2)): ∃r t,nums=[]/\rs=[r,t]:=by
 obtain⟨i,j⟩:=h.E2 e;obtain rfl:=Sb.len0 i;obtain⟨r,t,rfl⟩:=Sb.m9 j;exact⟨r,t,rfl,rfl⟩
def Ask.WQ{z:Int}{nums:List Int}{rs:List (List Int)}{x:Wqarav.Call}(h:Ask z nums rs x)(e:PyWqarav.shape z=some (1,0)): ∃a,nums=[a]/\rs=[]:=by
 obtain⟨i,j⟩:=h.E2 e;obtain⟨a,rfl⟩:=Sb.mO i;obtain rfl:=Sb.len0 j;exact⟨a,rfl,rfl⟩
def Ask.ZJ{z:Int}{nums:List Int}{rs:List (List Int)}{x:Wqarav.Call}(h:Ask z nums rs x)(e:PyWqarav.shape z=some (1,1)): ∃a r,nums=[a]/\rs=[r]:=by
 obtain⟨i,j⟩:=h.E2 e;obtain⟨a,rfl⟩:=Sb.mO i;obtain⟨r,rfl⟩:=Sb.mO j;exact⟨a,r,rfl,rfl⟩
def Ask.WO{z:Int}{nums:List Int}{rs:List (List Int)}{x:Wqarav.Call}(h:Ask z nums rs x)(e:PyWqarav.shape z=some (1,2)): ∃a r t,nums=[a]/\rs=[r,t]:=by
 obtain⟨i,j⟩:=h.E2 e;obtain⟨a,rfl⟩:=Sb.mO i;obtain⟨r,t,rfl⟩:=Sb.m9 j;exact⟨a,r,t,rfl,rfl⟩
def Ask.Up{z:Int}{nums:List Int}{rs:List (List Int)}{x:Wqarav.Call}(h:Ask z nums rs x)(e:PyWqarav.shape z=some (2,0)): ∃a b,nums=[a,b]/\rs=[]:=by
 obtain⟨i,j⟩:=h.E2 e;obtain⟨a,b,rfl⟩:=Sb.m9 i;obtain rfl:=Sb.len0 j;exact⟨a,b,rfl,rfl⟩
def Ask.ZI{z:Int}{nums:List Int}{rs:List (List Int)}{x:Wqarav.Call}(h:Ask z nums rs x)(e:PyWqarav.shape z=some (2,1)): ∃a b r,nums=[a,b]/\rs=[r]:=by
 obtain⟨i,j⟩:=h.E2 e;obtain⟨a,b,rfl⟩:=Sb.m9 i;obtain⟨r,rfl⟩:=Sb.mO j;exact⟨a,b,r,rfl,rfl⟩
def Ask.Sz{z:Int}{nums:List Int}{rs:List (List Int)}{x:Wqarav.Call}(h:Ask z nums rs x)(e:PyWqarav.shape z=some (3,0)): ∃a b d,nums=[a,b,d]/\rs=[]:=by
 obtain⟨i,j⟩:=h.E2 e;obtain⟨a,b,d,rfl⟩:=Sb.uU i;obtain rfl:=Sb.len0 j;exact⟨a,b,d,rfl,rfl⟩
def Ask.s40{z:Int}{nums:List Int}{rs:List (List Int)}{x:Wqarav.Call}(h:Ask z nums rs x)(e:PyWqarav.shape z=some (4,0)): ∃a b d e,nums=[a,b,d,e]/\rs=[]:=by
 obtain⟨i,j⟩:=h.E2 e;obtain⟨a,b,d,e,rfl⟩:=Sb.CC i;obtain rfl:=Sb.len0 j;exact⟨a,b,d,e,rfl,rfl⟩
def px{l:List Int}(h:l.all aN=true): ∀v∈l,0<=v:=λv hv=>dh (gI.mp h v hv)
def rT{l:List Int}(h:WqaravNeutral.bytes l=true): ∀v∈l,0<=v/\v<256:=λv hv=>by
 have:=gI.mp h v hv;simp only[cq,decide_eq_true_eq] at this;omega
def all1{α:Type}{P:α->Prop}{a:α}(h:P a): ∀v∈[a],P v:=λv hv=>by rw[br.mp hv];exact h
def all2{α:Type}{P:α->Prop}{a b:α}(h:P a)(h2:P b): ∀v∈[a,b],P v:=λv hv=>by
 rcases aA.mp hv with rfl|hv
 ·exact h
 ·exact all1 h2 v hv
def Ir{α:Type}{P:α->Prop}{a b d:α}(h:P a)(h2:P b)(h3:P d): ∀v∈[a,b,d],P v:=λv hv=>by
 rcases aA.mp hv with rfl|hv
 ·exact h
 ·exact all2 h2 h3 v hv
def abH{α:Type}{P:α->Prop}{a b d e:α}(h:P a)(h2:P b)(h3:P d)(h4:P e): ∀v∈[a,b,d,e],P v:=λv hv=>by
 rcases aA.mp hv with rfl|hv
 ·exact h
 ·exact Ir h2 h3 h4 v hv
def MX{α:Type}{P:α->Prop}: ∀v∈([]:List α),P v:=λv hv=>nomatch hv
def Callee.up{x:Str}{j k:Nat}{ps:List Str}{sp:Sp}(G:Callee P w K mg base x j ps sp)(h:j<=k):Callee P w K mg base x k ps sp:=by
 obtain⟨f,fd,a,b,d,F⟩:=G;exact⟨f,fd,a,b,d,F.mono h⟩
inductive nX(c:Cs)(K:ab)(z:Int)(vs:List V)(H:Hp)(Q:VK)(E:XK):Prop
 |mk (M:List Addr) (b d na:Addr) (bx:a9) (nums:List Int) (ra:Addr) (rs:List (List Int)) (x:Wqarav.Call):vs=[.ref b,.ref na,.ref ra]->eN c K (cf M H) H b d bx->b∈M->d∈M->Kept M H->bw K (cf M H) na (ii nums)->dS (cf M H) ra dD (rs.map ii)->Ask z nums rs x->hU c K M H b d (Wqarav.does bx x) Q->nX c K z vs H Q E
def gZ{nm:Str}{j m r:Nat}{ok:List Int->List (List Int)->Prop}{call:List Int->List (List Int)->Wqarav.Call}{z:Int}(G:Callee P w K mg base nm j ["box","numbers","rows"] (ny c K m r ok call))(hj:j<=9)
  (hz: ∀(nums:List Int) (rs:List (List Int)) (x:Wqarav.Call),Ask z nums rs x->nums.length=m/\rs.length=r/\ok nums rs/\ ∀bx,Wqarav.does bx x=Wqarav.does bx (call nums rs)):Callee P w K mg base nm 9 ["box","numbers","rows"] (nX c K z):=by
 refine(Callee.up G hj).weak λvs H Q E h=> ?_;obtain⟨M,b,d,na,bx,nums,ra,rs,x,rfl,hB,hb,hd,hT,hn,hR,hA,q⟩:=h;obtain⟨l1,l2,h0,e⟩:=hz nums rs x hA;rw[e bx] at q;exact⟨M,b,d,na,bx,nums,ra,rs,rfl,hB,hb,hd,hT,hn,l1,h0,⟨hR,l2⟩,q⟩
inductive lW(c:Cs)(K:ab)(z:Int)(vs:List V)(H:Hp)(Q:VK)(E:XK):Prop
 |mk (M:List Addr) (B na ra:Addr) (nums:List Int) (rs:List (List Int)) (s:dP) (x:Wqarav.Call):vs=[.ref B,.ref na,.ref ra]->eO c K M H B s->cf M H na=some (.lst (ii nums))->dS (cf M H) ra dD (rs.map ii)->Ask z nums rs x->FT c K M H B (Wqarav.step s x) Q->lW c K z vs H Q E
def oV{nm:Str}{j m r:Nat}{Ys:List Int->List (List Int)->jW}{z:Int}(G:Callee P w K mg base nm j ["boxes","numbers","rows"] (pd m r Ys))(hj:j<=9)
  (hz: ∀(nums:List Int) (rs:List (List Int)) (x:Wqarav.Call),Ask z nums rs x->nums.length=m/\rs.length=r/\(∀v∈nums,0<=v)/\(∀r∈rs,∀v∈r,0<=v)/\ ∀s,Wqarav.step s x=(s,Ys nums rs)):Callee P w K mg base nm 9 ["boxes","numbers","rows"] (lW c K z):=by
 refine(Callee.up G hj).weak λvs H Q E h=> ?_;obtain⟨M,B,na,ra,nums,rs,s,x,rfl,W,hn,hR,hA,q⟩:=h;obtain⟨l1,l2,h0,h1,e⟩:=hz nums rs x hA;rw[e s] at q;exact⟨B,na,ra,nums,rs,rfl,aX M H _ _ hn,hR.mono dD.mono (aX M H),l1,l2,h0,h1,λp H' sm np hp=>q.dA W sm np hp⟩
def tj{nm:Str}{j m r:Nat}{call:List Int->List (List Int)->Wqarav.Call}{pre:List (List Int)->Prop}{z:Int}(G:Callee P w K mg base nm j ["boxes","numbers","rows"] (sA c K m r call pre))(hj:j<=9)
  (hz: ∀(nums:List Int) (rs:List (List Int)) (x:Wqarav.Call),Ask z nums rs x->nums.length=m/\rs.length=r/\(∀v∈nums,0<=v)/\(∀r∈rs,∀v∈r,0<=v)/\pre rs/\x=call nums rs):Callee P w K mg base nm 9 ["boxes","numbers","rows"] (lW c K z):=by
 refine(Callee.up G hj).weak λvs H Q E h=> ?_;obtain⟨M,B,na,ra,nums,rs,s,x,rfl,W,hn,hR,hA,q⟩:=h;obtain⟨l1,l2,h0,h1,h2,e⟩:=hz nums rs x hA;rw[e] at q;exact⟨M,B,na,ra,nums,rs,s,rfl,W,hn,hR,l1,l2,h0,h1,h2,q⟩
abbrev C9(P:Program)(w:World)(K:ab)(mg:Str->Option Value)(base:Heap)(c:Cs)(x:Str)(z:Int):=Callee P w K mg base x 9 ["box","numbers","rows"] (nX c K z)
abbrev FV(P:Program)(w:World)(K:ab)(mg:Str->Option Value)(base:Heap)(c:Cs)(x:Str)(z:Int):=Callee P w K mg base x 9 ["boxes","numbers","rows"] (lW c K z)
def T6(T:Txt K mg c):C9 P w K mg base c "answer_give" 6:=
 gZ (A9 T) (by decide) λnums rs x hA=>by
  obtain⟨a,rfl,rfl⟩:=hA.WQ rfl;obtain rfl:=ao hA.call;have hq:=hA.asked;have ka:=dh (z:=a) hq;exact⟨rfl,rfl,all1 ka,λ_=>rfl⟩
def TU(T:Txt K mg c):C9 P w K mg base c "answer_told" 8:=
 gZ (AZ T) (by decide) λnums rs x hA=>by
  obtain⟨a,rfl,rfl⟩:=hA.WQ rfl;obtain rfl:=ao hA.call;have hq:=hA.asked;have ka:=dh (z:=a) hq;exact⟨rfl,rfl,all1 ka,λ_=>rfl⟩
def Wo(T:Txt K mg c):C9 P w K mg base c "answer_cap" 9:=
 gZ (Cy T) (by decide) λnums rs x hA=>by
  obtain⟨a,b,rfl,rfl⟩:=hA.Up rfl;exists 1;have kb:=dh (z:=b) hq;exact⟨rfl,rfl,all2 ka kb,λ_=>rfl⟩
def TR(T:Txt K mg c):C9 P w K mg base c "answer_uses" 10:=
 gZ (AY T) (by decide) λnums rs x hA=>by
  obtain⟨a,rfl,rfl⟩:=hA.WQ rfl;obtain rfl:=ao hA.call;have hq:=hA.asked;have ka:=dh (z:=a) hq;exact⟨rfl,rfl,all1 ka,λ_=>rfl⟩
def TZ(T:Txt K mg c):C9 P w K mg base c "answer_seal" 11:=
 gZ (A3 T) (by decide) λnums rs x hA=>by
  obtain⟨a,b,d,rfl,rfl⟩:=hA.Sz rfl;exists 1;obtain⟨kb,hq⟩:=sP (a:=b) hq;have kd:=EI (z:=d) hq;exact⟨rfl,rfl,Ir ka kb kd,λ_=>rfl⟩
def Nu(T:Txt K mg c):C9 P w K mg base c "answer_opened" 12:=
 gZ (xi T) (by decide) λnums rs x hA=>by
  obtain⟨a,b,rfl,rfl⟩:=hA.Up rfl;exists 1;have kb:=dh (z:=b) hq;exact⟨rfl,rfl,all2 ka kb,λ_=>rfl⟩
def Wl(T:Txt K mg c):C9 P w K mg base c "answer_off" 13:=
 gZ (Cu T) (by decide) λnums rs x hA=>by
  obtain⟨a,b,d,rfl,rfl⟩:=hA.Sz rfl;exists 1;obtain⟨kb,hq⟩:=sP (a:=b) hq;have kd:=dh (z:=d) hq;exact⟨rfl,rfl,Ir ka kb kd,λ_=>rfl⟩
def Qv(T:Txt K mg c):C9 P w K mg base c "answer_bound" 14:=
 gZ (yY T) (by decide) λnums rs x hA=>by
  obtain⟨a,b,rfl,rfl⟩:=hA.Up rfl;exists 1;have kb:=dh (z:=b) hq;exact⟨rfl,rfl,all2 ka kb,λ_=>rfl⟩
def Qp(T:Txt K mg c):C9 P w K mg base c "answer_write" 15:=
 gZ (yS T) (by decide) λnums rs x hA=>by
  obtain⟨a,b,rfl,rfl⟩:=hA.Up rfl;exists 1;have kb:=dh (z:=b) hq;exact⟨rfl,rfl,all2 ka kb,λ_=>rfl⟩
def T1(T:Txt K mg c):C9 P w K mg base c "answer_read" 16:=
 gZ (A4 T) (by decide) λnums rs x hA=>by
  obtain⟨a,b,r,rfl,rfl⟩:=hA.ZI rfl;exists 1;obtain⟨kb,hq⟩:=sP (a:=b) hq;have kr:=rT (show WqaravNeutral.bytes r=true from hq);exact⟨rfl,rfl,⟨all2 ka kb,all1 kr⟩,λ_=>rfl⟩
def T8(T:Txt K mg c):C9 P w K mg base c "answer_drop" 18:=
 gZ (Bb T) (by decide) λnums rs x hA=>by
  obtain⟨a,b,rfl,rfl⟩:=hA.Up rfl;exists 1;have kb:=dh (z:=b) hq;exact⟨rfl,rfl,all2 ka kb,λ_=>rfl⟩
def Qu(T:Txt K mg c):C9 P w K mg base c "answer_count" 19:=
 gZ (yX T) (by decide) λnums rs x hA=>by
  obtain⟨a,rfl,rfl⟩:=hA.WQ rfl;obtain rfl:=ao hA.call;have hq:=hA.asked;have ka:=dh (z:=a) hq;exact⟨rfl,rfl,all1 ka,λ_=>rfl⟩
def Wr(T:Txt K mg c):C9 P w K mg base c "answer_add" 20:=
 gZ (CA T) (by decide) λnums rs x hA=>by
  obtain⟨a,b,d,rfl,rfl⟩:=hA.Sz rfl;exists 1;obtain⟨kb,hq⟩:=sP (a:=b) hq;have kd:=dh (z:=d) hq;exact⟨rfl,rfl,Ir ka kb kd,λ_=>rfl⟩
def Wk(T:Txt K mg c):C9 P w K mg base c "answer_sub" 21:=
 gZ (Ct T) (by decide) λnums rs x hA=>by
  obtain⟨a,b,d,rfl,rfl⟩:=hA.Sz rfl;exists 1;obtain⟨kb,hq⟩:=sP (a:=b) hq;have kd:=dh (z:=d) hq;exact⟨rfl,rfl,Ir ka kb kd,λ_=>rfl⟩
def Qq(T:Txt K mg c):C9 P w K mg base c "answer_times" 22:=
 gZ (yT T) (by decide) λnums rs x hA=>by
  obtain⟨a,b,d,rfl,rfl⟩:=hA.Sz rfl;exists 1;obtain⟨kb,hq⟩:=sP (a:=b) hq;exact⟨rfl,rfl,kb,λ_=>rfl⟩
def T2(T:Txt K mg c):C9 P w K mg base c "answer_plus" 23:=
 gZ (A5 T) (by decide) λnums rs x hA=>by
  obtain⟨a,b,d,rfl,rfl⟩:=hA.Sz rfl;exists 1;obtain⟨kb,hq⟩:=sP (a:=b) hq;have kd:=dh (z:=d) hq;exact⟨rfl,rfl,Ir ka kb kd,λ_=>rfl⟩
def Wm(T:Txt K mg c):C9 P w K mg base c "answer_mix" 24:=
 gZ (Cv T) (by decide) λnums rs x hA=>by
  obtain⟨a,r,t,rfl,rfl⟩:=hA.WO rfl;exists 1;obtain⟨hr,hq⟩:=a8.mp hq;have kr:=px (show r.all aN=true from hr);exact⟨rfl,rfl,kr,λ_=>rfl⟩
def TX(T:Txt K mg c):C9 P w K mg base c "answer_sure" 25:=
 gZ (A1 T) (by decide) λnums rs x hA=>by
  obtain⟨a,b,rfl,rfl⟩:=hA.Up rfl;exists 1;have kb:=dh (z:=b) hq;exact⟨rfl,rfl,all2 ka kb,λ_=>rfl⟩
def Qr(T:Txt K mg c):C9 P w K mg base c "answer_table" 26:=
 gZ (yU T) (by decide) λnums rs x hA=>by
  obtain⟨a,b,r,rfl,rfl⟩:=hA.ZI rfl;exists 1;obtain⟨kb,hq⟩:=sP (a:=b) hq;have kr:=px (show r.all aN=true from hq);exact⟨rfl,rfl,⟨all2 ka kb,all1 kr⟩,λ_=>rfl⟩
def T7(T:Txt K mg c):C9 P w K mg base c "answer_gate" 27:=
 gZ (Ba T) (by decide) λnums rs x hA=>by
  obtain⟨a,b,d,e,rfl,rfl⟩:=hA.s40 rfl;exists 1;obtain⟨kb,hq⟩:=sP (a:=b) hq;obtain⟨kd,hq⟩:=sP (a:=d) hq;have ke:=dh (z:=e) hq;exact⟨rfl,rfl,abH ka kb kd ke,λ_=>rfl⟩
def Lq(T:Txt K mg c):C9 P w K mg base c "answer_circuit" 28:=
 gZ (vU T) (by decide) λnums rs x hA=>by
  obtain⟨a,r,t,rfl,rfl⟩:=hA.WO rfl;exists 1;obtain⟨hr,hq⟩:=a8.mp hq;have kr:=px (show r.all aN=true from hr);have kt:=rT (show WqaravNeutral.bytes t=true from hq);exact⟨rfl,rfl,all2 kr (λv hv=>(kt v hv).1),λ_=>rfl⟩
def T3(T:Txt K mg c):FV P w K mg base c "answer_need" 1:=
 oV (A6 T) (by decide) λnums rs x hA=>by
  obtain⟨r,rfl,rfl⟩:=hA.Na rfl;obtain rfl:=ao hA.call;have hq:=hA.asked;have kr:=px (show r.all aN=true from hq);exact⟨rfl,rfl,MX,all1 kr,λ_=>rfl⟩
def Wq(T:Txt K mg c):FV P w K mg base c "answer_can" 2:=
 oV (Cz T) (by decide) λnums rs x hA=>by
  obtain⟨r,rfl,rfl⟩:=hA.Na rfl;obtain rfl:=ao hA.call;have hq:=hA.asked;have kr:=px (show r.all aN=true from hq);exact⟨rfl,rfl,MX,all1 kr,λ_=>rfl⟩
def T4(T:Txt K mg c):FV P w K mg base c "answer_luck" 3:=
 oV (A7 T) (by decide) λnums rs x hA=>by
  obtain⟨a,b,d,rfl,rfl⟩:=hA.Sz rfl;obtain rfl:=ao hA.call;have hq:=hA.asked;obtain⟨ha,hq⟩:=a8.mp hq;have ka:=EI (show lL a=true from ha);obtain⟨kb,hq⟩:=sP (a:=b) hq;have kd:=dh (z:=d) hq;exact⟨rfl,rfl,Ir ka kb kd,MX,λ_=>rfl⟩
def Qt(T:Txt K mg c):FV P w K mg base c "answer_judge" 29:=
 oV (yW T) (by decide) λnums rs x hA=>by
  obtain⟨a,r,rfl,rfl⟩:=hA.ZJ rfl;exists 1;have kr:=rT (show WqaravNeutral.bytes r=true from hq);exact⟨rfl,rfl,all1 ka,all1 (λv hv=>(kr v hv).1),λ_=>rfl⟩
def Qs(T:Txt K mg c):FV P w K mg base c "answer_plain" 30:=
 oV (yV T) (by decide) λnums rs x hA=>by
  obtain⟨r,t,rfl,rfl⟩:=hA.jI rfl;obtain rfl:=ao hA.call;have hq:=hA.asked;obtain⟨hr,hq⟩:=a8.mp hq;have kr:=px (show r.all aN=true from hr);have kt:=rT (show WqaravNeutral.bytes t=true from hq);exact⟨rfl,rfl,MX,all2 kr (λv hv=>(kt v hv).1),λ_=>rfl⟩
def Wn(T:Txt K mg c):FV P w K mg base c "answer_key" 4:=
 tj (Cw T) (by decide) λnums rs x hA=>by
  obtain⟨a,b,r,rfl,rfl⟩:=hA.ZI rfl;exists 1;obtain⟨hb,hq⟩:=a8.mp hq;have kb:=EI (show lL b=true from hb);have kr:=px (show r.all aN=true from hq);exact⟨rfl,rfl,all2 ka kb,all1 kr,trivial,rfl⟩
def T5(T:Txt K mg c):FV P w K mg base c "answer_hand" 5:=
 tj (A8 T) (by decide) λnums rs x hA=>by
  obtain⟨a,b,rfl,rfl⟩:=hA.Up rfl;exists 1;have kb:=dh (z:=b) hq;exact⟨rfl,rfl,all2 ka kb,MX,trivial,rfl⟩
def TV(T:Txt K mg c):FV P w K mg base c "answer_take" 7:=
 tj (A0 T) (by decide) λnums rs x hA=>by
  obtain⟨a,r,rfl,rfl⟩:=hA.ZJ rfl;exists 1;have kr:=rT (show WqaravNeutral.bytes r=true from hq);exact⟨rfl,rfl,all1 ka,all1 (λv hv=>(kr v hv).1),(all1 λv hv=>by have:=(kr v hv).2;omega),rfl⟩
def TY(T:Txt K mg c):FV P w K mg base c "answer_send" 17:=
 tj (A2 T) (by decide) λnums rs x hA=>by
  obtain⟨a,b,d,rfl,rfl⟩:=hA.Sz rfl;exists 1;obtain⟨kb,hq⟩:=sP (a:=b) hq;have kd:=dh (z:=d) hq;exact⟨rfl,rfl,Ir ka kb kd,MX,trivial,rfl⟩
def rZ(K:ab)(mg:Str->Option Value)(x:Str)(l:List (Int×Str)):Prop:= ∃(a:Addr) (bE:List (Int×V)),mg x=some (.ref a)/\yF K a bE/\bE.map (·.1)=l.map (·.1)/\ ∀i nm,(i,nm)∈l-> ∃f,fL (keyed bE) (bQ i)=some (.ref f)/\mg nm=some (.ref f)
def rW:List (Int×Str):=[(1,"answer_need"),(2,"answer_can"),(3,"answer_luck"),(4,"answer_key"),(5,"answer_hand"),(7,"answer_take")]
def rE:List (Int×Str):=[(17,"answer_send"),(29,"answer_judge"),(30,"answer_plain")]
def vI:List (Int×Str):=[(16,"answer_read"),(18,"answer_drop"),(19,"answer_count"),(20,"answer_add"),(21,"answer_sub"),(22,"answer_times"),(23,"answer_plus"),(24,"answer_mix"),(25,"answer_sure")]
def EB:List (Int×Str):=[(26,"answer_table"),(27,"answer_gate"),(28,"answer_circuit")]
def Ik:List (Int×Str):=[(6,"answer_give"),(8,"answer_told"),(9,"answer_cap"),(10,"answer_uses"),(11,"answer_seal"),(12,"answer_opened"),(13,"answer_off"),(14,"answer_bound"),(15,"answer_write")]
structure xK(K:ab)(mg:Str->Option Value):Prop where
 shapes:zG K mg "SHAPES"
 Pw:rZ K mg "HANDLERS_begin_calls" rW
 Pu:rZ K mg "HANDLERS_loose_calls" rE
 Tq:rZ K mg "HANDLERS_seal_calls" vI
 Yk:rZ K mg "HANDLERS_use_calls" EB
 abC:rZ K mg "HANDLERS_box_calls" Ik
theorem mP(i:Int): ∀bE:List (Int×V),(fL (keyed bE) (bQ i)).isSome=decide (i∈bE.map (·.1))
 | []=>rfl
 |p::r=>by
  show(fL ((bQ p.1,p.2)::keyed r) (bQ i)).isSome=_;by_cases h:p.1=i
  ·rw[gP (by rw[h]),decide_eq_true (by rw[bB,h];exact aY ..)];rfl
  ·rw[gQ (λz=>h (jd z)),mP i r];refine decide_eq_decide.mpr ⟨λz=>aK _ z,λz=> ?_⟩;rcases aA.mp z with z|z
   ·exact absurd z.symm h
   ·exact z
inductive sp_is(l:List (Int×Str))(vs:List V)(H:Hp)(Q:VK)(E:XK):Prop
 |mk (z:Int):vs=[.int z]->Q (.bl (decide (z∈l.map (·.1)))) H->sp_is l vs H Q E
def xg(T:Txt K mg c)(D:xK K mg):Callee P w K mg base "is_begin_call" 1 ["kind"] (sp_is rW):=by
 obtain⟨a,bE,hm,hd,hk,_⟩:=D.Pw
 exists T.zf.ok ["kind"]
 ·obtain⟨z,rfl,q⟩:=h;refine⟨_,(aq (az (w4 (Kw hd hm (pv 0))))),_,rfl,z,rfl,?_⟩;rw[mP,hk];exact q
def xf(T:Txt K mg c)(D:xK K mg):Callee P w K mg base "is_loose_call" 1 ["kind"] (sp_is rE):=by
 obtain⟨a,bE,hm,hd,hk,_⟩:=D.Pu
 exists T.zd.ok ["kind"]
 ·obtain⟨z,rfl,q⟩:=h;refine⟨_,(aq (az (w4 (Kw hd hm (pv 0))))),_,rfl,z,rfl,?_⟩;rw[mP,hk];exact q
def yN(T:Txt K mg c)(D:xK K mg):Callee P w K mg base "is_seal_call" 1 ["kind"] (sp_is vI):=by
 obtain⟨a,bE,hm,hd,hk,_⟩:=D.Tq
 exists T.BF.ok ["kind"]
 ·obtain⟨z,rfl,q⟩:=h;refine⟨_,(aq (az (w4 (Kw hd hm (pv 0))))),_,rfl,z,rfl,?_⟩;rw[mP,hk];exact q
def AV(T:Txt K mg c)(D:xK K mg):Callee P w K mg base "is_use_call" 1 ["kind"] (sp_is EB):=by
 obtain⟨a,bE,hm,hd,hk,_⟩:=D.Yk
 exists T.CJ.ok ["kind"]
 ·obtain⟨z,rfl,q⟩:=h;refine⟨_,(aq (az (w4 (Kw hd hm (pv 0))))),_,rfl,z,rfl,?_⟩;rw[mP,hk];exact q
inductive DA(l:List (Int×Str))(sp:Int->Sp)(vs:List V)(H:Hp)(Q:VK)(E:XK):Prop
 |mk (z:Int) (nm:Str) (x y t:Addr):vs=[.int z,.ref x,.ref y,.ref t]->(z,nm)∈l->sp z [.ref x,.ref y,.ref t] H Q E0->DA l sp vs H Q E
def MW(T:Txt K mg c): ∀i nm,(i,nm)∈rW->Callee P w K mg base nm 9 ["boxes","numbers","rows"] (lW c K i):=by
 intro i nm h;simp only[rW,aA,lK,bM,or_false] at h;rcases h with⟨rfl,rfl⟩|⟨rfl,rfl⟩|⟨rfl,rfl⟩|⟨rfl,rfl⟩|⟨rfl,rfl⟩|⟨rfl,rfl⟩
 ·exact T3 T
 ·exact Wq T
 ·exact T4 T
 ·exact Wn T
 ·exact T5 T
 ·exact TV T
def MV(T:Txt K mg c): ∀i nm,(i,nm)∈rE->Callee P w K mg base nm 9 ["boxes","numbers","rows"] (lW c K i):=by
 intro i nm h;simp only[rE,aA,lK,bM,or_false] at h;rcases h with⟨rfl,rfl⟩|⟨rfl,rfl⟩|⟨rfl,rfl⟩
 ·exact TY T
 ·exact Qt T
 ·exact Qs T
def PL(T:Txt K mg c): ∀i nm,(i,nm)∈vI->Callee P w K mg base nm 9 ["box","numbers","rows"] (nX c K i):=by
 intro i nm h;simp only[vI,aA,lK,bM,or_false] at h;rcases h with⟨rfl,rfl⟩|⟨rfl,rfl⟩|⟨rfl,rfl⟩|⟨rfl,rfl⟩|⟨rfl,rfl⟩|⟨rfl,rfl⟩|⟨rfl,rfl⟩|⟨rfl,rfl⟩|⟨rfl,rfl⟩
 ·exact T1 T
 ·exact T8 T
 ·exact Qu T
 ·exact Wr T
 ·exact Wk T
 ·exact Qq T
 ·exact T2 T
 ·exact Wm T
 ·exact TX T
def Sg(T:Txt K mg c): ∀i nm,(i,nm)∈EB->Callee P w K mg base nm 9 ["box","numbers","rows"] (nX c K i):=by
 intro i nm h;simp only[EB,aA,lK,bM,or_false] at h;rcases h with⟨rfl,rfl⟩|⟨rfl,rfl⟩|⟨rfl,rfl⟩
 ·exact Qr T
 ·exact T7 T
 ·exact Lq T
def Sh(T:Txt K mg c): ∀i nm,(i,nm)∈Ik->Callee P w K mg base nm 9 ["box","numbers","rows"] (nX c K i):=by
 intro i nm h;simp only[Ik,aA,lK,bM,or_false] at h;rcases h with⟨rfl,rfl⟩|⟨rfl,rfl⟩|⟨rfl,rfl⟩|⟨rfl,rfl⟩|⟨rfl,rfl⟩|⟨rfl,rfl⟩|⟨rfl,rfl⟩|⟨rfl,rfl⟩|⟨rfl,rfl⟩
 ·exact T6 T
 ·exact TU T
 ·exact Wo T
 ·exact TR T
 ·exact TZ T
 ·exact Nu T
 ·exact Wl T
 ·exact Qv T
 ·exact Qp T
def rA(T:Txt K mg c)(D:xK K mg):Callee P w K mg base "answer_begin_call" 10 ["kind","boxes","numbers","rows"] (DA rW (lW c K)):=by
 obtain⟨a,bE,hm,hd,hk,hf⟩:=D.Pw
 exists T.tR.ok ["kind","boxes","numbers","rows"]
 ·obtain⟨z,nm,x,y,t,rfl,hz,q⟩:=h;obtain⟨g,e1,e2⟩:=hf z nm hz;refine⟨_,(aq (az (AD hr (VN hd hm (pv 0)) (aa (pv 1) (aa (pv 2) (aa (pv 3) ai)))))),?_⟩;exact⟨_,rfl,z,_,rfl,e1,g,9,_,_,rfl,(MW T z nm hz).Om e2,by decide,_,rfl,_,rfl,_,rfl,q⟩
def rz(T:Txt K mg c)(D:xK K mg):Callee P w K mg base "answer_loose_call" 10 ["kind","boxes","numbers","rows"] (DA rE (lW c K)):=by
 obtain⟨a,bE,hm,hd,hk,hf⟩:=D.Pu
 exists T.tQ.ok ["kind","boxes","numbers","rows"]
 ·obtain⟨z,nm,x,y,t,rfl,hz,q⟩:=h;obtain⟨g,e1,e2⟩:=hf z nm hz;refine⟨_,(aq (az (AD hr (VN hd hm (pv 0)) (aa (pv 1) (aa (pv 2) (aa (pv 3) ai)))))),?_⟩;exact⟨_,rfl,z,_,rfl,e1,g,9,_,_,rfl,(MV T z nm hz).Om e2,by decide,_,rfl,_,rfl,_,rfl,q⟩
def tM(T:Txt K mg c)(D:xK K mg):Callee P w K mg base "answer_seal_call" 10 ["kind","box","numbers","rows"] (DA vI (nX c K)):=by
 obtain⟨a,bE,hm,hd,hk,hf⟩:=D.Tq
 exists T.uZ.ok ["kind","box","numbers","rows"]
 ·obtain⟨z,nm,x,y,t,rfl,hz,q⟩:=h;obtain⟨g,e1,e2⟩:=hf z nm hz;refine⟨_,(aq (az (AD hr (VN hd hm (pv 0)) (aa (pv 1) (aa (pv 2) (aa (pv 3) ai)))))),?_⟩;exact⟨_,rfl,z,_,rfl,e1,g,9,_,_,rfl,(PL T z nm hz).Om e2,by decide,_,rfl,_,rfl,_,rfl,q⟩
def uR(T:Txt K mg c)(D:xK K mg):Callee P w K mg base "answer_use_call" 10 ["kind","box","numbers","rows"] (DA EB (nX c K)):=by
 obtain⟨a,bE,hm,hd,hk,hf⟩:=D.Yk
 exists T.wu.ok ["kind","box","numbers","rows"]
 ·obtain⟨z,nm,x,y,t,rfl,hz,q⟩:=h;obtain⟨g,e1,e2⟩:=hf z nm hz;refine⟨_,(aq (az (AD hr (VN hd hm (pv 0)) (aa (pv 1) (aa (pv 2) (aa (pv 3) ai)))))),?_⟩;exact⟨_,rfl,z,_,rfl,e1,g,9,_,_,rfl,(Sg T z nm hz).Om e2,by decide,_,rfl,_,rfl,_,rfl,q⟩
def uS(T:Txt K mg c)(D:xK K mg):Callee P w K mg base "answer_box_call" 10 ["kind","box","numbers","rows"] (DA Ik (nX c K)):=by
 obtain⟨a,bE,hm,hd,hk,hf⟩:=D.abC
 exists T.wx.ok ["kind","box","numbers","rows"]
 ·obtain⟨z,nm,x,y,t,rfl,hz,q⟩:=h;obtain⟨g,e1,e2⟩:=hf z nm hz;refine⟨_,(aq (az (AD hr (VN hd hm (pv 0)) (aa (pv 1) (aa (pv 2) (aa (pv 3) ai)))))),?_⟩;exact⟨_,rfl,z,_,rfl,e1,g,9,_,_,rfl,(Sh T z nm hz).Om e2,by decide,_,rfl,_,rfl,_,rfl,q⟩
inductive Dv(c:Cs)(K:ab)(vs:List V)(H:Hp)(Q:VK)(E:XK):Prop
 |mk (M:List Addr) (b d p:Addr) (bx:a9) (z:Int) (nums:List Int) (rs:List (List Int)) (e:Nat) (x:Wqarav.Call):vs=[.ref b,.ref p]->eN c K (cf M H) H b d bx->b∈M->d∈M->Kept M H->mU c (cf M H) p z nums rs e->(∃nm,(z,nm)∈vI++(EB++Ik))->Ask z nums rs x->hU c K M H b d (Wqarav.does bx x) Q->Dv c K vs H Q E
def mem_keys{l:List (Int×Str)}{z:Int}(h:z∈l.map (·.1)): ∃nm,(z,nm)∈l:=by
 obtain⟨p,hp,rfl⟩:=aQ.mp h;exact⟨p.2,hp⟩
def xj(T:Txt K mg c)(D:xK K mg):Callee P w K mg base "answer_on_box" 11 ["box","call"] (Dv c K):=by
 exists T.zk.ok ["box","call"]
 ·obtain⟨M,b,d,p,bx,z,nums,rs,e,x,rfl,hB,hb,hd,hT,⟨dx,na,ra,c1,c2,c3⟩,⟨nm,hnm⟩,hA,q⟩:=h;have g1:=aX M H _ _ c1;refine⟨_,(aj (cD (dB (aF (yN T D) hr (aa (fld K (pv 1)) ai))) (aq (az (aF (tM T D) hr (aa (fld K (pv 1)) (aa (pv 0) (aa (fld K (pv 1)) (aa (fld K (pv 1)) ai))))))) bA)
   (aj (cD (dB (aF (AV T D) hr (aa (fld K (pv 1)) ai))) (aq (az (aF (uR T D) hr (aa (fld K (pv 1)) (aa (pv 0) (aa (fld K (pv 1)) (aa (fld K (pv 1)) ai))))))) bA)
   (aq (az (aF (uS T D) hr (aa (fld K (pv 1)) (aa (pv 0) (aa (fld K (pv 1)) (aa (fld K (pv 1)) ai))))))))),?_⟩
  have fin:nX c K z [.ref b,.ref na,.ref ra] H Q E0:=⟨M,b,d,na,bx,nums,ra,rs,x,rfl,hB,hb,hd,hT,bw.of c2,c3,hA,q⟩;refine⟨_,rfl,p,c.Call,dx,_,_,rfl,g1,T.dX,T.eZ,rfl,z,rfl,_,rfl,?_⟩;by_cases h1:z∈vI.map (·.1)
  ·rw[decide_eq_true h1];obtain⟨n1,m1⟩:=mem_keys h1;exact cY ⟨_,rfl,p,c.Call,dx,_,_,rfl,g1,T.dX,T.eZ,rfl,_,rfl,_,rfl,p,c.Call,dx,_,_,rfl,g1,T.dX,T.ft,rfl,_,rfl,p,c.Call,dx,_,_,rfl,g1,T.dX,T.iH,rfl,z,n1,b,na,ra,rfl,m1,fin⟩
  ·rw[decide_eq_false h1];refine dJ ⟨_,rfl,p,c.Call,dx,_,_,rfl,g1,T.dX,T.eZ,rfl,z,rfl,_,rfl,?_⟩;by_cases h2:z∈EB.map (·.1)
   ·rw[decide_eq_true h2];obtain⟨n1,m1⟩:=mem_keys h2;exact cY ⟨_,rfl,p,c.Call,dx,_,_,rfl,g1,T.dX,T.eZ,rfl,_,rfl,_,rfl,p,c.Call,dx,_,_,rfl,g1,T.dX,T.ft,rfl,_,rfl,p,c.Call,dx,_,_,rfl,g1,T.dX,T.iH,rfl,z,n1,b,na,ra,rfl,m1,fin⟩
   ·rw[decide_eq_false h2];have m1:(z,nm)∈Ik:=by
     rcases cJ.mp hnm with m|m
     ·exact absurd (aQ.mpr ⟨_,m,rfl⟩) h1
     ·rcases cJ.mp m with m|m
      ·exact absurd (aQ.mpr ⟨_,m,rfl⟩) h2
      ·exact m
    exact dJ ⟨_,rfl,p,c.Call,dx,_,_,rfl,g1,T.dX,T.eZ,rfl,_,rfl,_,rfl,p,c.Call,dx,_,_,rfl,g1,T.dX,T.ft,rfl,_,rfl,p,c.Call,dx,_,_,rfl,g1,T.dX,T.iH,rfl,z,nm,b,na,ra,rfl,m1,fin⟩
inductive qZ(c:Cs)(K:ab)(vs:List V)(H:Hp)(Q:VK)(E:XK):Prop
 |mk (M:List Addr) (B p:Addr) (z:Int) (nums:List Int) (rs:List (List Int)) (e:Nat) (x:Wqarav.Call) (s:dP):vs=[.ref B,.ref p]->eO c K M H B s->mU c (cf M H) p z nums rs e->Ask z nums rs x->FT c K M H B (Wqarav.step s x) Q->qZ c K vs H Q E
def Se{z:Int}{nums:List Int}{rs:List (List Int)}{x:Wqarav.Call}(hA:Ask z nums rs x)(h1:z∉rW.map (·.1))(h2:z∉rE.map (·.1)):
  (∃nm,(z,nm)∈vI++(EB++Ik))/\ ∃(k:Nat),nums[0]? =some (k:Int)/\ ∀s:dP,Wqarav.step s x=di s k λ(b:a9)=>(s.set k (some (Wqarav.does b x).1),(Wqarav.does b x).2):=by
 have hs:=Sb.lB hA.shape;rcases hs with⟨rfl,l1,l2⟩|⟨rfl,l1,l2⟩|⟨rfl,l1,l2⟩|⟨rfl,l1,l2⟩|⟨rfl,l1,l2⟩|⟨rfl,l1,l2⟩|⟨rfl,l1,l2⟩|⟨rfl,l1,l2⟩|⟨rfl,l1,l2⟩|⟨rfl,l1,l2⟩|⟨rfl,l1,l2⟩|⟨rfl,l1,l2⟩|⟨rfl,l1,l2⟩|⟨rfl,l1,l2⟩|⟨rfl,l1,l2⟩|⟨rfl,l1,l2⟩|⟨rfl,l1,l2⟩|⟨rfl,l1,l2⟩|⟨rfl,l1,l2⟩|⟨rfl,l1,l2⟩|⟨rfl,l1,l2⟩|⟨rfl,l1,l2⟩|⟨rfl,l1,l2⟩|⟨rfl,l1,l2⟩|⟨rfl,l1,l2⟩|⟨rfl,l1,l2⟩|⟨rfl,l1,l2⟩|⟨rfl,l1,l2⟩|⟨rfl,l1,l2⟩|⟨rfl,l1,l2⟩
 ·exact absurd (by decide) h1
 ·exact absurd (by decide) h1
 ·exact absurd (by decide) h1
 ·exact absurd (by decide) h1
 ·exact absurd (by decide) h1
 ·obtain⟨a,rfl⟩:=Sb.mO l1;obtain rfl:=Sb.len0 l2;have hc:=(ao hA.call).symm;subst hc;have ka:=dh (show aN a=true from hA.asked);exact⟨⟨"answer_give",by decide⟩,a.toNat,by rw[aR ka];rfl,λs=>rfl⟩
 ·exact absurd (by decide) h1
 ·obtain⟨a,rfl⟩:=Sb.mO l1;obtain rfl:=Sb.len0 l2;have hc:=(ao hA.call).symm;subst hc;have ka:=dh (show aN a=true from hA.asked);exact⟨⟨"answer_told",by decide⟩,a.toNat,by rw[aR ka];rfl,λs=>rfl⟩
 ·obtain⟨a,b,rfl⟩:=Sb.m9 l1;obtain rfl:=Sb.len0 l2;exists 2;exact⟨⟨"answer_cap",by decide⟩,a.toNat,by rw[aR ka];rfl,λs=>rfl⟩
 ·obtain⟨a,rfl⟩:=Sb.mO l1;obtain rfl:=Sb.len0 l2;have hc:=(ao hA.call).symm;subst hc;have ka:=dh (show aN a=true from hA.asked);exact⟨⟨"answer_uses",by decide⟩,a.toNat,by rw[aR ka];rfl,λs=>rfl⟩
 ·obtain⟨a,b,d,rfl⟩:=Sb.uU l1;obtain rfl:=Sb.len0 l2;exists 2;exact⟨⟨"answer_seal",by decide⟩,a.toNat,by rw[aR ka];rfl,λs=>rfl⟩
 ·obtain⟨a,b,rfl⟩:=Sb.m9 l1;obtain rfl:=Sb.len0 l2;exists 2;exact⟨⟨"answer_opened",by decide⟩,a.toNat,by rw[aR ka];rfl,λs=>rfl⟩
 ·obtain⟨a,b,d,rfl⟩:=Sb.uU l1;obtain rfl:=Sb.len0 l2;exists 2;exact⟨⟨"answer_off",by decide⟩,a.toNat,by rw[aR ka];rfl,λs=>rfl⟩
 ·obtain⟨a,b,rfl⟩:=Sb.m9 l1;obtain rfl:=Sb.len0 l2;exists 2;exact⟨⟨"answer_bound",by decide⟩,a.toNat,by rw[aR ka];rfl,λs=>rfl⟩
 ·obtain⟨a,b,rfl⟩:=Sb.m9 l1;obtain rfl:=Sb.len0 l2;exists 2;exact⟨⟨"answer_write",by decide⟩,a.toNat,by rw[aR ka];rfl,λs=>rfl⟩
 ·obtain⟨a,b,rfl⟩:=Sb.m9 l1;obtain⟨r,rfl⟩:=Sb.mO l2;exists 2;exact⟨⟨"answer_read",by decide⟩,a.toNat,by rw[aR ka];rfl,λs=>rfl⟩
 ·exact absurd (by decide) h2
 ·obtain⟨a,b,rfl⟩:=Sb.m9 l1;obtain rfl:=Sb.len0 l2;exists 2;exact⟨⟨"answer_drop",by decide⟩,a.toNat,by rw[aR ka];rfl,λs=>rfl⟩
 ·obtain⟨a,rfl⟩:=Sb.mO l1;obtain rfl:=Sb.len0 l2;have hc:=(ao hA.call).symm;subst hc;have ka:=dh (show aN a=true from hA.asked);exact⟨⟨"answer_count",by decide⟩,a.toNat,by rw[aR ka];rfl,λs=>rfl⟩
 ·obtain⟨a,b,d,rfl⟩:=Sb.uU l1;obtain rfl:=Sb.len0 l2;exists 2;exact⟨⟨"answer_add",by decide⟩,a.toNat,by rw[aR ka];rfl,λs=>rfl⟩
 ·obtain⟨a,b,d,rfl⟩:=Sb.uU l1;obtain rfl:=Sb.len0 l2;exists 2;exact⟨⟨"answer_sub",by decide⟩,a.toNat,by rw[aR ka];rfl,λs=>rfl⟩
 ·obtain⟨a,b,d,rfl⟩:=Sb.uU l1;obtain rfl:=Sb.len0 l2;exists 2;exact⟨⟨"answer_times",by decide⟩,a.toNat,by rw[aR ka];rfl,λs=>rfl⟩
 ·obtain⟨a,b,d,rfl⟩:=Sb.uU l1;obtain rfl:=Sb.len0 l2;exists 2;exact⟨⟨"answer_plus",by decide⟩,a.toNat,by rw[aR ka];rfl,λs=>rfl⟩
 ·obtain⟨a,rfl⟩:=Sb.mO l1;obtain⟨r,t,rfl⟩:=Sb.m9 l2;exists 2;exact⟨⟨"answer_mix",by decide⟩,a.toNat,by rw[aR ka];rfl,λs=>rfl⟩
 ·obtain⟨a,b,rfl⟩:=Sb.m9 l1;obtain rfl:=Sb.len0 l2;exists 2;exact⟨⟨"answer_sure",by decide⟩,a.toNat,by rw[aR ka];rfl,λs=>rfl⟩
 ·obtain⟨a,b,rfl⟩:=Sb.m9 l1;obtain⟨r,rfl⟩:=Sb.mO l2;exists 2;exact⟨⟨"answer_table",by decide⟩,a.toNat,by rw[aR ka];rfl,λs=>rfl⟩
 ·obtain⟨a,b,d,e,rfl⟩:=Sb.CC l1;obtain rfl:=Sb.len0 l2;exists 2;exact⟨⟨"answer_gate",by decide⟩,a.toNat,by rw[aR ka];rfl,λs=>rfl⟩
 ·obtain⟨a,rfl⟩:=Sb.mO l1;obtain⟨r,t,rfl⟩:=Sb.m9 l2;exists 2;exact⟨⟨"answer_circuit",by decide⟩,a.toNat,by rw[aR ka];rfl,λs=>rfl⟩
 ·exact absurd (by decide) h2
 ·exact absurd (by decide) h2
def Bc(T:Txt K mg c)(D:xK K mg):Callee P w K mg base "answer_call" 12 ["boxes","call"] (qZ c K):=by
 exists T.C3.ok ["boxes","call","k","fault"]
 ·obtain⟨M,B,p,z,nums,rs,e,x,s,rfl,W,Tg,hA,q⟩:=h;obtain⟨dx,na,ra,c1,c2,c3⟩:=id Tg;have g1:=aX M H _ _ c1;have hN:=aX M H _ _ c2;obtain⟨xs,_,_,hx,OT,_⟩:=id W.ex;refine⟨_,(aj (cD (dB (aF (xg T D) hr (aa (fld K (pv 1)) ai))) (aq (az (aF (rA T D) hr (aa (fld K (pv 1)) (aa (pv 0) (aa (fld K (pv 1)) (aa (fld K (pv 1)) ai))))))) bA)
   (aj (cD (dB (aF (xf T D) hr (aa (fld K (pv 1)) ai))) (aq (az (aF (rz T D) hr (aa (fld K (pv 1)) (aa (pv 0) (aa (fld K (pv 1)) (aa (fld K (pv 1)) ai))))))) bA)
   (aj (bS 2 nd (gT K (fld K (pv 1)) ay))
   (aj (bS 3 nd (aF (pq T) hr (aa (pv 0) (aa (pv 2) ai))))
   (aj (cD (fN (lZ (pv 3))) (aq (az (aF (bt T) hr (aa (pv 3) ai)))) bA)
   (aq (az (aF (xj T D) hr (aa (gT K (pv 0) (pv 2)) (aa (pv 1) ai)))))))))),?_⟩
  have fin:lW c K z [.ref B,.ref na,.ref ra] H Q E0:=⟨M,B,na,ra,nums,rs,s,x,rfl,W,c2,c3,hA,q⟩;refine⟨_,rfl,p,c.Call,dx,_,_,rfl,g1,T.dX,T.eZ,rfl,z,rfl,_,rfl,?_⟩;by_cases h1:z∈rW.map (·.1)
  ·rw[decide_eq_true h1];obtain⟨n1,m1⟩:=mem_keys h1;exact cY ⟨_,rfl,p,c.Call,dx,_,_,rfl,g1,T.dX,T.eZ,rfl,_,rfl,_,rfl,p,c.Call,dx,_,_,rfl,g1,T.dX,T.ft,rfl,_,rfl,p,c.Call,dx,_,_,rfl,g1,T.dX,T.iH,rfl,z,n1,B,na,ra,rfl,m1,fin⟩
  rw[decide_eq_false h1];refine dJ ⟨_,rfl,p,c.Call,dx,_,_,rfl,g1,T.dX,T.eZ,rfl,z,rfl,_,rfl,?_⟩;by_cases h2:z∈rE.map (·.1)
  ·rw[decide_eq_true h2];obtain⟨n1,m1⟩:=mem_keys h2;exact cY ⟨_,rfl,p,c.Call,dx,_,_,rfl,g1,T.dX,T.eZ,rfl,_,rfl,_,rfl,p,c.Call,dx,_,_,rfl,g1,T.dX,T.ft,rfl,_,rfl,p,c.Call,dx,_,_,rfl,g1,T.dX,T.iH,rfl,z,n1,B,na,ra,rfl,m1,fin⟩
  rw[decide_eq_false h2];obtain⟨hnm,k,hk,OX⟩:=Se hA h1 h2;rw[OX s] at q;refine dJ ⟨_,rfl,p,c.Call,dx,_,_,rfl,g1,T.dX,T.ft,rfl,na,_,_,_,rfl,rfl,bw.of hN,fF (j:=0) hk,?_⟩;refine⟨_,rfl,_,rfl,B,xs,k,rfl,bw.of hx,OT,?_⟩;unfold di at q;rcases rM W hx k with⟨e1,e2⟩|⟨e1,e3,e2⟩|⟨bx,e1,e3,e2⟩
  ·rw[e2];rw[if_pos (show cG<=k from fB.mp e1)] at q;exact⟨_,rfl,_,rfl,cY ⟨_,rfl,1,rfl,λp H' sm np hp=>q.dA W sm np hp⟩⟩
  ·rw[e2];rw[if_neg (show¬cG<=k from gr.mpr e1),kF,e3] at q;exact⟨_,rfl,_,rfl,cY ⟨_,rfl,4,rfl,λp H' sm np hp=>q.dA W sm np hp⟩⟩
  ·rw[e2];rw[if_neg (show¬cG<=k from gr.mpr e1),kF,e3] at q;obtain⟨Kl,b0,d0,a1,a2,a3,a4,a5,a6,a7⟩:=W.after e1 e3;have ex:xs=Kl:=by rw[hx] at a1;injection a1 with a1;injection a1
   subst ex;have Nd:xH xs (k:Int)=some (.ref b0):=c8 (by rw[<-a3,ae,af (by omega)];rfl);refine⟨_,rfl,_,rfl,dJ ⟨_,rfl,_,rfl,B,_,_,_,rfl,rfl,bw.of hx,Nd,_,rfl,M,b0,d0,p,bx,z,nums,rs,e,x,rfl,a6,a4,a5,W.kept,Tg,hnm,hA,λp' H' kp np hp X0=> ?_⟩⟩;refine q p' H' M (a7 H' _ kp X0) (λy o e hy=>kp y o e λz=> ?_) (λ_ h=> .inl h) np (W.kept.out np) hp;simp at z;rcases z with z|z
   ·exact hy (by rw[z];exact a4)
   ·exact hy (by rw[z];exact a5)
section
variable{c:Cs}{K:ab}
def Tz(t:Addr)(G:Hp)(G':Hp):Prop:= ∀x o,G x=some o->x≠t->G' x=some o
def Lk(t:Addr)(G:Hp):Prop:=G t=none\/ ∃o u,G t=some (.qI o u)
def Lk.ne{t x:Addr}{G:Hp}{o:HO}(h:Lk t G)(e:G x=some o)(hf: ∀o' u,o≠ .qI o' u):x≠t:=λz=>by
 subst z;rcases h with h|⟨o',u,h⟩
 ·rw[h] at e;cases e
 ·rw[h] at e;exact hf _ _ (ao e).symm
def Lk.get{t x:Addr}{G G':Hp}{o:HO}(h:Lk t G)(n:Tz t G G')(e:G x=some o)(hf: ∀o' u,o≠ .qI o' u):G' x=some o:=n x o e (h.ne e hf)
def cQ.yI{t:Addr}{G G':Hp}{a:Addr}{s:ax}(x:cQ c G a s)(h:Lk t G)(n:Tz t G G'):cQ c G' a s:=by
 obtain⟨dx,wa,h1,h2⟩:=x;exact⟨dx,wa,h.get n h1 (λ_ _ z=>nomatch z),h.get n h2 (λ_ _ z=>nomatch z)⟩
def jD.yI{t:Addr}{G G':Hp}{a:Addr}{s:bp}(x:jD c G a s)(h:Lk t G)(n:Tz t G G'):jD c G' a s:=by
 obtain⟨dx,ba,za,h1,h2,h3⟩:=x;exact⟨dx,ba,za,h.get n h1 (λ_ _ z=>nomatch z),h.get n h2 (λ_ _ z=>nomatch z),h.get n h3 (λ_ _ z=>nomatch z)⟩
def iq.yI{t:Addr}{G G':Hp}{a:Addr}{k:cW}(x:iq c K G a k)(h:Lk t G)(n:Tz t G G'):iq c K G' a k:=by
 obtain⟨dx,fa,pa,ra,h1,⟨Gd,na,f1,f2⟩,⟨ts,h3,h4⟩,⟨us,h5,h6⟩⟩:=x;refine⟨dx,fa,pa,ra,h.get n h1 (λ_ _ z=>nomatch z),⟨Gd,na,h.get n f1 (λ_ _ z=>nomatch z),h.get n f2 (λ_ _ z=>nomatch z)⟩,⟨ts,h.get n h3 (λ_ _ z=>nomatch z),Paired.ja h4 λt r q=> ?_⟩,⟨us,h.get n h5 (λ_ _ z=>nomatch z),Paired.ja h6 λt r q=>h.get n (show _=some (HO.lst _) from q) (λ_ _ z=>nomatch z)⟩⟩;obtain⟨u,v,q1,q2,q3⟩:=q;exact⟨u,v,h.get n q1 (λ_ _ z=>nomatch z),h.get n q2 (λ_ _ z=>nomatch z),h.get n q3 (λ_ _ z=>nomatch z)⟩
def oX.yI{t:Addr}{G G':Hp}{b:Addr}(x:oX G b)(h:Lk t G)(n:Tz t G G'):oX G' b:=by
 obtain⟨C,dx,pa,sv,d,u,m,e⟩:=x;exact⟨C,dx,pa,sv,d,u,m,h.get n e (λ_ _ z=>nomatch z)⟩
theorem eO.yI{M:List Addr}{H:Hp}{B t:Addr}{s:List (Option a9)}(W:eO c K M H B s){o:Obj}{u:HO}(ht:H t=some (.qI o u))(x:HO):eO c K M (upd H t x) B s:=by
 have L:Lk t H:= .inr ⟨o,u,ht⟩;have N:Tz t H (upd H t x):=λy o e hy=>by rw[aJ hy];exact e
 have LM:Lk t (cf M H):=by
  by_cases hm:t∈M
  ·left;unfold cf;rw[if_pos hm]
  ·right;exact⟨o,u,by rw[cV hm];exact ht⟩
 have NM:Tz t (cf M H) (cf M (upd H t x)):=λy o e hy=>by
  obtain⟨y1,y2⟩:=lI e;rw[cV y1,aJ hy];exact y2
 obtain⟨xs,b,d,h1,h2,h3,h4⟩:=W.ex;refine⟨λy hy=> ?_,W.bin,W.len,xs,b,d,L.get N h1 (λ_ _ z=>nomatch z),h2,λk hk=> ?_,h4⟩
 ·rcases W.kept y hy with q|⟨bE,q⟩|⟨ys,q1,q2,q3⟩
  ·exact .inl (q.yI L N)
  ·exact .inr (.inl ⟨bE,L.get N q (λ_ _ z=>nomatch z)⟩)
  ·refine .inr (.inr ⟨ys,L.get N q1 (λ_ _ z=>nomatch z),q2,λz hz=> ?_⟩);rcases q3 z hz with e|⟨b',e,Ng⟩
   ·exact .inl e
   ·exact .inr ⟨b',e,Ng.yI L N⟩
 ·have q:=h3 k hk;cases e:s.getD k none with
  |none=>rw[e] at q;exact q
  |some bx=>
   rw[e] at q;obtain⟨q1,q2,q3,⟨⟨dx,pa,sv,mo,bE,t1,t2,t3,t4,t5,t6⟩,hw⟩⟩:=q;refine⟨q1,q2,q3,⟨⟨dx,pa,sv,mo,bE,L.get N t1 (λ_ _ z=>nomatch z),t2.yI LM NM,?_,t4,L.get N t5 (λ_ _ z=>nomatch z),⟨t6.len,t6.nd,t6.cnt,λi sl e=> ?_,t6.none⟩⟩,hw⟩⟩
   ·cases nc:bx.secret with
    |none=>rw[nc] at t3;exact t3
    |some xx=>
     rw[nc] at t3;obtain⟨sa,a1,a2,a3⟩:=t3;exact⟨sa,a1,a2.yI LM NM,a3⟩
   ·obtain⟨a1,sa,a2,a3⟩:=t6.there i sl e;exact⟨a1,sa,a2,a3.yI LM NM⟩
end
def jz(b:a9)(l:List ax):(Wqarav.made b l).2.nums.length<=l.length:=by
 unfold Wqarav.made;by_cases h:b.free<l.length
 ·rw[if_pos h];exact aC _
 ·rw[if_neg h];show(Wqarav.ints (b.putAll l).2).length<=l.length;unfold Wqarav.ints;rw[ag];have:=Sb.i7 b l (by omega) l.length (aE _);rw[aU (aE _)] at this;omega
def kD{b:a9}{hs:List Nat}{f:List ax->fS}{N:Nat}(h: ∀l,b.all hs=some l->(f l).2.nums.length<=N):(Wqarav.of b hs f).2.nums.length<=N:=by
 unfold Wqarav.of;cases e:b.all hs with
 |none=>exact aC _
 |some l=>exact h l e
def pw{b:a9}{f:bp->fS}{N:Nat}(h: ∀x,(f x).2.nums.length<=N):(f9 b f).2.nums.length<=N:=by
 unfold f9;cases b.secret with
 |none=>exact aC _
 |some x=>exact h x
def pM{b:a9}{h:Nat}{l:List ax}(e:b.all [h]=some l): ∃s,l=[s]/\b.get h=some s:=by
 cases g:b.get h with
 |none=>rw[Sb.uD g] at e;cases e
 |some s=>rw[Sb.uC g rfl] at e;exact⟨s,(ao e).symm,rfl⟩
def xQ(b:a9)(g:List Nat)(x:ax):(dt b g x).2.nums.length<=1:=by
 unfold dt;by_cases h1:b.free=0
 ·rw[if_pos h1];exact aC _
 rw[if_neg h1];by_cases h2:b.may 1=false
 ·rw[if_pos h2];exact aC _
 rw[if_neg h2];by_cases h3:gu b.form x.bound=false
 ·rw[if_pos h3];exact aC _
 rw[if_neg h3];exact jz _ _
def C4(b:a9)(x:fT)(l:List ax):(jq b x l).2.nums.length<=x.outs.length:=by
 unfold jq;by_cases h1:b.free<x.outs.length
 ·rw[if_pos h1];exact aC _
 rw[if_neg h1];by_cases h2:x.gates≠[]/\b.may x.gates.length=false
 ·rw[if_pos h2];exact aC _
 rw[if_neg h2];cases Wqarav.wires b.work x.gates l with
 |none=>exact aC _
 |some w=>
  have:=jz (b.used x.gates.length) (x.outs.map λ(i:Nat)=>w.getD i ⟨[],0,bZ⟩);rw[ag] at this;exact this
def DF{s:List Nat}{m:Nat}{x:fT}(h:dH s m= .ok x):x.outs.length<=16:=by
 rw[Sb.zt] at h;cases hc:Sb.lQ s m with
 |some e=>rw[hc] at h;cases h
 |none=>
  rw[hc] at h;injection h with h;subst h;exact(Sb.FG (Sb.sX hc)).lo
def Mq{k:cW}(h:iS k):(hX k).length<=22000:=by
 have hG:=h.good;have e1:(hX k)=k.form.numbers.flatMap (Wqarav.le 4)++(k.turning.flatMap rj++k.changing.flatMap yJ):=rfl;have l1:(k.form.numbers.flatMap (Wqarav.le 4)).length=32:=by rw[il];rfl
 have l2:(k.turning.flatMap rj).length<=k.turning.length*512:=pE λp hp=>by rw[sJ (h.turning p hp)];have:=hG.AB;omega
 have l3:(k.changing.flatMap yJ).length<=k.changing.length*10:=pE λp hp=>by rw[vJ (h.changing p hp)];have:=hG.n4;omega
 have l4:k.turning.length<=32:=by rw[h.lt];exact cN (nh 2 hG.n4) hG.d4
 have l5:k.changing.length<=512:=by rw[h.lc];exact cN hG.AB hG.OO
 rw[e1,aP,aP,l1];omega
def FU(b:a9):Prop:=iS b.work/\ ∀h s,b.get h=some s->s.a.length<=4
def Po{b:a9}(hb:FU b)(x:Wqarav.Call):(Wqarav.does b x).2.nums.length<=22000:=by
 have one: ∀n:Nat,n<=1->n<=22000:=λn h=>by omega
 cases x with
 |give k=>
  show(if iP<bu b.form then Wqarav.no (-10) else cy (hX b.work)).nums.length<=22000;by_cases h:iP<bu b.form
  ·rw[if_pos h];exact aC _
  ·rw[if_neg h];show(Wqarav.ints (hX b.work)).length<=22000;unfold Wqarav.ints;rw[ag];exact Mq hb.1
 |told k=>show(Wqarav.ints ((if b.secret.isSome=true then 1 else 0)::b.form.numbers)).length<=22000;unfold Wqarav.ints;rw[ag];show 9<=22000;decide
 |cap k m=>exact aC _
 |uses k=>show 1<=22000;decide
 |seal_ k j y=>
  refine pw λx=> ?_;by_cases h:2*b.form.p<=j
  ·rw[if_pos h];exact aC _
  ·rw[if_neg h];exact one _ (jz _ _)
 |open_ k h=>
  refine pw λx=>kD λl e=> ?_;obtain⟨s,rfl,_⟩:=pM e;show 1<=22000;decide
 |off k h j=>
  refine pw λx=> ?_;by_cases hj:2*b.form.p<=j
  ·rw[if_pos hj];exact aC _
  ·rw[if_neg hj];refine kD λl e=> ?_;obtain⟨s,rfl,_⟩:=pM e;show 1<=22000;decide
 |bound k h=>
  refine kD λl e=> ?_;obtain⟨s,rfl,_⟩:=pM e;show 1<=22000;decide
 |write k h=>
  refine kD λl e=> ?_;obtain⟨s,rfl,hs⟩:=pM e;show(Wqarav.ints ([s].flatMap iz)).length<=22000;unfold Wqarav.ints;rw[ag,dF,fQ,dz];have e2:iz s=(s.a++[s.b]).flatMap (Wqarav.le 2):=rfl;rw[e2,il,aP];have:=hb.2 h s hs;show(s.a.length + 1)*2<=22000;omega
 |read k bd s=>
  show(if bZ<bd then(b,Wqarav.no (-1)) else if s.length≠2*b.form.n + 2 then(b,Wqarav.no (-2)) else Wqarav.made b [ia b.form s bd]).2.nums.length<=22000;by_cases h1:bZ<bd
  ·rw[if_pos h1];exact aC _
  rw[if_neg h1];by_cases h2:s.length≠2*b.form.n + 2
  ·rw[if_pos h2];exact aC _
  rw[if_neg h2];exact one _ (jz _ _)
 |drop k h=>exact kD λl e=>aC _
 |count k=>show 1<=22000;decide
 |add k h i=>exact kD λl e=>one _ (jz _ _)
 |sub k h i=>exact kD λl e=>one _ (jz _ _)
 |times k h z=>
  show(if c9 z=false then(b,Wqarav.no (-1)) else Wqarav.of b [h] λ(l:List ax)=>Wqarav.made b [bO b.form.n (List.zip [z] l)]).2.nums.length<=22000;by_cases hz:c9 z=false
  ·rw[if_pos hz];exact aC _
  ·rw[if_neg hz];exact kD λl e=>one _ (jz _ _)
 |plus k h j=>
  show(if 2*b.form.p<=j then(b,Wqarav.no (-1)) else Wqarav.of b [h] λ(l:List ax)=>Wqarav.made b (l.map λ(c:ax)=>⟨c.a,(c.b + j*b.form.step)% 65536,c.bound⟩)).2.nums.length<=22000;by_cases hj:2*b.form.p<=j
  ·rw[if_pos hj];exact aC _
  ·rw[if_neg hj];refine kD λl e=> ?_;obtain⟨s,rfl,_⟩:=pM e;exact one _ (jz _ _)
 |mix k hs cs=>
  show(if hs.length=0\/8<hs.length\/cs.length % hs.length≠0\/cs.length=0\/8*hs.length<cs.length\/cs.all c9=false then(b,Wqarav.no (-1)) else
   Wqarav.of b hs λ(l:List ax)=>Wqarav.made b ((fq hs.length (cs.length / hs.length) cs).map λ(c:List Int)=>bO b.form.n (c.zip l))).2.nums.length<=22000
  by_cases O8:hs.length=0\/8<hs.length\/cs.length % hs.length≠0\/cs.length=0\/8*hs.length<cs.length\/cs.all c9=false
  ·rw[if_pos O8];exact aC _
  ·rw[if_neg O8];refine kD λl e=>cH (jz _ _) ?_;rw[ag,rH];have a5:cs.length<=8*hs.length:=fB.mp λz=>O8 (.inr (.inr (.inr (.inr (.inl z)))));have:cs.length / hs.length<=8:=vd (by rw[cj];exact a5);omega
 |sure k h=>
  refine kD λl e=> ?_;obtain⟨s,rfl,_⟩:=pM e;show 1<=22000;decide
 |table k h g=>
  show(if g.length≠b.form.p then(b,Wqarav.no (-2)) else if g.any (λ(x:Nat)=>decide (2*b.form.p<=x))=true then(b,Wqarav.no (-1)) else Wqarav.of b [h] λ(l:List ax)=>match l with
   |c::_=>dt b g c
   | []=>(b,Wqarav.no (-5))).2.nums.length<=22000
  by_cases h1:g.length≠b.form.p
  ·rw[if_pos h1];exact aC _
  rw[if_neg h1];by_cases h2:g.any (λ(x:Nat)=>decide (2*b.form.p<=x))=true
  ·rw[if_pos h2];exact aC _
  rw[if_neg h2];refine kD λl e=> ?_;obtain⟨s,rfl,_⟩:=pM e;exact one _ (xQ _ _ _)
 |gate k kd h i=>
  show(if 15<kd\/b.form.p=2 then(b,Wqarav.no (-1)) else Wqarav.of b [h,i] λ(l:List ax)=>match l with
   |x::y::_=>dt b (eQ b.form.p kd) (Df b.form x y)
   |_=>(b,Wqarav.no (-5))).2.nums.length<=22000
  by_cases h1:15<kd\/b.form.p=2
  ·rw[if_pos h1];exact aC _
  rw[if_neg h1];refine kD λl e=> ?_
  match l with
  |x::y::_=>exact one _ (xQ _ _ _)
  | [x]=>exact aC _
  | []=>exact aC _
 |circuit k ins s=>
  show(if kg<ins.length\/b.form.p=2 then(b,Wqarav.no (-1)) else match dH s ins.length with
   | .error e=>(b,⟨-9,[(e:Int)]⟩)
   | .ok c=>Wqarav.of b ins λ(l:List ax)=>jq b c l).2.nums.length<=22000
  by_cases h1:kg<ins.length\/b.form.p=2
  ·rw[if_pos h1];exact aC _
  rw[if_neg h1];cases hc:dH s ins.length with
  |error e=>show 1<=22000;decide
  |ok x=>exact kD λl e=>cH (C4 _ _ _) (by have:=DF hc;omega)
 |need f=>exact aC _
 |can f=>exact aC _
 |luck a b c=>exact aC _
 |key a b c=>exact aC _
 |hand a b=>exact aC _
 |take a b=>exact aC _
 |send a b c=>exact aC _
 |judge a b=>exact aC _
 |plain a b=>exact aC _
def sN{s:dP}{k N:Nat}{f:a9->TK}(h: ∀b,s.getD k none=some b->(f b).2.nums.length<=N):(di s k f).2.nums.length<=N:=by
 unfold di;by_cases h1:cG<=k
 ·rw[if_pos h1];exact aC _
 rw[if_neg h1,kF];cases e:s.getD k none with
 |none=>exact aC _
 |some b=>exact h b e
def NP{s:dP}(hs: ∀k b,s.getD k none=some b->FU b)(x:Wqarav.Call):(Wqarav.step s x).2.nums.length<=22000:=by
 have bx: ∀k,(di s k λ(b:a9)=>(s.set k (some (Wqarav.does b x).1),(Wqarav.does b x).2)).2.nums.length<=22000:=λk=>sN λb hb=>Po (hs k b hb) x;cases x with
 |need l=>
  show(fj l _).nums.length<=22000;unfold fj;split
  ·show 3<=22000;decide
  ·exact aC _
 |can l=>
  show(fj l _).nums.length<=22000;unfold fj;split
  ·show 3<=22000;decide
  ·exact aC _
 |luck y i m=>
  show(if 100<m\/20000<i then Wqarav.no (-1) else cy ((aV (i + m) y).drop i)).nums.length<=22000;by_cases h:100<m\/20000<i
  ·rw[if_pos h];exact aC _
  ·rw[if_neg h];show(Wqarav.ints ((aV (i + m) y).drop i)).length<=22000;unfold Wqarav.ints;rw[ag,bT,Sb.eM];have:m<=100:=fB.mp λz=>h (.inl z);omega
 |key k l y=>
  show(if cG<=k\/l.length≠8\/(aT l).good=false then(s,Wqarav.no (-1)) else _).2.nums.length<=22000;split
  ·exact aC _
  ·exact aC _
 |hand k j=>
  show(if cG<=k then(s,Wqarav.no (-1)) else di s j _).2.nums.length<=22000;split
  ·exact aC _
  ·exact sN λb hb=>aC _
 |take k l=>
  show(if cG<=k then(s,Wqarav.no (-1)) else if iP<l.length then(s,Wqarav.no (-2)) else match mV l with
   | .error e=>(s,⟨-9,[(e:Int)]⟩)
   | .ok w=>(s.set k (some (mX w none)),cy [])).2.nums.length<=22000
  split
  ·exact aC _
  ·split
   ·exact aC _
   ·cases mV l with
    |error e=>show 1<=22000;decide
    |ok w=>exact aC _
 |send k h j=>
  refine sN λb hb=>sN λd hd=> ?_;cases b.get h with
  |none=>exact aC _
  |some sl=>
   show(if b.form=d.form then(s.set j (some (Wqarav.made d [sl]).1),(Wqarav.made d [sl]).2) else(s,Wqarav.no (-2))).2.nums.length<=22000;split
   ·exact cH (jz _ _) (by show 1<=22000;decide)
   ·exact aC _
 |judge m l=>
  show(if kg<m then Wqarav.no (-1) else match dH l m with
   | .error e=>⟨-9,[(e:Int)]⟩
   | .ok c=>cy [c.gates.length,c.outs.length]).nums.length<=22000
  split
  ·exact aC _
  ·cases dH l m with
   |error e=>show 1<=22000;decide
   |ok c=>show 2<=22000;decide
 |plain bits l=>
  show(if kg<bits.length\/bits.any (λ(x:Nat)=>decide (1<x))=true then Wqarav.no (-1) else match dH l bits.length with
   | .error e=>⟨-9,[(e:Int)]⟩
   | .ok c=>cy (c.outs.map λ(i:Nat)=>((dY c.gates (bits.map λ(x:Nat)=>x==1)).getD i false).toNat)).nums.length<=22000
  split
  ·exact aC _
  ·cases hc:dH l bits.length with
   |error e=>show 1<=22000;decide
   |ok c=>
    show(Wqarav.ints _).length<=22000;unfold Wqarav.ints;rw[ag,ag];have:=DF hc;omega
 |give k=>exact bx k
 |told k=>exact bx k
 |cap k m=>exact bx k
 |uses k=>exact bx k
 |seal_ k j y=>exact bx k
 |open_ k h=>exact bx k
 |off k h j=>exact bx k
 |bound k h=>exact bx k
 |write k h=>exact bx k
 |read k b s=>exact bx k
 |drop k h=>exact bx k
 |count k=>exact bx k
 |add k h i=>exact bx k
 |sub k h i=>exact bx k
 |times k h z=>exact bx k
 |plus k h j=>exact bx k
 |mix k hs cs=>exact bx k
 |sure k h=>exact bx k
 |table k h g=>exact bx k
 |gate k z h i=>exact bx k
 |circuit k i s=>exact bx k
def mU.yI{c:Cs}{t:Addr}{G G':Hp}{p:Addr}{z:Int}{nums:List Int}{rs:List (List Int)}{e:Nat}(x:mU c G p z nums rs e)(h:Lk t G)(n:Tz t G G'):mU c G' p z nums rs e:=by
 obtain⟨dx,na,ra,h1,h2,⟨ts,h3,h4⟩⟩:=x;exact⟨dx,na,ra,h.get n h1 (λ_ _ z=>nomatch z),h.get n h2 (λ_ _ z=>nomatch z),⟨ts,h.get n h3 (λ_ _ z=>nomatch z),Paired.ja h4 λt r q=>h.get n (show _=some (HO.lst _) from q) (λ_ _ z=>nomatch z)⟩⟩
def mU.LU{c:Cs}{M:List Addr}{H:Hp}{p:Addr}{z:Int}{nums:List Int}{rs:List (List Int)}{e:Nat}(x:mU c H p z nums rs e)(k:Kept M H):mU c (cf M H) p z nums rs e:=by
 obtain⟨dx,na,ra,h1,h2,h3⟩:=x;have o3:=k.refs h3 λt r q C dx fs e=>by rw[show H t=_ from q] at e;cases e
 obtain⟨ts,h4,h5⟩:=h3;refine⟨dx,na,ra,by rw[cV (k.ins h1 (by decide))];exact h1,by rw[cV (k.ii h2)];exact h2,⟨ts,by rw[cV o3];exact h4,?_⟩⟩;have go: ∀(ts:List Addr) (rs:List (List Int)),Paired (λt r=>dD H t r) ts (rs.map ii)->Paired (λt r=>dD (cf M H) t r) ts (rs.map ii):=by
  intro ts rs
  induction rs generalizing ts with
  |nil=>intro h;cases h;exact .nil
  |cons r rr ih=>
   intro h;rw[bB] at h ⊢;cases h with
   |cons a b=>
    refine .cons ?_ (ih _ b);show cf M H _=_;rw[cV (k.ii (show H _=_ from a))];exact a
 exact go ts rs h5
def PJ{z:Int}{nums:List Int}{rs:List (List Int)}(h:PyWqarav.shape z=some (nums.length,rs.length)): ∃x,Cc ((z::nums)::rs)=some x:=by
 have hs:=Sb.lB h;rcases hs with⟨rfl,l1,l2⟩|⟨rfl,l1,l2⟩|⟨rfl,l1,l2⟩|⟨rfl,l1,l2⟩|⟨rfl,l1,l2⟩|⟨rfl,l1,l2⟩|⟨rfl,l1,l2⟩|⟨rfl,l1,l2⟩|⟨rfl,l1,l2⟩|⟨rfl,l1,l2⟩|⟨rfl,l1,l2⟩|⟨rfl,l1,l2⟩|⟨rfl,l1,l2⟩|⟨rfl,l1,l2⟩|⟨rfl,l1,l2⟩|⟨rfl,l1,l2⟩|⟨rfl,l1,l2⟩|⟨rfl,l1,l2⟩|⟨rfl,l1,l2⟩|⟨rfl,l1,l2⟩|⟨rfl,l1,l2⟩|⟨rfl,l1,l2⟩|⟨rfl,l1,l2⟩|⟨rfl,l1,l2⟩|⟨rfl,l1,l2⟩|⟨rfl,l1,l2⟩|⟨rfl,l1,l2⟩|⟨rfl,l1,l2⟩|⟨rfl,l1,l2⟩|⟨rfl,l1,l2⟩
 all_goals ((first|obtain rfl:=Sb.len0 l1|obtain⟨_,rfl⟩:=Sb.mO l1|obtain⟨_,_,rfl⟩:=Sb.m9 l1|obtain⟨_,_,_,rfl⟩:=Sb.uU l1|obtain⟨_,_,_,_,rfl⟩:=Sb.CC l1);(first|obtain rfl:=Sb.len0 l2|obtain⟨_,rfl⟩:=Sb.mO l2|obtain⟨_,_,rfl⟩:=Sb.m9 l2|obtain⟨_,_,_,rfl⟩:=Sb.uU l2|obtain⟨_,_,_,_,rfl⟩:=Sb.CC l2);exact⟨_,rfl⟩)
def ZD{K:ab}{H:Hp}{a:Addr}{xs:List V}(h:bw K H a xs): ∀H':Hp,(∀o,H a=some o->H' a=some o)->bw K H' a xs:=λH' k=>by
 rcases h with(h|⟨o,h⟩)|h
 ·exact .inl (.inl (k _ h))
 ·exact .inl (.inr ⟨o,k _ h⟩)
 ·exact .inr h
def Lv(r:List Int)(rs:List (List Int)):PyFlat.told (r::rs)=((r.length:Nat):Int)::r++PyFlat.told rs:=by
 unfold PyFlat.told;rw[dF]
def IY{M:List Addr}{H:Hp}{B:Addr}{s:dP}(W:eO c K M H B s): ∀k b,s.getD k none=some b->FU b:=λk b hb=>by
 by_cases hk:k<3
 ·obtain⟨xs,b0,d0,a1,a2,a3,a4,a5,a6,a7⟩:=W.after hk hb;obtain⟨dx,pa,sv,mo,bE,h1,h2,h3,h4,h5,h6⟩:=a6.obj;refine⟨a6.wf,λh sl hs=> ?_⟩;rcases ij h6 h with⟨e1,_⟩|⟨s',sa,e1,hw,_,_⟩
  ·rw[e1] at hs;cases hs
  ·rw[e1] at hs;have:=ao hs;subst this;rw[hw.len];exact a6.wf.good.n4
 ·rw[ae,fK (by rw[W.len];omega)] at hb;cases hb
inductive pf(K:ab)(vs:List V)(H:Hp)(Q:VK)(E:XK):Prop
 |mk (a:Addr) (l:List Int):vs=[.ref a]->bw K H a (ii l)->l.length<=15800->FY l=true->(∀(p:Addr) (H':Hp),H' p=some (.lst (ii (k8 l)))->Q (.ref p) H')->pf K vs H Q E
def FN(T:Txt K mg c)(D:xK K mg):BodyOk P w K mg base "answers" (top 210) ["calls","boxes","told","place","call","answer"] 12 (pf K):=by
 intro f cdv A outer s H vs Q E nd hr h
 ·obtain⟨a,l,rfl,ha,Tb,Fb,q⟩:=h;have big:=bI;have hA:=ZD ha;refine⟨_,(aj (bS 1 nd (Uw (GZ T) hr))
   (aj (bS 2 nd (cx ai))
   (aj (bS 3 nd ay)
   (aj (GN PassesOwn.never (eh yn (pv 3) (bX (cI K) rfl T.f7 boot_len (aa (pv 0) ai)) (dC _)) (aj (bS 4 nd (KC (aF (ET T D.shapes) hr (aa (pv 0) (aa (pv 3) ai)))))
   (aj (bS 5 nd (KC (aF (Bc T D) hr (aa (pv 1) (aa (pv 4) ai)))))
   (aj (fU (kP bH cT cS iR (pv 2) (aa (bX (cI K) rfl T.f7 boot_len (aa (pv 5) ai)) ai)))
   (aj (fU (kP bH dv du j0 (pv 2) (aa (pv 5) ai)))
   (aq (bS 3 nd (fld K (pv 4)))))))))
   (aq (az (pv 2))))))),?_⟩
  unfold FY at Fb;have RO:k8 l=match mY l with
   |none=>[]
   |some cs=>PyFlat.told (lM WqaravNeutral.step WqaravNeutral.start cs):=rfl
  cases XH:kN PyWqarav.shape l.length l with
  |none=>
   have:mY l=none:=by unfold mY;rw[XH]
   rw[this] at Fb;cases Fb
  |some R4=>
  have hcw:mY l=some (R4.map d7):=by unfold mY;rw[XH]
  rw[hcw] at Fb RO;have Fb:(PyFlat.atMost 100 (R4.map d7)&&WqaravNeutral.asked (R4.map d7))=true:=Fb;obtain⟨Nd,IJ⟩:=a8.mp Fb;have Nd:R4.length<=100:=by
   have:=of_decide_eq_true (show decide ((R4.map d7).length<=100)=true from Nd);rwa[ag] at this
  have uw: ∀x∈R4.map d7,o6 x=true:=gI.mp (a8.mp IJ).1;have RO:k8 l=PyFlat.told (lM WqaravNeutral.step WqaravNeutral.start (R4.map d7)):=RO;refine⟨rfl,λB H1 s1 nB hB=>⟨aC _,λtp ntp=> ?_⟩⟩;have hBt:B≠tp:=aO hB ntp;have Ga:H a≠none->a≠tp:=λhn z=>hn (by
   rw[z];exact s1.free ntp)
  refine Gj (λσ H'=> ∃(e:Nat) (M:List Addr) (tl:List Int) (st:dP) (fu:Nat) (cs:List (List (List Int))) (v4 v5:Option V),σ=[some (.ref a),some (.ref B),some (.ref tp),some (.int (e:Int)),v4,v5]/\e<=l.length/\(∀o,H a=some o->H' a=some o)/\(H a≠none->a∉M)/\tp∉M/\H' tp=some (.lst (ii tl))/\(∀o,eO c K M (upd H' tp o) B st)/\kN PyWqarav.shape fu (l.drop e)=some cs/\(∀x∈cs.map d7,o6 x=true)/\k8 l=tl++PyFlat.told (lM WqaravNeutral.step st (cs.map d7))/\tl.length + cs.length*30000<=4000000)
   (λσ H'=>match σ with
    | [_,_,_,some (.int i),_,_]=>l.length - i.toNat
    |_=>0) ?_ (λσ H' hP=> ?_) (λσ H' Q1 Q2 hQ hc=> ?_)
  ·refine⟨0,[B],[],Wqarav.start,l.length,R4,none,none,rfl,aC _,λo e=> ?_,λhn hm=> ?_,λhm=> ?_,ak,λo=> ?_,XH,uw,RO,by show 0 + R4.length*30000<=4000000;omega⟩
   ·rw[aJ (Ga (by rw[e];exact λz=>nomatch z))];exact s1 _ _ e
   ·rw[br.mp hm] at hn;exact hn nB
   ·exact hBt (br.mp hm).symm
   ·rw[dG];have Mp:upd H1 tp o B=some (.lst [.fC,.fC,.fC]):=by rw[aJ hBt];exact hB
    refine⟨λy hy=> ?_,br.mpr rfl,rfl,[.fC,.fC,.fC],λ_=>B,λ_=>B,Mp,rfl,λk hk=> ?_,λj k hj hk _ hn=> ?_⟩
    ·rw[br.mp hy];exact .inr (.inr ⟨_,Mp,rfl,λx hx=>by simp at hx;exact .inl hx⟩)
    ·match k,hk with
     |0,_=>rfl
     |1,_=>rfl
     |2,_=>rfl
    ·match j,hj with
     |0,_=>exact absurd rfl hn
     |1,_=>exact absurd rfl hn
     |2,_=>exact absurd rfl hn
  ·obtain⟨e,M,tl,st,fu,cs,v4,v5,rfl,Qg,hKA,hAM,htM,Xn,hW,O6,Y8,Ec,hlen⟩:=hP;refine⟨_,rfl,_,rfl,a,_,rfl,.inl (hA H' hKA),_,_,rfl,rfl,_,rfl,?_⟩;rw[gi];by_cases ig:e<l.length
   case neg=>
    rw[decide_eq_false (show¬(e:Int)<(l.length:Int) by omega)];have hd:l.drop e=[]:=cK (by omega);rw[hd] at O6;rcases Sb.B1 O6 with⟨_,rfl⟩|⟨f',c',t,Nj,_,_,V7,_⟩
    ·have Vc:k8 l=tl:=by rw[Ec];show tl++[]=tl;rw[dz]
     refine dJ ⟨_,rfl,q tp H' ?_⟩;rw[Vc];exact Xn
    ·cases V7
   rw[decide_eq_true (show(e:Int)<(l.length:Int) by omega)];rcases Sb.B1 O6 with⟨hd,_⟩|⟨f',c',t,Nj,rfl,rfl,V7,aa3⟩
   ·have:=congrArg List.length hd;rw[bT] at this;have:l.length - e=0:=this;omega
   obtain⟨z,n,k,xs,hz,VX,hen,rfl,K0⟩:=Sb.R5 V7;have hnl:((l.drop (e + 1)).take n).length=n:=by rw[bo,bT];omega
   have OT:xs.length=k:=Sb.fM K0;have hwh:=Sb.Nw (nums:=(l.drop (e + 1)).take n) (rs:=xs) VX hnl OT;rw[bB,hwh] at Y8 Ec;obtain⟨nums,S7⟩: ∃nums,nums=(l.drop (e + 1)).take n:=⟨_,rfl⟩;rw[<-S7] at hnl hwh Y8 Ec;have OY:PyWqarav.shape z=some (nums.length,xs.length):=by rw[hnl,OT];exact VX
   obtain⟨x,hx⟩:=PJ OY;have abn:Ask z nums xs x:=⟨OY,Y8 _ (aY ..),hx⟩;have OX:WqaravNeutral.step st ((z::nums)::xs)=((Wqarav.step st x).1,WqaravNeutral.numbers (Wqarav.step st x).2):=by unfold WqaravNeutral.step;rw[hx]
   have m5:lM WqaravNeutral.step st (((z::nums)::xs)::Nj.map d7)=WqaravNeutral.numbers (Wqarav.step st x).2::lM WqaravNeutral.step (Wqarav.step st x).1 (Nj.map d7):=by
    show(WqaravNeutral.step st ((z::nums)::xs)).2::lM WqaravNeutral.step (WqaravNeutral.step st ((z::nums)::xs)).1 (Nj.map d7)=_;rw[OX]
   rw[m5,Lv] at Ec;have Mi:H a≠none->a≠tp:=Ga;have Ve: ∀u o,H a=some o->upd H' tp u a=some o:=λu o e=>by rw[aJ (Ga (by rw[e];exact λz=>nomatch z))];exact hKA o e
   refine cY ⟨tp,.lst (ii tl),Xn,trivial,λod=> ?_⟩;refine⟨_,rfl,_,rfl,a,l,e,z,n,k,xs,t,rfl,hA _ (Ve _),hz,VX,hen,K0,by omega,λpc H1 e' s1 ZV ht he he' hC=>⟨s1 _ _ ak,?_⟩⟩;rw[<-S7] at hC;have aap:H1 tp=some (.qI od (.lst (ii tl))):=s1 _ _ ak;have sO: ∀o,au (upd H' tp o) (upd H1 tp o):=λo b ob eb=>by
    by_cases hb:b=tp
    ·subst hb;rw[ak] at eb ⊢;exact eb
    ·rw[aJ hb] at eb ⊢;exact s1 _ _ (by rw[aJ hb];exact eb)
   have hC': ∀o,mU c (upd H1 tp o) pc z nums xs e':=λo=>hC.yI (.inr ⟨_,_,aap⟩) λy ob ey hy=>by rw[aJ hy];exact ey
   refine⟨tp,.lst (ii tl),ak,trivial,λZS=> ?_⟩;rw[dG];have W:=(hW (.qI ZS (.lst (ii tl)))).same (sO _);refine⟨_,rfl,_,rfl,M,B,pc,z,nums,xs,e',x,st,rfl,W,(hC' _).LU W.kept,abn,λp H2 M' W' ko hM' np aed hp=>⟨ko tp _ ak htM,?_⟩⟩;have aao:H2 tp=some (.qI ZS (.lst (ii tl))):=ko tp _ ak htM;have Xr:p≠tp:=λz=>by rw[z,ak] at np;cases np
   obtain⟨Vo,nac,rac,XM,_,_⟩:=hC' (.qI ZS (.lst (ii tl)));have aaA:pc∉M:=W.kept.ins XM (by decide);have Xt:pc≠tp:=λz=>by rw[z,ak] at XM;cases XM
   have XJ:=ko pc _ XM aaA;have aeT:p≠pc:=λz=>by rw[z,XM] at np;cases np
   have hle:=NP (IY W) x;have aaH:(WqaravNeutral.numbers (Wqarav.step st x).2).length<=22001:=by
    show((Wqarav.step st x).2.nums.length + 1)<=22001;omega
   obtain⟨ns,Xx⟩: ∃ns,ns=WqaravNeutral.numbers (Wqarav.step st x).2:=⟨_,rfl⟩;have acL:tl.length +(Nj.length + 1)*30000<=4000000:=hlen;have F9:H2 p=some (.lst (ii ns)):=by rw[Xx];exact hp
   rw[<-Xx] at aaH Ec;refine⟨_,rfl,.inl ⟨rfl,_,bw.of ak⟩,_,rfl,p,_,rfl,.inl (bw.of (by rw[aJ Xr];exact F9)),tp,_,_,rfl,rfl,ak,by rw[gi];omega,?_⟩;rw[dG];refine⟨_,rfl,.inl ⟨rfl,_,bw.of ak⟩,_,rfl,tp,p,_,_,rfl,rfl,ak,by rw[aJ Xr];exact F9,by rw[aP,gi,gi];show tl.length + 1 + ns.length<=_;omega,?_⟩;rw[dG];refine⟨_,rfl,pc,c.Call,Vo,_,_,rfl,by rw[aJ Xt];exact XJ,T.dX,T.rC,rfl,?_⟩;refine⟨⟨e',M',tl++((ns.length:Nat):Int)::ns,(Wqarav.step st x).1,f',Nj,_,_,rfl,he',λo eo=> ?_,λhn hm=> ?_,λhm=> ?_,?_,λo=> ?_,?_,λy hy=>Y8 y (aK _ hy),?_,?_⟩,?_⟩
   ·have hn:H a≠none:=by rw[eo];exact λz=>nomatch z
    rw[aJ (Ga hn)];refine ko a _ ?_ (hAM hn);rw[aJ (Ga hn)];exact s1 _ _ (Ve _ o eo)
   ·rcases hM' a hm with h|h
    ·exact hAM hn h
    ·rw[aJ (Ga hn)] at h;cases eo:H a with
     |none=>exact hn eo
     |some o=>rw[s1 _ _ (Ve _ o eo)] at h;cases h
   ·rcases hM' tp hm with h|h
    ·exact htM h
    ·rw[ak] at h;cases h
   ·rw[ak,gi,ii,ii,ii,bF,bB,gc];rfl
   ·rw[dG];exact W'.yI aao o
   ·rw[<-ht];exact aa3
   ·rw[Ec,gc]
   ·rw[aP];show tl.length +(ns.length + 1)+ Nj.length*30000<=_;omega
   ·show l.length -((e':Int)).toNat<l.length -((e:Int)).toNat;omega
  ·obtain⟨v,e1,v2,e2,p,ys,e3,e4,i,j,e5,e6,b,e7,q2⟩:=hc;exact⟨v,e1,v2,e2,p,ys,e3,e4,i,j,e5,e6,b,e7,hQ _ _ q2⟩
def Ip{fa:Addr}(T:Txt K mg c)(D:xK K mg)(hm:mg "answers"=some (.ref fa)): ∃fd:FuncData,(∀(s:Shared) (us:List Value),us.length=(["calls"]:List Str).length->BindsTo s fd ⟨us,[]⟩ ((["calls"]:List Str).zip us))/\ ∀base:Heap,mh P w K mg base PY 13 fa fd ["calls"] (pf K):=by
 exact T.MI.all ["calls","boxes","told","place","call","answer"] hm λbase=>FN T D
section
variable{K:ab}{h:Heap}{mg:Str->Option Value}
def X3{x:Str}{i:Int}{t:Tok}(X:K.In h)(G:h.Ns mainGlobals mg)(a:jl K mainGlobals x=some (some (.int i t))):GI mg x i:=⟨t,aW X G a⟩
def Vf{x:Str}{st:Stmt}{f:Addr}{od an:Option Addr}{sl:Array (Option Value)}{oc kV dc pm cd ct:Value}(X:K.In h)(G:h.Ns mainGlobals mg)(a:jl K mainGlobals x=some (some (.ref f)))
  (l:K.lookup f=some ⟨oc,od,.func (gX x x (nN st) (lq st) (fO st) .none kV dc pm an cd ct),sl⟩) (c:kI K cd x=true) (k:d9 K (.ref f)=true):bq K mg x st:=
 ⟨f,_,aW X G a,JK l c k⟩
def vV{C:Addr}{qual:Str}{st:Stmt}{f:Addr}{od an:Option Addr}{sl:Array (Option Value)}{oc kV dc pm cd ct:Value}(mk:zL K C=true)(a:fk K (.ref C) "__init__"=some (some (.ref f)))(i:qB K (.ref f)=true)(kc:d9 K (.ref C)=true)
  (l:K.lookup f=some ⟨oc,od,.func (gX "__init__" qual (nN st) (lq st) (fO st) .none kV dc pm an cd ct),sl⟩) (c:kI K cd qual=true) (k:d9 K (.ref f)=true):oi K C qual st:=
 ⟨f,_,⟨mk,a,i,kc⟩,JK l c k⟩
def EZ{C:Addr}{x qual:Str}{st:Stmt}{f:Addr}{od an:Option Addr}{sl:Array (Option Value)}{oc kV dc pm cd ct:Value}(a:fk K (.ref C) x=some (some (.ref f)))(i:qB K (.ref f)=true)
  (l:K.lookup f=some ⟨oc,od,.func (gX x qual (nN st) (lq st) (fO st) .none kV dc pm an cd ct),sl⟩) (c:kI K cd qual=true) (k:d9 K (.ref f)=true):pN K C x qual st:=
 ⟨f,_,⟨a,i,k⟩,JK l c k⟩
def QC{x:Str}{a:Addr}{od:Option Addr}{n:Nat}{sl:Array (Option Value)}{x0 x1:Int}{t0 t1:Tok}(X:K.In h)(G:h.Ns mainGlobals mg)(g:jl K mainGlobals x=some (some (.ref a)))
  (l:K.lookup a=some ⟨.type "tuple",od,.seq #[.int x0 t0,.int x1 t1] n,sl⟩):Iv K mg x [x0,x1]:=
 ⟨a,aW X G g,λH=> .inr ⟨_,_,_,l,rfl,rfl,(by show 2<=sizeLine;decide),(.cons ⟨_,rfl⟩ (.cons ⟨_,rfl⟩ .nil))⟩⟩
def QB{x:Str}{a:Addr}{od:Option Addr}{n:Nat}{sl:Array (Option Value)}{x0 x1 x2:Int}{t0 t1 t2:Tok}(X:K.In h)(G:h.Ns mainGlobals mg)(g:jl K mainGlobals x=some (some (.ref a)))
  (l:K.lookup a=some ⟨.type "tuple",od,.seq #[.int x0 t0,.int x1 t1,.int x2 t2] n,sl⟩):Iv K mg x [x0,x1,x2]:=
 ⟨a,aW X G g,λH=> .inr ⟨_,_,_,l,rfl,rfl,(by show 3<=sizeLine;decide),(.cons ⟨_,rfl⟩ (.cons ⟨_,rfl⟩ (.cons ⟨_,rfl⟩ .nil)))⟩⟩
def QA{x:Str}{a:Addr}{od:Option Addr}{n:Nat}{sl:Array (Option Value)}{x0 x1 x2 x3 x4 x5 x6 x7:Int}{t0 t1 t2 t3 t4 t5 t6 t7:Tok}(X:K.In h)(G:h.Ns mainGlobals mg)(g:jl K mainGlobals x=some (some (.ref a)))
  (l:K.lookup a=some ⟨.type "tuple",od,.seq #[.int x0 t0,.int x1 t1,.int x2 t2,.int x3 t3,.int x4 t4,.int x5 t5,.int x6 t6,.int x7 t7] n,sl⟩):Iv K mg x [x0,x1,x2,x3,x4,x5,x6,x7]:=
 ⟨a,aW X G g,λH=> .inr ⟨_,_,_,l,rfl,rfl,(by show 8<=sizeLine;decide),(.cons ⟨_,rfl⟩ (.cons ⟨_,rfl⟩ (.cons ⟨_,rfl⟩ (.cons ⟨_,rfl⟩ (.cons ⟨_,rfl⟩ (.cons ⟨_,rfl⟩ (.cons ⟨_,rfl⟩ (.cons ⟨_,rfl⟩ .nil))))))))⟩⟩
end
inductive Et(mg:Str->Option Value):List DictEntry->List (Int×Str)->Prop
 |nil:Et mg [] []
 |cons {i h:Int} {t:Tok} {nm:Str} {f:Addr} {es:List DictEntry} {l:List (Int×Str)}:h=hashInt i->mg nm=some (.ref f)->Et mg es l->Et mg (⟨h,.int i t,.ref f⟩::es) ((i,nm)::l)
theorem Et.ent{mg:Str->Option Value}: ∀{es:List DictEntry} {l:List (Int×Str)},Et mg es l->(l.map (·.1)).Nodup-> ∃bE:List (Int×V),Dc es bE/\bE.map (·.1)=l.map (·.1)/\ ∀i nm,(i,nm)∈l-> ∃f,fL (keyed bE) (bQ i)=some (.ref f)/\mg nm=some (.ref f)
 |_,_,.nil,_=>⟨[],.nil,rfl,λ_ _ h=>nomatch h⟩
 |_,_,.cons (i:=i) (nm:=nm) (f:=f) e hm q,nd=>by
  obtain⟨bE,h1,h2,h3⟩:=q.ent (bU.mp nd).2;subst e;refine⟨(i,.ref f)::bE,.cons rfl h1,congrArg (i:: ·) h2,λj nm' hj=> ?_⟩;rcases aA.mp hj with e|hj
  ·cases e;exact⟨f,gP (p:=((bQ i:Key),V.ref f)) rfl,hm⟩
  ·obtain⟨g,g1,g2⟩:=h3 j nm' hj;refine⟨g,?_,g2⟩;rw[<-g1];exact gQ (p:=((bQ i:Key),V.ref f)) λz=>(bU.mp nd).1 (aQ.mpr ⟨_,hj,(jd z).symm⟩)
inductive J8(K:ab):List DictEntry->List (Int×Nat×Nat)->Prop
 |nil:J8 K [] []
 |cons {i h n k:Int} {n' k':Nat} {t t0 t1:Tok} {f:Addr} {od:Option Addr} {m:Nat} {sl:Array (Option Value)} {es:List DictEntry} {l:List (Int×Nat×Nat)}:h=hashInt i->K.lookup f=some ⟨.type "tuple",od,.seq #[.int n t0,.int k t1] m,sl⟩->n=(n':Int)->k=(k':Int)->J8 K es l->J8 K (⟨h,.int i t,.ref f⟩::es) ((i,n',k')::l)
def Um{K:ab}{f:Addr}{od:Option Addr}{m:Nat}{sl:Array (Option Value)}{n k:Int}{t0 t1:Tok}(l:K.lookup f=some ⟨.type "tuple",od,.seq #[.int n t0,.int k t1] m,sl⟩)(H:Hp):gU K H f [.int n,.int k]:= .inr ⟨_,_,_,l,rfl,rfl,(by show 2<=sizeLine;decide),.cons ⟨_,rfl⟩ (.cons ⟨_,rfl⟩ .nil)⟩
theorem J8.ent{K:ab}: ∀{es:List DictEntry} {l:List (Int×Nat×Nat)},J8 K es l->(l.map (·.1)).Nodup-> ∃bE:List (Int×V),Dc es bE/\bE.map (·.1)=l.map (·.1)/\ ∀z n k,(z,n,k)∈l-> ∃t,fL (keyed bE) (bQ z)=some (.ref t)/\ ∀H:Hp,gU K H t [.int (n:Int),.int (k:Int)]
 |_,_,.nil,_=>⟨[],.nil,rfl,λ_ _ _ h=>nomatch h⟩
 |_,_,.cons (i:=i) (f:=f) e lk en ek q,nd=>by
  obtain⟨bE,h1,h2,h3⟩:=q.ent (bU.mp nd).2;subst e en ek;refine⟨(i,.ref f)::bE,.cons rfl h1,congrArg (i:: ·) h2,λj n' k' hj=> ?_⟩;rcases aA.mp hj with e|hj
  ·cases e;exact⟨f,gP (p:=((bQ i:Key),V.ref f)) rfl,Um lk⟩
  ·obtain⟨g,g1,g2⟩:=h3 j n' k' hj;refine⟨g,?_,g2⟩;rw[<-g1];exact gQ (p:=((bQ i:Key),V.ref f)) λz=>(bU.mp nd).1 (aQ.mpr ⟨_,hj,(jd z).symm⟩)
noncomputable def EG:List (Int×Nat×Nat):=[(1,0,1),(2,0,1),(3,3,0),(4,2,1),(5,2,0),(6,1,0),(7,1,1),(8,1,0),(9,2,0),(10,1,0),(11,3,0),(12,2,0),(13,3,0),(14,2,0),(15,2,0),(16,2,1),(17,3,0),(18,2,0),(19,1,0),(20,3,0),(21,3,0),(22,3,0),(23,3,0),(24,1,2),(25,2,0),(26,2,1),(27,4,0),(28,1,2),(29,1,1),(30,0,2)]
def NR{z:Int}{n k:Nat}(h:PyWqarav.shape z=some (n,k)):(z,n,k)∈EG:=by
 simp only[EG,aA,lK,bM,or_false];exact Sb.lB h
section
variable{K:ab}{h:Heap}{mg:Str->Option Value}{x:Str}{a:Addr}{es:Array DictEntry}{ep:Nat}
def wg{l:List (Int×Str)}(X:K.In h)(G:h.Ns mainGlobals mg)(g:jl K mainGlobals x=some (some (.ref a)))(lk:K.lookup a=some ⟨.type "dict",none,.dict es ep,#[]⟩)(q:Et mg es.toList l)(ns:(a==sysModules)=false)(nd:(l.map (·.1)).Nodup):rZ K mg x l:=by
 obtain⟨bE,h1,h2,h3⟩:=q.ent nd;exact⟨a,bE,aW X G g,⟨⟨es,ep,lk,h1⟩,by rw[h2];exact nd,ns⟩,h2,h3⟩
def LB(X:K.In h)(G:h.Ns mainGlobals mg)(g:jl K mainGlobals x=some (some (.ref a)))(lk:K.lookup a=some ⟨.type "dict",none,.dict es ep,#[]⟩)(q:J8 K es.toList EG)(ns:(a==sysModules)=false):zG K mg x:=by
 have nd:(EG.map (·.1)).Nodup:=by decide
 obtain⟨bE,h1,h2,h3⟩:=q.ent nd;exact⟨a,bE,aW X G g,⟨⟨es,ep,lk,h1⟩,by rw[h2];exact nd,ns⟩,λz n k e=>h3 z n k (NR e)⟩
def QD{a0 a1:Addr}{od od0 od1:Option Addr}{m m0 m1:Nat}{sl sl0 sl1:Array (Option Value)}{x0 y0 x1 y1:Int}{t0 t1 t2 t3:Tok}(X:K.In h)(G:h.Ns mainGlobals mg)(g:jl K mainGlobals x=some (some (.ref a)))(l:K.lookup a=some ⟨.type "tuple",od,.seq #[.ref a0,.ref a1] m,sl⟩)
  (l0:K.lookup a0=some ⟨.type "tuple",od0,.seq #[.int x0 t0,.int y0 t1] m0,sl0⟩) (l1:K.lookup a1=some ⟨.type "tuple",od1,.seq #[.int x1 t2,.int y1 t3] m1,sl1⟩):Yu K mg x [(x0,y0),(x1,y1)]:=by
 refine⟨a,[a0,a1],aW X G g,λH=> .inr ⟨_,_,_,l,rfl,rfl,(by show 2<=sizeLine;decide),.cons rfl (.cons rfl .nil)⟩,rfl,λi t p e1 e2 H=> ?_⟩
 match i,e1,e2 with
 |0,e1,e2=>cases e1;cases e2;exact Um l0 H
 |1,e1,e2=>cases e1;cases e2;exact Um l1 H
 |n + 2,e1,e2=>cases e1
end
end SB
end
open PySem PySem.W PyProof.Rows L2 SB Q
set_option maxRecDepth 100000 in
set_option maxHeartbeats 0 in
theorem PySem.Challenge.cw_sealedbox_s01_answers_holds : PySem.Challenge.rw_sealedbox_s01_answers.Holds := by
 refine Sq.holds (by rfl) (by kernel_rfl) (by rfl) ?_
 k_fillS
 refine IZ (r:=nV) (k:=13) (CX:=PY) (ps:=["calls"]) (sp:=pf) Sq.said rfl rfl ⟨rfl,by decide,by decide⟩ (λw h Y=>kIn_of Y) ?F ?S (λ_ _ _ _ z=>z)
 case F=>
  intro w mg fa h Y KX G Nc;have Pt:zG (iy KX) mg "SHAPES":=by dsimp only[iy];refine' LB KX G ?a ?l ?qh ?ns;(case a=>k_is);(case l=>k_is);(case qh=>(repeat (refine' J8.cons rfl ?l ?n ?k ?_;(case l=>k_is);(case n=>rfl);(case k=>rfl)));exact .nil);(case ns=>rfl)
  have Yb: ∃C,mg "Box"=some (.ref C)/\wI (iy KX) C/\oi (iy KX) C "Box.__init__" (inClass (top 35) 0)/\bN (iy KX) C "most"/\bN (iy KX) C "part"/\bN (iy KX) C "seals"/\bN (iy KX) C "secrets"/\bN (iy KX) C "uses":=by dsimp only[iy,bN];refine' ⟨_,aW KX G ?_,⟨?_,?_,?_,?_⟩,vV ?_ ?_ ?_ ?_ ?_ ?_ ?_,?_,?_,?_,?_,?_⟩;any_goals k_is
  have Vm: ∃C,mg "Form"=some (.ref C)/\wI (iy KX) C/\oi (iy KX) C "Form.__init__" (inClass (top 51) 0)/\bN (iy KX) C "change_bits"/\bN (iy KX) C "change_digits"/\bN (iy KX) C "half"/\bN (iy KX) C "noise"/\bN (iy KX) C "numbers"/\bN (iy KX) C "size"/\bN (iy KX) C "step"/\bN (iy KX) C "turn_bits"/\bN (iy KX) C "turn_digits"/\bN (iy KX) C "words":=by dsimp only[iy,bN];refine' ⟨_,aW KX G ?_,⟨?_,?_,?_,?_⟩,vV ?_ ?_ ?_ ?_ ?_ ?_ ?_,?_,?_,?_,?_,?_,?_,?_,?_,?_,?_⟩;any_goals k_is
  have Vk: ∃C,mg "Luck"=some (.ref C)/\wI (iy KX) C/\oi (iy KX) C "Luck.__init__" (inClass (top 73) 0)/\pN (iy KX) C "next_byte" "Luck.next_byte" (inClass (top 73) 1)/\pN (iy KX) C "next_bytes" "Luck.next_bytes" (inClass (top 73) 2)/\pN (iy KX) C "next_number" "Luck.next_number" (inClass (top 73) 3)/\bN (iy KX) C "state":=by dsimp only[iy,bN];refine' ⟨_,aW KX G ?_,⟨?_,?_,?_,?_⟩,vV ?_ ?_ ?_ ?_ ?_ ?_ ?_,EZ ?_ ?_ ?_ ?_ ?_,EZ ?_ ?_ ?_ ?_ ?_,EZ ?_ ?_ ?_ ?_ ?_,?_⟩;any_goals k_is
  have J2: ∃C,mg "WorkPart"=some (.ref C)/\wI (iy KX) C/\oi (iy KX) C "WorkPart.__init__" (inClass (top 85) 0)/\bN (iy KX) C "form"/\bN (iy KX) C "pairs"/\bN (iy KX) C "rows":=by dsimp only[iy,bN];refine' ⟨_,aW KX G ?_,⟨?_,?_,?_,?_⟩,vV ?_ ?_ ?_ ?_ ?_ ?_ ?_,?_,?_,?_⟩;any_goals k_is
  have MJ: ∃C,mg "Secrets"=some (.ref C)/\wI (iy KX) C/\oi (iy KX) C "Secrets.__init__" (inClass (top 93) 0)/\bN (iy KX) C "bits"/\bN (iy KX) C "polynomial":=by dsimp only[iy,bN];refine' ⟨_,aW KX G ?_,⟨?_,?_,?_,?_⟩,vV ?_ ?_ ?_ ?_ ?_ ?_ ?_,?_,?_⟩;any_goals k_is
  have Vj: ∃C,mg "Seal"=some (.ref C)/\wI (iy KX) C/\oi (iy KX) C "Seal.__init__" (inClass (top 113) 0)/\bN (iy KX) C "bound"/\bN (iy KX) C "last"/\bN (iy KX) C "words":=by dsimp only[iy,bN];refine' ⟨_,aW KX G ?_,⟨?_,?_,?_,?_⟩,vV ?_ ?_ ?_ ?_ ?_ ?_ ?_,?_,?_,?_⟩;any_goals k_is
  have Vl: ∃C,mg "Gate"=some (.ref C)/\wI (iy KX) C/\oi (iy KX) C "Gate.__init__" (inClass (top 141) 0)/\bN (iy KX) C "first"/\bN (iy KX) C "kind"/\bN (iy KX) C "second":=by dsimp only[iy,bN];refine' ⟨_,aW KX G ?_,⟨?_,?_,?_,?_⟩,vV ?_ ?_ ?_ ?_ ?_ ?_ ?_,?_,?_,?_⟩;any_goals k_is
  have MK: ∃C,mg "Circuit"=some (.ref C)/\wI (iy KX) C/\oi (iy KX) C "Circuit.__init__" (inClass (top 142) 0)/\bN (iy KX) C "gates"/\bN (iy KX) C "outs":=by dsimp only[iy,bN];refine' ⟨_,aW KX G ?_,⟨?_,?_,?_,?_⟩,vV ?_ ?_ ?_ ?_ ?_ ?_ ?_,?_,?_⟩;any_goals k_is
  have Vn: ∃C,mg "Call"=some (.ref C)/\wI (iy KX) C/\oi (iy KX) C "Call.__init__" (inClass (top 209) 0)/\bN (iy KX) C "end"/\bN (iy KX) C "kind"/\bN (iy KX) C "numbers"/\bN (iy KX) C "rows":=by dsimp only[iy,bN];refine' ⟨_,aW KX G ?_,⟨?_,?_,?_,?_⟩,vV ?_ ?_ ?_ ?_ ?_ ?_ ?_,?_,?_,?_,?_⟩;any_goals k_is
  obtain⟨YB,SQ,cE,xl,lG,cR,cZ,fb,iB⟩:=Yb;obtain⟨VF,OM,bc,md,dR,df,eY,gp,gN,b9,gg,fV,dQ,dj⟩:=Vm;obtain⟨VD,OK,nP,sR,oM,nH,mM,jx⟩:=Vk;obtain⟨Ke,Bq,bY,lH,bK,iW,ji⟩:=J2;obtain⟨MZ,DX,g8,pz,fY,gy⟩:=MJ;obtain⟨VC,OJ,fI,nE,gm,iG,gk⟩:=Vj;obtain⟨VE,OL,jJ,zw,jy,ma,i9⟩:=Vl;obtain⟨M0,DY,f6,pA,eK,iM⟩:=MK;obtain⟨VG,ON,dX,zx,rC,eZ,ft,iH⟩:=Vn;have T:Txt (iy KX) mg ⟨YB,VF,VD,Ke,MZ,VC,VE,M0,VG⟩:=by
   constructor
   all_goals first
    |assumption
    |(refine' X3 KX G ?_;any_goals k_is)
    |(refine' mg_none_of KX G ?_;any_goals k_is)
    |(dsimp only[iy];refine' Vf KX G ?_ ?_ ?_ ?_;any_goals k_is)
    |(dsimp only[iy];refine' QC KX G ?_ ?_;any_goals k_is)
    |(dsimp only[iy];refine' QB KX G ?_ ?_;any_goals k_is)
    |(dsimp only[iy];refine' QA KX G ?_ ?_;any_goals k_is)
    |(dsimp only[iy];refine' QD KX G ?_ ?_ ?_ ?_;any_goals k_is)
  obtain⟨fd,h1,h2⟩:=Ip (P:=nV.prog) (w:=w) T (by refine⟨Pt,?_,?_,?_,?_,?_⟩;all_goals(dsimp only[iy];refine' wg KX G ?a ?l ?qh ?ns ?nd;(case a=>k_is);(case l=>k_is);(case qh=>repeat' first|exact .nil|refine' .cons rfl (aW KX G (by k_is)) ?_);(case ns=>rfl);(case nd=>decide))) Nc;exact⟨fd,h1,λbase _ _=>h2 base⟩
 case S=>
  intro K H xs a hO YY Fb hx;cases hx with
  |cons h1 h2=>
   cases h2;cases h1 with
   |lst hs ha=>
    have e:=KZ a.1 _ ha;subst e;have q:((Codec.inLen 0 15800 a.1&&a.1.all (Codec.inInt (-2147483648) 18446744073709551615))&&true)=true:=YY;rw[cq,cq] at q;exact⟨_,a.1,rfl,hs,(Codec.inNat_iff.mp q.1.1).2,Fb,λp H' hp=> .lst (bw.of hp) (K6 _)⟩
