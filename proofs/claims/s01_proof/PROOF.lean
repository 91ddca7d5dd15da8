import PyProof.Rows.All
import KE.BitLaws
import KE.KSortTupG
import KE.OsGo
import KE.OsHead
import Open.SpecLaws
import OpenK.AllK
import PyProof.CollectWalk
import PyProof.DictKinds
import PyProof.EqAt
import PyProof.EqKinds
import PyProof.Rows.SetFrom
import PyProof.Rows.SortRunsAny
import PyProof.Rows.SortShellAny
import PyProof.Rows.SortWalk
import PyProof.SetKind
import PyProof.SetRoads
import PyProof.TupleCall
import PySem.Challenge.RW_soundkin_s01_answers
import Wide.All
import Wide.FinOn
set_option Elab.async false
set_option linter.all false
set_option maxRecDepth 100000
set_option maxHeartbeats 4000000
open Array renaming forIn_toList→Ly,getD→JQ,getElem?_eq_getElem→cz,getElem?_eq_none_iff→mW,getElem?_eq_none→iI,getElem?_eq_some_iff→Ae,getElem?_map→Lx,getElem?_toList→gR,length_toList→cO,map_append→k6,map_extract→iV,map_push→mV,map_reverse→kj,replicate→jJ,size_map→i7,swapIfInBounds_def→CY,toArray_toList→i9,toList_map→jd,toList_push→wt,toList_zip→O9,toList→Ex
open Bool renaming and_eq_true_iff→lQ,and_eq_true→bA,eq_iff_iff→eM,false_and→iw,false_eq_true→iM,false_ne_true→bo,noConfusion→dP,not_eq_false'→vt,not_eq_true'→O8,not_eq_true→lC,or_eq_true→rO,true_and→jI
open Decidable renaming byContradiction→dW
open False renaming elim→ft
open ForInStep renaming yield→o6
open HAppend renaming hAppend→LH
open Iff renaming rfl→Pe
open Int renaming toNat_natCast→bT,toNat→j9,zero_add→Gf
open List renaming all_append→RU,all_cons→jH,all_eq_false→O7,all_eq_true→dO,all_map→Fh,any_cons→jG,any_eq_true→qe,any_map→mM,append_assoc→dE,append_nil→bY,cons_append→qd,contains_iff_mem→gW,drop_drop→fI,drop_eq_getElem_cons→dz,drop_eq_nil_of_le→qE,drop_left→iu,drop_length→qc,drop_succ_cons→mK,drop→jk,eraseDups_cons→ju,exists_mem_of_ne_nil→hJ,ext_getElem?→o3,filterMap_cons→eR,filter_append→gQ,filter_cons→cG,filter_eq_nil_iff→kF,filter_map→zR,filter→oX,find?_cons→cJ,find?_eq_none→nI,findSome?_append→sO,findSome?_cons→eB,flatMap_append→gF,flatMap_cons→bQ,flatMap_map→Pq,flatMap_nil→lB,flatten_append→jt,flatten_cons→kD,foldl_cons→d7,forIn_cons→jO,forIn_nil→kC,getD_eq_getElem?_getD→gS,getElem?_append_left→oh,getElem?_append_right→fJ,getElem?_cons_succ→E9,getElem?_cons_zero→qg,getElem?_drop→nH,getElem?_eq_getElem→aD,getElem?_eq_none→bJ,getElem?_eq_some_iff→bV,getElem?_map→aO,getElem?_range→js,getElem?_set_ne→tK,getElem?_set_self→kE,getElem?_set→O6,getElem?_zip_eq_some→CU,getElem_mem→lA,getElem_of_mem→uv,head?_drop→rN,length_append→aK,length_cons→aU,length_drop→cv,length_eq_zero_iff→df,length_eraseIdx_of_lt→Bi,length_erase_of_mem→o7,length_filter_le→c4,length_map→ae,length_nil→eL,length_pos_iff→Lu,length_pos_of_mem→Fm,length_range'→LG,length_range→c6,length_replicate→k9,length_set→l6,length_singleton→gU,length_take→bP,length_zipIdx→LF,length_zip→rM,length→dJ,lookup_cons→fC,lookup→j5,mapM_cons→SF,mapM_toArray→O4,map_append→ba,map_congr_left→dt,map_cons→bq,map_eq_nil_iff→Ls,map_id'→qv,map_id→Jr,map_map→bx,map_nil→fH,map_set→Fg,map_snd_zip→Pp,map_toArray→lu,map→eD,mem_append_left→Jw,mem_append_right→eW,mem_append→bu,mem_cons_of_mem→ao,mem_cons_self→ax,mem_cons→aI,mem_erase_of_ne→tJ,mem_filterMap→vq,mem_filter→fL,mem_flatMap→qb,mem_flatten→Po,mem_iff_getElem?→k8,mem_map→aX,mem_of_find?_eq_some→CT,mem_of_getElem?→aY,mem_of_mem_drop→Jv,mem_of_mem_take→lP,mem_range→dN,mem_singleton→bE,mem_zipIdx→RT,ne_nil_of_mem→iL,nil_append→RQ,nodup_append→O3,nodup_cons→fj,nodup_range→Pn,of_mem_zip→iS,pairwise_append→tI,pairwise_cons→dH,pairwise_iff_getElem→hG,pairwise_lt_range→qD,pairwise_map→gm,pairwise_mergeSort→E8,perm_cons→Bf,range'_succ→Pl,range'→sZ,range_add→SE,range_eq_range'→tH,range_succ_eq_map→qC,range_succ→RP,range→br,removeAll→SD,replicate→tp,size_toArray→bD,sum_cons→C0,tail_drop→tf,take_add_one→oZ,take_append_drop→k7,take_left→nF,take_length→bI,take_of_length_le→Fl,take_sublist→O0,zipIdx_cons→Pk,zipIdx_nil→RO,zip_cons_cons→jS,zip_nil_right→vp
open List.Pairwise renaming imp_of_mem→wx
open List.Perm renaming refl→jP,swap→xo
open List.Sublist renaming refl→CV
open Nat renaming add_assoc→pT,add_comm→mT,add_sub_cancel_left→gp,le_add_right→gf,le_of_eq→mS,le_of_lt→kR,le_of_succ_le→kT,le_refl→aL,le_succ→ia,le_trans→aB,lt_irrefl→du,lt_of_le_of_lt→aF,lt_of_le_of_ne→OZ,lt_of_lt_of_le→cB,lt_of_not_le→iC,lt_succ_of_lt→dG,lt_succ_self→dS,lt_trans→kQ,min_eq_left→mI,min_le_right→RN,mul_succ→xl,ne_of_gt→gh,ne_of_lt→bg,not_succ_le_self→Lr,pow_le_pow_right→lW,sub_self→xk,succ_le_succ→eA,succ_ne_self→RM,zero_add→mR,zero_le→aS
open Ne renaming symm→g4
open Option renaming bind_eq_some_iff→ik,bind_some→o5,getD_none→LD,isSome_iff_exists→og,isSome_some→Ju,map_eq_some_iff→dB,map_some→lO
open Option.some renaming injEq→C8,inj→aH
open Or renaming inl→bp,inr→p6
open PyFlat renaming atMost→RL,calls→p8,played→Be,rows→Ff,row→Jp,told→xj
open PyProof renaming noPylong_small→CS
open PyProof.Rows renaming AllBare→z0,IntsAre→eN,IsTup→qr,Keyed→d5,SortSt→dQ,boot_list→sT,boot_min→Fv,boot_range→Gc,boot_sorted→PZ,callWith_builtin1→tL,callWith_type1→cN,kmk_tree→oa,listUpdate_at→JN,seqEpoch_at→PY,sortedAll_at→wu,sortedAll_old→vv,subscriptTail_builtinR→OW
open PyProof.Rows.F renaming entry_set_update_loop→Jx,plain_set_update_loop→rS
open PyProof.Rows.SortSt renaming mk'→p7
open PySem renaming Addr→aj,Around→cC,BindsTo→zZ,Builtin→SA,DictEntry→fA,Env→Dc,FuncData→bH,Heap→bW,IsItemIterOut→JP,IsItemIter→kI,IsPair→gw,IsRangeIter→CZ,IsTupleKey→Gd,IsZip→nZ,Keyword→LX,Model→LB,NameKind→il,Obj→fD,Params→Ft,Pos→jR,Program→aV,PyData→yu,Result→qS,Scope→jv,Sem→o9,Shared→au,Spec→gM,Stmt→d3,Str→bZ,Value→ag,Within→Eu,World→bK,ZipApart→z4,attributeBase→ja,boot_len→bj,builtinLookup_eq_fast→Pj,callWith→Fu,call_meets→Gb,codeAny_builtin→eC,codeAny_call_builtin→RK,codeAny_mono→jN,evalArgs_none→um,isSubtype_stop→pS,isSubtype_type→wm,mainGlobals→c7,mem_of_lookup→cV,method_meetsIn→Ge,plainId_quiet→dA,pushCells_keeps→uu,rawInt→gu,scanBound→sS,seqIndex_neg→MX,seqIndex_of→PX,sizeLine_eq→kX,sizeLine→aP,starEach→bS,sysModules→eZ,wpAny_Call_Name_kw→ee,wpAny_Call_method→qz,wpAny_askSetting→CA,wpAny_attempt→iB,wpAny_bind→aa,wpAny_callSpecial?_slot→dg,wpAny_call_entry→c8,wpAny_dictEntries→iq,wpAny_dictEpoch→kx,wpAny_execs_nil→ur,wpAny_fieldsOf→lG,wpAny_field→fg,wpAny_forIn_list→Cz,wpAny_handled→rg,wpAny_holding→dn,wpAny_isInstance→iN,wpAny_isOneOf_itemiter→uk,wpAny_isOneOf_keyiter→Ph,wpAny_ite_split→nT,wpAny_letGo→gB,wpAny_letOwnedTupleGo_items→Fj,wpAny_letOwnedTupleGo_zip→Js,wpAny_loadPart'→dY,wpAny_mkInt→PV,wpAny_mono→hW,wpAny_newList→JM,wpAny_newObj_type→cw,wpAny_newTuple→wk,wpAny_notOrdered_dict→vi,wpAny_of_eq→jA,wpAny_onRaise→yo,wpAny_passesOwn→i6,wpAny_pure→ak,wpAny_pyIter_list→ip,wpAny_pyIter_rangeiter→OV,wpAny_pyIter_slot→qw,wpAny_pyIter_tuple→zJ,wpAny_pyIter_zip→sU,wpAny_pyNext_list_end→gi,wpAny_pyNext_list_item→fP,wpAny_pyNext_range_end→OU,wpAny_rule→jz,wpAny_seqItems→dc,wpAny_setEntries_of→xm,wpAny_setField_rec→eP,wpAny_setField→fO,wpAny_setState_of→jl,wpAny_specialOf→Et,wpAny_standAt→JL,wpAny_throw→vG,wpAny_truthy_bool→fo,wpAny_tryCatch→fN,wpAny_typeNameOfWhole_itemiter→iO,wpAny_typeNameOfWhole_keyiter→iW,wpAny_typeNameOf_itemiter→jT,wpAny_typeNameOf_keyiter→kl,wpAny_typeOf→oV,wpAny_updateSeq_pair→wq,wpAny_updateSeq→ij
open PySem.Around renaming under_plainId→dk,under→C1
open PySem.Builtin.Builtins renaming bindParams→ka
open PySem.Builtin.Dict renaming showsAll→jQ,updateFrom→xy
open PySem.Builtin.Dict_items renaming dictOf→Px,newIterator→Pw,ownedTupleFields→nX,ownedTupleIsFree→nW,ownsTuple→fK,pairFromOwner→o8
open PySem.Builtin.Frozenset renaming newClass→RZ,sizeOf→RY,updateFrom→RX
open PySem.Builtin.List renaming listExtendWith→vn,listItems→nJ,listLengthHint→vm,listSameRef→xa,listTooLong→l9
open PySem.Builtin.Range renaming rangeSize→g8,small→zT
open PySem.Builtin.SmallTypes renaming nextOf→dm,ownedTupleHandOut→nM,ownedTupleIsFree→fY
open PySem.Builtin.Tuple renaming tupleHashOf→lI
open PySem.Calls renaming Name_function_global→Ad,callWith_builtin→Fb,call_function_entry→nV,evalArgs_plain→Hk,spliced_cons→iH,spliced_nil→ki
open PySem.Code renaming isFrame→Fi
open PySem.F renaming args_dict_get_3→Bh,args_dict_itemiterator_next_1→zS,args_dict_items_1→Pt,args_dict_keyiterator_next_1→Ac,args_tuple_iterator_next_1→CW,args_zip_next_1→SI,called_set→jC,entry_dict_get→CQ,entry_dict_itemiterator_next→Ab,entry_dict_items→RW,entry_dict_keyiterator_next→Bj,entry_tuple_iterator_next→C9,plainAttrs_dict→zK,plainAttrs_list→bN,plain_extend_loop→Pr,plain_list_iadd→SH,plain_max_loop→jD,plain_min_loop→iG,slot_dict_get→qm,slot_dict_itemiterator_next→gn,slot_dict_items_iter→Lw,slot_dict_items→qf,slot_dict_keyiterator_next→gH,slot_dict_values→RV,slot_list_append→cE,slot_list_extend→fX,slot_list_getattribute→kU,slot_list_lt→E7,slot_tuple_iterator_next→jq,slot_zip_next→tq,type_dict_items→SG,type_list_append→cD,type_list_extend→fW
open PySem.Heap renaming ExtBut→oY,SameBut→eE,get?_push_of_some→ay,get?_push_size→aG,get?_update_ne→Lv,get?_update_other→dF,get?_update_self→cT,lt_size→aN,size_push→cR
open PySem.Heap.DictOf renaming new→Fn
open PySem.Heap.SameBut renaming update→c9
open PySem.IsRange renaming new→Ew
open PySem.NameKind renaming cell→zQ,free→kS
open PySem.PassesOwn renaming never→bL
open PySem.PyData renaming depthAll→OY,eqvAll→uj,eqv→Jq
open PySem.Sem renaming wp_bind'→kP,wp_pure'→mQ,wp_pure→JO,wp→Bt
open PySem.SeqAt renaming EqAt→mP,shaped→wo
open PySem.SeqAt.EqAt renaming int_int→C6,int_str→C5,same→Hi,str_int→C4
open PySem.Shared renaming TypeIs→Bd
open PySem.Str renaming empty→P0,ofString→dM
open PySem.W renaming Frag→ai,SharedT→jj,WData→ji,WRecords→Lq,WalkOS→OX,WellAll→tN,callWith_K0→Fk,callWith_K→Hj,cellsFrom_some→CP,codeIn→mH,emptyDict→fF,findIn→eK,fnOf→fE,handedIn→Lp,hasDictIn→j6,instObj→gX,isFn→vd,kcp_self→Lo,kdl_call→Ln,keepIn→aQ,ktu_apart→Jt,length_le_weightAllW→xx,lookIn→rL,makesIn→p9,methodCall_KW→C7,methodObj→vj,mg_none_of→de,mg_of→aT,nsIn→i5,plainGet_of→sV,plainGet→i8,plainOver→nG,takerIn→xn
open PySem.W.Codec renaming app→xi,denoteAll→qB,encAll→mG,withinAll→Pu
open PySem.W.WData renaming weightAll→qA
open PySi35 renaming answers_asked→sN,answers→mN,calls→Sz,shape→gE,whole→cH
open Si35 renaming Beside→cW,Col→bM,Col→lR,Costs→dw,Costs→ic,Rows→Pg,SOUND→nv,Sound→qp,St→dC,Tree→cF,Word→eJ,beside→fB,best→tV,choicesAt→dh,choose→lN,colAt→qu,cost→iU,envsOf→oW,fewest→bF,formOk→dD,init→Pf,insertAll→kz,leaveOut→lH,ok→fM,olds→bb,patterns→az,reflex→j4,rowLe→LC,share→lh,step→bz,treeOk→sY,trees→eQ,without→ku,wordOk→sX
open Si35.Tree renaming leaves→Hh,out→mU
open Si35Neutral renaming asked1→jg,asked→C3,callOf→rR,colsOf→jf,natural→Bg,pairsOf→hC,rowOf→l8,short→l7,start→C2,step→hZ,treeOf→je
open Std.Legacy.Range renaming forIn_eq_forIn_range'→nL
open Sum renaming inl→gK,inr→uq
open Sum.inl renaming inj→Sy
open Sum.inr renaming inj→Sx
open True renaming intro→qt
namespace L2
open PySem
def inClass (s:d3)(j:Nat):d3:=match s with
 | .ClassDef _ _ _ body _ _ _ _ _ _ _=>body.getD j (.Pass ⟨0,0,0,0⟩)
 | _=>.Pass ⟨0,0,0,0⟩
def jr (s:d3):Arguments:=match s with
 | .FunctionDef _ a _ _ _ _ _ _ _ _=>a
 | _=>{posonlyargs:=[],args:=[],vararg:=none,kwonlyargs:=[],kw_defaults:=[],kwarg:=none,defaults:=[]}
def i3 (s:d3):List d3:=match s with
 | .FunctionDef _ _ b _ _ _ _ _ _ _=>b
 | _=>[]
def bB (s:d3):jv:=match s with
 | .FunctionDef _ _ _ _ _ _ sc _ _ _=>sc
 | _=>{kind:=.function,names:=[],isGenerator:=false,isCoroutine:=false}
end L2
namespace Sk
open PySem L2
def top (i:Nat):d3:=PySem.Challenge.pw_soundkin_s01_answers.main.body.getD i (.Pass ⟨0,0,0,0⟩)
abbrev xP:d3:=top 17
abbrev Hw:d3:=top 18
abbrev HB:d3:=top 19
abbrev BJ:d3:=top 20
abbrev BH:d3:=top 21
abbrev xQ:d3:=top 22
abbrev BC:d3:=top 23
abbrev xH:d3:=top 24
abbrev xR:d3:=top 4
abbrev Hv:d3:=top 26
abbrev uS:d3:=top 27
abbrev BM:d3:=top 28
abbrev PH:d3:=top 29
abbrev HE:d3:=top 65
abbrev BD:d3:=top 66
abbrev xK:d3:=top 67
abbrev BF:d3:=top 68
abbrev Hx:d3:=top 69
abbrev HI:d3:=top 70
abbrev Bq:d3:=top 71
abbrev qj:d3:=top 64
abbrev BL:d3:=top 31
abbrev PF:d3:=top 32
abbrev HF:d3:=top 33
abbrev PD:d3:=top 34
abbrev HD:d3:=top 35
abbrev PK:d3:=top 37
abbrev Wa:d3:=top 36
abbrev HA:d3:=top 38
abbrev xO:d3:=top 39
abbrev BI:d3:=top 40
abbrev Hz:d3:=top 9
abbrev By:d3:=top 10
abbrev HG:d3:=top 11
abbrev PJ:d3:=top 12
abbrev BE:d3:=top 13
abbrev Bz:d3:=top 14
abbrev HK:d3:=top 15
abbrev HC:d3:=inClass qj 0
abbrev BB:d3:=inClass qj 1
abbrev xS:d3:=inClass qj 2
abbrev HH:d3:=inClass qj 3
abbrev uT:d3:=inClass qj 4
abbrev Hu:d3:=inClass qj 5
abbrev sy:d3:=inClass qj 6
abbrev BG:d3:=inClass qj 7
abbrev xJ:d3:=inClass qj 8
abbrev sA:d3:=inClass qj 9
abbrev xM:d3:=inClass qj 10
abbrev BA:d3:=inClass qj 11
abbrev sx:d3:=inClass qj 12
abbrev xI:d3:=inClass qj 13
abbrev uR:d3:=inClass qj 14
abbrev Hy:d3:=inClass qj 15
abbrev uQ:d3:=inClass qj 16
abbrev HJ:d3:=inClass qj 17
end Sk
set_option maxHeartbeats 0
namespace Sk
open PySem PySem.W L2
noncomputable section
abbrev pw:aV:=PySem.Challenge.pw_soundkin_s01_answers
def vw:aV:={pw with main:={pw.main with body:=(((((pw.main.body.eraseIdx 41).eraseIdx 30).eraseIdx 25).eraseIdx 16).eraseIdx 5).eraseIdx 0}}
def xB (tb:String→Option Builtin)(p:aV)(w:bK)(n₀:Nat)(ann:Option ag):Nat→jj→Thread→Option jj
 | 0,_,_=>none
 | n+1,s,t=>match through t with
  | true=>some s
  | false=>match stepOk n₀ ann t with
   | false=>none
   | true=>match stepT (denote tb) p w s t with
    | some (s',t')=>xB tb p w n₀ ann n s' t'
    | none=>none
def W0:List fD→Nat→BT→BT
 | [],_,t=>t
 | o::l,n,t=>W0 l (n+1) (t.ins n o)
def Wb (s:au):jj:=⟨W0 s.heap.objs.toList 0 .nil,s.heap.objs.size,s.heap.life,s.gens,s.drawn,s.toks,s.os⟩
def wD (tb:String→Option Builtin)(p:aV)(w:bK)(N:Nat):Option jj:=(fencedOpening tb p w N).bind fun oq=>match oq.heap.isNs c7&&oq.gens.size==0 with
 | true=>(xB tb p w oq.heap.objs.size (oq.heap.nsMap c7 "__annotations__") N (Wb oq) (topStub p)).bind fun s₁=>match staticsOk (importedModules p.main.body) oq.heap s₁.abs.heap&&namesBound p s₁.abs.heap&&gensDone s₁.abs&&laidKept oq.heap s₁.abs.heap with
   | true=>some s₁
   | false=>none
 | false=>none
theorem y2 {tb:String→Option Builtin}{p:aV}{w:bK}{n₀:Nat}{ann:Option ag}:∀ {n:Nat} {s s':jj} {t:Thread},xB tb p w n₀ ann n s t=some s'→topRun tb p w n₀ ann n s.abs t=some s'.abs
 | 0,_,_,_,h=>by cases h
 | n+1,s,s',t,h=>by
  unfold xB at h
  unfold topRun
  cases he:through t with
  | true =>
   rw[he] at h
   cases h
   rfl
  | false =>
   rw[he] at h
   cases hk:stepOk n₀ ann t with
   | false =>
    rw[hk] at h
    cases h
   | true =>
    rw[hk] at h
    cases hs:stepT (denote tb) p w s t with
    | none =>
     rw[hs] at h
     cases h
    | some r =>
     obtain ⟨s₂,t₂⟩:=r
     rw[hs] at h
     rw[stepT_spec hs]
     exact y2 h
theorem Oo {tb:String→Option Builtin}{p:aV}{w:bK}{N:Nat}{s:jj}(h0:(fencedOpening tb p w N).map (fun s=>(Wb s).abs)=fencedOpening tb p w N)(h:wD tb p w N=some s):openEnds tb p w N=some s.abs:=by
 unfold wD at h
 unfold openEnds
 cases e:fencedOpening tb p w N with
 | none =>
  rw[e] at h
  cases h
 | some oq =>
  rw[e] at h h0
  have e0:(Wb oq).abs=oq:=aH h0
  rw[o5] at h ⊢
  unfold topFrom
  cases hg:(oq.heap.isNs c7&&oq.gens.size==0) with
  | false =>
   rw[hg] at h
   cases h
  | true =>
   rw[hg] at h
   obtain ⟨s₁,h1,h2⟩:=ik.mp h
   have h3:=y2 h1
   rw[e0] at h3
   show Option.bind _ _=_
   rw[h3,o5]
   cases hs:(staticsOk (importedModules p.main.body) oq.heap s₁.abs.heap&&namesBound p s₁.abs.heap&&gensDone s₁.abs&&laidKept oq.heap s₁.abs.heap) with
   | false =>
    rw[hs] at h2
    cases h2
   | true =>
    rw[hs] at h2
    cases h2
    rfl
def SW (o:Option jj)(a:Nat):Option fD:=o.bind fun s=>match Nat.blt a s.n with
 | true=>(s.tree.get a).bind alive
 | false=>none
def JI (o:Option jj):bW:=match o with
 | some s=>s.abs.heap
 | none=>{}
def SV (o:Option jj):Frag:=(br 400).filterMap fun a=>(SW o a).map fun x=>(a,x)
def LM (o:Option jj)(h:bW):Prop:=∀ b x,(JI o).get? b=some x→h.get? b=some x
theorem pX {β:Type}(g:Nat→Option β)(b:Nat)(v:β):∀ l:List Nat,(l.filterMap fun a=>(g a).map fun o=>(a,o)).lookup b=some v→g b=some v
 | [],h=>by cases h
 | a::l,h=>by
  rw[eR] at h
  cases e:g a with
  | none =>
   rw[e] at h
   exact pX g b v l h
  | some o =>
   rw[e] at h
   simp only[lO,fC] at h
   by_cases q:b=a
   ·subst q
    rw[beq_self_eq_true] at h
    rw[e]
    exact h
   ·rw[beq_eq_false_iff_ne.mpr q] at h
    exact pX g b v l h
theorem T5 {e:Option jj}{a:Nat}{o:fD}(h:SW e a=some o):(JI e).get? a=some o:=by
 cases e with
 | none=>cases h
 | some s =>
  change (match Nat.blt a s.n with
   | true=>(s.tree.get a).bind alive
   | false=>none)=some o at h
  cases q:Nat.blt a s.n with
  | false =>
   rw[q] at h
   cases h
  | true =>
   rw[q] at h
   obtain ⟨o',h1,h2⟩:=ik.mp h
   exact (abs_get (Nat.le_of_ble_eq_true q) h1).trans h2
theorem Vs {e:Option jj}{h:bW}(y:LM e h):(SV e).In h:=fun a o q=>y a o (T5 (pX (SW e) a o _ q))
theorem Vr (e:Option jj)(s:au)(q:s.heap=JI e):LM e s.heap:=fun b o x=>by rw[q];exact x
theorem MZ (e:Option jj)(h h':bW)(y:LM e h)(k:∀ b o,h.get? b=some o→h'.get? b=some o):LM e h':=fun b o q=>k b o (y b o q)
def p1 {α β γ δ:Type}(x:α×β×γ×δ):α×β:=match x with
 | (a,b,_)=>(a,b)
def p2 {α β γ δ:Type}(x:α×β×γ×δ):γ:=match x with
 | (_,_,c,_)=>c
def p3 {α β γ δ:Type}(x:α×β×γ×δ):δ:=match x with
 | (_,_,_,d)=>d
theorem WE {α β γ δ:Type}{x y:α×β×γ×δ}(h1:p1 x=(y.1,y.2.1))(h2:p2 x=y.2.2.1)(h3:p3 x=y.2.2.2):x=y:=by
 obtain ⟨a,b,c,d⟩:=x
 obtain ⟨e,f,g,h⟩:=y
 cases h1
 cases h2
 cases h3
 rfl
abbrev lk (p q:aV)(X:au→Bool)(s:jj):=openSeen q [] (importedModules p.main.body) X true s.abs
abbrev Sv (p q:aV)(X:au→Bool)(N:Nat)(w:bK):Prop:=(fencedOpening treeTable p w N).map (fun s=>(Wb s).abs)=fencedOpening treeTable p w N∧(wD treeTable p w N).map (fun s=>p1 (lk p q X s))=some ((openGood q []).1,(openGood q []).2.1)
abbrev Su (p q:aV)(X:au→Bool)(N:Nat)(w:bK):Prop:=(wD treeTable p w N).map (fun s=>p2 (lk p q X s))=some (openGood q []).2.2.1
abbrev Ss (p q:aV)(X:au→Bool)(N:Nat)(w:bK):Prop:=(wD treeTable p w N).map (fun s=>p3 (lk p q X s))=some (openGood q []).2.2.2
theorem QR {p q:aV}{X:au→Bool}{N:Nat}(F:∀ w,Sv p q X N w)(F2:∀ w,Su p q X N w)(F3:∀ w,Ss p q X N w):LeftO p q [] X (fun s=>s.heap) (fun w=>JI (wD treeTable p w N)) N:=fun w=>by
 obtain ⟨h1,h2⟩:=F w
 obtain ⟨s,e,z⟩:=dB.mp h2
 obtain ⟨s',e',z'⟩:=dB.mp (F2 w)
 cases aH (e.symm.trans e')
 obtain ⟨s',e',z2⟩:=dB.mp (F3 w)
 cases aH (e.symm.trans e')
 rw[Oo h1 e,← WE z z' z2]
 show some (_,s.abs.heap)=some (_,JI (wD treeTable p w N))
 rw[e]
 rfl
abbrev xt (s:au):Bool:=xlAt vw [] s&&recOk [] s
def EW (w:bK):Option jj:=wD treeTable pw w 4620
end
end Sk
namespace Sk
open PySem L2
noncomputable section
abbrev W2 (x q:bZ)(st:d3)(c:aj)(m:bZ)(t:Nat):fD:=⟨.type "function",none,.func (fE x q (jr st) (i3 st) (bB st) .none .none .none (.str m t) none (.ref c) .none),#[]⟩
abbrev FK (K:ai)(x:bZ)(st:d3)(f c:aj)(m:bZ)(t:Nat):Prop:=i5 K c7 x=some (some (.ref f))∧K.lookup f=some (W2 x x st c m t)∧mH K (.ref c) x=true∧aQ K (.ref f)=true
abbrev MK (K:ai)(m q:bZ)(st:d3)(f c:aj):Prop:=eK K (.ref 343) m=some (some (.ref f))∧vd K (.ref f)=true∧K.lookup f=some (W2 m q st c "soundkin.family" 466)∧mH K (.ref c) q=true∧aQ K (.ref f)=true
abbrev NK (K:ai)(x:bZ)(v:Int)(t:Nat):Prop:=i5 K c7 x=some (some (.int v t))
abbrev BK (K:ai)(x:bZ):Prop:=i5 K c7 x=some none
abbrev CK (K:ai)(x:bZ):Prop:=eK K (.ref 343) x=some none
abbrev SK (K:ai)(a:aj)(i:Int)(t:Nat)(j:Int)(u:Nat):Prop:=K.lookup a=some ⟨.type "tuple",none,.seq #[.int i t,.int j u] 0,#[]⟩
abbrev Sr (K:ai):Prop :=
 ((i5 K c7 "Family"=some (some (.ref 343))) ∧
 FK K "answers" Bq 388 387 "soundkin.family" 466 ∧
 (i8 K 343 P0=true) ∧
 (j6 K 343=true) ∧
 (nG K 343=true) ∧
 (eK K (.ref 343) "__setattr__"=some (some (.builtin "object.__setattr__"))) ∧
 (p9 K 343=true) ∧
 (aQ K (.ref 343)=true) ∧
 CK K "languages" ∧
 CK K "told" ∧
 CK K "costs" ∧
 CK K "words" ∧
 CK K "told_tree") ∧
 (MK K "__init__" "Family.__init__" HC 231 230 ∧
 MK K "start_over" "Family.start_over" BB 238 237 ∧
 MK K "begins" "Family.begins" xS 245 244 ∧
 MK K "cost" "Family.cost" HH 252 251 ∧
 MK K "beside" "Family.beside" uT 259 258 ∧
 MK K "word" "Family.word" Hu 264 263 ∧
 MK K "patterns" "Family.patterns" sy 271 270 ∧
 MK K "olds" "Family.olds" BG 278 277 ∧
 MK K "reflex" "Family.reflex" xJ 283 282 ∧
 MK K "expected" "Family.expected" sA 288 287 ∧
 MK K "leave" "Family.leave" xM 295 294 ∧
 MK K "tree" "Family.tree" BA 302 301 ∧
 MK K "scores_on" "Family.scores_on" sx 307 306) ∧
 (MK K "score" "Family.score" xI 314 313 ∧
 MK K "refused_place" "Family.refused_place" uR 321 320 ∧
 MK K "root" "Family.root" Hy 328 327 ∧
 MK K "states" "Family.states" uQ 335 334 ∧
 MK K "best" "Family.best" HJ 340 339 ∧
 FK K "change_cost" xR 21 20 "soundkin.sounds" 187 ∧
 FK K "read_tree" Hz 28 27 "soundkin.trees" 204 ∧
 FK K "write_tree" By 35 34 "soundkin.trees" 204 ∧
 FK K "has_each_once" HG 40 39 "soundkin.trees" 204 ∧
 FK K "end_of" PJ 47 46 "soundkin.trees" 204 ∧
 FK K "parts_of" BE 54 53 "soundkin.trees" 204 ∧
 FK K "with_language" Bz 61 60 "soundkin.trees" 204 ∧
 FK K "all_trees" HK 68 67 "soundkin.trees" 204) ∧
 (FK K "choices_of" xP 73 72 "soundkin.along" 275 ∧
 FK K "cheapest_step" Hw 78 77 "soundkin.along" 275 ∧
 FK K "language_may_be" HB 83 82 "soundkin.along" 275 ∧
 FK K "joint_may_be" BJ 88 87 "soundkin.along" 275 ∧
 FK K "nodes_may_be" BH 93 92 "soundkin.along" 275 ∧
 FK K "cheapest_sounds" xQ 98 97 "soundkin.along" 275 ∧
 FK K "score_and_roots" BC 105 104 "soundkin.along" 275 ∧
 FK K "states_on" xH 110 109 "soundkin.along" 275 ∧
 FK K "with_pair" Hv 117 116 "soundkin.beside" 328 ∧
 FK K "choices_at" uS 124 123 "soundkin.beside" 328 ∧
 FK K "cheapest" BM 129 128 "soundkin.beside" 328 ∧
 FK K "lay_beside" PH 136 135 "soundkin.beside" 328 ∧
 FK K "count_places" BL 143 142 "soundkin.olds" 371) ∧
 (FK K "may_be_one" PF 150 149 "soundkin.olds" 371 ∧
 FK K "fits" HF 157 156 "soundkin.olds" 371 ∧
 FK K "first_way" PD 164 163 "soundkin.olds" 371 ∧
 FK K "give_old_sounds" HD 171 170 "soundkin.olds" 371 ∧
 FK K "by_old_sound" Wa 176 175 "soundkin.olds" 371 ∧
 FK K "becomes" PK 183 182 "soundkin.olds" 371 ∧
 FK K "with_one_more" HA 190 189 "soundkin.olds" 371 ∧
 FK K "are_enough" xO 197 196 "soundkin.olds" 371 ∧
 FK K "leave_out" BI 202 201 "soundkin.olds" 371 ∧
 FK K "is_row_of_sounds" HE 352 351 "soundkin.family" 466 ∧
 FK K "is_place" BD 357 356 "soundkin.family" 466 ∧
 FK K "read_places" xK 364 363 "soundkin.family" 466 ∧
 FK K "read_pairs" BF 369 368 "soundkin.family" 466) ∧
 (FK K "read_rows" Hx 376 375 "soundkin.family" 466 ∧
 FK K "answer_call" HI 383 382 "soundkin.family" 466 ∧
 NK K "UNKNOWN" 0 189 ∧
 NK K "NO_SOUND" 1 191 ∧
 NK K "COST_UNTOLD" 10 193 ∧
 NK K "JOINT" (-1) 207 ∧
 NK K "WRITTEN_LANGUAGE" 0 209 ∧
 NK K "WRITTEN_JOINT" 1 211 ∧
 NK K "OUT_OF_RANGE" (-1) 469 ∧
 NK K "NO_TREE" (-4) 472 ∧
 NK K "TOO_MANY" (-5) 475 ∧
 NK K "NOT_THERE" (-6) 478 ∧
 NK K "LANGUAGES_AT_FIRST" 2 480) ∧
 (NK K "MOST_COSTS" 200 482 ∧
 NK K "MOST_WORDS" 6 484 ∧
 NK K "MOST_PATTERNS" 8 486 ∧
 NK K "BEGINS" 0 488 ∧
 NK K "COST" 1 490 ∧
 NK K "BESIDE" 2 492 ∧
 NK K "WORD" 3 494 ∧
 NK K "PATTERNS" 4 496 ∧
 NK K "OLDS" 5 498 ∧
 NK K "REFLEX" 6 500 ∧
 NK K "EXPECTED" 7 502 ∧
 NK K "LEAVE" 8 504 ∧
 NK K "TREE" 9 506) ∧
 (NK K "SCORE" 10 508 ∧
 NK K "ROOT" 11 510 ∧
 NK K "STATES" 12 512 ∧
 BK K "len" ∧
 BK K "all" ∧
 BK K "any" ∧
 BK K "sum" ∧
 BK K "sorted" ∧
 BK K "set" ∧
 BK K "list" ∧
 BK K "tuple" ∧
 BK K "min" ∧
 BK K "max") ∧
 (BK K "range" ∧
 BK K "zip" ∧
 BK K "enumerate" ∧
 BK K "dict" ∧
 (i5 K c7 "SHAPES"=some (some (.ref 217))∧K.lookup 217=some ⟨.type "tuple",none,.seq #[.ref 203,.ref 204,.ref 205,.ref 206,.ref 207,.ref 208,.ref 209,.ref 210,.ref 211,.ref 212,.ref 213,.ref 214,.ref 215,.ref 216] 0,#[]⟩) ∧
 SK K 203 1 514 0 515 ∧
 SK K 204 3 516 0 517 ∧
 SK K 205 0 518 2 519 ∧
 SK K 206 0 520 1 521 ∧
 SK K 207 0 522 0 523 ∧
 SK K 208 0 524 0 525 ∧
 SK K 209 1 526 0 527 ∧
 SK K 210 1 528 1 529) ∧
 (SK K 211 1 530 0 531 ∧
 SK K 212 0 532 1 533 ∧
 SK K 213 0 534 0 535 ∧
 SK K 214 2 536 0 537 ∧
 SK K 215 2 538 0 539 ∧
 SK K 216 0 540 0 541)
theorem MH (w:bK):Sv pw vw xt 4620 w∧Sr (SV (EW w)):=by
 repeat' first | apply And.intro | kernel_rfl
theorem Ub (w:bK):Su pw vw xt 4620 w:=by kernel_rfl
theorem Ua (w:bK):Ss pw vw xt 4620 w:=by kernel_rfl
end
end Sk
namespace Sk
open Si35
def bump (t:List (lR×Nat))(c:lR):List (lR×Nat) :=
 if (t.any fun kv=>decide (kv.1=c))=true then t.map (fun kv=>if kv.1=c then (kv.1,kv.2+1) else kv) else t++[(c,1)]
def gO (l:List lR):List (lR×Nat):=l.eraseDups.map fun c=>(c,(l.filter fun x=>x==c).length)
theorem ig {α:Type}[BEq α][LawfulBEq α](x:α)(l:List α):x∈l.eraseDups↔x∈l:=by
 suffices h:∀ (n:Nat) (l:List α),l.length≤n→(x∈l.eraseDups↔x∈l) from h l.length l (aL _)
 intro n
 induction n with
 | zero =>
  intro l h
  have:l=[]:=df.mp (by omega)
  subst this;simp
 | succ n ih =>
  intro l h
  match l,h with
  | [],_=>simp
  | a::r,h =>
   rw[ju,aI,aI,ih _ (aB (c4 _ _) (by simpa using h)),fL]
   by_cases e:x=a
   ·simp[e]
   ·simp[e]
theorem KS {α:Type}[BEq α][LawfulBEq α](l:List α)(x:α):(l++[x]).eraseDups=if l.contains x then l.eraseDups else l.eraseDups++[x]:=by
 rw[List.eraseDups_append]
 by_cases h:l.contains x=true
 ·rw[if_pos h]
  have:[x].removeAll l=[]:=by simp[SD,gW.mp h]
  rw[this];simp
 ·rw[if_neg h]
  have h':¬ x∈l:=fun q=>h (gW.mpr q)
  have:[x].removeAll l=[x]:=by simp[SD,h']
  rw[this]
  simp[ju]
theorem Gm (l:List lR)(c:lR):gO (l++[c])=bump (gO l) c:=by
 unfold gO bump
 rw[KS]
 have a:((l.eraseDups.map fun c=>(c,(l.filter fun x=>x==c).length)).any fun kv=>decide (kv.1=c))=l.contains c:=by
  rw[mM,eM,qe,gW]
  constructor
  ·rintro ⟨x,hx,e⟩
   have e':x=c:=by simpa using e
   subst e'
   exact (ig _ _).mp hx
  ·intro h
   exact ⟨c,(ig _ _).mpr h,by simp⟩
 rw[a]
 by_cases h:l.contains c=true
 ·rw[if_pos h,if_pos h,bx]
  refine dt fun x _=>?_
  show (x,((l++[c]).filter fun y=>y==x).length)=if x=c then (x,(l.filter fun y=>y==x).length+1) else (x,(l.filter fun y=>y==x).length)
  by_cases e:x=c
  ·subst e;simp[gQ,cG]
  ·rw[if_neg e]
   have e':(c==x)=false:=by simpa using fun z:c=x=>e z.symm
   simp[gQ,cG,e']
 ·rw[if_neg h,if_neg h,ba]
  have h':¬ c∈l:=fun q=>h (gW.mpr q)
  congr 1
  ·refine dt fun x hx=>?_
   have hx':=(ig x l).mp hx
   have e:¬ x=c:=fun z=>h' (z▸hx')
   have e':(c==x)=false:=by simpa using fun z:c=x=>e z.symm
   simp[gQ,cG,e']
  ·have z:l.filter (fun x=>x==c)=[]:=by
    rw[kF]
    intro x hx q
    have:x=c:=by simpa using q
    exact h' (this▸hx)
   simp[gQ,cG,z]
theorem y3 (l:List lR):(gO l).map (·.1)=l.eraseDups:=by
 unfold gO
 rw[bx]
 exact Jr _
theorem Ei {α:Type}[BEq α][LawfulBEq α]:∀ (n:Nat) (l:List α),l.length≤n→l.eraseDups.length≤l.length
 | _,[],_=>by simp
 | 0,_::_,h=>by simp at h
 | n+1,a::r,h=>by
  rw[ju,aU,aU]
  have h1:=c4 (fun b=>!b==a) r
  have:=Ei n (r.filter fun b=>!b==a) (by simp at h;omega)
  omega
theorem IX {α:Type}[BEq α][LawfulBEq α](l:List α):l.eraseDups.length≤l.length:=Ei l.length l (aL _)
theorem GS {α:Type}[BEq α][LawfulBEq α](l:List α):l.eraseDups.Nodup:=by
 suffices h:∀ (n:Nat) (l:List α),l.length≤n→l.eraseDups.Nodup from h l.length l (aL _)
 intro n
 induction n with
 | zero =>
  intro l h
  have:l=[]:=df.mp (by omega)
  subst this;simp
 | succ n ih =>
  intro l h
  match l,h with
  | [],_=>simp
  | a::r,h =>
   rw[ju,fj]
   refine ⟨fun q=>?_,ih _ (aB (c4 _ _) (by simpa using h))⟩
   have:=(ig _ _).mp q
   simp at this
theorem nU:∀ {l m:List Nat},l.Pairwise (·<·)→m.Pairwise (·<·)→(∀ x,x∈l↔x∈m)→l=m
 | [],[],_,_,_=>rfl
 | [],b::m,_,_,h=>absurd ((h b).mpr ax) (by simp)
 | a::l,[],_,_,h=>absurd ((h a).mp ax) (by simp)
 | a::l,b::m,hl,hm,h=>by
  obtain ⟨h1,h2⟩:=dH.mp hl
  obtain ⟨g1,g2⟩:=dH.mp hm
  have e:a=b:=by
   rcases aI.mp ((h a).mp ax) with q | q
   ·exact q
   ·rcases aI.mp ((h b).mpr ax) with q' | q'
    ·exact q'.symm
    ·have:=h1 b q'
     have:=g1 a q
     omega
  subst e
  rw[nU h2 g2 fun x=>⟨fun q=>by
   rcases aI.mp ((h x).mp (ao _ q)) with z | z
   ·have:=h1 x q;omega
   ·exact z,fun q=>by
   rcases aI.mp ((h x).mpr (ao _ q)) with z | z
   ·have:=g1 x q;omega
   ·exact z⟩]
theorem rl (l:List Nat):((l.mergeSort fun a b=>decide (a≤b)).eraseDups).Pairwise (·<·):=by
 have h:(l.mergeSort fun a b=>decide (a≤b)).Pairwise fun a b=>decide (a≤b)=true:=E8 (fun a b c h1 h2=>by simp at *;omega) (fun a b=>by simp;omega) l
 have h':(l.mergeSort fun a b=>decide (a≤b)).Pairwise (·≤·):=h.imp fun q=>by simpa using q
 revert h'
 generalize l.mergeSort (fun a b=>decide (a≤b))=m
 suffices q:∀ (n:Nat) (m:List Nat),m.length≤n→m.Pairwise (·≤·)→m.eraseDups.Pairwise (·<·) from q m.length m (aL _)
 intro n
 induction n with
 | zero =>
  intro l h _
  have:l=[]:=df.mp (by omega)
  subst this;simp
 | succ n ih =>
  intro l h hp
  match l,h,hp with
  | [],_,_=>simp
  | a::r,h,hp =>
   obtain ⟨p1,p2⟩:=dH.mp hp
   rw[ju,dH]
   refine ⟨fun x hx=>?_,ih _ (aB (c4 _ _) (by simpa using h)) (p2.filter _)⟩
   have hx':=fL.mp ((ig _ _).mp hx)
   have:=p1 x hx'.1
   have:¬ x=a:=by simpa using hx'.2
   omega
theorem pW (l:List Nat)(x:Nat):x∈(l.mergeSort fun a b=>decide (a≤b)).eraseDups↔x∈l:=by
 rw[ig]
 exact List.mem_mergeSort
def gZ:Tree→List Int
 | .leaf l=>[(l:Int)]
 | .node a b=>-1::(gZ a++gZ b)
def size:Tree→Nat
 | .leaf _=>1
 | .node a b=>1+(size a+size b)
theorem fU:∀ t:Tree,(gZ t).length=size t
 | .leaf _=>rfl
 | .node a b=>by simp[gZ,size,fU a,fU b];omega
theorem size_pos:∀ t:Tree,0<size t
 | .leaf _=>Nat.one_pos
 | .node a b=>by simp[size];omega
def mi (ts:List Tree):List Int:=ts.flatMap gZ
def outs (ts:List Tree):List Nat:=ts.flatMap Tree.out
theorem Kf (t:Tree)(ts:List Tree):outs (t::ts)=t.out++outs ts:=by simp[outs]
theorem AV (l:Nat)(ts:List Tree):mi (.leaf l::ts)=(l:Int)::mi ts:=by simp[mi,gZ]
theorem AU (a b:Tree)(ts:List Tree):mi (.node a b::ts)=-1::mi (a::b::ts):=by simp[mi,gZ]
theorem AQ (l:Nat)(ts:List Tree):outs (.leaf l::ts)=0::l::outs ts:=by simp[outs,Tree.out]
theorem AO (a b:Tree)(ts:List Tree):outs (.node a b::ts)=1::outs (a::b::ts):=by simp[outs,Tree.out]
theorem N1:mi []=[]:=rfl
theorem yR (t:Tree):mi [t]=gZ t:=by simp[mi]
theorem NL (t:Tree):outs [t]=t.out:=by simp[outs]
def wr (x:Int):List Int:=if x=-1 then [1] else [0,x]
theorem Fw:∀ t:Tree,(gZ t).flatMap wr=Si35.ints t.out
 | .leaf l=>by
  have:¬ ((l:Int)=-1):=by omega
  simp[gZ,wr,Tree.out,Si35.ints,this]
 | .node a b=>by
  have h1:=Fw a
  have h2:=Fw b
  simp only[gZ,bQ,gF,h1,h2,Tree.out,Si35.ints]
  simp[wr]
theorem tZ:∀ t:Tree,(gZ t).filter (fun x=>decide (x≠-1))=t.leaves.map fun (l:Nat)=>(l:Int)
 | .leaf l=>by
  have:¬ ((l:Int)=-1):=by omega
  simp[gZ,Tree.leaves,this]
 | .node a b=>by
  have h1:=tZ a
  have h2:=tZ b
  simp only[gZ,cG,gQ,h1,h2,Tree.leaves,ba]
  simp
def subAt:Tree→Nat→Tree
 | t,0=>t
 | .leaf l,_+1=>.leaf l
 | .node a b,i+1=>if i<size a then subAt a i else subAt b (i - size a)
def putAt (l:Nat):Tree→Nat→Tree
 | t,0=>.node t (.leaf l)
 | .leaf i,_+1=>.leaf i
 | .node a b,i+1=>if i<size a then .node (putAt l a i) b else .node a (putAt l b (i - size a))
theorem lX:∀ (t:Tree) (i:Nat),i<size t→∃ pre suf,pre.length=i∧gZ t=pre++(gZ (subAt t i)++suf)∧∀ l,gZ (putAt l t i)=pre++(-1::(gZ (subAt t i)++((l:Nat):Int)::suf))
 | t,0,_=>⟨[],[],rfl,by simp[subAt],fun l=>by simp[subAt,putAt,gZ]⟩
 | .leaf _,i+1,h=>by simp[size] at h
 | .node a b,i+1,h=>by
  by_cases c:i<size a
  ·obtain ⟨pre,suf,h1,h2,h3⟩:=lX a i c
   refine ⟨-1::pre,suf++gZ b,by simp[h1],?_,fun l=>?_⟩
   ·simp[subAt,c,gZ,h2]
   ·simp[subAt,putAt,c,gZ,h3 l]
  ·obtain ⟨pre,suf,h1,h2,h3⟩:=lX b (i - size a) (by simp[size] at h;omega)
   refine ⟨-1::(gZ a++pre),suf,by simp[h1,fU];omega,?_,fun l=>?_⟩
   ·simp[subAt,c,gZ,h2]
   ·simp[subAt,putAt,c,gZ,h3 l]
theorem mF (l:Nat):∀ t:Tree,insertAll l t=(br (size t)).map (putAt l t)
 | .leaf i=>by simp[insertAll,size,putAt]
 | .node a b=>by
  have e:br (size (.node a b))=0::((br (size a)).map (·+1)++(br (size b)).map fun j=>(size a+j)+1):=by
   rw[size,mT,qC,SE,ba,bx]
   rfl
  rw[e,insertAll,mF l a,mF l b,bq,ba,bx,bx,bx,bx]
  refine congr (congrArg List.cons rfl) (congr (congrArg LH (dt fun i hi=>?_)) (dt fun i hi=>?_))
  ·have:i<size a:=dN.mp hi
   simp[putAt,this]
  ·have:¬ size a+i<size a:=by omega
   simp[putAt,this]
theorem Nl (l:Nat):∀ (t:Tree) (i:Nat),i<size t→size (putAt l t i)=size t+2
 | t,i,h=>by
  obtain ⟨pre,suf,h1,h2,h3⟩:=lX t i h
  have e1:=congrArg dJ h2
  have e2:=congrArg dJ (h3 l)
  simp[fU] at e1 e2
  omega
theorem pJ:∀ (n:Nat) (t:Tree),t∈trees (n+1)→size t=2*n+1
 | 0,t,h=>by
  simp[trees] at h
  subst h;rfl
 | n+1,t,h=>by
  simp only[trees,qb] at h
  obtain ⟨u,hu,ht⟩:=h
  have:=pJ n u hu
  rw[mF,aX] at ht
  obtain ⟨i,hi,rfl⟩:=ht
  rw[Nl _ _ _ (dN.mp hi)];omega
theorem zu (l:Nat)(t:Tree):(insertAll l t).length=size t:=by rw[mF];simp
theorem gL:∀ n:Nat,(trees (n+2)).length=(trees (n+1)).length*(2*n+1):=fun n=>by
 rw[trees]
 have h:=fun t ht=>pJ n t ht
 generalize trees (n+1)=ts at h
 induction ts with
 | nil=>simp
 | cons t ts ih =>
  rw[bQ,aK,zu,h t ax,ih fun u hu=>h u (ao _ hu),aU,Nat.succ_mul ts.length]
  omega
theorem As:∀ n,n≤5→(trees n).length≤105
 | 0,_=>by simp[trees]
 | 1,_=>by simp[trees]
 | 2,_=>by rw[gL];simp[trees]
 | 3,_=>by rw[gL,gL];simp[trees]
 | 4,_=>by rw[gL,gL,gL];simp[trees]
 | 5,_=>by rw[gL,gL,gL,gL];simp[trees]
theorem DD:∀ n,trees (n+1)≠[]
 | 0=>by simp[trees]
 | n+1=>fun h=>by
  have:=gL n
  rw[h] at this
  have z:(trees (n+1)).length≠0:=fun q=>DD n (df.mp q)
  have:(trees (n+1)).length*(2*n+1)=0:=this.symm
  rcases Nat.mul_eq_zero.mp this with q | q
  ·exact z q
  ·omega
def g5 (t:Tree)(i:Nat):List Nat:=match subAt t i with
 | .leaf _=>[]
 | .node a _=>[i+1,i+1+size a]
theorem Mx (t:Tree)(i:Nat)(h:i<size t):(gZ t)[i]?=some (match subAt t i with
  | .leaf l=>(l:Int)
  | .node _ _=>-1):=by
 obtain ⟨pre,suf,h1,h2,_⟩:=lX t i h
 rw[h2,fJ (by omega),h1,xk]
 cases subAt t i<;>simp[gZ]
theorem oC:∀ (t:Tree) (i:Nat) (a b:Tree),i<size t→subAt t i=.node a b→i+1+size a+size b≤size t∧subAt t (i+1)=a∧subAt t (i+1+size a)=b
 | t,0,a,b,h,e=>by
  have e:t=.node a b:=by simpa [subAt] using e
  subst e
  have h1:=size_pos a
  refine ⟨by simp[size];omega,?_,?_⟩
  ·simp only[subAt,h1,if_true]
  ·have:0+1+size a=size a+1:=by omega
   rw[this]
   simp only[subAt,du,if_false,xk]
 | .leaf _,i+1,a,b,h,e=>by simp[size] at h
 | .node c d,i+1,a,b,h,e=>by
  by_cases q:i<size c
  ·have e:subAt c i=.node a b:=by simpa [subAt,q] using e
   obtain ⟨g1,g2,g3⟩:=oC c i a b q e
   refine ⟨by simp[size];omega,?_,?_⟩
   ·have:i+1<size c:=by have:=size_pos a;have:=size_pos b;omega
    simp[subAt,this,g2]
   ·have:i+1+size a<size c:=by have:=size_pos b;omega
    have z:i+1+1+size a=(i+1+size a)+1:=by omega
    rw[z]
    simp[subAt,this,g3]
  ·have e:subAt d (i - size c)=.node a b:=by simpa [subAt,q] using e
   obtain ⟨g1,g2,g3⟩:=oC d (i - size c) a b (by simp[size] at h;omega) e
   refine ⟨by simp[size];omega,?_,?_⟩
   ·have:¬ i+1<size c:=by omega
    have z:i+1 - size c=i - size c+1:=by omega
    simp[subAt,this,z,g2]
   ·have:¬ i+1+size a<size c:=by omega
    have z:i+1+1+size a=(i+1+size a)+1:=by omega
    have z2:i+1+size a - size c=i - size c+1+size a:=by omega
    rw[z]
    simp[subAt,this,z2,g3]
theorem DZ {t:Tree}{i j:Nat}(h:i<size t)(m:j∈g5 t i):i<j∧j<size t:=by
 unfold g5 at m
 cases e:subAt t i with
 | leaf l=>rw[e] at m;simp at m
 | node a b =>
  rw[e] at m
  obtain ⟨g,_,_⟩:=oC t i a b h e
  have:=size_pos a
  have:=size_pos b
  simp at m
  omega
theorem parent:∀ (t:Tree) (j:Nat),0<j→j<size t→∃ i,i<j∧j∈g5 t i
 | .leaf _,j,h,h2=>by simp[size] at h2;omega
 | .node a b,j,h,h2=>by
  have top:g5 (.node a b) 0=[1,1+size a]:=by simp[g5,subAt]
  by_cases c1:j=1
  ·exact ⟨0,h,by rw[top,c1];simp⟩
  by_cases c2:j=1+size a
  ·exact ⟨0,h,by rw[top,c2];simp⟩
  by_cases c:j - 1<size a
  ·obtain ⟨i,hi,m⟩:=parent a (j - 1) (by omega) c
   refine ⟨i+1,by omega,?_⟩
   have q:i<size a:=by omega
   unfold g5 at m ⊢
   simp only[subAt,q,if_true]
   cases e:subAt a i with
   | leaf l=>rw[e] at m;simp at m
   | node x y=>rw[e] at m;simp at m ⊢;omega
  ·obtain ⟨i,hi,m⟩:=parent b (j - 1 - size a) (by omega) (by simp[size] at h2;omega)
   refine ⟨size a+i+1,by omega,?_⟩
   have q:¬ size a+i<size a:=by omega
   unfold g5 at m ⊢
   simp only[subAt,q,if_false,gp]
   cases e:subAt b i with
   | leaf l=>rw[e] at m;simp at m
   | node x y=>rw[e] at m;simp at m ⊢;omega
def Cw:Cost→List Cost→Prop
 | none,l=>∀ x∈l,x=none
 | some v,l=>some v∈l∧∀ w,some w∈l→v≤w
theorem zo:∀ (l:List Cost) (m:Cost),Cw (l.foldl (fun (m c:Cost)=>match m,c with
 | none,x=>x
 | some x,none=>some x
 | some x,some y=>if y<x then some y else some x) m) (m::l)
 | [],none=>by
  intro x hx
  simpa using hx
 | [],some v=>⟨ax,fun w hw=>by simp at hw;omega⟩
 | c::l,m=>by
  rw[d7]
  have ih:=zo l (match m,c with
   | none,x=>x
   | some x,none=>some x
   | some x,some y=>if y<x then some y else some x)
  revert ih
  generalize l.foldl _ _=r
  cases m with
  | none =>
   intro ih
   cases r with
   | none=>intro x hx;rcases aI.mp hx with e | hx;exact e;exact ih x hx
   | some v=>exact ⟨ao _ ih.1,fun w hw=>ih.2 w (by rcases aI.mp hw with e | hw;cases e;exact hw)⟩
  | some x =>
   cases c with
   | none =>
    intro ih
    cases r with
    | none=>exact absurd (ih (some x) ax) (by simp)
    | some v =>
     refine ⟨?_,fun w hw=>ih.2 w ?_⟩
     ·rcases aI.mp ih.1 with e | h
      ·rw[e];exact ax
      ·exact ao _ (ao _ h)
     ·rcases aI.mp hw with e | h
      ·rw[e];exact ax
      ·rcases aI.mp h with e | h
       ·cases e
       ·exact ao _ h
   | some y =>
    show Cw r ((if y<x then some y else some x)::l)→_
    intro ih
    cases r with
    | none =>
     have:=ih _ ax
     split at this<;>cases this
    | some v =>
     have h1:=ih.1
     have h2:=ih.2
     refine ⟨?_,fun w hw=>?_⟩
     ·rcases aI.mp h1 with e | h
      ·split at e
       ·rw[e];exact ao _ ax
       ·rw[e];exact ax
      ·exact ao _ (ao _ h)
     ·have low:∀ z,(if y<x then some y else some x)=some z→v≤z:=fun z e=>h2 z (by rw[e];exact ax)
      by_cases q:y<x
      ·have:=low y (if_pos q)
       rcases aI.mp hw with e | hw
       ·cases e;omega
       ·rcases aI.mp hw with e | hw
        ·cases e;exact this
        ·exact h2 w (ao _ hw)
      ·have:=low x (if_neg q)
       rcases aI.mp hw with e | hw
       ·cases e;exact this
       ·rcases aI.mp hw with e | hw
        ·cases e;omega
        ·exact h2 w (ao _ hw)
theorem uZ (l:List Cost):Cw (least l) l:=by
 have h:=zo l none
 unfold least
 revert h
 generalize l.foldl _ none=r
 cases r with
 | none=>exact fun h x hx=>h x (ao _ hx)
 | some v=>exact fun h=>⟨by rcases aI.mp h.1 with e | q;cases e;exact q,fun w hw=>h.2 w (ao _ hw)⟩
theorem D9 {l:List Cost}{v:Nat}(h1:some v∈l)(h2:∀ w,some w∈l→v≤w):least l=some v:=by
 have h:=uZ l
 revert h
 cases least l with
 | none=>exact fun h=>absurd (h _ h1) (by simp)
 | some u =>
  intro h
  have:=h.2 v h1
  have:=h2 u h.1
  congr 1
  omega
theorem pO (c:lR):(choicesAt c).Pairwise (·<·):=rl _
theorem w6 (c:lR)(x:Nat):x∈choicesAt c↔x∈c.sounds∧x≠0:=by
 unfold choicesAt
 rw[pW,fL]
 simp
def below (k:ic)(c:lR)(s:Nat)(t:Tree):List Cost:=(choicesAt c).map fun x=>plus (some (cost k s x)) (t.costFrom k c x)
def mb (k:ic)(c:lR)(t:Tree):List (Nat×Nat):=(choicesAt c).filterMap fun s=>(t.costFrom k c s).map fun x=>(s,x)
theorem nS {k:ic}{c:lR}{t:Tree}{s x:Nat}:(s,x)∈mb k c t↔s∈choicesAt c∧t.costFrom k c s=some x:=by
 unfold mb
 rw[vq]
 constructor
 ·rintro ⟨y,hy,e⟩
  cases q:t.costFrom k c y with
  | none=>rw[q] at e;cases e
  | some z =>
   rw[q] at e
   cases e
   exact ⟨hy,q⟩
 ·rintro ⟨h1,h2⟩
  exact ⟨s,h1,by rw[h2];rfl⟩
theorem sJ {k:ic}{c:lR}{s:Nat}{t:Tree}{v:Nat}:some v∈below k c s t↔∃ x r,(x,r)∈mb k c t∧v=cost k s x+r:=by
 unfold below
 rw[aX]
 constructor
 ·rintro ⟨x,hx,e⟩
  cases q:t.costFrom k c x with
  | none=>rw[q] at e;cases e
  | some r =>
   rw[q] at e
   exact ⟨x,r,nS.mpr ⟨hx,q⟩,(aH e).symm⟩
 ·rintro ⟨x,r,h,rfl⟩
  obtain ⟨h1,h2⟩:=nS.mp h
  exact ⟨x,h1,by rw[h2];rfl⟩
theorem zA {p:Nat→Bool}:∀ {l:List Nat} {x:Nat},l.Pairwise (·<·)→x∈l→p x=true→(∀ y∈l,p y=true→x≤y)→l.find? p=some x
 | [],x,_,h,_,_=>by simp at h
 | a::l,x,hl,h,hp,hm=>by
  obtain ⟨h1,h2⟩:=dH.mp hl
  rw[cJ]
  rcases aI.mp h with e | h
  ·subst e;rw[hp]
  ·cases q:p a with
   | true =>
    have:=hm a ax q
    have:=h1 x h
    omega
   | false=>exact zA h2 h hp fun y hy=>hm y (ao _ hy)
theorem Ia {k:ic}{c:lR}{s:Nat}{t:Tree}{x r:Nat}(h:(x,r)∈mb k c t)(hm:∀ y q,(y,q)∈mb k c t→cost k s x+r<cost k s y+q∨(cost k s x+r=cost k s y+q∧x≤y)) :
  least (below k c s t)=some (cost k s x+r)∧nextOf k c s t=x:=by
 have e:least (below k c s t)=some (cost k s x+r):=D9 (sJ.mpr ⟨x,r,h,rfl⟩) fun w hw=>by
  obtain ⟨y,q,hy,rfl⟩:=sJ.mp hw
  rcases hm y q hy with z | z<;>omega
 refine ⟨e,?_⟩
 obtain ⟨hx,hr⟩:=nS.mp h
 have e':nextOf k c s t=((choicesAt c).find? fun y=>plus (some (cost k s y)) (t.costFrom k c y)==least (below k c s t)).getD 0:=rfl
 rw[e',e,zA (pO c) hx (by rw[hr];exact beq_self_eq_true _) fun y hy q=>?_]
 ·rfl
 ·have q:=eq_of_beq q
  cases z:t.costFrom k c y with
  | none=>rw[z] at q;cases q
  | some r' =>
   rw[z] at q
   have q:cost k s y+r'=cost k s x+r:=aH q
   rcases hm y r' (nS.mpr ⟨hy,z⟩) with w | w<;>omega
theorem yw (k:ic)(c:lR)(hc:choicesAt c≠[]):∀ t:Tree,mb k c t≠[]
 | .leaf l=>by
  by_cases e:c.sounds.getD l 0=0
  ·obtain ⟨x,hx⟩:=hJ _ hc
   exact iL (nS (x:=0) |>.mpr ⟨hx,by unfold Tree.costFrom;exact if_pos (.inl e)⟩)
  ·have hl:l<c.sounds.length:=dW fun q=>e (by rw[gS,bJ (by omega)];rfl)
   have hx:c.sounds.getD l 0∈choicesAt c:=(w6 c _).mpr ⟨by rw[gS,aD hl];exact lA _,e⟩
   exact iL (nS (x:=0) |>.mpr ⟨hx,by unfold Tree.costFrom;exact if_pos (.inr rfl)⟩)
 | .node a b=>by
  obtain ⟨x,hx⟩:=hJ _ hc
  have low:∀ t,mb k c t≠[]→∃ v,least (below k c x t)=some v:=fun t ht=>by
   obtain ⟨⟨y,r⟩,hy⟩:=hJ _ ht
   have h:=uZ (below k c x t)
   cases e:least (below k c x t) with
   | some v=>exact ⟨v,rfl⟩
   | none =>
    rw[e] at h
    exact absurd (h _ (sJ.mpr ⟨y,r,hy,rfl⟩)) (by simp)
  obtain ⟨v,hv⟩:=low a (yw k c hc a)
  obtain ⟨u,hu⟩:=low b (yw k c hc b)
  refine iL (a:=(x,v+u)) (nS.mpr ⟨hx,?_⟩)
  show plus (least (below k c x a)) (least (below k c x b))=_
  rw[hv,hu]
  rfl
def lv (k:ic)(c:lR)(s:Nat)(t:Tree):Nat:=(least (below k c s t)).getD 0
theorem zG (k:ic)(c:lR)(s:Nat)(t:Tree)(hc:choicesAt c≠[]):least (below k c s t)=some (lv k c s t):=by
 obtain ⟨⟨y,r⟩,hy⟩:=hJ _ (yw k c hc t)
 have h:=uZ (below k c s t)
 unfold lv
 cases e:least (below k c s t) with
 | some v=>rfl
 | none =>
  rw[e] at h
  exact absurd (h _ (sJ.mpr ⟨y,r,hy,rfl⟩)) (by simp)
theorem Eh {α β:Type}{f g:α→Option β}:∀ {l:List α},(∀ a∈l,f a=g a)→l.filterMap f=l.filterMap g
 | [],_=>rfl
 | a::l,h=>by rw[eR,eR,h a ax,Eh fun b hb=>h b (ao _ hb)]
theorem QN (k:ic)(c:lR)(a b:Tree):mb k c (.node a b)=(choicesAt c).map fun s=>(s,lv k c s a+lv k c s b):=by
 by_cases hc:choicesAt c=[]
 ·unfold mb;rw[hc];rfl
 ·unfold mb
  rw[← List.filterMap_eq_map]
  refine Eh fun s _=>?_
  show (plus (least (below k c s a)) (least (below k c s b))).map _=_
  rw[zG k c s a hc,zG k c s b hc]
  rfl
theorem QO (k:ic)(c:lR)(l:Nat):mb k c (.leaf l)=((choicesAt c).filter fun s=>decide (c.sounds.getD l 0=0∨c.sounds.getD l 0=s)).map fun s=>(s,0):=by
 unfold mb
 induction choicesAt c with
 | nil=>rfl
 | cons x r ih =>
  rw[eR,cG,ih]
  unfold Tree.costFrom
  by_cases q:c.sounds.getD l 0=0∨c.sounds.getD l 0=x
  ·rw[if_pos q,if_pos (decide_eq_true q)];rfl
  ·rw[if_neg q,if_neg (by rw[decide_eq_false q];decide)];rfl
theorem Nq (k:ic)(t:Tree)(c:lR){m:Nat}(h:(mb k c t=[]∧m=0)∨((∃ x,(x,m)∈mb k c t)∧∀ p∈mb k c t,m≤p.2)):t.score k c=m:=by
 unfold Tree.score
 rcases h with ⟨h,rfl⟩ | ⟨⟨x,hx⟩,hm⟩
 ·rw[if_pos (dW fun q=>yw k c q t h)]
 ·obtain ⟨h1,h2⟩:=nS.mp hx
  rw[if_neg (iL h1),D9 (v:=m) (aX.mpr ⟨x,h1,h2⟩) fun w hw=>?_]
  ·rfl
  ·obtain ⟨y,hy,e⟩:=aX.mp hw
   exact hm (y,w) (nS.mpr ⟨hy,e⟩)
theorem NA (k:ic)(t:Tree)(c:lR):t.roots k c=((mb k c t).filter fun p=>decide (p.2=t.score k c)).map (·.1):=by
 unfold Tree.roots mb
 generalize t.score k c=m
 induction choicesAt c with
 | nil=>rfl
 | cons x r ih =>
  rw[cG,eR,ih]
  cases e:t.costFrom k c x with
  | none=>rfl
  | some v =>
   show _=eD _ (oX _ ((x,v)::_))
   rw[cG]
   by_cases q:v=m
   ·subst q
    rw[if_pos (beq_self_eq_true _),if_pos (decide_eq_true rfl)]
    rfl
   ·rw[if_neg (by simpa using q),if_neg (by simpa using q)]
theorem Nz (k:ic)(t:Tree)(c:lR)(hc:choicesAt c≠[]):t.roots k c≠[]:=by
 have h:=uZ ((choicesAt c).map fun s=>t.costFrom k c s)
 obtain ⟨⟨y,r⟩,hy⟩:=hJ _ (yw k c hc t)
 obtain ⟨h1,h2⟩:=nS.mp hy
 cases e:least ((choicesAt c).map fun s=>t.costFrom k c s) with
 | none =>
  rw[e] at h
  exact absurd (h (some r) (aX.mpr ⟨y,h1,h2⟩)) (by simp)
 | some v =>
  rw[e] at h
  obtain ⟨x,hx,ex⟩:=aX.mp h.1
  have es:t.score k c=v:=by unfold Tree.score;rw[if_neg hc,e];rfl
  refine iL (a:=x) (fL.mpr ⟨hx,?_⟩)
  rw[ex,es]
  exact beq_self_eq_true _
theorem Gv (k:ic)(t:Tree)(c:lR)(hc:choicesAt c=[]):t.roots k c=[]:=by unfold Tree.roots;rw[hc];rfl
theorem iA (k:ic)(c:lR):∀ (t:Tree) (s:Nat),(t.states k c s).length=size t
 | .leaf _,s=>rfl
 | .node a b,s=>by simp[Tree.states,size,iA k c a,iA k c b];omega
theorem rk (k:ic)(c:lR)(t:Tree)(s:Nat):(t.states k c s)[0]?=some s:=by cases t<;>rfl
theorem pV (k:ic)(c:lR):∀ (t:Tree) (s i:Nat),i<size t→∃ si pre suf,pre.length=i∧t.states k c s=pre++((subAt t i).states k c si++suf)
 | t,s,0,_=>⟨s,[],[],rfl,by simp[subAt]⟩
 | .leaf _,s,i+1,h=>by simp[size] at h
 | .node a b,s,i+1,h=>by
  by_cases q:i<size a
  ·obtain ⟨si,pre,suf,h1,h2⟩:=pV k c a (nextOf k c s a) i q
   exact ⟨si,s::pre,suf++b.states k c (nextOf k c s b),by simp[h1],by simp[Tree.states,h2,subAt,q]⟩
  ·obtain ⟨si,pre,suf,h1,h2⟩:=pV k c b (nextOf k c s b) (i - size a) (by simp[size] at h;omega)
   exact ⟨si,s::(a.states k c (nextOf k c s a)++pre),suf,by simp[h1,iA];omega,by simp[Tree.states,h2,subAt,q]⟩
theorem JZ (k:ic)(c:lR)(t:Tree)(s i:Nat)(a b:Tree)(h:i<size t)(e:subAt t i=.node a b):∃ si,(t.states k c s)[i]?=some si∧(t.states k c s)[i+1]?=some (nextOf k c si a)∧(t.states k c s)[i+1+size a]?=some (nextOf k c si b):=by
 obtain ⟨si,pre,suf,h1,h2⟩:=pV k c t s i h
 rw[e] at h2
 rw[h2,Tree.states]
 refine ⟨si,?_,?_,?_⟩
 ·rw[fJ (by omega),h1,xk];rfl
 ·rw[fJ (by omega),h1,gp]
  show ((a.states k c _++b.states k c _)++suf)[0]?=_
  rw[dE,oh (by rw[iA];exact size_pos a)]
  exact rk k c a _
 ·rw[fJ (by omega),h1,show i+1+size a - i=size a+1 by omega]
  show ((a.states k c _++b.states k c _)++suf)[size a]?=_
  rw[dE,fJ (by rw[iA];exact aL _),iA,xk,oh (by rw[iA];exact size_pos b)]
  exact rk k c b _
theorem rj (k:ic)(c:lR)(hc:choicesAt c=[]):∀ t:Tree,t.states k c 0=tp (size t) 0
 | .leaf _=>rfl
 | .node a b=>by
  have n:∀ u,nextOf k c 0 u=0:=fun u=>by unfold nextOf;rw[hc];rfl
  rw[Tree.states,n,n,rj k c hc a,rj k c hc b,size,List.replicate_append_replicate,mT 1]
  rfl
theorem JW (l:List Nat):total l=l.sum:=rfl
theorem wN:∀ l m:List Nat,rowLe l m=true∨rowLe m l=true
 | [],_=>.inl rfl
 | _::_,[]=>.inr rfl
 | a::l,b::m=>by
  simp only[rowLe,rO,decide_eq_true_eq,bA,beq_iff_eq]
  have:=wN l m
  by_cases h:a<b
  ·exact .inl (.inl h)
  ·by_cases h2:b<a
   ·exact .inr (.inl h2)
   ·have e:a=b:=by omega
    rcases this with q | q
    ·exact .inl (.inr ⟨e,q⟩)
    ·exact .inr (.inr ⟨e.symm,q⟩)
theorem wM:∀ l m n:List Nat,rowLe l m=true→rowLe m n=true→rowLe l n=true
 | [],_,_,_,_=>rfl
 | _::_,[],_,h,_=>by simp[rowLe] at h
 | _::_,_::_,[],_,h=>by simp[rowLe] at h
 | a::l,b::m,c::n,h1,h2=>by
  simp only[rowLe,rO,decide_eq_true_eq,bA,beq_iff_eq] at *
  rcases h1 with h1 | ⟨h1,h1'⟩
  ·rcases h2 with h2 | ⟨h2,_⟩
   ·exact .inl (by omega)
   ·exact .inl (by omega)
  ·rcases h2 with h2 | ⟨h2,h2'⟩
   ·exact .inl (by omega)
   ·exact .inr ⟨by omega,wM l m n h1' h2'⟩
theorem zh:∀ l m:List Nat,rowLe l m=true→rowLe m l=true→l=m
 | [],[],_,_=>rfl
 | [],_::_,_,h=>by simp[rowLe] at h
 | _::_,[],h,_=>by simp[rowLe] at h
 | a::l,b::m,h1,h2=>by
  simp only[rowLe,rO,decide_eq_true_eq,bA,beq_iff_eq] at *
  have e:a=b:=by omega
  subst e
  rw[zh l m (by rcases h1 with h | ⟨_,h⟩;omega;exact h) (by rcases h2 with h | ⟨_,h⟩;omega;exact h)]
theorem wL:∀ {l m:List (List Nat)},l.Perm m→l.Pairwise (fun a b=>rowLe a b=true)→m.Pairwise (fun a b=>rowLe a b=true)→l=m
 | [],m,p,_,_=>by rw[List.nil_perm.mp p]
 | a::l,[],p,_,_=>absurd p.length_eq (by simp)
 | a::l,b::m,p,hl,hm=>by
  obtain ⟨h1,h2⟩:=dH.mp hl
  obtain ⟨g1,g2⟩:=dH.mp hm
  have e:a=b:=by
   rcases aI.mp (p.mem_iff.mp ax) with q | q
   ·exact q
   ·rcases aI.mp (p.mem_iff.mpr ax) with q' | q'
    ·exact q'.symm
    ·exact zh a b (h1 b q') (g1 a q)
  subst e
  rw[wL ((Bf a).mp p) h2 g2]
theorem K7 (k:ic)(n:Nat)(l:List Word){rows:List (List Nat)}(hp:rows.Perm ((((trees n).filter fun t=>decide (t.all k l=(best k n l).1)).map Tree.out)))(hs:rows.Pairwise fun a b=>rowLe a b=true) :
  (best k n l).2.map Tree.out=rows:=by
 have e:(best k n l).2=((trees n).filter fun t=>decide (t.all k l=(best k n l).1)).mergeSort fun a b=>rowLe a.out b.out:=by
  show (eD (fun x=>x.2) (oX _ ((trees n).map fun t=>(t.all k l,t)))).mergeSort _=_
  congr 1
  rw[zR,bx]
  refine (List.map_id'' (fun _=>rfl) _).trans (congrArg (fun p=>oX p (trees n)) (funext fun t=>?_))
  show (t.all k l==_)=_
  rw[eM]
  simp only[beq_iff_eq,decide_eq_true_eq]
  rfl
 rw[e]
 refine wL (((List.mergeSort_perm _ _).map _).trans hp.symm) ?_ hs
 rw[gm]
 exact E8 (le:=fun (a b:Tree)=>rowLe a.out b.out) (fun a b c h1 h2=>wM _ _ _ h1 h2) (fun a b=>by simpa using wN a.out b.out) _
theorem D7:∀ (l:List (Nat×Tree)) (m:Nat),l.foldl (fun (b:Nat) x=>min b x.1) m≤m∧(∀ x∈l,l.foldl (fun (b:Nat) x=>min b x.1) m≤x.1)∧(l.foldl (fun (b:Nat) x=>min b x.1) m=m∨∃ x∈l,l.foldl (fun (b:Nat) x=>min b x.1) m=x.1)
 | [],m=>⟨aL _,fun _ h=>by simp at h,.inl rfl⟩
 | y::l,m=>by
  obtain ⟨h1,h2,h3⟩:=D7 l (min m y.1)
  rw[d7]
  refine ⟨by omega,fun x hx=>?_,?_⟩
  ·rcases aI.mp hx with rfl | hx
   ·omega
   ·exact h2 x hx
  ·rcases h3 with h3 | ⟨x,hx,h3⟩
   ·by_cases q:m≤y.1
    ·exact .inl (by omega)
    ·exact .inr ⟨y,ax,by omega⟩
   ·exact .inr ⟨x,ao _ hx,h3⟩
theorem GY (k:ic)(n:Nat)(l:List Word){m:Nat}(h1:m∈(trees n).map fun t=>t.all k l)(h2:∀ t∈trees n,m≤t.all k l):(best k n l).1=m:=by
 obtain ⟨t,ht,rfl⟩:=aX.mp h1
 show ((trees n).map fun t=>(t.all k l,t)).foldl (fun (b:Nat) x=>min b x.1) ((((trees n).map fun t=>(t.all k l,t)).head?.map fun x=>x.1).getD 0)=_
 obtain ⟨q1,q2,q3⟩:=D7 ((trees n).map fun t=>(t.all k l,t)) ((((trees n).map fun t=>(t.all k l,t)).head?.map fun x=>x.1).getD 0)
 have low:=q2 (t.all k l,t) (aX.mpr ⟨t,ht,rfl⟩)
 have up:t.all k l≤((trees n).map fun t=>(t.all k l,t)).foldl (fun (b:Nat) x=>min b x.1) ((((trees n).map fun t=>(t.all k l,t)).head?.map fun x=>x.1).getD 0):=by
  rcases q3 with q | ⟨x,hx,q⟩
  ·rw[q]
   cases e:trees n with
   | nil=>rw[e] at ht;simp at ht
   | cons u r=>exact h2 u (by rw[e];exact ax)
  ·rw[q]
   obtain ⟨u,hu,rfl⟩:=aX.mp hx
   exact h2 u hu
 exact Nat.le_antisymm low up
theorem rK (l:ic):∀ (n:Nat) (x y:List qp),x.length+y.length≤n→besideFrom l n x y=besideFrom l (x.length+y.length) x y:=by
 intro n
 induction n using Nat.strongRecOn with
 | _ n ih =>
  intro x y h
  match n,x,y,h with
  | n,[],[],_=>cases n<;>rfl
  | 0,a::r,y,h=>simp at h
  | 0,[],b::s,h=>simp at h
  | n+1,a::r,[],h =>
   have e1:=ih n (dS n) r [] (by simp at h ⊢;omega)
   show (besideFrom l n r []).with_ (cost l a 1) (a,1)=(besideFrom l (r.length+0) r []).with_ (cost l a 1) (a,1)
   rw[e1];rfl
  | n+1,[],b::s,h =>
   have e1:=ih n (dS n) [] s (by simp at h ⊢;omega)
   have e2:([]:List qp).length+(b::s).length=s.length+1:=by simp
   rw[e2]
   show (besideFrom l n [] s).with_ (cost l 1 b) (1,b)=(besideFrom l s.length [] s).with_ (cost l 1 b) (1,b)
   rw[e1];simp
  | n+1,a::r,b::s,h =>
   have h':r.length+s.length+1≤n:=by simp at h;omega
   have e1:=ih n (dS n) r s (by omega)
   have e2:=ih n (dS n) r (b::s) (by simp;omega)
   have e3:=ih n (dS n) (a::r) s (by simp;omega)
   have e0:(a::r).length+(b::s).length=(r.length+s.length+1)+1:=by simp;omega
   rw[e0]
   have f1:=ih (r.length+s.length+1) (by omega) r s (by omega)
   have f2:=ih (r.length+s.length+1) (by omega) r (b::s) (by simp;omega)
   have f3:=ih (r.length+s.length+1) (by omega) (a::r) s (by simp;omega)
   show less ((besideFrom l n r s).with_ (cost l a b) (a,b)) (less ((besideFrom l n r (b::s)).with_ (cost l a 1) (a,1)) ((besideFrom l n (a::r) s).with_ (cost l 1 b) (1,b))) =
    less ((besideFrom l (r.length+s.length+1) r s).with_ (cost l a b) (a,b)) (less ((besideFrom l (r.length+s.length+1) r (b::s)).with_ (cost l a 1) (a,1)) ((besideFrom l (r.length+s.length+1) (a::r) s).with_ (cost l 1 b) (1,b)))
   rw[e1,e2,e3,f1,f2,f3]
def Pd (l:ic)(x y:List qp)(i j:Nat):Beside:=beside l (x.drop i) (y.drop j)
theorem EX (l:ic)(a:qp)(r:List qp):beside l (a::r) []=(beside l r []).with_ (cost l a 1) (a,1):=rfl
theorem CM (l:ic)(b:qp)(s:List qp):beside l [] (b::s)=(beside l [] s).with_ (cost l 1 b) (1,b):=by
 unfold beside
 have e2:([]:List qp).length+(b::s).length=s.length+1:=by simp
 rw[e2]
 show (besideFrom l s.length [] s).with_ (cost l 1 b) (1,b)=_
 simp
theorem EY (l:ic)(a b:qp)(r s:List qp):beside l (a::r) (b::s) =
  less ((beside l r s).with_ (cost l a b) (a,b)) (less ((beside l r (b::s)).with_ (cost l a 1) (a,1)) ((beside l (a::r) s).with_ (cost l 1 b) (1,b))):=by
 unfold beside
 have e0:(a::r).length+(b::s).length=(r.length+s.length+1)+1:=by simp;omega
 rw[e0]
 show less ((besideFrom l (r.length+s.length+1) r s).with_ (cost l a b) (a,b)) (less ((besideFrom l (r.length+s.length+1) r (b::s)).with_ (cost l a 1) (a,1)) ((besideFrom l (r.length+s.length+1) (a::r) s).with_ (cost l 1 b) (1,b)))=_
 rw[rK l (r.length+s.length+1) r s (by omega),rK l (r.length+s.length+1) r (b::s) (by simp;omega),rK l (r.length+s.length+1) (a::r) s (by simp;omega)]
def Jy (l:ic)(x y:List qp)(i j:Nat):List Beside:=match x[i]?,y[j]? with
 | some a,some b=>[(Pd l x y (i+1) (j+1)).with_ (cost l a b) (a,b)]
 | _,_=>[]
def LK (l:ic)(x y:List qp)(i j:Nat):List Beside:=match x[i]? with
 | some a=>[(Pd l x y (i+1) j).with_ (cost l a 1) (a,1)]
 | none=>[]
def Pz (l:ic)(x y:List qp)(i j:Nat):List Beside:=match y[j]? with
 | some b=>[(Pd l x y i (j+1)).with_ (cost l 1 b) (1,b)]
 | none=>[]
def zX (l:ic)(x y:List qp)(i j:Nat):List Beside:=if i=x.length∧j=y.length then [⟨0,1,[]⟩] else Jy l x y i j++LK l x y i j++Pz l x y i j
def iX (cs:List Beside):Nat:=match cs with
 | []=>0
 | c::r=>r.foldl (fun m b=>min m b.cost) c.cost
def i4 (m:Nat)(cs:List Beside):Beside:=⟨m,((cs.filter fun b=>decide (b.cost=m)).map (·.many)).sum,((cs.filter fun b=>decide (b.cost=m)).head?.map (·.first)).getD []⟩
def tT (cs:List Beside):Beside:=i4 (iX cs) cs
theorem F5 (a:Beside):tT [a]=a:=by
 show i4 a.cost [a]=a
 simp[i4]
theorem Uk (a b c:Beside):tT [a,b,c]=less a (less b c):=by
 have key:∀ m,iX [a,b,c]=m→tT [a,b,c]=i4 m [a,b,c]:=fun m e=>by unfold tT;rw[e]
 have lc:iX [a,b,c]=min (min a.cost b.cost) c.cost:=rfl
 obtain ⟨ca,ma,fa⟩:=a
 obtain ⟨cb,mb,fb⟩:=b
 obtain ⟨cc,mc,fc⟩:=c
 simp only[less]
 simp only at lc
 by_cases h1:cb<cc
 ·rw[if_pos h1]
  by_cases h2:ca<cb
  ·rw[if_pos h2,key ca (by omega)]
   simp[i4,show ¬ cb=ca by omega,show ¬ cc=ca by omega]
  ·rw[if_neg h2]
   by_cases h3:cb<ca
   ·rw[if_pos h3,key cb (by omega)]
    simp[i4,show ¬ ca=cb by omega,show ¬ cc=cb by omega]
   ·rw[if_neg h3,key ca (by omega)]
    simp[i4,show cb=ca by omega,show ¬ cc=ca by omega]
 ·rw[if_neg h1]
  by_cases h1':cc<cb
  ·rw[if_pos h1']
   by_cases h2:ca<cc
   ·rw[if_pos h2,key ca (by omega)]
    simp[i4,show ¬ cb=ca by omega,show ¬ cc=ca by omega]
   ·rw[if_neg h2]
    by_cases h3:cc<ca
    ·rw[if_pos h3,key cc (by omega)]
     simp[i4,show ¬ ca=cc by omega,show ¬ cb=cc by omega]
    ·rw[if_neg h3,key ca (by omega)]
     simp[i4,show ¬ cb=ca by omega,show cc=ca by omega]
  ·rw[if_neg h1']
   by_cases h2:ca<cb
   ·rw[if_pos h2,key ca (by omega)]
    simp[i4,show ¬ cb=ca by omega,show ¬ cc=ca by omega]
   ·rw[if_neg h2]
    by_cases h3:cb<ca
    ·rw[if_pos h3,key cb (by omega)]
     simp[i4,show ¬ ca=cb by omega,show cc=cb by omega]
    ·rw[if_neg h3,key ca (by omega)]
     simp[i4,show cb=ca by omega,show cc=ca by omega]
theorem Oz (l:ic)(x y:List qp){i j:Nat}(hi:i≤x.length)(hj:j≤y.length):tT (zX l x y i j)=Pd l x y i j:=by
 unfold zX Jy LK Pz Pd
 by_cases h:i=x.length∧j=y.length
 ·rw[if_pos h,F5,h.1,h.2,qc,qc]
  rfl
 ·rw[if_neg h]
  by_cases h1:i<x.length
  ·have ex:x[i]?=some x[i]:=aD h1
   have dx:x.drop i=x[i]::x.drop (i+1):=dz h1
   by_cases h2:j<y.length
   ·have ey:y[j]?=some y[j]:=aD h2
    have dy:y.drop j=y[j]::y.drop (j+1):=dz h2
    rw[ex,ey,dx,dy,EY]
    exact Uk _ _ _
   ·have ey:y[j]?=none:=bJ (by omega)
    have dy:y.drop j=[]:=qE (by omega)
    rw[ex,ey,dx,dy,EX]
    exact F5 _
  ·have ex:x[i]?=none:=bJ (by omega)
   have dx:x.drop i=[]:=qE (by omega)
   have h2:j<y.length:=by omega
   have ey:y[j]?=some y[j]:=aD h2
   have dy:y.drop j=y[j]::y.drop (j+1):=dz h2
   rw[ex,ey,dx,dy,CM]
   exact F5 _
theorem zE (l:ic):∀ (n:Nat) (x y:List qp),(besideFrom l n x y).first.length≤n:=by
 intro n
 induction n with
 | zero=>intro x y;simp[besideFrom]
 | succ n ih =>
  intro x y
  match x,y with
  | [],[]=>simp[besideFrom]
  | a::r,[]=>simpa [besideFrom,Beside.with_] using ih r []
  | [],b::s=>simpa [besideFrom,Beside.with_] using ih [] s
  | a::r,b::s =>
   have q:∀ u v:Beside,u.first.length≤n+1→v.first.length≤n+1→(less u v).first.length≤n+1:=by
    intro u v hu hv
    unfold less
    split
    ·exact hu
    ·split
     ·exact hv
     ·exact hu
   have w:∀ (u:Beside) c p,u.first.length≤n→(u.with_ c p).first.length≤n+1:=by
    intro u c p h
    simpa [Beside.with_] using h
   exact q _ _ (w _ _ _ (ih _ _)) (q _ _ (w _ _ _ (ih _ _)) (w _ _ _ (ih _ _)))
def yx (had:List (lR×Nat))(c:lR)(k:Nat):Bool:=had.all fun x=>x.2 != k||share x.1 c
def gj (lim:Nat):List (lR×Nat)→Nat→List lR→Option (List Nat)
 | _,_,[]=>some []
 | had,n,c::l=>(br (min lim (n+1))).findSome? fun k =>
   if yx had c k=true then (gj lim (had++[(c,k)]) (if k=n then n+1 else n) l).map fun r=>k::r else none
theorem vg {α β:Type}(p:β→Bool)(f:α→List β):∀ l:List α,(l.flatMap f).find? p=l.findSome? fun a=>(f a).find? p
 | []=>rfl
 | a::l=>by
  rw[bQ,List.find?_append,eB,vg p f l]
  cases (f a).find? p<;>rfl
theorem tE (p:List Nat→Bool)(k:Nat)(q:List Nat→Bool)(h:∀ r,p (k::r)=q r)(L:List (List Nat)):(L.map fun r=>k::r).find? p=(L.find? q).map fun r=>k::r:=by
 induction L with
 | nil=>rfl
 | cons a L ih =>
  rw[bq,cJ,cJ,h a]
  cases q a with
  | true=>rfl
  | false=>exact ih
theorem rQ {α β:Type}{f g:α→Option β}:∀ {l:List α},(∀ a∈l,f a=g a)→l.findSome? f=l.findSome? g
 | [],_=>rfl
 | a::l,h=>by
  rw[eB,eB,h a ax,rQ fun b hb=>h b (ao _ hb)]
theorem iK {α β:Type}{f:α→Option β}:∀ {l:List α},(∀ a∈l,f a=none)→l.findSome? f=none
 | [],_=>rfl
 | a::l,h=>by
  rw[eB,h a ax]
  exact iK fun b hb=>h b (ao _ hb)
theorem pI (lim:Nat):∀ (l:List lR) (had:List (lR×Nat)) (n:Nat),gj lim had n l=(namingsFrom had n l).find? fun r=>r.all fun k=>decide (k<lim)
 | [],had,n=>rfl
 | c::l,had,n=>by
  show ((br (min lim (n+1))).findSome? fun k=>if yx had c k=true then (gj lim (had++[(c,k)]) (if k=n then n+1 else n) l).map fun r=>k::r else none) =
   ((br (n+1)).flatMap fun k=>if (had.all fun x=>x.2 != k||share x.1 c)=true then (namingsFrom (had++[(c,k)]) (if k=n then n+1 else n) l).map fun r=>k::r else []).find? _
  rw[vg]
  have e:br (n+1)=br (min lim (n+1))++(br ((n+1) - min lim (n+1))).map (min lim (n+1)+·):=by
   rw[← SE]
   congr 1
   omega
  rw[e,sO]
  have z:((br ((n+1) - min lim (n+1))).map (min lim (n+1)+·)).findSome? (fun k=>(if (had.all fun x=>x.2 != k||share x.1 c)=true then (namingsFrom (had++[(c,k)]) (if k=n then n+1 else n) l).map fun r=>k::r else []).find? fun r=>r.all fun k=>decide (k<lim))=none:=by
   refine iK fun k hk=>?_
   obtain ⟨d,hd,rfl⟩:=aX.mp hk
   have hd':=dN.mp hd
   have hl:¬ (min lim (n+1)+d<lim):=by omega
   split
   ·rw[tE _ _ (fun _=>false) (fun r=>by simp only[jH,decide_eq_false hl,iw])]
    simp
   ·rfl
  rw[z,Option.or_none]
  refine rQ fun k hk=>?_
  have hk':k<lim:=by have:=dN.mp hk;omega
  show (if yx had c k=true then _ else _)=(if yx had c k=true then _ else _:List (List Nat)).find? _
  split
  ·rw[tE _ _ (fun r=>r.all fun k=>decide (k<lim)) (fun r=>by simp only[jH,decide_eq_true hk',jI]),pI lim l]
  ·rfl
theorem yP:∀ (r:List Nat) (m:Nat),r.foldl (fun m k=>max m (k+1)) m=max m (olds r)
 | [],m=>by simp[olds]
 | k::r,m=>by
  unfold olds
  rw[d7,d7,yP r,yP r]
  omega
theorem lY (k:Nat)(r:List Nat):olds (k::r)=max (k+1) (olds r):=by
 unfold olds
 rw[d7,yP r]
 unfold olds
 omega
theorem rZ (lim:Nat):∀ r:List Nat,(r.all fun k=>decide (k<lim))=decide (olds r≤lim)
 | []=>by simp[olds]
 | k::r=>by
  rw[jH,rZ lim r,lY]
  by_cases h1:k<lim<;>by_cases h2:olds r≤lim<;>simp[h1,h2]<;>omega
theorem ud {α:Type}(f:α→Nat):∀ (l:List α) (a:α),l.foldl (fun (b:Option α) r=>match b with
  | none=>some r
  | some m=>if f r<f m then some r else some m) (some a)=(a::l).find? fun r=>decide (∀ x∈a::l,f r≤f x)
 | [],a=>by simp
 | b::l,a=>by
  rw[d7]
  show l.foldl _ (if f b<f a then some b else some a)=_
  by_cases h:f b<f a
  ·rw[if_pos h,ud f l b]
   have n:¬ ∀ x∈a::b::l,f a≤f x:=fun q=>by
    have:=q b (by simp)
    omega
   rw[cJ (a:=a),decide_eq_false n]
   refine congrArg (fun p=>List.find? p (b::l)) (funext fun r=>decide_eq_decide.mpr ⟨fun q x hx=>?_,fun q x hx=>q x (ao _ hx)⟩)
   rcases aI.mp hx with rfl | hx
   ·have:=q b ax
    omega
   ·exact q x hx
  ·rw[if_neg h,ud f l a,cJ,cJ]
   have d1:decide (∀ x∈a::b::l,f a≤f x)=decide (∀ x∈a::l,f a≤f x):=decide_eq_decide.mpr ⟨fun q x hx=>q x (by simp at hx ⊢;rcases hx with rfl | hx<;>simp[*]),fun q x hx=>by
    simp only[aI] at hx
    rcases hx with rfl | rfl | hx
    ·exact aL _
    ·omega
    ·exact q x (ao _ hx)⟩
   rw[d1]
   by_cases hm:∀ x∈a::l,f a≤f x
   ·rw[decide_eq_true hm]
   ·rw[decide_eq_false hm]
    simp only
    rw[cJ]
    have nb:¬ ∀ x∈a::b::l,f b≤f x:=fun q=>hm fun x hx=>by
     rcases aI.mp hx with rfl | hx
     ·exact aL _
     ·have:=q x (by simp[hx])
      have:=q a (by simp)
      omega
    rw[decide_eq_false nb]
    refine congrArg (fun p=>List.find? p l) (funext fun r=>decide_eq_decide.mpr ⟨fun q x hx=>?_,fun q x hx=>q x (by simp at hx ⊢;rcases hx with rfl | hx<;>simp[*])⟩)
    simp only[aI] at hx
    rcases hx with rfl | rfl | hx
    ·exact q _ (by simp)
    ·have:=q a (by simp)
     omega
    ·exact q _ (by simp[hx])
theorem zk:∀ (l:List lR) (had:List (lR×Nat)) (n:Nat),(∀ x∈had,x.2<n)→namingsFrom had n l≠[]
 | [],_,_,_=>by simp[namingsFrom]
 | c::l,had,n,h=>by
  have ih:=zk l (had++[(c,n)]) (n+1) (fun x hx=>by
   rcases bu.mp hx with hx | hx
   ·exact dG (h x hx)
   ·rw[bE.mp hx];exact dS n)
  have ok:(had.all fun x=>x.2 != n||share x.1 c)=true:=dO.mpr fun x hx=>by
   have:=h x hx
   simp[show ¬ x.2=n by omega]
  intro e
  unfold namingsFrom at e
  rw[List.flatMap_eq_nil_iff] at e
  have:=e n (dN.mpr (dS n))
  rw[if_pos ok,if_pos rfl,Ls] at this
  exact ih this
theorem zm:∀ (l:List lR) (had:List (lR×Nat)) (n:Nat) (r:List Nat),r∈namingsFrom had n l→r.length=l.length
 | [],_,_,r,h=>by
  rw[namingsFrom,bE] at h
  subst h
  rfl
 | c::l,had,n,r,h=>by
  unfold namingsFrom at h
  obtain ⟨k,_,hk⟩:=qb.mp h
  split at hk
  ·obtain ⟨r',dU,rfl⟩:=aX.mp hk
   simp[zm l _ _ r' dU]
  ·simp at hk
theorem wR:∀ (l:List lR) (had:List (lR×Nat)) (n:Nat) (r:List Nat),r∈namingsFrom had n l→olds r≤n+l.length
 | [],_,_,r,h=>by
  rw[namingsFrom,bE] at h
  rw[h];simp[olds]
 | c::l,had,n,r,h=>by
  unfold namingsFrom at h
  obtain ⟨k,hk0,hk⟩:=qb.mp h
  have hk1:=dN.mp hk0
  split at hk
  ·obtain ⟨r',dU,rfl⟩:=aX.mp hk
   have:=wR l _ _ r' dU
   rw[lY,aU]
   split at this<;>omega
  ·simp at hk
theorem oS (l:List lR):∃ r,fewest l=r∧r∈namings l∧(namings l).find? (fun x=>x.all fun k=>decide (k<olds r))=some r∧∀ x∈namings l,olds r≤olds x:=by
 have ne:namings l≠[]:=zk l [] 0 (fun _ h=>by simp at h)
 obtain ⟨a,L,e⟩:∃ a L,namings l=a::L:=by
  cases h:namings l with
  | nil=>exact absurd h ne
  | cons a L=>exact ⟨a,L,rfl⟩
 have f:fewest l=((a::L).find? fun r=>decide (∀ x∈a::L,olds r≤olds x)).getD []:=by
  unfold fewest
  rw[e,d7]
  refine congrArg (fun o=>Option.getD o []) (Eq.trans ?_ (ud olds L a))
  show L.foldl _ (some a)=_
  congr 1
  funext b r
  cases b<;>rfl
 have ex:∃ r∈a::L,∀ x∈a::L,olds r≤olds x:=by
  clear f e ne
  induction L generalizing a with
  | nil=>exact ⟨a,by simp,by simp⟩
  | cons b L ih =>
   obtain ⟨r,hr,q⟩:=ih b
   by_cases h:olds a≤olds r
   ·exact ⟨a,by simp,fun x hx=>by
     rcases aI.mp hx with rfl | hx
     ·exact aL _
     ·exact aB h (q x hx)⟩
   ·exact ⟨r,ao _ hr,fun x hx=>by
     rcases aI.mp hx with rfl | hx
     ·omega
     ·exact q x hx⟩
 obtain ⟨r0,qF,q0⟩:=ex
 cases g:(a::L).find? fun r=>decide (∀ x∈a::L,olds r≤olds x) with
 | none =>
  have:=nI.mp g r0 qF
  exact absurd (decide_eq_true q0) this
 | some r =>
  have hm:=CT g
  have hp:∀ x∈a::L,olds r≤olds x:=by
   have:=List.find?_some g
   simpa only [decide_eq_true_eq] using this
  refine ⟨r,by rw[f,g];rfl,by rw[e];exact hm,?_,by rw[e];exact hp⟩
  rw[e,← g]
  have:∀ x∈a::L,(x.all fun k=>decide (k<olds r))=decide (∀ y∈a::L,olds x≤olds y):=fun x hx=>by
   rw[rZ]
   exact decide_eq_decide.mpr ⟨fun h y hy=>aB h (hp y hy),fun h=>h r hm⟩
  clear g f e ne hp hm q0 qF
  generalize a::L=M at this ⊢
  have:∀ (N:List (List Nat)),(∀ x∈N,x∈M)→N.find? (fun x=>x.all fun k=>decide (k<olds r))=N.find? fun x=>decide (∀ y∈M,olds x≤olds y):=by
   intro N
   induction N with
   | nil=>intro _;rfl
   | cons b N ih =>
    intro h
    rw[cJ,cJ,this b (h b ax),ih fun x hx=>h x (ao _ hx)]
  exact this M fun _ h=>h
theorem Ap (l:List lR)(lim:Nat)(h:lim<olds (fewest l)):gj lim [] 0 l=none:=by
 obtain ⟨r,e,hm,_,q⟩:=oS l
 rw[e] at h
 rw[pI]
 refine nI.mpr fun x hx=>?_
 rw[rZ]
 have:=q x hx
 simp only[decide_eq_true_eq]
 omega
theorem S7 (l:List lR):gj (olds (fewest l)) [] 0 l=some (fewest l):=by
 obtain ⟨r,e,hm,g,q⟩:=oS l
 rw[e,pI]
 exact g
theorem zB (l:List lR):(fewest l).length=l.length:=by
 obtain ⟨r,e,hm,_,_⟩:=oS l
 rw[e]
 exact zm l [] 0 r hm
theorem wZ (l:List lR):olds (fewest l)≤l.length:=by
 obtain ⟨r,e,hm,_,_⟩:=oS l
 rw[e]
 have:=wR l [] 0 r hm
 omega
def HM (n:Nat)(ch:List Nat):List Nat:=sZ (olds ch) (n - olds ch)
def oneMore (n:Nat)(cs:List (List Nat)):List (List Nat):=cs.flatMap fun ch=>(HM n ch).map fun x=>ch++[x]
def ch (k a f:Nat):List (List Nat):=choose k f (sZ a f)
theorem x9 (a f:Nat):ch 0 a f=[[]]:=by unfold ch;cases f<;>rfl
theorem Je (k a:Nat):ch (k+1) a 0=[]:=rfl
theorem ya (k a f:Nat):ch (k+1) a (f+1)=(ch k (a+1) f).map (fun r=>a::r)++ch (k+1) (a+1) f:=rfl
theorem MN:∀ (f k a:Nat) (r:List Nat),r∈ch (k+1) a f→a<olds r
 | 0,k,a,r,h=>by rw[Je] at h;simp at h
 | f+1,k,a,r,h=>by
  rw[ya,bu] at h
  rcases h with h | h
  ·obtain ⟨x,_,rfl⟩:=aX.mp h
   rw[lY];omega
  ·have:=MN f k (a+1) r h
   omega
def wA (a n:Nat)(c:List Nat):List Nat:=sZ (max a (olds c)) (n - max a (olds c))
theorem uL:∀ (f k a:Nat),ch (k+1) a f=(ch k a f).flatMap fun c=>(wA a (a+f) c).map fun x=>c++[x]
 | 0,0,a=>by
  rw[Je,x9]
  have e:a - max a (olds [])=0:=by omega
  simp[wA,e]
 | 0,k+1,a=>rfl
 | f+1,0,a=>by
  rw[ya,x9,x9,uL f 0 (a+1),x9]
  have e0:olds []=0:=rfl
  simp only[bq,fH,bQ,lB,bY,RQ,wA,e0,Nat.max_zero]
  rw[show a+(f+1) - a=f+1 by omega,Pl,show a+1+f - (a+1)=f by omega]
  rfl
 | f+1,k+1,a=>by
  rw[ya (k+1),ya k,uL f k (a+1),uL f (k+1) (a+1),gF,Pq,List.map_flatMap]
  rw[show a+(f+1)=a+1+f by omega]
  refine congr (congrArg LH ?_) ?_
  ·refine congrArg (fun g=>List.flatMap g (ch k (a+1) f)) (funext fun c=>?_)
   rw[bx]
   have e:wA a (a+1+f) (a::c)=wA (a+1) (a+1+f) c:=by
    unfold wA
    rw[lY,show max a (max (a+1) (olds c))=max (a+1) (olds c) by omega]
   rw[e]
   rfl
  ·rw[← uL f k (a+1)]
   have h:=fun r hr=>MN f k (a+1) r hr
   revert h
   generalize ch (k+1) (a+1) f=L
   intro h
   induction L with
   | nil=>rfl
   | cons r L ih =>
    have:=h r ax
    rw[bQ,bQ,ih fun x hx=>h x (ao _ hx)]
    congr 1
    unfold wA
    rw[show max (a+1) (olds r)=max a (olds r) by omega]
theorem EU (n m:Nat):choose (m+1) n (br n)=oneMore n (choose m n (br n)):=by
 have h:=uL n m 0
 unfold ch at h
 rw[← tH,mR] at h
 rw[h]
 unfold oneMore
 refine congrArg (fun g=>List.flatMap g _) (funext fun c=>?_)
 unfold wA HM
 rw[Nat.zero_max]
theorem CJ (n:Nat):choose 0 n (br n)=[[]]:=by cases n<;>rfl
theorem pN:∀ (k f:Nat) (l r:List Nat),r∈choose k f l→r.length=k∧∀ x∈r,x∈l
 | 0,f,l,r,h=>by
  have:r=[]:=by cases f<;>cases l<;>simpa [choose] using h
  subst this;simp
 | k+1,0,l,r,h=>by simp[choose] at h
 | k+1,f+1,[],r,h=>by simp[choose] at h
 | k+1,f+1,i::l,r,h=>by
  rw[choose,bu] at h
  rcases h with h | h
  ·obtain ⟨q,hq,rfl⟩:=aX.mp h
   obtain ⟨h1,h2⟩:=pN k f l q hq
   refine ⟨by simp[h1],fun x hx=>?_⟩
   rcases aI.mp hx with e | hx
   ·rw[e];exact ax
   ·exact ao _ (h2 x hx)
  ·obtain ⟨h1,h2⟩:=pN (k+1) f l r h
   exact ⟨h1,fun x hx=>ao _ (h2 x hx)⟩
theorem uf:∀ (k f:Nat) (l:List Nat),(choose k f l).length≤2 ^ f
 | 0,f,l=>by cases f<;>cases l<;>simp[choose]<;>exact Nat.one_le_two_pow
 | k+1,0,l=>by simp[choose]
 | k+1,f+1,[]=>by simp[choose]
 | k+1,f+1,i::l=>by
  rw[choose,aK,ae]
  have:=uf k f l
  have:=uf (k+1) f l
  rw[Nat.pow_succ]
  omega
theorem rJ:∀ (f:Nat) (l:List Nat) (k:Nat),l.length<k→choose k f l=[]
 | _,_,0,h=>by omega
 | 0,l,k+1,_=>by cases l<;>rfl
 | f+1,[],k+1,_=>rfl
 | f+1,x::l,k+1,q=>by
  have q':l.length<k:=by simpa using q
  rw[choose,rJ f l k q',rJ f l (k+1) (by omega)]
  rfl
theorem zD:∀ (l:List Nat),choose l.length l.length l=[l]
 | []=>rfl
 | i::l=>by
  show (choose l.length l.length l).map _++choose (l.length+1) l.length l=_
  rw[zD l,rJ _ l (l.length+1) (by omega)]
  rfl
theorem Gg (lim:Nat)(l:List lR):(gj lim [] 0 l).isSome=decide (olds (fewest l)≤lim):=by
 by_cases h:olds (fewest l)≤lim
 ·rw[decide_eq_true h,pI,List.find?_isSome]
  obtain ⟨r,e,hr,_,_⟩:=oS l
  refine ⟨r,hr,?_⟩
  rw[rZ,← e]
  exact decide_eq_true h
 ·rw[decide_eq_false h,Ap l lim (by omega)]
  rfl
theorem Ey (l:List Word):without l (br l.length)=[]:=by
 unfold without
 rw[Ls,kF]
 rintro ⟨w,i⟩ h
 have:=List.snd_lt_of_mem_zipIdx h
 simpa using by omega
theorem N6 (l:List Word)(k m:Nat)(r:List Nat)(hm:m≤l.length)(hb:∀ j<m,∀ o∈choose j l.length (br l.length),¬ olds (fewest (patterns (without l o)))≤k)
  (hr:(choose m l.length (br l.length)).find? (fun o=>decide (olds (fewest (patterns (without l o)))≤k))=some r):leaveOut l k=r:=by
 unfold leaveOut
 have e:(br (l.length+1)).findSome? (fun m=>(choose m l.length (br l.length)).find? fun o=>decide (olds (fewest (patterns (without l o)))≤k))=some r:=by
  have sp:br (l.length+1)=br m++m::sZ (m+1) (l.length - m):=by
   rw[tH,tH,← Pl,show l.length - m+1=l.length+1 - m by omega]
   have:=List.range'_append_1 (s:=0) (m:=m) (n:=l.length+1 - m)
   rw[mR] at this
   rw[this,show m+(l.length+1 - m)=l.length+1 by omega]
  rw[sp,sO,iK,eB,hr]
  ·rfl
  ·intro j hj
   rw[nI]
   intro o ho
   simpa using hb j (dN.mp hj) o ho
 rw[e]
 rfl
def xE (i:Nat)(c:bM):Option Nat:=match c.sounds[i]? with
 | some s=>if s=0 then none else some s
 | none=>none
def uz (e i:Nat)(c:bM):Option Nat:=if c.env=e then xE i c else none
def j3 (cs:List bM)(e i:Nat):Nat:=(cs.findSome? (uz e i)).getD 0
def group (l:List lR)(r:List Nat)(k:Nat):List lR:=((l.zip r).filter fun x=>x.2==k).map (·.1)
theorem AI (l:List lR)(r:List Nat)(n k e:Nat):reflex l r n k e=(br n).map fun i=>j3 (group l r k) e i:=by
 unfold reflex j3 group
 refine dt fun i _=>?_
 congr 1
 induction l.zip r with
 | nil=>rfl
 | cons x L ih =>
  rw[cG,cG]
  by_cases h:x.2=k
  ·by_cases h2:x.1.env=e
   ·rw[if_pos (by simp[h,h2]),if_pos (by simp[h]),eB,bq,eB,ih]
    have:uz e i x.1=xE i x.1:=if_pos h2
    rw[this]
    rfl
   ·rw[if_neg (by simp[h2]),if_pos (by simp[h]),bq,eB,ih]
    have:uz e i x.1=none:=if_neg h2
    rw[this]
  ·rw[if_neg (by simp[h]),if_neg (by simp[h]),ih]
theorem IV (l:List lR)(r:List Nat)(k:Nat):envsOf l r k=(((group l r k).map (·.env)).mergeSort fun a b=>decide (a≤b)).eraseDups:=by
 unfold envsOf group
 rw[bx]
 rfl
def groups (l:List lR)(r:List Nat)(n:Nat):List (List lR):=(br n).map (group l r)
theorem GP {l:List lR}{r:List Nat}{i:Nat}{c:lR}{x:Nat}(hl:l[i]?=some c)(hr:r[i]?=some x)(k:Nat):group (l.take (i+1)) (r.take (i+1)) k=group (l.take i) (r.take i) k++(if x=k then [c] else []):=by
 have z:(l.take (i+1)).zip (r.take (i+1))=(l.take i).zip (r.take i)++[(c,x)]:=by
  obtain ⟨h1,e1⟩:=bV.mp hl
  obtain ⟨h2,e2⟩:=bV.mp hr
  rw[oZ,oZ,hl,hr]
  show (l.take i++[c]).zip (r.take i++[x])=_
  rw[List.zip_append (by rw[bP,bP];omega)]
  rfl
 unfold group
 rw[z,gQ,ba]
 congr 1
 rw[cG]
 by_cases h:x=k
 ·rw[if_pos (by simp[h]),if_pos h];rfl
 ·rw[if_neg (by simp[h]),if_neg h];rfl
theorem AZ {l:List lR}{r:List Nat}{k:Nat}{c:lR}(h:c∈group l r k):c∈l:=by
 obtain ⟨⟨a,b⟩,h1,rfl⟩:=aX.mp h
 exact (iS (fL.mp h1).1).1
theorem wK:∀ {l m:List Nat},l.Perm m→l.Pairwise (·≤·)→m.Pairwise (·≤·)→l=m
 | [],m,p,_,_=>by rw[List.nil_perm.mp p]
 | a::l,[],p,_,_=>absurd p.length_eq (by simp)
 | a::l,b::m,p,hl,hm=>by
  obtain ⟨h1,h2⟩:=dH.mp hl
  obtain ⟨g1,g2⟩:=dH.mp hm
  have e:a=b:=by
   rcases aI.mp (p.mem_iff.mp ax) with q | q
   ·exact q
   ·rcases aI.mp (p.mem_iff.mpr ax) with q' | q'
    ·exact q'.symm
    ·have:=h1 b q'
     have:=g1 a q
     omega
  subst e
  rw[wK ((Bf a).mp p) h2 g2]
theorem rA:∀ {l m:List Nat},l.Nodup→(∀ x∈l,x∈m)→m.length=l.length→m.Perm l
 | [],m,_,_,h=>by rw[df.mp h]
 | a::l,m,hn,hs,h=>by
  obtain ⟨n1,n2⟩:=fj.mp hn
  have ha:=hs a ax
  have p:=List.perm_cons_erase ha
  refine p.trans ((rA n2 (fun x hx=>?_) ?_).cons a)
  ·have hne:x≠a:=fun e=>n1 (e▸hx)
   exact (tJ hne).mpr (hs x (ao _ hx))
  ·rw[o7 ha,h]
   rfl
theorem P2 (n:Nat)(t:Tree)(s:List Nat)(hp:s.Perm t.leaves)(hs:s.Pairwise (·≤·)):treeOk n t=decide (s=br n):=by
 rw[eM,decide_eq_true_eq]
 unfold treeOk
 rw[bA,beq_iff_eq,dO]
 constructor
 ·rintro ⟨h1,h2⟩
  have p:=rA (l:=br n) (m:=t.leaves) Pn (fun x hx=>gW.mp (h2 x hx)) (by rw[c6,h1])
  exact wK (hp.trans p) hs (qD.imp fun h=>kR h)
 ·rintro rfl
  refine ⟨by rw[← hp.length_eq,c6],fun x hx=>gW.mpr (hp.mem_iff.mp hx)⟩
end Sk
namespace L2
open PySem PySem.Spec PyProof.Rows
abbrev Key:=Sum Int bZ
def jV:Key→ag→Bool
 | .inl k,v=>ag.isInt k v
 | .inr x,v=>ag.isStrOf x v
def WK (w:bK):Key→Int
 | .inl k=>hashInt k
 | .inr x=>hashStr w x
theorem d6:∀ {k:Key} {v:ag},jV k v=true→(∃ i t,k=gK i∧v=ag.int i t)∨(∃ x t,k=uq x∧v=ag.str x t)
 | .inl i,v,h=>by
  obtain ⟨t,e⟩:=ag.isInt_shape (k:=i) (v:=v) h
  exact .inl ⟨i,t,rfl,e⟩
 | .inr x,v,h=>by
  obtain ⟨t,e⟩:=ag.isStrOf_shape (x:=x) (v:=v) h
  exact .inr ⟨x,t,rfl,e⟩
theorem KD (i:Int)(t:Tok):jV (.inl i) (.int i t)=true:=by simp[jV,ag.isInt]
theorem KC (x:bZ)(t:Tok):jV (.inr x) (.str x t)=true:=by simp[jV,ag.isStrOf]
theorem MC (a b:Int):decide ((gK a:Key)=gK b)=(a==b):=by
 by_cases e:a=b
 ·subst e;simp
 ·have h:¬ (gK a:Key)=gK b:=fun q=>e (Sy q)
  rw[decide_eq_false h]
  exact (beq_eq_false_iff_ne.mpr e).symm
theorem Mz (a b:bZ):decide ((uq a:Key)=uq b)=decide (a=b):=by
 by_cases e:a=b
 ·subst e;simp
 ·have h:¬ (uq a:Key)=uq b:=fun q=>e (Sx q)
  rw[decide_eq_false h,decide_eq_false e]
theorem MB (a:Int)(b:bZ):decide ((gK a:Key)=uq b)=false:=decide_eq_false (fun q=>nomatch q)
theorem MA (a:bZ)(b:Int):decide ((uq a:Key)=gK b)=false:=decide_eq_false (fun q=>nomatch q)
def dZ (prog:aV)(w:bK):PySem.KeyKind prog w Key where
 is:=jV
 hash:=WK w
 inj:=fun v a b ha hb=>by
  rcases d6 ha with ⟨i,t,rfl,rfl⟩ | ⟨x,t,rfl,rfl⟩
  ·rcases d6 hb with ⟨j,u,rfl,e⟩ | ⟨y,u,rfl,e⟩
   ·injection e with e1 _;rw[e1]
   ·exact nomatch e
  ·rcases d6 hb with ⟨j,u,rfl,e⟩ | ⟨y,u,rfl,e⟩
   ·exact nomatch e
   ·injection e with e1 _;rw[e1]
 byValue:=fun k v h=>by
  rcases d6 h with ⟨i,t,rfl,rfl⟩ | ⟨x,t,rfl,rfl⟩<;>rfl
 pyHash:=fun hv h=>by
  rcases d6 hv with ⟨i,t,rfl,rfl⟩ | ⟨x,t,rfl,rfl⟩
  ·exact wpAny_pyHash_int h
  ·exact wpAny_pyHash_str h
 eqBool:=fun hu hv h=>by
  rcases d6 hu with ⟨i,t,rfl,rfl⟩ | ⟨x,t,rfl,rfl⟩
  ·rcases d6 hv with ⟨j,u,rfl,rfl⟩ | ⟨y,u,rfl,rfl⟩
   ·rw[MC] at h;exact wpAny_eqBool_int h
   ·rw[MB] at h;exact C5 i t y u _ _ _ _ h
  ·rcases d6 hv with ⟨j,u,rfl,rfl⟩ | ⟨y,u,rfl,rfl⟩
   ·rw[MA] at h;exact C4 x t j u _ _ _ _ h
   ·rw[Mz] at h;exact wpAny_eqBool_str h
 «strs»:=fun k x t v h=>by
  rcases d6 h with ⟨i,u,rfl,e⟩ | ⟨y,u,rfl,e⟩
  ·exact nomatch e
  ·injection e with e1 _
   subst e1
   cases v<;>rfl
theorem EK (prog:aV)(w:bK)(i:Int)(t:Tok):(dZ prog w).is (.inl i) (.int i t)=true:=KD i t
theorem EJ (prog:aV)(w:bK)(x:bZ)(t:Tok):(dZ prog w).is (.inr x) (.str x t)=true:=KC x t
abbrev eF:=Sum Key (List Key)
theorem bC {α β:Type}{R:α→β→Prop}:∀ {l:List α} {m:List β},Paired R l m→l.length=m.length
 | _,_,.nil=>rfl
 | _,_,.cons _ t=>congrArg (·+1) (bC t)
theorem kL {α β:Type}{R:α→β→Prop}:∀ {l:List α} {m:List β} {i:Nat} {b:β},Paired R l m→m[i]?=some b→∃ a,l[i]?=some a∧R a b
 | _,_,i,_,.nil,h=>by simp at h
 | _,_,0,_,.cons r _,h=>by
  cases aH h
  exact ⟨_,rfl,r⟩
 | _,_,i+1,_,.cons _ t,h=>kL (i:=i) t h
theorem Gu {α:Type}[DecidableEq α](x y:List α):((br (min x.length y.length)).all (fun j=>decide (x[j]?=y[j]?))&&x.length==y.length)=decide (x=y):=by
 rw[eM,bA,dO,decide_eq_true_iff,beq_iff_eq]
 constructor
 ·rintro ⟨h,hl⟩
  refine o3 fun j=>?_
  by_cases hj:j<x.length
  ·exact of_decide_eq_true (h j (dN.mpr (by omega)))
  ·rw[bJ (by omega),bJ (by omega)]
 ·rintro rfl
  exact ⟨fun _ _=>decide_eq_true rfl,rfl⟩
section
variable {A:cC}{s:au}
theorem DB {α:Type}[DecidableEq α]{R:α→ag→Prop}{a b:aj}{its jts:Array ag}{x y:List α}(hu:A.units<cLine)(he:∀ p q u v,R p u→R q v→mP A.in1 s u v (decide (p=q)))
  (ha:s.heap.IsTuple a its)(hb:s.heap.IsTuple b jts)(hx:Paired R x its.toList)(hy:Paired R y jts.toList)(same:a=b→x=y):mP A s (.ref a) (.ref b) (decide (x=y)):=by
 by_cases hab:a=b
 ·rw[decide_eq_true (same hab),hab]
  exact Hi _
 ·have lx:x.length=its.size:=(bC hx).trans cO
  have ly:y.length=jts.size:=(bC hy).trans cO
  rw[← Gu,lx,ly]
  refine mP.of_refs hab (SeqAt.RcAt.tuples ha hb hu fun j h1 h2=>?_)
  obtain ⟨p,hp,rp⟩:=kL hx (i:=j) (b:=its[j]) (by simp[h1])
  obtain ⟨q,hq,rq⟩:=kL hy (i:=j) (b:=jts[j]) (by simp[h2])
  rw[hp,hq]
  have e:decide (some p=some q)=decide (p=q):=decide_eq_decide.mpr ⟨aH,congrArg _⟩
  rw[e]
  exact he p q _ _ rp rq
theorem Ec {j k:Key}{u v:ag}(hj:jV j u=true)(hk:jV k v=true):mP A s u v (decide (j=k)):=by
 rcases d6 hj with ⟨m,t,rfl,rfl⟩ | ⟨x,t,rfl,rfl⟩
 ·rcases d6 hk with ⟨n,r,rfl,rfl⟩ | ⟨y,r,rfl,rfl⟩
  ·rw[MC];exact .int_int _ _ _ _
  ·rw[MB];exact .int_str _ _ _ _
 ·rcases d6 hk with ⟨n,r,rfl,rfl⟩ | ⟨y,r,rfl,rfl⟩
  ·rw[MA];exact .str_int _ _ _ _
  ·rw[Mz]
   have e:(x==y)=decide (x=y):=by
    by_cases z:x=y
    ·subst z;simp
    ·rw[decide_eq_false z];exact beq_eq_false_iff_ne.mpr z
   rw[← e];exact .str_str _ _ _ _
theorem Ar {prog:aV}{w:bK}{E:ag→au→Prop}{a:aj}{its:Array ag}{d:Nat}{Q:Bool→au→Prop}(ha:s.heap.IsTuple a its)
  (hi:∀ v∈its.toList,∀ Q':Bool→au→Prop,Q' true s→wpAny (model prog w) A (eqIsQuiet d v) Q' E s)(h:Q true s):wpAny (model prog w) A (eqIsQuiet (d+1) (.ref a)) Q E s:=by
 obtain ⟨o,ho,hc,n,hd⟩:=ha
 have hT:s.TypeIs (.ref a) "tuple":=⟨o,ho,hc⟩
 rw[eqIsQuiet]
 refine aa (Et hT F.slot_tuple_eq.lookup (aa (iN hT isSubtype_tuple_tuple ?_)))
 rw[if_neg (by decide)]
 refine aa (dc ho hd (aa ?_))
 show wpAny _ _ (forIn its _ _) _ _ s
 rw[← Ly]
 refine Cz _ (fun rest r t=>r.1=none∧t=s∧∀ v∈rest,v∈its.toList) _ (fun v rest r t ⟨h1,h2,h3⟩=>?_) (fun r t ⟨h1,h2,_⟩=>?_) _ _ ⟨rfl,rfl,fun _ z=>z⟩
 ·subst h2
  refine aa (hi v (h3 v ax) _ ?_)
  rw[if_neg (by decide)]
  exact ak ⟨rfl,rfl,fun u hu=>h3 u (ao _ hu)⟩
 ·obtain ⟨r1,r2⟩:=r
  cases (show r1=none from h1)
  subst h2
  exact ak h
end
section
variable (P:aV)(w:bK)
def lF (h:bW):eF→ag→Prop
 | .inl k,v=>jV k v=true
 | .inr l,v=>∃ b,v=.ref b∧Gd (dZ P w) h l b
def oJ:eF→Int
 | .inl k=>(dZ P w).hash k
 | .inr l=>(tupleKind (dZ P w)).hash l
def mz:eF→Nat
 | .inl _=>1
 | .inr l=>l.length+1
def nu (h:bW)(ks:List eF)(a:aj):Prop:=∃ its,h.IsTuple a its∧Paired (lF P w h) ks its.toList
end
section
variable {P:aV}{w:bK}{A:cC}{E:ag→au→Prop}{s:au}
theorem wY {k:Key}{b:aj}(h:jV k (.ref b)=true):False:=by
 rcases d6 h with ⟨_,_,_,e⟩ | ⟨_,_,_,e⟩<;>exact nomatch e
theorem flatItems {ks:List Key}{vs:List ag}(h:ItemsAre (dZ P w) ks vs):Paired (fun k v=>jV k v=true) ks vs:=by
 induction h with
 | nil=>exact .nil
 | cons a _ ih=>exact .cons a ih
theorem oR {h:bW}{l:List Key}{b:aj}(q:Gd (dZ P w) h l b):∃ its,h.IsTuple b its∧Paired (fun k v=>jV k v=true) l its.toList:=by
 obtain ⟨o,its,n,h1,h2,h3,h4⟩:=q
 exact ⟨its,⟨o,h1,h2,n,h3⟩,flatItems h4⟩
theorem lF.one {h:bW}{x y:eF}{v:ag}(hx:lF P w h x v)(hy:lF P w h y v):x=y:=by
 match x,y,hx,hy with
 | .inl j,.inl k,hx,hy=>rw[(dZ P w).inj v j k hx hy]
 | .inl j,.inr l,hx,⟨b,e,_⟩=>rw[e] at hx;exact (wY hx).elim
 | .inr l,.inl k,⟨b,e,_⟩,hy=>rw[e] at hy;exact (wY hy).elim
 | .inr l,.inr m,⟨b,e,q⟩,⟨c,e',q'⟩ =>
  rw[e] at e'
  cases e'
  rw[q.inj q']
theorem AM {h:bW}:∀ {x y:List eF} {vs:List ag},Paired (lF P w h) x vs→Paired (lF P w h) y vs→x=y
 | _,_,_,.nil,.nil=>rfl
 | _,_,_,.cons a t,.cons b u=>by rw[a.one b,AM t u]
theorem E3 {h:bW}{a:aj}{i j:Array ag}(x:h.IsTuple a i)(y:h.IsTuple a j):i=j:=by
 obtain ⟨o,h1,_,n,h2⟩:=x
 obtain ⟨o',h1',_,n',h2'⟩:=y
 cases h1.symm.trans h1'
 rw[h2] at h2'
 injection h2'
theorem nu.one {h:bW}{a:aj}{x y:List eF}(hx:nu P w h x a)(hy:nu P w h y a):x=y:=by
 obtain ⟨i,t,p⟩:=hx
 obtain ⟨j,u,q⟩:=hy
 cases E3 t u
 exact AM p q
theorem nu.kept {h h':bW}{ks:List eF}{a d:aj}{o:fD}{es ep}(x:nu P w h ks a)(ho:h.get? d=some o)(hd:o.data=.dict es ep)(hs:eE d h h'):nu P w h' ks a:=by
 obtain ⟨its,⟨o',h1,h2,n,h3⟩,p⟩:=x
 have far:a≠d:=fun z=>by
  rw[z,ho] at h1
  cases h1
  rw[hd] at h3
  cases h3
 refine ⟨its,⟨o',(hs.2 a far).trans h1,h2,n,h3⟩,Paired.rec (motive:=fun l m _=>Paired (lF P w h') l m) .nil (fun {k v _ _} r _ ih=>.cons ?_ ih) p⟩
 cases k with
 | inl k=>exact r
 | inr l=>exact let ⟨b,e,q⟩:=r;⟨b,e,q.keeps ho hd hs⟩
theorem Kd {k:eF}{v:ag}{Q:Int→au→Prop}(hu:A.units<cLine)(hv:lF P w s.heap k v)(h:Q (oJ P w k) {s with toks:=s.toks+mz k}):wpAny (model P w) A (pyHash v) Q E s:=by
 match k,hv with
 | .inl k,hv=>exact (dZ P w).pyHash (k:=k) hv h
 | .inr l,⟨b,e,q⟩=>rw[e];exact (tupleKind (dZ P w)).pyHash hu q h
theorem Ke {x y:eF}{u v:ag}(hu:A.units<cLine)(hx:lF P w s.heap x u)(hy:lF P w s.heap y v):mP A s u v (decide (x=y)):=by
 match x,y,hx,hy with
 | .inl j,.inl k,hx,hy =>
  have e:decide ((gK j:eF)=.inl k)=decide (j=k):=decide_eq_decide.mpr ⟨Sy,congrArg _⟩
  rw[e];exact Ec hx hy
 | .inl j,.inr l,hx,⟨b,e,q⟩ =>
  obtain ⟨its,ht,_⟩:=oR q
  rw[e,decide_eq_false (fun z=>nomatch z)]
  rcases d6 hx with ⟨_,_,_,z⟩ | ⟨_,_,_,z⟩<;>rw[z]
  ·exact .int_tuple _ _ ht hu
  ·exact .str_tuple _ _ ht hu
 | .inr l,.inl k,⟨b,e,q⟩,hy =>
  obtain ⟨its,ht,_⟩:=oR q
  rw[e,decide_eq_false (fun z=>nomatch z)]
  rcases d6 hy with ⟨_,_,_,z⟩ | ⟨_,_,_,z⟩<;>rw[z]
  ·exact .tuple_int _ _ ht hu
  ·exact .tuple_str _ _ ht hu
 | .inr l,.inr m,⟨b,e,q⟩,⟨c,e',q'⟩ =>
  have z:decide ((uq l:eF)=.inr m)=decide (l=m):=decide_eq_decide.mpr ⟨Sx,congrArg _⟩
  obtain ⟨its,ht,p⟩:=oR q
  obtain ⟨jts,hj,p'⟩:=oR q'
  rw[e,e',z]
  exact DB hu (fun _ _ _ _ h1 h2=>Ec h1 h2) ht hj p p' fun bc=>by subst bc;exact q.inj q'
theorem Gz {k:eF}{v:ag}{d:Nat}{Q:Bool→au→Prop}(hv:lF P w s.heap k v)(h:Q true s):wpAny (model P w) A (eqIsQuiet (d+1) v) Q E s:=by
 have flat:∀ {j:Key} {u:ag} {m:Nat} {R:Bool→au→Prop},jV j u=true→R true s→wpAny (model P w) A (eqIsQuiet m u) R E s:=fun {j u m R} hj hR=>by
  rw[eqIsQuiet_byValue m ((dZ P w).byValue j u hj)]
  exact ak hR
 match k,hv with
 | .inl k,hv=>exact flat hv h
 | .inr l,⟨b,e,q⟩ =>
  obtain ⟨its,ht,p⟩:=oR q
  rw[e]
  refine Ar ht (fun u hu Q' hQ=>?_) h
  obtain ⟨i,hi⟩:=k8.mp hu
  obtain ⟨j,_,r⟩:=kL p hi
  exact flat r hQ
theorem KU {ks:List eF}{a:aj}{Q:Int→au→Prop}(hu:A.units+1<cLine)(hk:nu P w s.heap ks a)
  (h:Q (reduceHash (lI (ks.map (oJ P w)))) {s with toks:=s.toks+((ks.map mz).sum+1)}):wpAny (model P w) A (pyHash (.ref a)) Q E s:=by
 obtain ⟨its,⟨o,ho,hc,n,hd⟩,p⟩:=hk
 have hl:ks.length=its.toList.length:=bC p
 refine PySem.W.pyHash_slot (T:="tuple") ⟨o,ho,hc⟩ F.slot_tuple_hash F.entry_tuple_hash (F.args_tuple_hash_1 _) (beq_builtin_none _) (.inr (by omega)) ?_
 refine aa (m:=Builtin.Tuple.tupleItemsOf (.ref a)) (wpAny_tupleItemsOf ho hd (aa ?_))
 rw[← Ly]
 refine Cz _ (fun rest (b:Array Int) t=>∃ m,m≤ks.length∧rest=its.toList.drop m∧b.toList=(ks.take m).map (oJ P w)∧t={s with toks:=s.toks+((ks.take m).map mz).sum}) _ ?_ ?_ _ _ ⟨0,aS _,rfl,rfl,rfl⟩
 ·rintro v rest b t ⟨m,hm,hr,hb,rfl⟩
  have lt:m<ks.length:=by
   have:=congrArg dJ hr
   rw[aU,cv] at this
   omega
  have hv:its.toList[m]?=some v:=by rw[← rN,← hr];rfl
  obtain ⟨k,hk,r⟩:=kL p hv
  have tk:ks.take (m+1)=ks.take m++[k]:=by
   rw[oZ,hk]
   rfl
  have out:∃ m',m'≤ks.length∧rest=its.toList.drop m'∧(b.push (oJ P w k)).toList=(ks.take m').map (oJ P w) ∧
    ({s with toks:=s.toks+((ks.take m).map mz).sum+mz k}:au)={s with toks:=s.toks+((ks.take m').map mz).sum}:=by
   refine ⟨m+1,lt,?_,?_,?_⟩
   ·rw[← tf,← hr];rfl
   ·rw[tk,ba,← hb];simp
   ·rw[tk];simp[pT]
  refine aa (Kd (k:=k) (A:=A.in1) hu r ?_)
  first
   | exact ak out
   | exact aa (ak (ak out))
 ·rintro b t ⟨m,hm,hr,hb,rfl⟩
  have e:m=ks.length:=by
   have:=congrArg dJ hr
   rw[eL,cv] at this
   omega
  rw[e,bI] at hb ⊢
  show wpAny _ _ (retInt (lI b.toList)) _ _ _
  rw[hb]
  exact aa (PV (ak ⟨_,_,rfl,by simpa [pT] using h⟩))
end
def mB (P:aV)(w:bK):HeapKind P w (List eF) where
 is:=nu P w
 hash:=fun ks=>reduceHash (lI (ks.map (oJ P w)))
 draws:=fun ks=>(ks.map mz).sum+1
 room:=fun A=>A.units+1<cLine
 inj:=fun x y=>x.one y
 keeps:=fun x ho hd hs=>x.kept ho hd hs
 pyHash:=fun hu hk h=>KU hu hk h
 eqBool:=fun {A E s x y a b Q} hu hx hy h=>by
  obtain ⟨its,ha,p⟩:=id hx
  obtain ⟨jts,hb,q⟩:=id hy
  have hu1:A.units<cLine:=by omega
  exact DB (A:=A) hu1 (fun _ _ _ _ h1 h2=>Ke (A:=A.in1) hu h1 h2) ha hb p q (fun ab=>by subst ab;exact hx.one hy) _ _ _ _ h
 quiet:=fun {A E s k a Q} hk h=>by
  obtain ⟨its,ha,p⟩:=hk
  refine Ar ha (fun v hv Q' hQ=>?_) h
  obtain ⟨i,hi⟩:=k8.mp hv
  obtain ⟨j,_,r⟩:=kL p hi
  exact Gz r hQ
theorem vR {P:aV}{w:bK}{A:cC}(hu:A.units+8<cLine):(mB P w).room A.in1:=by
 show A.units+1+1<cLine
 omega
inductive V where
 | hU | bl (b:Bool) | int (i:Int) | str (x:bZ) | Fd (b:Array UInt8) | Wf (b:UInt64) | ref (a:aj) | ty (n:String)
 deriving DecidableEq
def RelV:V→ag→Prop
 | .hU,u=>u=ag.none
 | .bl b,u=>u=ag.bool b
 | .int i,u=>∃ t,u=ag.int i t
 | .str x,u=>∃ t,u=ag.str x t
 | .Fd b,u=>∃ t,u=ag.bytes b t
 | .Wf b,u=>∃ t,u=ag.float b t
 | .ref a,u=>u=ag.ref a
 | .ty n,u=>u=ag.type n
abbrev di:List V→List ag→Prop:=Paired RelV
theorem di.length {xs:List V}{us:List ag}(r:di xs us):xs.length=us.length:=Paired.length r
theorem di.get:∀ {xs:List V} {us:List ag} {i:Nat} {x:V},di xs us→xs[i]?=some x→∃ u,us[i]?=some u∧RelV x u
 | _,_,_,_,.nil,e=>by simp at e
 | _,_,0,_,.cons r _,e=>by simp at e;subst e;exact ⟨_,rfl,r⟩
 | _,_,i+1,x,.cons _ t,e=>by
  obtain ⟨u,h1,h2⟩:=di.get (i:=i) (x:=x) t (by simpa using e)
  exact ⟨u,by simpa using h1,h2⟩
theorem di.set {x:V}{u:ag}(r:RelV x u):∀ {xs:List V} {us:List ag} (i:Nat),di xs us→di (xs.set i x) (us.set i u)
 | _,_,_,.nil=>.nil
 | _,_,0,.cons _ t=>.cons r t
 | _,_,i+1,.cons q t=>.cons q (di.set r i t)
theorem di.append:∀ {xs ys:List V} {us ws:List ag},di xs us→di ys ws→di (xs++ys) (us++ws)
 | _,_,_,_,.nil,s=>s
 | _,_,_,_,.cons r t,s=>.cons r (di.append t s)
theorem di.take:∀ {xs:List V} {us:List ag} (n:Nat),di xs us→di (xs.take n) (us.take n)
 | _,_,0,_=>.nil
 | _,_,_+1,.nil=>.nil
 | _,_,n+1,.cons r t=>.cons r (di.take n t)
theorem di.drop:∀ {xs:List V} {us:List ag} (n:Nat),di xs us→di (xs.drop n) (us.drop n)
 | _,_,0,r=>r
 | _,_,_+1,.nil=>.nil
 | _,_,n+1,.cons _ t=>di.drop n t
def ql:Option V→Option ag→Prop
 | some v,some u=>RelV v u
 | none,none=>True
 | _,_=>False
def KV {κ:Type}:List (κ×V)→List (κ×ag)→Prop:=Paired fun (p:κ×V) (q:κ×ag)=>p.1=q.1∧RelV p.2 q.2
def kV:Key→V
 | .inl i=>.int i
 | .inr x=>.str x
inductive HO where
 | lst (xs:List V)
 | tup (xs:List V)
 | dK (kvs:List (Key×V)) | dT (kvs:List (List eF×V))
 | set (S:Int→Bool) (n:Nat)
 | ins (C dx:aj) (fs:List (bZ×V))
 | own (x:aj)
 | xd (fs:List (bZ×V))
 | met (f x:aj)
 | Wi (lo hi:Int)
 | lT (o:fD) (u:HO)
 | SJ (ps:Array ag)
 | ext (φ:bW→Prop)
abbrev Hp:=aj→Option HO
def upd (H:Hp)(a:aj)(o:HO):Hp:=fun b=>if b=a then some o else H b
theorem aw {H:Hp}{a:aj}{o:HO}:upd H a o a=some o:=by unfold upd;rw[if_pos rfl]
theorem aW {H:Hp}{a b:aj}{o:HO}(h:b≠a):upd H a o b=H b:=by unfold upd;rw[if_neg h]
theorem ir {H:Hp}{a b:aj}{o u:HO}(h:H a=some o)(h':H b=some u)(d:o≠u):a≠b:=by
 intro e;subst e;rw[h] at h';exact d (aH h')
theorem dj {H:Hp}{a b:aj}{o:HO}(h:H a=some o)(h':H b=none):a≠b:=by
 intro e;subst e;rw[h] at h';cases h'
def R4 (H:Hp):eF→V→Prop
 | .inl k,v=>v=kV k
 | .inr l,v=>∃ b,v=.ref b∧H b=some (.tup (l.map kV))
def lD (H:Hp)(a:aj)(ks:List eF):Prop:=∃ vs,H a=some (.tup vs)∧Paired (R4 H) ks vs
theorem R4.keeps {H H':Hp}(ht:∀ b xs,H b=some (.tup xs)→H' b=some (.tup xs)):∀ {k:eF} {v:V},R4 H k v→R4 H' k v
 | .inl _,_,h=>h
 | .inr _,_,⟨b,e,q⟩=>⟨b,e,ht _ _ q⟩
theorem Vo.keeps {H H':Hp}(ht:∀ b xs,H b=some (.tup xs)→H' b=some (.tup xs)):∀ {ks:List eF} {vs:List V},Paired (R4 H) ks vs→Paired (R4 H') ks vs
 | _,_,.nil=>.nil
 | _,_,.cons a t=>.cons (R4.keeps ht a) (Vo.keeps ht t)
theorem lD.keeps {H H':Hp}{a:aj}{ks:List eF}(ht:∀ b xs,H b=some (.tup xs)→H' b=some (.tup xs))(h:lD H a ks):lD H' a ks :=
 let ⟨vs,e,q⟩:=h;⟨vs,ht _ _ e,Vo.keeps ht q⟩
section
variable (P:aV)(w:bK)
def fQ (H:Hp)(h:bW)(a:aj):HO→Prop
 | .lst xs=>xs.length≤aP∧∃ (its:List ag) (n:Nat),di xs its∧h.get? a=some {cls:=.type "list",data:=.seq its.toArray n}
 | .tup xs=>xs.length≤aP∧∃ its:List ag,di xs its∧qr h a its.toArray
 | .dK kvs=>kvs.length≤aP∧(a==eZ)=false∧∃ vs,KV kvs vs∧h.DictOf (dZ P w) a vs
 | .dT kvs=>kvs.length≤aP∧(a==eZ)=false∧∃ xs:List (List eF×aj×ag),
   Paired (fun (p:List eF×V) (q:List eF×aj×ag)=>p.1=q.1∧lD H q.2.1 p.1∧RelV p.2 q.2.2) kvs xs ∧
   ∃ o es ep,h.get? a=some o∧o.ExactDict∧o.data=.dict es ep∧es.toList=xs.map (entryOfKey (mB P w))∧(xs.map (·.1)).Nodup
 | .set S n=>h.SetOf (intKind P w) a S n
 | .ins C dx fs=>H dx=some (.own a)∧fs.length≤1000∧dx≠a∧h.get? a=some (gX C dx) ∧
   ∃ mA,h.Ns1 dx mA∧(∀ f,ql (fs.lookup f) (mA f))∧Eu mA (fs.map (·.1))
 | .own _=>∃ o,h.get? a=some o
 | .xd fs=>∃ mA,h.Ns1 a mA∧∀ f,ql (fs.lookup f) (mA f)
 | .Wi lo hi=>∃ t u v,h.get? a=some {cls:=.type "range",data:=.fields #[.int lo t,.int hi u,.int 1 v]}
 | .lT o u=>h.get? a=some o∧fQ H h a u
 | .SJ ps=>h.get? a=some {cls:=.none,data:=.fields ps}
 | .met f x=>h.get? a=some (vj (.ref f) (.ref x))
 | .ext φ=>φ h∧(∃ o,h.get? a=some o)∧∀ h1 h2:bW,φ h1→(∀ o,h1.get? a=some o→h2.get? a=some o)→φ h2
def qh (H:Hp)(h:bW):Prop:=∀ a o,H a=some o→fQ P w H h a o
end
section
variable {P:aV}{w:bK}{H H':Hp}{h h':bW}{a:aj}{o:HO}
theorem fQ.lt (x:fQ P w H h a o):a<h.objs.size:=by
 cases o with
 | lst xs=>obtain ⟨_,_,_,_,e⟩:=x;exact aN e
 | tup xs=>obtain ⟨_,_,_,p⟩:=x;exact p.lt
 | dK kvs=>obtain ⟨_,_,_,_,o,_,_,e,_⟩:=x;exact aN e
 | dT kvs=>obtain ⟨_,_,_,_,o,_,_,e,_⟩:=x;exact aN e
 | set S n=>obtain ⟨o,_,_,_,e,_⟩:=x;exact aN e
 | ins C dx fs=>obtain ⟨_,_,_,e,_⟩:=x;exact aN e
 | own y=>obtain ⟨_,e⟩:=x;exact aN e
 | xd fs=>obtain ⟨_,⟨_,_,_,e,_⟩,_⟩:=x;exact aN e
 | Wi lo hi=>obtain ⟨_,_,_,e⟩:=x;exact aN e
 | lT ob u=>obtain ⟨e,_⟩:=x;exact aN e
 | SJ ps=>exact aN (show h.get? a=some _ from x)
 | met f y=>exact aN (show h.get? a=some _ from x)
 | ext φ=>obtain ⟨_,⟨_,e⟩,_⟩:=x;exact aN e
theorem Paired.SU {α β:Type}{F G:α→β→Prop}:∀ {l₁:List α} {l₂:List β},Paired F l₁ l₂→(∀ a b,F a b→G a b)→Paired G l₁ l₂
 | _,_,.nil,_=>.nil
 | _,_,.cons r t,f=>.cons (f _ _ r) (Paired.SU t f)
theorem fQ.zV (x:fQ P w H h a o)(k:∀ b u,(b=a∨H b=some (.own a))→h.get? b=some u→h'.get? b=some u)
  (ho:∀ b,H b=some (.own a)→H' b=some (.own a))(ht:∀ b xs,H b=some (.tup xs)→H' b=some (.tup xs)):fQ P w H' h' a o:=by
 induction o with
 | lst xs=>obtain ⟨z,its,n,r,e⟩:=x;exact ⟨z,its,n,r,k _ _ (.inl rfl) e⟩
 | tup xs=>obtain ⟨z,its,r,ob,e,c⟩:=x;exact ⟨z,its,r,ob,k _ _ (.inl rfl) e,c⟩
 | dK kvs=>obtain ⟨z,y,vs,r,ob,es,ep,e,c⟩:=x;exact ⟨z,y,vs,r,ob,es,ep,k _ _ (.inl rfl) e,c⟩
 | dT kvs =>
  obtain ⟨z,y,xs,r,ob,es,ep,e,c⟩:=x
  exact ⟨z,y,xs,Paired.SU r fun p q z=>⟨z.1,lD.keeps ht z.2.1,z.2.2⟩,ob,es,ep,k _ _ (.inl rfl) e,c⟩
 | set S n=>obtain ⟨ob,es,ep,t,e,c⟩:=x;exact ⟨ob,es,ep,t,k _ _ (.inl rfl) e,c⟩
 | ins C dx fs =>
  obtain ⟨d,z,ne,e,mA,⟨od,es,ep,e2,c⟩,r⟩:=x
  exact ⟨ho _ d,z,ne,k _ _ (.inl rfl) e,mA,⟨od,es,ep,k _ _ (.inr d) e2,c⟩,r⟩
 | own y=>obtain ⟨ob,e⟩:=x;exact ⟨ob,k _ _ (.inl rfl) e⟩
 | xd fs=>obtain ⟨mA,⟨od,es,ep,e,c⟩,r⟩:=x;exact ⟨mA,⟨od,es,ep,k _ _ (.inl rfl) e,c⟩,r⟩
 | Wi lo hi=>obtain ⟨t,u,v,e⟩:=x;exact ⟨t,u,v,k _ _ (.inl rfl) e⟩
 | lT ob u ih=>obtain ⟨e,q⟩:=x;exact ⟨k _ _ (.inl rfl) e,ih q⟩
 | SJ ps =>
  have e:h.get? a=some {cls:=.none,data:=.fields ps}:=x
  show h'.get? a=some {cls:=.none,data:=.fields ps}
  exact k a _ (.inl rfl) e
 | met f y =>
  have e:h.get? a=some (vj (.ref f) (.ref y)):=x
  show h'.get? a=some (vj (.ref f) (.ref y))
  exact k a _ (.inl rfl) e
 | ext φ=>obtain ⟨p,⟨o,e⟩,st⟩:=x;exact ⟨st _ _ p fun o q=>k _ _ (.inl rfl) q,⟨o,k _ _ (.inl rfl) e⟩,st⟩
theorem qh.lt (x:qh P w H h)(e:H a=some o):a<h.objs.size:=(x a o e).lt
theorem qh.fresh (x:qh P w H h)(e:h.objs.size≤a):H a=none:=by
 cases q:H a with
 | none=>rfl
 | some u=>exact absurd (cB (x.lt q) e) (du _)
theorem qh.kept (x:qh P w H h)(k:∀ b u,h.get? b=some u→h'.get? b=some u):qh P w H h':=fun a o e =>
 (x a o e).zV (fun b u _ q=>k b u q) (fun _ q=>q) fun _ _ q=>q
theorem qh.laid (x:qh P w H h)(k:∀ b u,h.get? b=some u→h'.get? b=some u)(hp:h.objs.size≤a)(new:fQ P w (upd H a o) h' a o):qh P w (upd H a o) h':=fun b u e=>by
 have hn:=x.fresh hp
 by_cases hb:b=a
 ·subst hb;rw[aw] at e;cases e;exact new
 ·rw[aW hb] at e
  exact (x b u e).zV (fun c v _ q=>k c v q) (fun c q=>by rw[aW (dj q hn)];exact q) fun c xs q=>by rw[aW (dj q hn)];exact q
end
def Rd (H:Hp)(a:aj)(u:HO):Prop:=H a=some u∨∃ o,H a=some (.lT o u)
theorem Rd.ok {P:aV}{w:bK}{H:Hp}{h:bW}{a:aj}{u:HO}(r:Rd H a u)(x:qh P w H h):fQ P w H h a u:=by
 rcases r with r | ⟨o,r⟩
 ·exact x a u r
 ·obtain ⟨_,q⟩:=x a _ r
  exact q
def PC:Option HO→Prop
 | some (.lst _)=>True
 | some (.dK _)=>True
 | some (.dT _)=>True
 | some (.set _ _)=>True
 | some (.ins _ _ _)=>True
 | some (.ext _)=>True
 | _=>False
section
variable {P:aV}{w:bK}{H:Hp}{h h':bW}{x e:aj}{o':HO}
theorem qh.write (ok:qh P w H h)(mu:PC (H x))(he:e=x∨H e=some (.own x))(k:∀ b u,b≠e→h.get? b=some u→h'.get? b=some u)(heo:∃ u,h'.get? e=some u)
  (new:fQ P w (upd H x o') h' x o'):qh P w (upd H x o') h':=fun b u q=>by
 have nown:∀ c y,H c=some (.own y)→c≠x:=fun c y r z=>by subst z;rw[r] at mu;exact mu
 have ntup:∀ c xs,H c=some (.tup xs)→c≠x:=fun c xs r z=>by subst z;rw[r] at mu;exact mu
 by_cases hb:b=x
 ·subst hb;rw[aw] at q;cases q;exact new
 ·rw[aW hb] at q
  by_cases hbe:b=e
  ·have q':H b=some (.own x):=by
    rcases he with z | z
    ·exact absurd (hbe.trans z) hb
    ·rw[hbe];exact z
   rw[q] at q';cases q'
   obtain ⟨v,hv⟩:=heo
   exact ⟨v,by rw[hbe];exact hv⟩
  ·refine (ok b u q).zV (fun c v hc r=>k c v ?_ r) (fun c r=>by rw[aW (nown c b r)];exact r) fun c xs r=>by rw[aW (ntup c xs r)];exact r
   rcases hc with rfl | hc
   ·exact hbe
   ·rintro rfl
    rcases he with z | z
    ·exact nown c b hc z
    ·rw[hc] at z;cases z;exact hb rfl
end
structure Un (fs ex:List aj)(H H':Hp)(h h':bW):Prop where
 keep:∀ b o,h.get? b=some o→H b=none→b∉fs→b∉ex→h'.get? b=some o
 slot:∀ b o,h.get? b=some o→H b=none→b∈fs→b∉ex→∃ sl,h'.get? b=some {o with slots:=sl}
 free:∀ b o,h.get? b=some o→H b=none→b∉ex→H' b=none
 there:∀ b o,h.get? b=some o→b∉ex→∃ o',h'.get? b=some o'
 Bo:∀ b xs,H b=some (.tup xs)→H' b=some (.tup xs)
 yq:∀ b o u,H b=some (.lT o u)→H' b=some (.lT o u)
 Bp:∀ b ps,H b=some (.SJ ps)→∃ more,H' b=some (.SJ (ps++more))
section
variable {fs fs' ex ex':List aj}{H H1 H2:Hp}{h h1 h2 h':bW}{a x e:aj}{o:HO}
theorem Un.any (u:Un fs ex H H1 h h1){b:aj}{ob:fD}(q:h.get? b=some ob)(n:H b=none)(hx:b∉ex):∃ sl,h1.get? b=some {ob with slots:=sl}:=by
 by_cases hb:b∈fs
 ·exact u.slot b ob q n hb hx
 ·exact ⟨ob.slots,u.keep b ob q n hb hx⟩
theorem Un.kept (k:∀ b u,h.get? b=some u→h'.get? b=some u):Un fs ex H H h h' :=
 ⟨fun b ob q _ _ _=>k b ob q,fun b ob q _ _ _=>⟨ob.slots,k b ob q⟩,fun _ _ _ n _=>n,fun b ob q _=>⟨ob,k b ob q⟩,fun _ _ q=>q,fun _ _ _ q=>q,fun _ ps q=>⟨#[],by rw[q];simp⟩⟩
theorem Un.refl:Un fs ex H H h h:=Un.kept fun _ _ q=>q
theorem Un.laid (k:∀ b u,h.get? b=some u→h'.get? b=some u)(hp:h.objs.size≤a)(hn:H a=none):Un fs ex H (upd H a o) h h' where
 keep:=fun b u q _ _ _=>k b u q
 slot:=fun b u q _ _ _=>⟨u.slots,k b u q⟩
 free:=fun b u q n _=>by rw[aW (bg (cB (aN q) hp))];exact n
 there:=fun b u q _=>⟨u,k b u q⟩
 Bo:=fun b xs q=>by rw[aW (dj q hn)];exact q
 yq:=fun b u xs q=>by rw[aW (dj q hn)];exact q
 Bp:=fun b ps q=>⟨#[],by rw[aW (dj q hn),q];simp⟩
theorem Un.write (mu:PC (H x))(he:e=x∨H e=some (.own x))(k:∀ b u,b≠e→h.get? b=some u→h'.get? b=some u)(heo:∃ u,h'.get? e=some u):Un fs ex H (upd H x o) h h':=by
 have hx:∀ b,H b=none→b≠x:=fun b n z=>by subst z;rw[n] at mu;exact mu
 have hb:∀ b,H b=none→b≠e:=fun b n z=>by
  subst z
  rcases he with r | r
  ·exact hx b n r
  ·rw[n] at r;cases r
 have hm:∀ b u,H b=some u→¬ PC (some u)→b≠x:=fun b u q nm z=>by subst z;rw[q] at mu;exact nm mu
 refine ⟨fun b u q n _ _=>k b u (hb b n) q,fun b u q n _ _=>⟨u.slots,k b u (hb b n) q⟩,fun b u q n _=>by rw[aW (hx b n)];exact n,fun b u q _=>?_,
  fun b xs q=>by rw[aW (hm b _ q fun z=>z)];exact q,fun b u xs q=>by rw[aW (hm b _ q fun z=>z)];exact q,fun b ps q=>⟨#[],by rw[aW (hm b _ q fun z=>z),q];simp⟩⟩
 by_cases hbe:b=e
 ·subst hbe;exact heo
 ·exact ⟨u,k b u hbe q⟩
end
def V7 (h:bW)(H:Hp):List aj:=(br h.objs.size).filter fun a=>(H a).isSome
def Br (h:bW)(H:Hp):bW:=PySem.W.hideAll h (V7 h H)
theorem KO (h:bW)(H:Hp):(Br h H).objs.size=h.objs.size:=PySem.W.hideAll_size _ _
theorem Od {h:bW}{H:Hp}{b:aj}{o:fD}(e:h.get? b=some o)(n:H b=none):(Br h H).get? b=some o :=
 PySem.W.hideAll_get _ e fun hm=>by
  have q:(H b).isSome=true:=(fL.mp hm).2
  rw[n] at q;simp at q
theorem QG {h:bW}{H:Hp}{b:aj}{o:fD}(e:(Br h H).get? b=some o):h.get? b=some o∧H b=none:=by
 have e':h.get? b=some o:=PySem.W.of_hideAll (V7 h H) e
 refine ⟨e',?_⟩
 cases q:H b with
 | none=>rfl
 | some x =>
  have hm:b∈V7 h H:=fL.mpr ⟨dN.mpr (aN e'),by simp[q]⟩
  have z:(Br h H).get? b=none:=PySem.W.hideAll_none (V7 h H) hm
  rw[z] at e;cases e
structure Mod (K:ai)(mg:bZ→Option ag)(base:bW):Prop where
 Wd:K.In base
 glob:base.Ns c7 mg
 blt:∃ mb,base.Ns builtinsNs mb∧∀ x:bZ,x≠"__name__"→mb x=bootBuiltins x
 nolimit:base.NoLimit
structure Cx where
 prog:aV
 w:bK
 K:ai
 mg:bZ→Option ag
 base:bW
 A:cC
 N:List bZ
 s_0:au
 H_0:Hp
 env:Dc
 outer:List Dc
 stack:List Dc
 ex:List aj
 fn:bZ→Bool
 calm:Bool
 pn:List (aj×fD)
 xe:ag→au→Prop
def LJ (l:List Dc):List aj:=l.filterMap (·.frame)
abbrev Cx.fs (X:Cx):List aj:=LJ X.outer
def UW (sc:jv)(x:bZ):Prop:=sc.names.lookup x=some .local∨sc.names.lookup x=some .cell∨sc.names.lookup x=some .free
def Loc (sc:jv)(x:bZ):Prop:=sc.names.lookup x=some .local∨sc.names.lookup x=some .cell
def Look (env:Dc)(h:bW)(m:bZ→Option ag)(x:bZ)(u:ag):Prop :=
 (env.kindOf x=some .local∧m x=some u)∨((env.kindOf x=some .cell∨env.kindOf x=some .free)∧∃ c,env.cells.lookup x=some c∧h.IsCell c (some u))
structure Cx.Ok (X:Cx):Prop where
 mod:Mod X.K X.mg X.base
 kind:X.env.scope.kind=.function
 glob:X.env.globals=c7
 blt:X.env.builtins=builtinsNs
 above:X.s_0.heap.objs.size≤X.env.locals
 inj:∀ x y c,X.env.cells.lookup x=some c→X.env.cells.lookup y=some c→x=y
 has:∀ x,(X.env.kindOf x=some .cell∨X.env.kindOf x=some .free)→∃ c,X.env.cells.lookup x=some c
 UU:∀ x c,X.fn x=true→X.env.cells.lookup x=some c→X.s_0.heap.objs.size≤c
 hd:X.calm=true→X.A.handled=none
 frames:X.A.frames=some X.stack
 V9:X.stack=X.outer∨(X.stack=X.env::X.outer∧X.env.frame=some X.env.locals)
 Wg:∀ b∈X.ex,b≠X.env.locals∧∀ x c,X.env.cells.lookup x=some c→c≠b
 bs:∀ b o,X.base.get? b=some o→X.s_0.heap.get? b=some o∧X.H_0 b=none
 PB:X.base.objs.size≤X.s_0.heap.objs.size
 LQ:∀ b o,X.base.get? b=some o→b∉X.ex
 LS:∀ b∈X.ex,b∉X.fs
 xg:X.s_0.heap.FunFrames X.base X.outer
 SM:∀ b∈X.fs,X.H_0 b=none
structure Inv (X:Cx)(pins:List (aj×fD))(σ:List (Option V))(H:Hp)(s:au):Prop where
 ok:X.Ok
 os:s.os=X.s_0.os
 bare:z0 s.gens
 base:Un X.fs X.ex X.H_0 H X.s_0.heap s.heap
 loc:∃ m,s.heap.Ns X.env.locals m∧∀ (i:Nat) (x:bZ) (v:V),X.N[i]?=some x→σ[i]?=some (some v)→UW X.env.scope x→∃ u,RelV v u∧Look X.env s.heap m x u
 cell:∀ x c,X.env.cells.lookup x=some c→∃ v,s.heap.IsCell c v
 free:H X.env.locals=none
 mZ:∀ x c,X.env.cells.lookup x=some c→H c=none
 pin:∀ p∈X.pn++pins,s.heap.get? p.1=some p.2∧H p.1=none∧p.1≠X.env.locals∧p.1∉X.fs∧∀ v,p.2.data≠.cell v
 fu:qh X.prog X.w H s.heap
 len:σ.length=X.N.length
section
variable {X:Cx}{pins:List (aj×fD)}{σ:List (Option V)}{H H':Hp}{s:au}{h':bW}
theorem Cx.Ok.WH (ok:X.Ok){b:aj}{o:fD}(e:X.base.get? b=some o):b∉X.fs:=fun hb=>by
 have:=(ok.xg.mem hb).1
 rw[e] at this;cases this
theorem Inv.bs (I:Inv X pins σ H s):∀ b o,X.base.get? b=some o→s.heap.get? b=some o∧H b=none:=fun b o e =>
 ⟨I.base.keep b o (I.ok.bs b o e).1 (I.ok.bs b o e).2 (I.ok.WH e) (I.ok.LQ b o e),I.base.free b o (I.ok.bs b o e).1 (I.ok.bs b o e).2 (I.ok.LQ b o e)⟩
theorem Inv.bk (I:Inv X pins σ H s):∀ b o,X.base.get? b=some o→s.heap.get? b=some o:=fun b o e=>(I.bs b o e).1
theorem Inv.mod (I:Inv X pins σ H s):Mod X.K X.mg X.base:=I.ok.mod
theorem Inv.Hn (I:Inv X pins σ H s):X.K.In s.heap:=I.ok.mod.Wd.keeps I.bk
theorem Inv.lt (I:Inv X pins σ H s):X.env.locals<s.heap.objs.size:=let ⟨_,hn,_⟩:=I.loc;hn.lt
theorem Inv.sz (I:Inv X pins σ H s):X.s_0.heap.objs.size≤s.heap.objs.size:=aB I.ok.above (kR I.lt)
theorem Inv.WG (I:Inv X pins σ H s){a:aj}(h:s.heap.objs.size≤a):a∉X.fs:=fun hb=>by
 obtain ⟨_,o,ho,_⟩:=I.ok.xg.mem hb
 exact absurd (cB (aN ho) (aB I.sz h)) (du _)
theorem Inv.SN (I:Inv X pins σ H s):∀ x c,X.env.cells.lookup x=some c→c≠X.env.locals:=fun x c e z=>by
 obtain ⟨v,o,ho,hd⟩:=I.cell x c e
 obtain ⟨m,⟨o',es,ep,ho',hd',_⟩,_⟩:=I.loc
 rw[z,ho'] at ho;cases ho;rw[hd'] at hd;cases hd
theorem Inv.xg (I:Inv X pins σ H s):s.heap.FunFrames X.base X.outer:=by
 have all:∀ (l:List Dc),(∀ b∈LJ l,b∈X.fs)→X.s_0.heap.FunFrames X.base l→s.heap.FunFrames X.base l:=by
  intro l
  induction l with
  | nil=>intro _ _;trivial
  | cons env r ih =>
   intro hs hl
   obtain ⟨hk,⟨L,o,hf,hn,ho,hd⟩,hr⟩:=hl
   have hL:L∈X.fs:=hs L (by unfold LJ;rw[eR,hf];exact ax)
   obtain ⟨sl,e⟩:=I.base.slot L o ho (I.ok.SM L hL) hL fun z=>I.ok.LS L z hL
   exact ⟨hk,⟨L,_,hf,hn,e,hd⟩,ih (fun b hb=>hs b (by unfold LJ;rw[eR,hf];exact ao _ hb)) hr⟩
 exact all X.outer (fun _ hb=>hb) I.ok.xg
theorem Inv.stack (I:Inv X pins σ H s):s.heap.FunFrames X.base X.stack:=by
 rcases I.ok.V9 with e | ⟨e,hf⟩
 ·rw[e];exact I.xg
 ·rw[e]
  obtain ⟨m,hn,_⟩:=I.loc
  refine .cons (by rw[I.ok.kind];decide) hf hn ?_ I.xg
  exact bW.get?_none_of_le (aB I.ok.PB I.ok.above)
theorem Inv.Fz (I:Inv X pins σ H s):∀ b∈LJ X.stack,b∈X.env.locals::X.fs:=fun b hb=>by
 rcases I.ok.V9 with e | ⟨e,hf⟩
 ·rw[e] at hb;exact ao _ hb
 ·rw[e] at hb
  unfold LJ at hb
  rw[eR,hf] at hb
  exact hb
theorem Inv.HZ (I:Inv X pins σ H s):∀ b∈LJ X.stack,H b=none:=fun b hb=>by
 rcases aI.mp (I.Fz b hb) with e | hb
 ·rw[e];exact I.free
 ·obtain ⟨_,o,ho,_⟩:=I.ok.xg.mem hb
  exact I.base.free b o ho (I.ok.SM b hb) fun z=>I.ok.LS b z hb
theorem Inv.step {g':Array GenState}{t':Nat}{d':Drawn}{ch:List aj}(I:Inv X pins σ H s)
  (hch:∀ b∈ch,(b∈X.ex∨X.s_0.heap.objs.size≤b)∧b≠X.env.locals∧(∀ x c,X.env.cells.lookup x=some c→c≠b)∧∀ p∈X.pn++pins,p.1≠b)
  (keep:∀ b o,b≠X.env.locals→b∉X.fs→b∉ch→s.heap.get? b=some o→H b=none→h'.get? b=some o)
  (slot:∀ b o,b≠X.env.locals→b∈X.fs→b∉ch→s.heap.get? b=some o→H b=none→∃ sl,h'.get? b=some {o with slots:=sl})(free:∀ b o,b∉ch→s.heap.get? b=some o→H b=none→H' b=none)
  (there:∀ b o,b∉ch→s.heap.get? b=some o→∃ o',h'.get? b=some o')
  (Bo:∀ b xs,H b=some (.tup xs)→H' b=some (.tup xs))(yq:∀ b o u,H b=some (.lT o u)→H' b=some (.lT o u))(Bp:∀ b ps,H b=some (.SJ ps)→∃ more,H' b=some (.SJ (ps++more)))
  (ns:∀ m,s.heap.Ns X.env.locals m→h'.Ns X.env.locals m)(fu:qh X.prog X.w H' h')(hg:z0 g') :
  Inv X pins σ H' {s with heap:=h',gens:=g',drawn:=d',toks:=t'}:=by
 have neL:∀ b o,X.s_0.heap.get? b=some o→b≠X.env.locals:=fun b o e=>bg (cB (aN e) I.ok.above)
 have neC:∀ b o,X.s_0.heap.get? b=some o→b∉X.ex→b∉ch:=fun b o e hx hb=>by
  rcases (hch b hb).1 with z | z
  ·exact hx z
  ·exact absurd (cB (aN e) z) (du _)
 have cellK:∀ x c,X.env.cells.lookup x=some c→∀ v,s.heap.IsCell c v→h'.IsCell c v:=fun x c e v ⟨o,ho,hd⟩=>by
  have nch:c∉ch:=fun z=>(hch c z).2.2.1 x c e rfl
  by_cases hc:c∈X.fs
  ·obtain ⟨sl,q⟩:=slot c o (I.SN x c e) hc nch ho (I.mZ x c e)
   exact ⟨_,q,hd⟩
  ·exact ⟨o,keep c o (I.SN x c e) hc nch ho (I.mZ x c e),hd⟩
 refine ⟨I.ok,I.os,hg,⟨fun b o e n hb hx=>?_,fun b o e n hb hx=>?_,fun b o e n hx=>?_,fun b o e hx=>?_,fun b xs e=>Bo b xs (I.base.Bo b xs e),fun b o xs e=>yq b o xs (I.base.yq b o xs e),fun b ps e=>?_⟩,?_,fun x c e=>?_,?_,fun x c e=>?_,fun p hp=>?_,fu,I.len⟩
 ·exact keep b o (neL b o e) hb (neC b o e hx) (I.base.keep b o e n hb hx) (I.base.free b o e n hx)
 ·obtain ⟨sl,e1⟩:=I.base.slot b o e n hb hx
  obtain ⟨sl',e2⟩:=slot b _ (neL b o e) hb (neC b o e hx) e1 (I.base.free b o e n hx)
  exact ⟨sl',e2⟩
 ·obtain ⟨o',e1⟩:=I.base.there b o e hx
  exact free b o' (neC b o e hx) e1 (I.base.free b o e n hx)
 ·obtain ⟨o',e1⟩:=I.base.there b o e hx
  exact there b o' (neC b o e hx) e1
 ·obtain ⟨m1,e1⟩:=I.base.Bp b ps e
  obtain ⟨m2,e2⟩:=Bp b _ e1
  exact ⟨m1++m2,by rw[e2,Array.append_assoc]⟩
 ·obtain ⟨m,hn,hl⟩:=I.loc
  refine ⟨m,ns m hn,fun i x v e1 e2 e3=>?_⟩
  obtain ⟨u,r,l⟩:=hl i x v e1 e2 e3
  refine ⟨u,r,?_⟩
  rcases l with l | ⟨k,c,e,z⟩
  ·exact .inl l
  ·exact .inr ⟨k,c,e,cellK x c e _ z⟩
 ·obtain ⟨v,z⟩:=I.cell x c e
  exact ⟨v,cellK x c e v z⟩
 ·obtain ⟨m,⟨o,_,_,ho,_⟩,_⟩:=I.loc
  exact free _ o (fun z=>(hch _ z).2.1 rfl) ho I.free
 ·obtain ⟨v,o,ho,hd⟩:=I.cell x c e
  exact free c o (fun z=>(hch c z).2.2.1 x c e rfl) ho (I.mZ x c e)
 ·obtain ⟨e,n,ne,nf,d⟩:=I.pin p hp
  have nch:p.1∉ch:=fun z=>(hch p.1 z).2.2.2 p hp rfl
  exact ⟨keep p.1 p.2 ne nf nch e n,free p.1 p.2 nch e n,ne,nf,d⟩
theorem Inv.un {t':Nat}(I:Inv X pins σ H s)(u:Un X.fs [] H H' s.heap h')(fu:qh X.prog X.w H' h'):Inv X pins σ H' {s with heap:=h',toks:=t'}:=by
 obtain ⟨m,⟨o,es,ep,ho,r⟩,_⟩:=id I.loc
 obtain ⟨sl,hL⟩:=u.any ho I.free (by simp)
 exact I.step (g':=s.gens) (d':=s.drawn) (ch:=[]) (fun _ z=>nomatch z) (fun b o _ hb _ e n=>u.keep b o e n hb (by simp)) (fun b o _ hb _ e n=>u.slot b o e n hb (by simp)) (fun b o _ e n=>u.free b o e n (by simp)) (fun b o _ e=>u.there b o e (by simp)) u.Bo u.yq u.Bp (fun m' hm=>by
  obtain ⟨o',es',ep',ho',r'⟩:=hm
  rw[ho] at ho';cases ho'
  exact ⟨_,es',ep',hL,r'⟩) fu I.bare
theorem Inv.call {g':Array GenState}{t':Nat}{d':Drawn}{ch:List aj}(I:Inv X pins σ H s)(u:Un (LJ X.stack) ch H H' s.heap h')(fu:qh X.prog X.w H' h')(hg:z0 g')
  (hch:∀ b∈ch,(b∈X.ex∨X.s_0.heap.objs.size≤b)∧b≠X.env.locals∧(∀ x c,X.env.cells.lookup x=some c→c≠b)∧∀ p∈X.pn++pins,p.1≠b) :
  Inv X pins σ H' {s with heap:=h',gens:=g',drawn:=d',toks:=t'}:=by
 obtain ⟨m,⟨o,es,ep,ho,r⟩,_⟩:=id I.loc
 obtain ⟨sl,hL⟩:=u.any ho I.free fun z=>(hch _ z).2.1 rfl
 exact I.step (ch:=ch) hch (fun b o hL hb hc e n=>u.keep b o e n (fun z=>(aI.mp (I.Fz b z)).elim hL hb) hc) (fun b o _ _ hc e n=>u.any e n hc) (fun b o hc e n=>u.free b o e n hc) (fun b o hc e=>u.there b o e hc) u.Bo u.yq u.Bp (fun m' hm=>by
  obtain ⟨o',es',ep',ho',r'⟩:=hm
  rw[ho] at ho';cases ho'
  exact ⟨_,es',ep',hL,r'⟩) fu hg
theorem Inv.turned {t':Nat}{it:aj}(I:Inv X pins σ H s)(k:∀ b o,b≠it→s.heap.get? b=some o→h'.get? b=some o)(hn:H it=none)(hL:it≠X.env.locals)
  (h1:it∈X.ex∨X.s_0.heap.objs.size≤it)(h2:∀ x c,X.env.cells.lookup x=some c→c≠it)(h3:∀ p∈X.pn++pins,p.1≠it):Inv X pins σ H {s with heap:=h',toks:=t'}:=by
 have nit:∀ b u,H b=some u→b≠it:=fun b u e z=>by rw[z,hn] at e;cases e
 refine I.step (g':=s.gens) (d':=s.drawn) (ch:=[it]) (fun b hb=>?_) (fun b o _ _ hc e _=>k b o (fun z=>hc (by simp[z])) e) (fun b o _ _ hc e _=>⟨o.slots,k b o (fun z=>hc (by simp[z])) e⟩) (fun _ _ _ _ n=>n)
  (fun b o hc e=>⟨o,k b o (fun z=>hc (by simp[z])) e⟩) (fun _ _ e=>e) (fun _ _ _ e=>e) (fun b ps e=>⟨#[],by rw[e];simp⟩) (fun m hm=>?_) (fun b u e=>?_) I.bare
 ·have e:b=it:=by simpa using hb
  subst e
  exact ⟨h1,hL,h2,h3⟩
 ·obtain ⟨o,es,ep,ho,r⟩:=hm
  exact ⟨o,es,ep,k _ o (g4 hL) ho,r⟩
 ·refine (I.fu b u e).zV (fun c v hc q=>k c v ?_ q) (fun _ q=>q) fun _ _ q=>q
  rcases hc with z | z
  ·rw[z];exact nit b u e
  ·exact nit c _ z
theorem Inv.tok (I:Inv X pins σ H s)(t:Nat):Inv X pins σ H {s with toks:=t}:=I.un (h':=s.heap) (t':=t) Un.refl I.fu
theorem Inv.kept {t':Nat}(I:Inv X pins σ H s)(k:∀ b u,s.heap.get? b=some u→h'.get? b=some u):Inv X pins σ H {s with heap:=h',toks:=t'}:=I.un (Un.kept k) (I.fu.kept k)
theorem Inv.laid {a:aj}{o:HO}{t':Nat}(I:Inv X pins σ H s)(k:∀ b u,s.heap.get? b=some u→h'.get? b=some u)(hp:s.heap.objs.size≤a)(new:fQ X.prog X.w (upd H a o) h' a o) :
  Inv X pins σ (upd H a o) {s with heap:=h',toks:=t'}:=I.un (Un.laid k hp (I.fu.fresh hp)) (I.fu.laid k hp new)
theorem Inv.write {x e:aj}{o:HO}{t':Nat}(I:Inv X pins σ H s)(mu:PC (H x))(he:e=x∨H e=some (.own x))(k:∀ b u,b≠e→s.heap.get? b=some u→h'.get? b=some u)(heo:∃ u,h'.get? e=some u)
  (new:fQ X.prog X.w (upd H x o) h' x o):Inv X pins σ (upd H x o) {s with heap:=h',toks:=t'}:=I.un (Un.write mu he k heo) (I.fu.write mu he k heo new)
theorem Inv.weak {σ':List (Option V)}(I:Inv X pins σ H s)(hl:σ'.length=σ.length)(w:∀ (i:Nat) v,σ'[i]?=some (some v)→σ[i]?=some (some v)):Inv X pins σ' H s :=
 ⟨I.ok,I.os,I.bare,I.base,let ⟨m,hn,hl'⟩:=I.loc;⟨m,hn,fun i x v e1 e2 e3=>hl' i x v e1 (w i v e2) e3⟩,I.cell,I.free,I.mZ,I.pin,I.fu,hl.trans I.len⟩
theorem Inv.ID {pins':List (aj×fD)}(I:Inv X pins σ H s)(h:∀ p∈pins',s.heap.get? p.1=some p.2∧H p.1=none∧p.1≠X.env.locals∧p.1∉X.fs∧∀ v,p.2.data≠.cell v):Inv X pins' σ H s :=
 ⟨I.ok,I.os,I.bare,I.base,I.loc,I.cell,I.free,I.mZ,fun p hp=>(bu.mp hp).elim (fun z=>I.pin p (Jw _ z)) (h p),I.fu,I.len⟩
theorem yQ {N:List bZ}(hN:N.Nodup){i j:Nat}{x:bZ}(a:N[i]?=some x)(b:N[j]?=some x):i=j:=by
 obtain ⟨h1,e1⟩:=bV.mp a
 obtain ⟨h2,e2⟩:=bV.mp b
 exact (List.getElem_inj hN).mp (e1.trans e2.symm)
theorem Aw {M:LB}{A:cC}{E:ag→au→Prop}{i:Nat}{x:bZ}{v:V}{u:ag}{Q:Unit→au→Prop}(I:Inv X pins σ H s)(hN:X.N.Nodup)(hi:X.N[i]?=some x)(hx:Loc X.env.scope x)(r:RelV v u)
  (h:∀ s',Inv X pins (σ.set i (some v)) H s'→(∃ a,eE a s.heap s'.heap∧(a=X.env.locals∨X.env.cells.lookup x=some a))→Q () s')(hf:X.fn x=true∨X.env.scope.names.lookup x=some .local:=by first | exact .inl rfl | exact .inr rfl | assumption):wpAny M A (storeName X.env x u) Q E s:=by
 obtain ⟨m,hn,hl⟩:=id I.loc
 have hcls:(X.env.scope.kind==.class||(X.env.scope.kind==.module&&X.env.locals != X.env.globals))=false:=by rw[I.ok.kind];rfl
 have hiσ:i<σ.length:=by rw[I.len];exact (bV.mp hi).1
 have SN:=I.SN
 have tracked:∀ {a:aj} {h':bW},(∃ o,s.heap.get? a=some o∧H a=none)→eE a s.heap h'→qh X.prog X.w H h':=fun {a h'} ha hs b ob e=>by
  obtain ⟨_,_,hfree⟩:=ha
  refine (I.fu b ob e).zV (fun c w' hc q=>(hs.2 c ?_).trans q) (fun _ q=>q) fun _ _ q=>q
  rintro rfl
  rcases hc with rfl | hc
  ·rw[hfree] at e;cases e
  ·rw[hfree] at hc;cases hc
 rcases hx with hk | hk
 ·refine wpAny_storeName_local hk hn (fun h' hn' hs=>?_) hcls
  obtain ⟨oL,_,_,hoL,_⟩:=id hn
  refine h _ ⟨I.ok,I.os,I.bare,⟨fun b o e n hb hx=>?_,fun b o e n hb hx=>?_,I.base.free,fun b o e hx=>?_,I.base.Bo,I.base.yq,I.base.Bp⟩,⟨_,hn',fun j y v' e1 e2 e3=>?_⟩,fun y c e=>?_,I.free,I.mZ,fun p hp=>?_,tracked ⟨oL,hoL,I.free⟩ hs,by simpa using I.len⟩ ⟨_,hs,.inl rfl⟩
  ·exact (hs.2 b (bg (cB (aN e) I.ok.above))).trans (I.base.keep b o e n hb hx)
  ·obtain ⟨sl,e1⟩:=I.base.slot b o e n hb hx
   exact ⟨sl,(hs.2 b (bg (cB (aN e) I.ok.above))).trans e1⟩
  ·obtain ⟨o',e1⟩:=I.base.there b o e hx
   exact ⟨o',(hs.2 b (bg (cB (aN e) I.ok.above))).trans e1⟩
  ·by_cases hj:j=i
   ·subst hj
    rw[hi] at e1;cases e1
    rw[kE hiσ] at e2
    cases e2
    exact ⟨u,r,.inl ⟨hk,by simp⟩⟩
   ·rw[tK (g4 hj)] at e2
    obtain ⟨u',r',q⟩:=hl j y v' e1 e2 e3
    refine ⟨u',r',?_⟩
    rcases q with ⟨k,e⟩ | ⟨k,c,e,z⟩
    ·refine .inl ⟨k,?_⟩
     have:y≠x:=fun e=>hj (yQ hN e1 (e▸hi))
     simp[this,e]
    ·exact .inr ⟨k,c,e,z.sameBut hs (SN y c e)⟩
  ·obtain ⟨w',z⟩:=I.cell y c e
   exact ⟨w',z.sameBut hs (SN y c e)⟩
  ·obtain ⟨e,n,ne,nf,d⟩:=I.pin p hp
   exact ⟨(hs.2 p.1 ne).trans e,n,ne,nf,d⟩
 ·have hfn:X.fn x=true:=by
   rcases hf with z | z
   ·exact z
   ·rw[z] at hk;cases hk
  obtain ⟨c,hc⟩:=I.ok.has x (.inl hk)
  obtain ⟨w',z⟩:=I.cell x c hc
  refine wpAny_storeName_cell I.ok.kind hk hc z (fun h' hc' hs=>?_)
  obtain ⟨oc,hoc,hocd⟩:=id z
  refine h {s with heap:=h'} ⟨I.ok,I.os,I.bare,⟨fun b o e n hb hx=>?_,fun b o e n hb hx=>?_,I.base.free,fun b o e hx=>?_,I.base.Bo,I.base.yq,I.base.Bp⟩,⟨m,hn.sameBut hs (g4 (SN x c hc)),fun j y v' e1 e2 e3=>?_⟩,fun y c' e=>?_,I.free,I.mZ,fun p hp=>?_,tracked ⟨oc,hoc,I.mZ x c hc⟩ hs,by simpa using I.len⟩ ⟨c,hs,.inr hc⟩
  ·exact (hs.2 b (bg (cB (aN e) (I.ok.UU x c hfn hc)))).trans (I.base.keep b o e n hb hx)
  ·obtain ⟨sl,e1⟩:=I.base.slot b o e n hb hx
   exact ⟨sl,(hs.2 b (bg (cB (aN e) (I.ok.UU x c hfn hc)))).trans e1⟩
  ·obtain ⟨o',e1⟩:=I.base.there b o e hx
   exact ⟨o',(hs.2 b (bg (cB (aN e) (I.ok.UU x c hfn hc)))).trans e1⟩
  ·by_cases hj:j=i
   ·subst hj
    rw[hi] at e1;cases e1
    rw[kE hiσ] at e2
    cases e2
    exact ⟨u,r,.inr ⟨.inl hk,c,hc,hc'⟩⟩
   ·rw[tK (g4 hj)] at e2
    obtain ⟨u',r',q⟩:=hl j y v' e1 e2 e3
    refine ⟨u',r',?_⟩
    rcases q with q | ⟨k,c',e,z'⟩
    ·exact .inl q
    ·refine .inr ⟨k,c',e,z'.sameBut hs ?_⟩
     rintro rfl
     exact hj (yQ hN e1 (I.ok.inj _ _ _ e hc▸hi))
  ·by_cases hcc:c'=c
   ·subst hcc;exact ⟨_,hc'⟩
   ·obtain ⟨w2,z2⟩:=I.cell y c' e
    exact ⟨w2,z2.sameBut hs hcc⟩
  ·obtain ⟨e,n,ne,nf,d⟩:=I.pin p hp
   refine ⟨(hs.2 p.1 ?_).trans e,n,ne,nf,d⟩
   intro q
   rw[q,hoc] at e
   have q':oc=p.2:=aH e
   exact d w' (by rw[← q'];exact hocd)
theorem DF {M:LB}{A:cC}{E:ag→au→Prop}{i:Nat}{x:bZ}{v:V}{u:ag}{Q:Unit→au→Prop}(I:Inv X pins σ H s)(hN:X.N.Nodup)(hi:X.N[i]?=some x)(hx:Loc X.env.scope x)(r:RelV v u)
  (h:∀ s',Inv X pins (σ.set i (some v)) H s'→Q () s')(hf:X.fn x=true∨X.env.scope.names.lookup x=some .local:=by first | exact .inl rfl | exact .inr rfl | assumption):wpAny M A (storeName X.env x u) Q E s :=
 Aw I hN hi hx r (fun s' I' _=>h s' I') hf
theorem Inv.VZ {s':au}{ch:List aj}(I:Inv X pins σ H s)(ho:s'.os=s.os)(u:Un (LJ X.stack) ch H H' s.heap s'.heap)(fu:qh X.prog X.w H' s'.heap)(hg:z0 s'.gens)
  (hch:∀ b∈ch,(b∈X.ex∨X.s_0.heap.objs.size≤b)∧b≠X.env.locals∧(∀ x c,X.env.cells.lookup x=some c→c≠b)∧∀ p∈X.pn++pins,p.1≠b):Inv X pins σ H' s':=by
 obtain ⟨h',g',d',t',o'⟩:=s'
 have e:o'=s.os:=ho
 subst e
 exact I.call (g':=g') (t':=t') (d':=d') u fu hg hch
end
abbrev XK:=ag→Option aj→Hp→Prop
abbrev St:=List (Option V)
abbrev VK:=V→Hp→Prop
abbrev TE:=St→Hp→VK→Prop
abbrev TT:=St→Hp→(Bool→Hp→Prop)→Prop
abbrev TA:=St→Hp→(List V→Hp→Prop)→Prop
structure Ends where
 nx:St→Hp→Prop
 rt:VK
 bk:St→Hp→Prop:=fun _ _=>False
 ct:St→Hp→Prop:=fun _ _=>False
abbrev TS:=Ends→St→Hp→Prop
def EP (X:Cx)(pins:List (aj×fD))(σ:St)(Q:VK)(u:ag)(s':au):Prop:=∃ v H',Inv X pins σ H' s'∧RelV v u∧Q v H'
def TP (X:Cx)(pins:List (aj×fD))(σ:St)(Q:Bool→Hp→Prop)(b:Bool)(s':au):Prop:=∃ H',Inv X pins σ H' s'∧Q b H'
def AP (X:Cx)(pins:List (aj×fD))(σ:St)(Q:List V→Hp→Prop)(us:List ag)(s':au):Prop:=∃ vs H',Inv X pins σ H' s'∧di vs us∧Q vs H'
def SP (X:Cx)(pins:List (aj×fD))(D:Ends)(f:Flow)(s':au):Prop :=
 match f with
 | .next=>∃ σ' H',Inv X pins σ' H' s'∧D.nx σ' H'
 | .brk=>∃ σ' H',Inv X pins σ' H' s'∧D.bk σ' H'
 | .cont=>∃ σ' H',Inv X pins σ' H' s'∧D.ct σ' H'
 | .ret u=>∃ v σ' H',Inv X pins σ' H' s'∧RelV v u∧D.rt v H'
def PE (X:Cx)(e:Expr)(t:TE):Prop :=
 ∀ (pins:List (aj×fD)) (s:au) (σ:St) (H:Hp) (Q:VK),Inv X pins σ H s→t σ H Q→wpAny (model X.prog X.w) X.A (eval e X.env) (EP X pins σ Q) X.xe s
def PT (X:Cx)(e:Expr)(t:TT):Prop :=
 ∀ (pins:List (aj×fD)) (s:au) (σ:St) (H:Hp) (Q:Bool→Hp→Prop),Inv X pins σ H s→t σ H Q→wpAny (model X.prog X.w) X.A (isTrue e X.env (eval e X.env)) (TP X pins σ Q) X.xe s
def PW (X:Cx)(e:Expr)(t:TT):Prop :=
 ∀ (whole:o9 ag) (pins:List (aj×fD)) (s:au) (σ:St) (H:Hp) (Q:Bool→Hp→Prop),Inv X pins σ H s→t σ H Q→wpAny (model X.prog X.w) X.A (isTrue e X.env whole) (TP X pins σ Q) X.xe s
theorem PW.pt {X:Cx}{e:Expr}{t:TT}(h:PW X e t):PT X e t:=h _
def PA (X:Cx)(es:List Expr)(t:TA):Prop :=
 ∀ (pos:jR) (pins:List (aj×fD)) (s:au) (σ:St) (H:Hp) (Q:List V→Hp→Prop),Inv X pins σ H s→t σ H Q→wpAny (model X.prog X.w) X.A (spliced (backTo pos (bS es X.env))) (AP X pins σ Q) X.xe s
def PS (X:Cx)(st:d3)(t:TS):Prop :=
 ∀ (pins:List (aj×fD)) (s:au) (σ:St) (H:Hp) (D:Ends),Inv X pins σ H s→t D σ H→wpAny (model X.prog X.w) X.A (exec st X.env) (SP X pins D) X.xe s
def Jz (X:Cx)(st:List d3)(t:TS):Prop :=
 ∀ (pins:List (aj×fD)) (s:au) (σ:St) (H:Hp) (D:Ends),Inv X pins σ H s→t D σ H→wpAny (model X.prog X.w) X.A (execs st X.env) (SP X pins D) X.xe s
theorem gN {α:Type}{t:o9 α}{Q Q':α→au→Prop}{M:LB}{A:cC}{E:ag→au→Prop}{s:au}(h:wpAny M A t Q E s)(hQ:∀ a s,Q a s→Q' a s):wpAny M A t Q' E s:=hW h hQ fun _ _ x=>x
section
variable {X:Cx}
def qG (i:Nat):TE:=fun σ H Q=>∃ v,σ[i]?=some (some v)∧Q v H
def tC (v:V):TE:=fun _ H Q=>Q v H
theorem TC {i:Nat}{x:bZ}{pos:jR}(hN:X.N[i]?=some x)(hv:UW X.env.scope x)(hd:(x==("__debug__":bZ))=false:=by decide)(hcd:(x==("__classdict__":bZ))=false:=by decide):PE X (.Name x pos) (qG i):=by
 intro pins s σ H Q I h
 obtain ⟨v,e,h⟩:=h
 obtain ⟨m,hn,hl⟩:=I.loc
 obtain ⟨u,r,l⟩:=hl i x v hN e hv
 have fin:EP X pins σ Q u s:=⟨v,H,I,r,h⟩
 rcases l with ⟨hk,hm⟩ | ⟨hk,c,hc,hcell⟩
 ·exact wpAny_Name (wpAny_loadName_local I.ok.kind hk hn hm fin) hd
 ·rcases hk with hk | hk
  ·exact wpAny_Name (wpAny_loadName_cell I.ok.kind hk hc hcell fin) hd
  ·exact wpAny_Name (wpAny_loadName_free I.ok.kind hk hc hcell fin hcd) hd
theorem aZ {i j pos}:PE X (.Constant (.int i) j pos) (tC (.int i)):=fun _ _ _ H _ I h=>wpAny_Constant_int ⟨.int i,H,I.tok _,⟨_,rfl⟩,h⟩
theorem Ah {b j pos}:PE X (.Constant (.bool b) j pos) (tC (.bl b)):=fun _ _ _ H _ I h=>Constant_bool ⟨.bl b,H,I,rfl,h⟩
theorem nR {j pos}:PE X (.Constant .none j pos) (tC .hU):=fun _ _ _ H _ I h=>Constant_none ⟨.hU,H,I,rfl,h⟩
def Gl (X:Cx)(x:bZ):Prop:=X.env.kindOf x=some .globalImplicit
theorem Cm {E:ag→au→Prop}{pins:List (aj×fD)}{s:au}{σ:St}{H:Hp}{x:bZ}{u:ag}{pos:jR}{Q:ag→au→Prop}(I:Inv X pins σ H s)(hg:Gl X x)(hm:X.mg x=some u)(h:Q u s)
  (hd:(x==("__debug__":bZ))=false:=by decide):wpAny (model X.prog X.w) X.A (eval (.Name x pos) X.env) Q E s :=
 Ad I.ok.kind hg (Calls.loadGlobal_global (by rw[I.ok.glob];exact I.mod.glob.keeps I.bk) hm h) hd
theorem jy {E:ag→au→Prop}{pins:List (aj×fD)}{s:au}{σ:St}{H:Hp}{x:bZ}{u:ag}{pos:jR}{Q:ag→au→Prop}(I:Inv X pins σ H s)(hg:Gl X x)(hm:X.mg x=none)(hv:bootBuiltins x=some u)(h:Q u s)
  (hn:x≠"__name__":=by decide)(hd:(x==("__debug__":bZ))=false:=by decide):wpAny (model X.prog X.w) X.A (eval (.Name x pos) X.env) Q E s:=by
 obtain ⟨mb,h1,h2⟩:=I.mod.blt
 exact Ad I.ok.kind hg (Calls.loadGlobal_builtin (by rw[I.ok.glob];exact I.mod.glob.keeps I.bk) hm (by rw[I.ok.blt];exact h1.keeps I.bk) ((h2 x hn).trans hv) h) hd
theorem cg {x:bZ}{v:V}{u:ag}{pos:jR}(hg:Gl X x)(hm:X.mg x=some u)(r:RelV v u)(hd:(x==("__debug__":bZ))=false:=by decide):PE X (.Name x pos) (tC v) :=
 fun _ _ _ H _ I h=>Cm I hg hm ⟨v,H,I,r,h⟩ hd
variable {a b:Expr}{ta tb:TE}{pos:jR}
def tB (t:TE):TT:=fun σ H Q=>t σ H fun x H1=>∃ c,x=.bl c∧Q c H1
theorem pk {e:Expr}{t:TE}(h:PE X e t)(he:∀ whole,isTrue e X.env whole=(do let v ← whole;standAt e.pos;holding [v] (truthy v)):=by intro _;rfl):PT X e (tB t):=by
 intro pins s σ H Q I hw
 refine isTrue_plain (gN (h pins s σ H _ I hw) fun v s1 ⟨x,H1,I1,r1,q1⟩=>?_) (he _)
 obtain ⟨d,rfl,q⟩:=q1
 cases r1
 exact fo ⟨H1,I1,q⟩
variable {tA tB':TT}{rest:List Expr}
def U5 (t u:TT):TT:=fun σ H Q=>t σ H fun c H1=>if c=true then u σ H1 Q else Q false H1
def Xh (t u:TT):TT:=fun σ H Q=>t σ H fun c H1=>if c=true then Q true H1 else u σ H1 Q
def Wu (t:TT):TT:=fun σ H Q=>t σ H fun c H1=>Q (!c) H1
theorem pC (ha:PT X a tA):PW X (.BoolOp .And [a] pos) tA:=by
 intro wh pins s σ H Q I h
 refine isTrue_and (gN (ha pins s σ H Q I h) fun c s1 e=>?_)
 cases c with
 | true=>exact isTrue_and_nil e
 | false=>exact e
theorem BN (ha:PT X a tA):PW X (.BoolOp .Or [a] pos) tA:=by
 intro wh pins s σ H Q I h
 refine isTrue_or (gN (ha pins s σ H Q I h) fun c s1 e=>?_)
 cases c with
 | false=>exact isTrue_or_nil e
 | true=>exact e
theorem pj (ha:PT X a tA)(hb:PW X (.BoolOp .And (b::rest) pos) tB'):PW X (.BoolOp .And (a::b::rest) pos) (U5 tA tB'):=by
 intro wh pins s σ H Q I h
 refine isTrue_and (gN (ha pins s σ H _ I h) fun c s1 ⟨H1,I1,q1⟩=>?_)
 cases c with
 | true=>exact hb wh pins s1 σ H1 Q I1 q1
 | false=>exact ⟨H1,I1,q1⟩
theorem HL (ha:PT X a tA)(hb:PW X (.BoolOp .Or (b::rest) pos) tB'):PW X (.BoolOp .Or (a::b::rest) pos) (Xh tA tB'):=by
 intro wh pins s σ H Q I h
 refine isTrue_or (gN (ha pins s σ H _ I h) fun c s1 ⟨H1,I1,q1⟩=>?_)
 cases c with
 | true=>exact ⟨H1,I1,q1⟩
 | false=>exact hb wh pins s1 σ H1 Q I1 q1
theorem tO (ha:PT X a tA):PT X (.UnaryOp .Not a pos) (Wu tA):=by
 intro pins s σ H Q I h
 exact isTrue_not (ha pins s σ H (fun c H1=>Q (!c) H1) I h)
def VD (ta tb:TE):TE:=fun σ H Q=>ta σ H fun x H1=>∃ c,x=.bl c∧if c=true then tb σ H1 Q else Q (.bl false) H1
theorem Mt {op}{t:TE}(h:PE X a t):PE X (.BoolOp op [a] pos) t:=fun pins s σ H Q I hw=>BoolOp_one (h pins s σ H Q I hw)
theorem FV (ha:PE X a ta)(hb:PE X (.BoolOp .And (b::rest) pos) tb):PE X (.BoolOp .And (a::b::rest) pos) (VD ta tb):=by
 intro pins s σ H Q I h
 refine BoolOp_and (gN (ha pins s σ H _ I h) fun v s1 ⟨x,H1,I1,r1,q1⟩=>?_)
 obtain ⟨c,rfl,q1⟩:=q1
 cases r1
 refine fo ?_
 cases c with
 | true=>exact hb pins s1 σ H1 Q I1 q1
 | false=>exact ⟨.bl false,H1,I1,rfl,q1⟩
def Xi (t:TT)(ta tb:TE):TE:=fun σ H Q=>t σ H fun c H1=>if c=true then ta σ H1 Q else tb σ H1 Q
theorem yM {c:Expr}(hc:PT X c tA)(ha:PE X a ta)(hb:PE X b tb):PE X (.IfExp c a b pos) (Xi tA ta tb):=by
 intro pins s σ H Q I h
 refine wpAny_IfExp (gN (hc pins s σ H _ I h) fun d s1 ⟨H1,I1,q1⟩=>?_)
 cases d with
 | true=>exact ha pins s1 σ H1 Q I1 q1
 | false=>exact hb pins s1 σ H1 Q I1 q1
end
def cI (K:ai)(H:Hp)(a:aj)(xs:List V):Prop :=
 Rd H a (.lst xs) ∨
  ∃ (o:fD) (its:Array ag) (n:Nat),K.lookup a=some o∧o.cls=.type "list"∧o.dict=none∧o.data=.seq its n∧its.size≤aP∧di xs its.toList
def fR (K:ai)(H:Hp)(a:aj)(xs:List V):Prop :=
 Rd H a (.tup xs) ∨
  ∃ (o:fD) (its:Array ag) (n:Nat),K.lookup a=some o∧o.cls=.type "tuple"∧o.data=.seq its n∧its.size≤aP∧di xs its.toList
def WU:ag→Option V
 | .none=>some .hU
 | .bool b=>some (.bl b)
 | .int i _=>some (.int i)
 | .str x _=>some (.str x)
 | .bytes b _=>some (.Fd b)
 | .float b _=>some (.Wf b)
 | .ref a=>some (.ref a)
 | .type n=>some (.ty n)
 | _=>none
theorem RelV.abs {x:V}{u:ag}(r:RelV x u):WU u=some x:=by
 cases x with
 | hU=>cases r;rfl
 | bl _=>cases r;rfl
 | int _=>obtain ⟨t,rfl⟩:=r;rfl
 | str _=>obtain ⟨t,rfl⟩:=r;rfl
 | Fd _=>obtain ⟨t,rfl⟩:=r;rfl
 | Wf _=>obtain ⟨t,rfl⟩:=r;rfl
 | ref _=>cases r;rfl
 | ty _=>cases r;rfl
theorem RelV.inj {x y:V}{u:ag}(r:RelV x u)(q:RelV y u):x=y:=aH (r.abs.symm.trans q.abs)
theorem di.inj:∀ {xs ys:List V} {us:List ag},di xs us→di ys us→xs=ys
 | _,_,_,.nil,.nil=>rfl
 | _,_,_,.cons r t,.cons r' t'=>by rw[r.inj r',di.inj t t']
section
variable {X:Cx}{pins:List (aj×fD)}{σ:St}{H:Hp}{s:au}{a:aj}{xs ys:List V}
theorem cI.of {K:ai}(h:H a=some (.lst xs)):cI K H a xs:=.inl (.inl h)
theorem fR.of {K:ai}(h:H a=some (.tup xs)):fR K H a xs:=.inl (.inl h)
theorem Inv.list (I:Inv X pins σ H s)(h:cI X.K H a xs):∃ its:List ag,di xs its∧PlainL s.heap a its.toArray∧xs.length≤aP:=by
 rcases h with h | ⟨o,its,n,hk,hc,hd,hs,hz,r⟩
 ·obtain ⟨z,its,n,r,e⟩:=h.ok I.fu
  exact ⟨its,r,⟨_,n,e,rfl,rfl,rfl⟩,z⟩
 ·refine ⟨its.toList,r,⟨o,n,I.Hn a o hk,hc,hd,by simpa using hs⟩,?_⟩
  have e:=r.length
  simp only[cO] at e
  omega
theorem Inv.tuple (I:Inv X pins σ H s)(h:fR X.K H a xs):∃ its:List ag,di xs its∧qr s.heap a its.toArray∧xs.length≤aP:=by
 rcases h with h | ⟨o,its,n,hk,hc,hs,hz,r⟩
 ·obtain ⟨z,its,r,p⟩:=h.ok I.fu
  exact ⟨its,r,p,z⟩
 ·refine ⟨its.toList,r,⟨o,I.Hn a o hk,hc,n,by simpa using hs⟩,?_⟩
  have e:=r.length
  simp only[cO] at e
  omega
theorem Inv.uY (I:Inv X pins σ H s)(h:cI X.K H a xs)(h':cI X.K H a ys):xs=ys:=by
 obtain ⟨its,r,⟨o,n,e,_,_,d⟩,_⟩:=I.list h
 obtain ⟨its',r',⟨o',n',e',_,_,d'⟩,_⟩:=I.list h'
 rw[e] at e';cases e'
 rw[d] at d'
 injection d' with d1 _
 have:its=its':=by simpa using congrArg Ex d1
 subst this
 exact r.inj r'
theorem Inv.vK (I:Inv X pins σ H s)(h:fR X.K H a xs)(h':fR X.K H a ys):xs=ys:=by
 obtain ⟨its,r,⟨o,e,_,n,d⟩,_⟩:=I.tuple h
 obtain ⟨its',r',⟨o',e',_,n',d'⟩,_⟩:=I.tuple h'
 rw[e] at e';cases e'
 rw[d] at d'
 injection d' with d1 _
 have:its=its':=by simpa using congrArg Ex d1
 subst this
 exact r.inj r'
end
abbrev Cx.zU (X:Cx)(E:ag→au→Prop):Cx:={X with xe:=E}
abbrev Cx.Wc (X:Cx):Cx:=X.zU fun _ _=>False
theorem Cx.Ok.zU {X:Cx}(ok:X.Ok)(E:ag→au→Prop):(X.zU E).Ok :=
 ⟨ok.mod,ok.kind,ok.glob,ok.blt,ok.above,ok.inj,ok.has,ok.UU,ok.hd,ok.frames,ok.V9,ok.Wg,ok.bs,ok.PB,ok.LQ,ok.LS,ok.xg,ok.SM⟩
theorem Cx.Ok.qT {X:Cx}{E:ag→au→Prop}(ok:(X.zU E).Ok):X.Ok :=
 ⟨ok.mod,ok.kind,ok.glob,ok.blt,ok.above,ok.inj,ok.has,ok.UU,ok.hd,ok.frames,ok.V9,ok.Wg,ok.bs,ok.PB,ok.LQ,ok.LS,ok.xg,ok.SM⟩
section
variable {X:Cx}{pins:List (aj×fD)}{σ:St}{H:Hp}{s:au}{E:ag→au→Prop}
theorem Inv.zU (I:Inv X pins σ H s)(E:ag→au→Prop):Inv (X.zU E) pins σ H s:=⟨I.ok.zU E,I.os,I.bare,I.base,I.loc,I.cell,I.free,I.mZ,I.pin,I.fu,I.len⟩
theorem Inv.qT (I:Inv (X.zU E) pins σ H s):Inv X pins σ H s:=⟨I.ok.qT,I.os,I.bare,I.base,I.loc,I.cell,I.free,I.mZ,I.pin,I.fu,I.len⟩
theorem SP.qT {D:Ends}{f:Flow}{s':au}(h:SP (X.zU E) pins D f s'):SP X pins D f s':=by
 cases f with
 | next=>obtain ⟨σ',H',I,q⟩:=h;exact ⟨σ',H',I.qT,q⟩
 | brk=>obtain ⟨σ',H',I,q⟩:=h;exact ⟨σ',H',I.qT,q⟩
 | cont=>obtain ⟨σ',H',I,q⟩:=h;exact ⟨σ',H',I.qT,q⟩
 | ret u=>obtain ⟨v,σ',H',I,r,q⟩:=h;exact ⟨v,σ',H',I.qT,r,q⟩
theorem Jz.Wc {st:List d3}{t:TS}(h:Jz X.Wc st t):Jz X st t:=fun pins s σ H D I hw =>
 hW (h pins s σ H D (I.zU _) hw) (fun _ _ q=>q.qT) fun _ _ z=>ft z
end
section
variable {X:Cx}{st:d3}{rest:List d3}{t u:TS}{e:Expr}{te:TE}{pos:jR}
def lK:TS:=fun D σ H=>D.nx σ H
def om (t u:TS):TS:=fun D σ H=>t {D with nx:=u D} σ H
theorem cX:Jz X [] lK:=fun _ _ σ H _ I h=>ur ⟨σ,H,I,h⟩
theorem aE (h1:PS X st t)(h2:Jz X rest u):Jz X (st::rest) (om t u):=by
 intro pins s σ H D I h
 refine wpAny_execs_cons (gN (h1 pins s σ H {D with nx:=u D} I h) fun f s1 q=>?_)
 cases f with
 | next =>
  obtain ⟨σ',H',I',q⟩:=q
  exact h2 pins s1 σ' H' D I' q
 | ret v=>exact q
 | brk=>exact q
 | cont=>exact q
theorem aR (h1:PS X st t):Jz X [st] t:=by
 intro pins s σ H D I h
 refine wpAny_execs_cons (gN (h1 pins s σ H D I h) fun f s1 q=>?_)
 cases f with
 | next=>exact ur q
 | ret v=>exact q
 | brk=>exact q
 | cont=>exact q
theorem Inv.quiet {pins:List (aj×fD)}{σ:St}{H:Hp}{s:au}(I:Inv X pins σ H s):interactive X.env=false:=by simp[interactive,I.ok.kind]
def Vz (te:TE):TS:=fun D σ H=>te σ H fun _ H1=>D.nx σ H1
theorem fT (he:PE X e te)(hs:swapsWith e none pos.line X.env=pure false:=by rfl):PS X (.Expr e pos) (Vz te):=by
 intro pins s σ H D I h
 exact wpAny_Expr_any (gN (he pins s σ H _ I h) fun v s1 ⟨x,H1,I1,r1,q1⟩=>⟨σ,H1,I1,q1⟩) I.quiet hs
def qH (te:TE):TS:=fun D σ H=>te σ H D.rt
theorem bO (he:PE X e te):PS X (.Return (some e) pos) (qH te):=by
 intro pins s σ H D I h
 exact wpAny_Return_some (gN (he pins s σ H _ I h) fun v s1 ⟨x,H1,I1,r1,q1⟩=>⟨x,σ,H1,I1,r1,q1⟩)
def sQ (c:TT)(t u:TS):TS:=fun D σ H=>c σ H fun b H1=>if b=true then t D σ H1 else u D σ H1
theorem eG {c:Expr}{a b:List d3}{tc:TT}(hc:PT X c tc)(ha:Jz X a t)(hb:Jz X b u):PS X (.If c a b pos) (sQ tc t u):=by
 intro pins s σ H D I h
 refine wpAny_If (gN (hc pins s σ H _ I h) fun d s1 ⟨H1,I1,q1⟩=>?_)
 cases d with
 | true=>exact ha pins s1 σ H1 D I1 q1
 | false=>exact hb pins s1 σ H1 D I1 q1
end
abbrev TG:=V→St→Hp→(St→Hp→Prop)→Prop
abbrev SO:=List V→St→Hp→(St→Hp→Prop)→Prop
def PG (X:Cx)(target:Expr)(t:TG):Prop :=
 ∀ (pins:List (aj×fD)) (s:au) (σ:St) (H:Hp) (v:V) (u:ag) (Q:St→Hp→Prop),Inv X pins σ H s→RelV v u→t v σ H Q →
  wpAny (model X.prog X.w) X.A (assign target X.env u) (fun _ s'=>∃ σ' H',Inv X pins σ' H' s'∧Q σ' H') X.xe s
def Wh (X:Cx)(ts:List Expr)(t:SO):Prop :=
 ∀ (pins:List (aj×fD)) (s:au) (σ:St) (H:Hp) (vs:List V) (us:List ag) (Q:St→Hp→Prop),Inv X pins σ H s→di vs us→t vs σ H Q →
  wpAny (model X.prog X.w) X.A (assignInOrder ((assignEach ts X.env).map (·.2)) us) (fun _ s'=>∃ σ' H',Inv X pins σ' H' s'∧Q σ' H') X.xe s
abbrev S6:=V→V→V→Hp→(Hp→Prop)→Prop
def Vm (X:Cx)(t:S6):Prop :=
 ∀ (pins:List (aj×fD)) (s:au) (σ:St) (H:Hp) (o i v:V) (ov iv u:ag) (Q:Hp→Prop),Inv X pins σ H s→RelV o ov→RelV i iv→RelV v u→t o i v H Q →
  wpAny (model X.prog X.w) X.A (setItem ov iv u) (fun _ s'=>∃ H',Inv X pins σ H' s'∧Q H') X.xe s
section
variable {X:Cx}{pos:jR}
def mY (i:Nat):TG:=fun v σ H Q=>Q (σ.set i (some v)) H
theorem cK {i:Nat}{x:bZ}(hN:X.N.Nodup)(hi:X.N[i]?=some x)(hx:Loc X.env.scope x)(hf:X.fn x=true∨X.env.scope.names.lookup x=some .local:=by first | exact .inl rfl | exact .inr rfl | assumption):PG X (.Name x pos) (mY i):=by
 intro pins s σ H v u Q I r h
 exact wpAny_assign_Name (DF I hN hi hx r (fun s' I'=>⟨_,H,I',h⟩) hf)
def Vh:SO:=fun vs σ H Q=>vs=[]∧Q σ H
def L4 (t:TG)(u:SO):SO:=fun vs σ H Q=>∃ v r,vs=v::r∧t v σ H fun σ' H'=>u r σ' H' Q
theorem uE:Wh X [] Vh:=by
 intro pins s σ H vs us Q I r h
 obtain ⟨e,h⟩:=h
 subst e
 cases r
 exact assignInOrder_nil ⟨σ,H,I,h⟩
theorem jo {e:Expr}{es:List Expr}{t:TG}{u:SO}(h1:PG X e t)(h2:Wh X es u)
  (hs:(assignEach (e::es) X.env).map (·.2)=assign e X.env::(assignEach es X.env).map (·.2):=by rfl):Wh X (e::es) (L4 t u):=by
 intro pins s σ H vs us Q I r h
 obtain ⟨v,vr,e1,h⟩:=h
 subst e1
 cases r with
 | cons r rr =>
  rw[hs]
  refine assignInOrder_cons (gN (h1 pins s σ H _ _ _ I r h) fun _ s1 ⟨σ1,H1,I1,q1⟩=>?_)
  exact h2 pins s1 σ1 H1 _ _ Q I1 rr q1
def Vg (K:ai)(n:Nat)(t:SO):TG:=fun v σ H Q=>∃ a xs,v=.ref a∧fR K H a xs∧xs.length=n∧t xs σ H Q
theorem yE {es:List Expr}{k:Nat}{t:SO}{n:Nat}(hc:X.calm=true)(h:Wh X es t)
  (hn:(assignEach es X.env).length=n:=by rfl)(hst:(assignEach es X.env).findIdx? (·.1)=none:=by rfl):PG X (.Tuple es k pos) (Vg X.K n t):=by
 intro pins s σ H v u Q I r hw
 obtain ⟨a,xs,e1,hq,hl,hw⟩:=hw
 subst e1
 cases r
 obtain ⟨its,rv,ht,hz⟩:=I.tuple hq
 refine assign_Tuple_tuple (I.ok.hd hc) ht (by simp[hn,← hl,rv.length]) hst fun h' hx=>?_
 have I1:Inv X pins σ H {s with heap:=h'}:=I.kept (t':=s.toks) fun b o e=>hx b o (bg (aN e)) e
 exact h pins _ σ H xs _ Q I1 (by simpa using rv) hw
def WO (to ti:TE)(t:S6):TG:=fun v σ H Q=>to σ H fun o H1=>ti σ H1 fun i H2=>t o i v H2 fun H3=>Q σ H3
theorem BP {o i:Expr}{to ti:TE}{t:S6}(ho:PE X o to)(hi:PE X i ti)(hs:Vm X t)
  (ha:∀ v,assign (.Subscript o i pos) X.env v=(do
   let ov ← holding [v] (eval o X.env)
   let iv ← holding [v,ov] (eval i X.env)
   standAt pos
   holding [v,ov,iv] (setItem ov iv v)
   release [v,ov,iv] []):=by intro _;rfl):PG X (.Subscript o i pos) (WO to ti t):=by
 intro pins s σ H v u Q I r h
 rw[ha]
 refine aa (dn (gN (ho pins s σ H _ I h) fun ov s1 ⟨x,H1,I1,r1,q1⟩=>?_))
 refine aa (dn (gN (hi pins s1 σ H1 _ I1 q1) fun iv s2 ⟨y,H2,I2,r2,q2⟩=>?_))
 refine aa (JL (aa (dn (gN (hs pins s2 σ H2 x y v ov iv u _ I2 r1 r2 r q2) fun _ s3 ⟨H3,I3,q3⟩=>?_))))
 exact wpAny_release ⟨σ,H3,I3,q3⟩
def LP (te:TE)(g:TG):TS:=fun D σ H=>te σ H fun x H1=>g x σ H1 D.nx
theorem BO {tg e:Expr}{te:TE}{g:TG}(he:PE X e te)(hg:PG X tg g)(hs:swapsWithSole [tg] e pos.line X.env=pure false:=by rfl)(hw:swappedStores [tg] e X.env=pure none:=by rfl)
  (h1:(assignEach [tg] X.env).map (·.2)=[assign tg X.env]:=by rfl):PS X (.Assign [tg] e pos) (LP te g):=by
 intro pins s σ H D I h
 refine wpAny_Assign_stores (gN (he pins s σ H _ I h) fun v s1 ⟨x,H1,I1,r1,q1⟩=>?_) hs hw
 rw[h1]
 exact gN (hg pins s1 σ H1 x v _ I1 r1 q1) fun _ s2 q=>q
theorem cy {i:Nat}{x:bZ}{e:Expr}{te:TE}{pos':jR}(hN:X.N.Nodup)(hi:X.N[i]?=some x)(hx:Loc X.env.scope x)(he:PE X e te)(hs:swapsWith e (some (.Name x pos')) pos.line X.env=pure false:=by rfl)(hf:X.fn x=true∨X.env.scope.names.lookup x=some .local:=by first | exact .inl rfl | exact .inr rfl | assumption) :
  PS X (.Assign [.Name x pos'] e pos) (LP te (mY i)):=by
 intro pins s σ H D I h
 refine wpAny_Assign_Name (gN (he pins s σ H _ I h) fun v s1 ⟨y,H1,I1,r1,q1⟩=>?_) hs
 exact DF I1 hN hi hx r1 (fun s2 I2=>⟨_,H1,I2,q1⟩) hf
end
section
variable {X:Cx}{pos:jR}
def S9 (c:TT)(tb:TS):TS:=fun D σ H=>∃ W:Nat→St→Hp→Prop,(∃ m,W m σ H)∧∀ m σ H,W m σ H →
 c σ H fun b H1=>if b=true then ∃ N:St→Hp→Prop,(∀ σ' H',N σ' H'→∃ m',m'<m∧W m' σ' H')∧tb {D with nx:=N,ct:=N,bk:=D.nx} σ H1 else D.nx σ H1
theorem my {c:Expr}{body:List d3}{tc:TT}{tb:TS}(hp:PassesOwn (model X.prog X.w) X.A X.env X.xe)(hc:PT X c tc)(hb:Jz X body tb):PS X (.While c body [] pos) (S9 tc tb):=by
 intro pins s σ H D I h
 obtain ⟨W,⟨m0,w0⟩,turn⟩:=h
 refine wpAny_While (codeAny_whileLoop (fun n s'=>∃ σ' H',Inv X pins σ' H' s'∧W n σ' H') ?_ m0 ⟨σ,H,I,w0⟩)
 rintro n s1 ⟨σ1,H1,I1,w1⟩
 refine i6 hp (gN (hc pins s1 σ1 H1 _ I1 (turn n σ1 H1 w1)) fun b s2 ⟨H2,I2,q2⟩=>?_)
 cases b with
 | true =>
  obtain ⟨N,hN,q2⟩:=q2
  rw[if_pos rfl]
  refine i6 hp (gN (hb pins s2 σ1 H2 _ I2 q2) fun f s3 q3=>?_)
  cases f with
  | next =>
   obtain ⟨σ3,H3,I3,n3⟩:=q3
   obtain ⟨m',hm,w3⟩:=hN σ3 H3 n3
   exact ⟨m',hm,σ3,H3,I3,w3⟩
  | cont =>
   obtain ⟨σ3,H3,I3,n3⟩:=q3
   obtain ⟨m',hm,w3⟩:=hN σ3 H3 n3
   exact ⟨m',hm,σ3,H3,I3,w3⟩
  | brk=>exact q3
  | ret v=>exact q3
 | false =>
  rw[if_neg bo]
  exact ur ⟨σ1,H2,I2,q2⟩
end
structure It where
 go:Nat→Hp→Prop
 zO:Nat→Hp→V→Hp→Prop
 stop:Nat→Hp→Prop
def xh (X:Cx)(pins:List (aj×fD))(H:Hp)(b:aj):Prop :=
 H b=none∧b≠X.env.locals∧b∉X.fs∧(b∈X.ex∨X.s_0.heap.objs.size≤b)∧(∀ x c,X.env.cells.lookup x=some c→c≠b)∧∀ p∈X.pn++pins,p.1≠b
theorem Inv.De {X:Cx}{pins:List (aj×fD)}{σ:St}{H H':Hp}{s:au}{b:aj}(I:Inv X pins σ H s)(hb:s.heap.objs.size≤b)(hn:H' b=none):xh X pins H' b:=by
 refine ⟨hn,gh (cB I.lt hb),I.WG hb,.inr (aB I.sz hb),fun x c e z=>?_,fun p hp z=>?_⟩
 ·obtain ⟨v,q⟩:=I.cell x c e
  exact absurd (cB q.lt (by rw[z];exact hb)) (du _)
 ·exact absurd (cB (aN (I.pin p hp).1) (by rw[z];exact hb)) (du _)
structure Turn (P:aV)(w:bK)(K:ai)(tg:Expr)(J:It)(fp:List aj)(it:aj)(tn:Nat→bW→Prop):Prop where
 mem:it∈fp
 obj:∀ i h,tn i h→∀ b∈fp,∃ o,h.get? b=some o∧∀ v,o.data≠.cell v
 keep:∀ i h h',tn i h→(∀ b∈fp,∀ o,h.get? b=some o→h'.get? b=some o)→tn i h'
 item:∀ (X:Cx),X.prog=P→X.w=w→X.K=K→X.calm=true→∀ (i:Nat) (pins:List (aj×fD)) (s:au) (σ:St) (H:Hp) (E:ag→au→Prop),Inv X pins σ H s→(∀ b∈fp,xh X pins H b)→tn i s.heap→J.go i H →
  wpAny (model P w) X.A (pyNext (.ref it)) (fun r s1=>∃ u,r=some u ∧
   wpAny (model P w) X.A (letOwnedTupleGo tg (.ref it) u) (fun _ s2=>∃ x H',Inv X pins σ H' s2∧RelV x u∧J.zO i H x H'∧tn (i+1) s2.heap∧∀ b∈fp,H' b=none) E s1) E s
 done:∀ (X:Cx),X.prog=P→X.w=w→X.K=K→X.calm=true→∀ (i:Nat) (pins:List (aj×fD)) (s:au) (σ:St) (H:Hp) (E:ag→au→Prop),Inv X pins σ H s→(∀ b∈fp,xh X pins H b)→tn i s.heap→J.stop i H →
  wpAny (model P w) X.A (pyNext (.ref it)) (fun r s1=>r=none∧Inv X pins σ H s1) E s
 self:∀ (A:cC) (i:Nat) (s:au) (Q:ag→au→Prop) (E:ag→au→Prop),tn i s.heap→Q (.ref it) s→wpAny (model P w) A (pyIter (.ref it)) Q E s
abbrev TI:=St→Hp→(It→Hp→Prop)→Prop
def UZ (X:Cx)(pins:List (aj×fD))(σ:St)(tg:Expr)(R:It→Hp→Prop)(itv:ag)(s2:au):Prop :=
 ∃ (it:aj) (fp:List aj) (tn:Nat→bW→Prop) (J:It) (H':Hp),itv=.ref it∧Inv X pins σ H' s2∧Turn X.prog X.w X.K tg J fp it tn∧tn 0 s2.heap∧(∀ b∈fp,xh X pins H' b)∧R J H'
def PI (X:Cx)(tg iter:Expr)(wi:TI):Prop :=
 ∀ (pins:List (aj×fD)) (s:au) (σ:St) (H:Hp) (R:It→Hp→Prop),Inv X pins σ H s→wi σ H R →
  wpAny (model X.prog X.w) X.A (eval iter X.env) (fun v s1=>wpAny (model X.prog X.w) X.A (pyIter v) (UZ X pins σ tg R) X.xe s1) X.xe s
theorem HP {M:LB}{A:cC}{E:ag→au→Prop}{s:au}{tg:Expr}{it:aj}{u:ag}{o:fD}{n:String}{vs:Array ag}{Q:Unit→au→Prop}(ho:s.heap.get? it=some o)(hc:o.cls=.type n)(hd:o.data=.fields vs)
  (hn:["enumerate","zip","dict_itemiterator","dict_reverseitemiterator","odict_iterator","itertools.zip_longest","itertools.pairwise"].contains n=false)(hQ:Q () s):wpAny M A (letOwnedTupleGo tg (.ref it) u) Q E s:=by
 unfold letOwnedTupleGo
 cases tg<;>first
  | exact ak hQ
  | (cases u<;>first
    | exact ak hQ
    | (refine aa (wpAny_load ho ?_)
       rw[hc,hd]
       show wpAny M A (if (["enumerate","zip","dict_itemiterator","dict_reverseitemiterator","odict_iterator","itertools.zip_longest","itertools.pairwise"].contains n&&vs[0]?==some (gu _))=true then _ else _) Q E s
       rw[if_neg (by intro h;rw[hn,iw] at h;cases h)]
       exact ak hQ))
def Ag (K:ai)(a:aj):It :=
 ⟨fun i H=>∃ xs x,cI K H a xs∧xs[i]?=some x,fun i H x H'=>H'=H∧∀ xs,cI K H a xs→xs[i]?=some x,fun i H=>∃ xs,cI K H a xs∧xs.length≤i⟩
def R6 (K:ai)(a:aj):It :=
 ⟨fun i H=>∃ xs x,fR K H a xs∧xs[i]?=some x,fun i H x H'=>H'=H∧∀ xs,fR K H a xs→xs[i]?=some x,fun i H=>∃ xs,fR K H a xs∧xs.length≤i⟩
def JB (lo:Int)(n:Nat):It:=⟨fun i _=>i<n,fun i H x H'=>H'=H∧x=.int (lo+i),fun i _=>n≤i⟩
theorem JU {P:aV}{w:bK}{K:ai}{tg:Expr}(a it:aj):Turn P w K tg (Ag K a) [it] it (fun i h=>h.IsListIter it a i) where
 mem:=by simp
 obj:=fun i h st b hb=>by
  have e:b=it:=by simpa using hb
  subst e
  obtain ⟨o,e,c,d⟩:=st
  exact ⟨o,e,fun v z=>by rw[d] at z;cases z⟩
 keep:=fun i h h' st k=>st.at fun o e=>k it (by simp) o e
 item:=by
  intro X hP hw hK hc i pins s σ H E I hf st hg
  subst hP hw hK
  obtain ⟨xs,x,hq,hx⟩:=hg
  obtain ⟨its,rv,p,hz⟩:=I.list hq
  obtain ⟨u,hu,ru⟩:=rv.get hx
  obtain ⟨f0,f1,f2,f3,f4,f5⟩:=hf it (by simp)
  refine fP st p.isList (x:=u) (by simpa using hu) fun h' st' sb=>?_
  have I1:Inv X pins σ H {s with heap:=h'}:=I.turned (t':=s.toks) (fun b o hb e=>(sb.2 b hb).trans e) f0 f1 f3 f4 f5
  obtain ⟨o,e,c,d⟩:=id st'
  exact ⟨u,rfl,HP (s:={s with heap:=h'}) e c d (by decide) ⟨x,H,I1,ru,⟨rfl,fun ys hy=>by rw[I.uY hy hq];exact hx⟩,st',fun b hb=>(hf b hb).1⟩⟩
 done:=by
  intro X hP hw hK hc i pins s σ H E I hf st hg
  subst hP hw hK
  obtain ⟨xs,hq,hx⟩:=hg
  obtain ⟨its,rv,p,hz⟩:=I.list hq
  obtain ⟨f0,f1,f2,f3,f4,f5⟩:=hf it (by simp)
  have hl:=rv.length
  exact gi (I.ok.hd hc) st p.isList (by simp;omega) fun h' eb=>⟨rfl,I.turned (t':=s.toks) (fun b o hb e=>eb b o hb e) f0 f1 f3 f4 f5⟩
 self:=fun _ _ _ _ _ st h=>wpAny_pyIter_listiter st h
theorem Gi {P:aV}{w:bK}{K:ai}{tg:Expr}(a it:aj):Turn P w K tg (R6 K a) [it] it (fun i h=>h.IsTupleIter it a i) where
 mem:=by simp
 obj:=fun i h st b hb=>by
  have e:b=it:=by simpa using hb
  subst e
  obtain ⟨o,e,c,d⟩:=st
  exact ⟨o,e,fun v z=>by rw[d] at z;cases z⟩
 keep:=fun i h h' st k=>st.at fun o e=>k it (by simp) o e
 item:=by
  intro X hP hw hK hc i pins s σ H E I hf st hg
  subst hP hw hK
  obtain ⟨xs,x,hq,hx⟩:=hg
  obtain ⟨its,rv,p,hz⟩:=I.tuple hq
  obtain ⟨u,hu,ru⟩:=rv.get hx
  obtain ⟨f0,f1,f2,f3,f4,f5⟩:=hf it (by simp)
  refine wpAny_pyNext_tuple_item st (show s.heap.IsTuple a its.toArray from p) (x:=u) (by simpa using hu) fun h' st' sb=>?_
  have I1:Inv X pins σ H {s with heap:=h'}:=I.turned (t':=s.toks) (fun b o hb e=>(sb.2 b hb).trans e) f0 f1 f3 f4 f5
  obtain ⟨o,e,c,d⟩:=id st'
  exact ⟨u,rfl,HP (s:={s with heap:=h'}) e c d (by decide) ⟨x,H,I1,ru,⟨rfl,fun ys hy=>by rw[I.vK hy hq];exact hx⟩,st',fun b hb=>(hf b hb).1⟩⟩
 done:=by
  intro X hP hw hK hc i pins s σ H E I hf st hg
  subst hP hw hK
  obtain ⟨xs,hq,hx⟩:=hg
  obtain ⟨its,rv,p,hz⟩:=I.tuple hq
  obtain ⟨f0,f1,f2,f3,f4,f5⟩:=hf it (by simp)
  have hl:=rv.length
  exact wpAny_pyNext_tuple_end (I.ok.hd hc) st (show s.heap.IsTuple a its.toArray from p) (by simp;omega) fun h' eb=>⟨rfl,I.turned (t':=s.toks) (fun b o hb e=>eb b o hb e) f0 f1 f3 f4 f5⟩
 self:=fun _ _ _ _ _ st h=>wpAny_pyIter_tupleiter st h
theorem Gj {P:aV}{w:bK}{K:ai}{tg:Expr}(it:aj)(lo:Int)(n:Nat):Turn P w K tg (JB lo n) [it] it (fun i h=>CZ h it (lo+(i:Nat)*1) ((n:Int) - (i:Nat)) 1) where
 mem:=by simp
 obj:=fun i h st b hb=>by
  have e:b=it:=by simpa using hb
  subst e
  exact ⟨_,st,fun v z=>by
   have z':Data.fields _=Data.cell v:=z
   cases z'⟩
 keep:=fun i h h' st k=>k it (by simp) _ st
 item:=by
  intro X hP hw hK hc i pins s σ H E I hf st hg
  subst hP hw hK
  obtain ⟨f0,f1,f2,f3,f4,f5⟩:=hf it (by simp)
  have W:=Walks.range (prog:=X.prog) (w:=X.w) (I.ok.hd hc) it lo 1 n
  refine W.item i s _ _ hg st fun v h' tk hv st' kk=>?_
  obtain ⟨t,rfl⟩:=hv
  have I1:Inv X pins σ H {s with heap:=h',toks:=tk}:=I.turned (fun b o hb e=>kk b o (by simpa using hb) e) f0 f1 f3 f4 f5
  refine ⟨_,rfl,HP (s:={s with heap:=h',toks:=tk}) (n:="range_iterator") st' rfl rfl (by decide) ⟨.int (lo+i),H,I1,⟨t,?_⟩,⟨rfl,rfl⟩,st',fun b hb=>(hf b hb).1⟩⟩
  rw[Int.mul_one]
 done:=by
  intro X hP hw hK hc i pins s σ H E I hf st hg
  subst hP hw hK
  obtain ⟨f0,f1,f2,f3,f4,f5⟩:=hf it (by simp)
  exact OU (I.ok.hd hc) st (by have:n≤i:=hg;omega) fun h' eb=>⟨rfl,I.turned (t':=s.toks) (fun b o hb e=>eb b o hb e) f0 f1 f3 f4 f5⟩
 self:=fun _ _ _ _ _ st h=>OV st h
section
variable {X:Cx}{tg:Expr}
def VS (K:ai)(tl:TE):TI:=fun σ H R=>tl σ H fun x H1=>∃ a,x=.ref a∧(∃ xs,cI K H1 a xs)∧R (Ag K a) H1
def WN (K:ai)(tl:TE):TI:=fun σ H R=>tl σ H fun x H1=>∃ a,x=.ref a∧(∃ xs,fR K H1 a xs)∧R (R6 K a) H1
theorem eh {l:Expr}{tl:TE}(hl:PE X l tl):PI X tg l (VS X.K tl):=by
 intro pins s σ H R I h
 refine gN (hl pins s σ H _ I h) fun v s1 ⟨x,H1,I1,r1,q1⟩=>?_
 obtain ⟨a,e,⟨xs,hq⟩,q⟩:=q1
 subst e
 cases r1
 obtain ⟨its,rv,p,hz⟩:=I1.list hq
 refine ip p.isList ?_
 refine ⟨s1.heap.objs.size,[s1.heap.objs.size],_,_,H1,rfl,I1.kept (t':=s1.toks) fun b o e=>ay _ e,JU a _,⟨_,aG _ rfl,rfl,rfl⟩,fun b hb=>?_,q⟩
 have e:b=s1.heap.objs.size:=by simpa using hb
 subst e
 exact I1.De (aL _) (I1.fu.fresh (aL _))
theorem Ms {l:Expr}{tl:TE}(hl:PE X l tl):PI X tg l (WN X.K tl):=by
 intro pins s σ H R I h
 refine gN (hl pins s σ H _ I h) fun v s1 ⟨x,H1,I1,r1,q1⟩=>?_
 obtain ⟨a,e,⟨xs,hq⟩,q⟩:=q1
 subst e
 cases r1
 obtain ⟨its,rv,p,hz⟩:=I1.tuple hq
 refine zJ (show s1.heap.IsTuple a its.toArray from p) ?_
 refine ⟨s1.heap.objs.size,[s1.heap.objs.size],_,_,H1,rfl,I1.kept (t':=s1.toks) fun b o e=>ay _ e,Gi a _,⟨_,aG _ rfl,rfl,rfl⟩,fun b hb=>?_,q⟩
 have e:b=s1.heap.objs.size:=by simpa using hb
 subst e
 exact I1.De (aL _) (I1.fu.fresh (aL _))
theorem DT {pins:List (aj×fD)}{σ:St}{H:Hp}{s:au}{R:It→Hp→Prop}{E:ag→au→Prop}{lo hi:Int}{t u v:Tok}{tk:Nat}(I:Inv X pins σ H s)(h1:-(2 ^ 62)≤lo)(h2:lo<2 ^ 62)(h3:-(2 ^ 62)≤hi)(h4:hi<2 ^ 62)
  (q:R (JB lo (hi - lo).toNat) H):wpAny (model X.prog X.w) X.A (pyIter (.ref s.heap.objs.size)) (UZ X pins σ tg R) E {s with heap:=s.heap.push {cls:=.type "range",data:=.fields #[.int lo t,.int hi u,.int 1 v]},toks:=tk}:=by
 refine wpAny_pyIter_range (Ew ..) (small_one h1 h2 h3 h4) ?_
 have I1:Inv X pins σ H {s with heap:=s.heap.push {cls:=.type "range",data:=.fields #[.int lo t,.int hi u,.int 1 v]},toks:=tk}:=I.kept fun b o e=>ay _ e
 refine ⟨(s.heap.push {cls:=.type "range",data:=.fields #[.int lo t,.int hi u,.int 1 v]}).objs.size,[(s.heap.push {cls:=.type "range",data:=.fields #[.int lo t,.int hi u,.int 1 v]}).objs.size],_,_,H,rfl,
  I1.kept (t':=tk) fun b o e=>ay _ e,Gj _ lo (hi - lo).toNat,?_,fun b hb=>?_,q⟩
 ·have e1:lo+((0:Nat):Int)*1=lo:=by simp
  have e2:(((hi - lo).toNat:Nat):Int) - ((0:Nat):Int)=g8 lo hi 1:=by rw[rangeSize_one];split<;>omega
  show CZ _ _ (lo+((0:Nat):Int)*1) ((((hi - lo).toNat:Nat):Int) - ((0:Nat):Int)) 1
  rw[e1,e2]
  exact aG _ rfl
 ·have e:b=(s.heap.push {cls:=.type "range",data:=.fields #[.int lo t,.int hi u,.int 1 v]}).objs.size:=by simpa using hb
  subst e
  exact I1.De (aL _) (I1.fu.fresh (aL _))
def VR (ta:TA):TI:=fun σ H R=>ta σ H fun vs H1=>∃ j:Int,vs=[.int j]∧-(2 ^ 62)≤j∧j<2 ^ 62∧R (JB 0 j.toNat) H1
def VQ (ta:TA):TI:=fun σ H R=>ta σ H fun vs H1=>∃ i j:Int,vs=[.int i,.int j]∧(-(2 ^ 62)≤i∧i<2 ^ 62∧-(2 ^ 62)≤j∧j<2 ^ 62)∧R (JB i (j - i).toNat) H1
theorem oP {a:Expr}{ta:TA}{p pos:jR}(hg:Gl X "range")(hm:X.mg "range"=none)(ha:PA X [a] ta)(hs:bS [a] X.env=[(false,eval a X.env)]:=by rfl):PI X tg (.Call (.Name "range" p) [a] [] pos) (VR ta):=by
 intro pins s σ H R I h
 refine Call_ (jy I hg hm Gc (cN (gN (ha pos pins s σ H _ I h) fun us s1 ⟨vs,H1,I1,r1,q1⟩=>?_) hs rfl))
 obtain ⟨j,e,q1,q2,q⟩:=q1
 subst e
 cases r1 with
 | cons r rr =>
  cases rr
  obtain ⟨t,rfl⟩:=r
  exact call_range_1 (DT I1 (by omega) (by omega) q1 q2 (by simpa using q))
theorem AK {a b:Expr}{ta:TA}{p pos:jR}(hg:Gl X "range")(hm:X.mg "range"=none)(ha:PA X [a,b] ta)(hs:bS [a,b] X.env=[(false,eval a X.env),(false,eval b X.env)]:=by rfl)(hs2:bS [b] X.env=[(false,eval b X.env)]:=by rfl) :
  PI X tg (.Call (.Name "range" p) [a,b] [] pos) (VQ ta):=by
 intro pins s σ H R I h
 refine Call_ (jy I hg hm Gc (cN (gN (ha pos pins s σ H _ I h) fun us s1 ⟨vs,H1,I1,r1,q1⟩=>?_) (by rw[hs,hs2]) (by rw[hs2];rfl)))
 obtain ⟨i,j,e,⟨q1,q2,q3,q4⟩,q⟩:=q1
 subst e
 cases r1 with
 | cons r rr =>
  cases rr with
  | cons r' rr =>
   cases rr
   obtain ⟨t,rfl⟩:=r
   obtain ⟨t',rfl⟩:=r'
   exact call_range_2 (DT I1 q1 q2 q3 q4 q)
def Ww (wi:TI)(g:TG)(tb:TS):TS:=fun D σ H=>wi σ H fun J H1=>∃ W:Nat→Nat→St→Hp→Prop,(∃ m,W 0 m σ H1)∧∀ i m σ H,W i m σ H →
 (J.stop i H∧D.nx σ H)∨(J.go i H∧∃ N:St→Hp→Prop,(∀ σ' H',N σ' H'→∃ m',m'<m∧W (i+1) m' σ' H')∧∀ x H',J.zO i H x H'→g x σ H' fun σ2 H2=>tb {D with nx:=N,ct:=N,bk:=D.nx} σ2 H2)
def yD (fp:List aj)(h:bW):List (aj×fD):=fp.filterMap fun b=>(h.get? b).map fun o=>(b,o)
theorem ua {fp:List aj}{h:bW}{b:aj}{o:fD}(hb:b∈fp)(e:h.get? b=some o):(b,o)∈yD fp h:=vq.mpr ⟨b,hb,by rw[e];rfl⟩
theorem Kr {fp:List aj}{h:bW}{p:aj×fD}(hp:p∈yD fp h):p.1∈fp∧h.get? p.1=some p.2:=by
 obtain ⟨b,hb,e⟩:=vq.mp hp
 cases q:h.get? b with
 | none=>rw[q] at e;cases e
 | some o =>
  rw[q] at e
  have e':(b,o)=p:=aH e
  subst e'
  exact ⟨hb,q⟩
theorem Inv.pinned {pins:List (aj×fD)}{σ:St}{H:Hp}{s:au}{fp:List aj}(I:Inv X pins σ H s)(hf:∀ b∈fp,xh X pins H b)(ho:∀ b∈fp,∃ o,s.heap.get? b=some o∧∀ v,o.data≠.cell v):Inv X (pins++yD fp s.heap) σ H s :=
 I.ID fun p hp=>(bu.mp hp).elim (fun z=>I.pin p (eW _ z)) fun z=>by
  obtain ⟨hb,e⟩:=Kr z
  obtain ⟨f0,f1,f2,_⟩:=hf p.1 hb
  obtain ⟨o,e',d⟩:=ho p.1 hb
  rw[e] at e';cases e'
  exact ⟨e,f0,f1,f2,d⟩
theorem Inv.uN {pins pl:List (aj×fD)}{σ:St}{H:Hp}{s:au}(I:Inv X (pins++pl) σ H s):Inv X pins σ H s:=I.ID fun p hp=>I.pin p (eW _ (Jw _ hp))
theorem gz {iter:Expr}{body:List d3}{wi:TI}{g:TG}{tb:TS}{pos:jR}(hp:PassesOwn (model X.prog X.w) X.A X.env X.xe)(hc:X.calm=true)(hi:PI X tg iter wi)(hg:PG X tg g)(hb:Jz X body tb)
  (hs:∀ x,foldedSetIterable iter X.env x=pure x:=by intro _;rfl):PS X (.For tg iter body [] pos) (Ww wi g tb):=by
 intro pins s σ H D I h
 refine wpAny_For (gN (hi pins s σ H _ I h) fun v s1 h1=>gN h1 fun itv s2 h2=>?_) hs
 obtain ⟨it,fp,tn,J,H2,e,I2,T,st2,f2,W,⟨m0,w0⟩,turn⟩:=h2
 subst e
 have stat:∀ {H':Hp},(∀ b∈fp,H' b=none)→∀ b∈fp,xh X pins H' b:=fun hn b hb=>⟨hn b hb,(f2 b hb).2⟩
 refine codeAny_forLoop_any (fun n s'=>∃ i σ' H',Inv X pins σ' H' s'∧tn i s'.heap∧(∀ b∈fp,H' b=none)∧W i n σ' H') ?_ m0 ⟨0,σ,H2,I2,st2,fun b hb=>(f2 b hb).1,w0⟩
 rintro n s3 ⟨i,σ3,H3,I3,st3,fr3,w3⟩
 rcases turn i n σ3 H3 w3 with ⟨stop,qn⟩ | ⟨go,N,hN,step⟩
 ·refine i6 hp (gN (T.done X rfl rfl rfl hc i pins s3 σ3 H3 X.xe I3 (stat fr3) st3 stop) fun r s4 ⟨hr,I4⟩=>?_)
  subst hr
  exact ur ⟨σ3,H3,I4,qn⟩
 ·refine i6 hp (gN (T.item X rfl rfl rfl hc i pins s3 σ3 H3 X.xe I3 (stat fr3) st3 go) fun r s4 ⟨u,hr,h4⟩=>?_)
  subst hr
  refine i6 hp (gN h4 fun _ s5 ⟨x,H5,I5,r5,y5,st5,fr5⟩=>?_)
  have I5':=I5.pinned (stat fr5) (T.obj _ _ st5)
  refine i6 hp (gN (hg _ s5 σ3 H5 x u _ I5' r5 (step x H5 y5)) fun _ s6 ⟨σ6,H6,I6,q6⟩=>?_)
  refine i6 hp (gN (hb _ s6 σ6 H6 _ I6 q6) fun f s7 q7=>?_)
  have again:∀ {σ7:St} {H7:Hp},Inv X (pins++yD fp s5.heap) σ7 H7 s7→N σ7 H7→∃ m,m<n∧∃ i σ' H',Inv X pins σ' H' s7∧tn i s7.heap∧(∀ b∈fp,H' b=none)∧W i m σ' H':=fun {σ7 H7} I7 n7=>by
   obtain ⟨m',hm,w7⟩:=hN σ7 H7 n7
   refine ⟨m',hm,i+1,σ7,H7,I7.uN,T.keep _ _ _ st5 fun b hb o e=>(I7.pin (b,o) (eW _ (eW _ (ua hb e)))).1,fun b hb=>?_,w7⟩
   obtain ⟨o,e,d⟩:=T.obj _ _ st5 b hb
   exact (I7.pin (b,o) (eW _ (eW _ (ua hb e)))).2.1
  cases f with
  | next=>obtain ⟨σ7,H7,I7,n7⟩:=q7;exact again I7 n7
  | cont=>obtain ⟨σ7,H7,I7,n7⟩:=q7;exact again I7 n7
  | brk=>obtain ⟨σ7,H7,I7,q7⟩:=q7;exact ⟨σ7,H7,I7.uN,q7⟩
  | ret v=>obtain ⟨x7,σ7,H7,I7,r7,q7⟩:=q7;exact ⟨x7,σ7,H7,I7.uN,r7,q7⟩
end
theorem iF {K:ai}{a:aj}{xs:List V}{g:TG}{tb:TS}{D:Ends}{σ:St}{H:Hp}(Pv:Nat→St→Hp→Prop)(h0:Pv 0 σ H)(hl:∀ i σ H,i≤xs.length→Pv i σ H→cI K H a xs)
  (hs:∀ i x σ H,xs[i]?=some x→Pv i σ H→g x σ H fun σ2 H2=>tb {D with nx:=Pv (i+1),ct:=Pv (i+1),bk:=D.nx} σ2 H2)(hd:∀ σ H,Pv xs.length σ H→D.nx σ H) :
  ∃ W:Nat→Nat→St→Hp→Prop,(∃ m,W 0 m σ H)∧∀ i m σ H,W i m σ H →
   ((Ag K a).stop i H∧D.nx σ H)∨((Ag K a).go i H∧∃ N:St→Hp→Prop,(∀ σ' H',N σ' H'→∃ m',m'<m∧W (i+1) m' σ' H')∧∀ x H',(Ag K a).zO i H x H'→g x σ H' fun σ2 H2=>tb {D with nx:=N,ct:=N,bk:=D.nx} σ2 H2):=by
 refine ⟨fun i m σ H=>m=xs.length - i∧i≤xs.length∧Pv i σ H,⟨xs.length,by simp,aS _,h0⟩,?_⟩
 rintro i m σ H ⟨rfl,hi,p⟩
 have q:=hl i σ H hi p
 by_cases j7:i<xs.length
 ·refine .inr ⟨⟨xs,xs[i],q,by simp[j7]⟩,Pv (i+1),fun σ' H' p'=>⟨xs.length - (i+1),by omega,rfl,j7,p'⟩,fun x H' y=>?_⟩
  obtain ⟨e,y⟩:=y
  subst e
  exact hs i x σ _ (y xs q) p
 ·have e:i=xs.length:=by omega
  subst e
  exact .inl ⟨⟨xs,q,aL _⟩,hd σ H p⟩
theorem oQ {lo:Int}{n:Nat}{g:TG}{tb:TS}{D:Ends}{σ:St}{H:Hp}(Pv:Nat→St→Hp→Prop)(h0:Pv 0 σ H)
  (hs:∀ i σ H,i<n→Pv i σ H→g (.int (lo+i)) σ H fun σ2 H2=>tb {D with nx:=Pv (i+1),ct:=Pv (i+1),bk:=D.nx} σ2 H2)(hd:∀ σ H,Pv n σ H→D.nx σ H) :
  ∃ W:Nat→Nat→St→Hp→Prop,(∃ m,W 0 m σ H)∧∀ i m σ H,W i m σ H →
   ((JB lo n).stop i H∧D.nx σ H)∨((JB lo n).go i H∧∃ N:St→Hp→Prop,(∀ σ' H',N σ' H'→∃ m',m'<m∧W (i+1) m' σ' H')∧∀ x H',(JB lo n).zO i H x H'→g x σ H' fun σ2 H2=>tb {D with nx:=N,ct:=N,bk:=D.nx} σ2 H2):=by
 refine ⟨fun i m σ H=>m=n - i∧i≤n∧Pv i σ H,⟨n,by simp,aS _,h0⟩,?_⟩
 rintro i m σ H ⟨rfl,hi,p⟩
 by_cases j7:i<n
 ·refine .inr ⟨j7,Pv (i+1),fun σ' H' p'=>⟨n - (i+1),by omega,rfl,j7,p'⟩,fun x H' y=>?_⟩
  obtain ⟨e,y⟩:=y
  subst e y
  exact hs i σ _ j7 p
 ·have e:i=n:=by omega
  subst e
  exact .inl ⟨aL _,hd σ H p⟩
abbrev R2:=V→V→Hp→VK→Prop
def xA (X:Cx)(f:ag→ag→o9 ag)(r:R2):Prop :=
 ∀ (pins:List (aj×fD)) (s:au) (σ:St) (H:Hp) (x y:V) (v u:ag) (Q:VK),Inv X pins σ H s→RelV x v→RelV y u→r x y H Q →
  wpAny (model X.prog X.w) X.A (f v u) (EP X pins σ Q) X.xe s
def Wp (X:Cx)(f:ag→o9 ag)(r:V→Hp→VK→Prop):Prop :=
 ∀ (pins:List (aj×fD)) (s:au) (σ:St) (H:Hp) (x:V) (v:ag) (Q:VK),Inv X pins σ H s→RelV x v→r x H Q →
  wpAny (model X.prog X.w) X.A (f v) (EP X pins σ Q) X.xe s
def lM (X:Cx)(f:ag)(r:List V→Hp→VK→Prop):Prop :=
 ∀ (pins:List (aj×fD)) (s:au) (σ:St) (H:Hp) (xs:List V) (us:List ag) (Q:VK),Inv X pins σ H s→di xs us→r xs H Q →
  wpAny (model X.prog X.w) X.A (call f us) (EP X pins σ Q) X.xe s
def Bk (r:R2)(ta tb:TE):TE:=fun σ H Q=>ta σ H fun x H1=>tb σ H1 fun y H2=>r x y H2 Q
def Xf (r:V→Hp→VK→Prop)(ta:TE):TE:=fun σ H Q=>ta σ H fun x H1=>r x H1 Q
def rI (C:Int→Int→Prop)(g:Int→Int→V):R2:=fun x y H Q=>∃ i j,x=.int i∧y=.int j∧C i j∧Q (g i j) H
def Pa (g:Int→Int→V):R2:=fun x y H Q=>∃ i j,x=.int i∧y=.int j∧Q (g i j) H
def rU (g:Int→V):V→Hp→VK→Prop:=fun x H Q=>∃ i,x=.int i∧Q (g i) H
section
variable {X:Cx}{a b c:Expr}{ta tb tc:TE}{pos:jR}
theorem S1 (ha:PE X a ta)(hb:PE X b tb){pins:List (aj×fD)}{s:au}{σ:St}{H:Hp}{R:V→V→Hp→Prop}(I:Inv X pins σ H s)
  (h:ta σ H fun x H1=>tb σ H1 fun y H2=>R x y H2){Q:ag→au→Prop}{f:ag→ag→o9 ag}
  (hf:∀ v u s2 x y H2,Inv X pins σ H2 s2→RelV x v→RelV y u→R x y H2→wpAny (model X.prog X.w) X.A (f v u) Q X.xe s2) :
  wpAny (model X.prog X.w) X.A (eval a X.env) (fun v s₁=>wpAny (model X.prog X.w) X.A (eval b X.env) (fun u s₂=>wpAny (model X.prog X.w) X.A (f v u) Q X.xe s₂) X.xe s₁) X.xe s:=by
 refine gN (ha pins s σ H _ I h) fun v s1 ⟨x,H1,I1,r1,q1⟩=>?_
 refine gN (hb pins s1 σ H1 _ I1 q1) fun u s2 ⟨y,H2,I2,r2,q2⟩=>?_
 exact hf v u s2 x y H2 I2 r1 r2 q2
theorem d4 {op:Operator}{r:R2}(ho:xA X (binaryOp op) r)(ha:PE X a ta)(hb:PE X b tb):PE X (.BinOp a op b pos) (Bk r ta tb):=by
 intro pins s σ H Q I h
 exact wpAny_BinOp (S1 ha hb I h fun v u s2 x y H2 I2 rx ry q=>ho pins s2 σ H2 x y v u Q I2 rx ry q)
theorem qM {op:UnaryOp}{r:V→Hp→VK→Prop}(ho:Wp X (unaryOp op) r)(ha:PE X a ta):PE X (.UnaryOp op a pos) (Xf r ta):=by
 intro pins s σ H Q I h
 exact UnaryOp_ (gN (ha pins s σ H _ I h) fun v s1 ⟨x,H1,I1,r1,q1⟩=>ho pins s1 σ H1 x v Q I1 r1 q1)
theorem Xl {f:ag→ag→o9 ag}{C:Int→Int→Prop}{g:Int→Int→Int}
  (rule:∀ (i j:Int) (t u:Tok) (s:au) (Q:ag→au→Prop) (E:ag→au→Prop),C i j→Q (.int (g i j) s.toks) {s with toks:=s.toks+1}→wpAny (model X.prog X.w) X.A (f (.int i t) (.int j u)) Q E s) :
  xA X f (rI C fun i j=>.int (g i j)):=by
 intro pins s σ H x y v u Q I rx ry h
 obtain ⟨i,j,rfl,rfl,hc,q⟩:=h
 obtain ⟨t,rfl⟩:=rx
 obtain ⟨t',rfl⟩:=ry
 exact rule i j t t' s _ _ hc ⟨.int (g i j),H,I.tok _,⟨_,rfl⟩,q⟩
theorem Vc {f:ag→ag→o9 ag}{g:Int→Int→Int}
  (rule:∀ (i j:Int) (t u:Tok) (s:au) (Q:ag→au→Prop) (E:ag→au→Prop),Q (.int (g i j) s.toks) {s with toks:=s.toks+1}→wpAny (model X.prog X.w) X.A (f (.int i t) (.int j u)) Q E s) :
  xA X f (Pa fun i j=>.int (g i j)):=by
 intro pins s σ H x y v u Q I rx ry h
 obtain ⟨i,j,rfl,rfl,q⟩:=h
 obtain ⟨t,rfl⟩:=rx
 obtain ⟨t',rfl⟩:=ry
 exact rule i j t t' s _ _ ⟨.int (g i j),H,I.tok _,⟨_,rfl⟩,q⟩
theorem PN {f:ag→ag→o9 ag}{g:Int→Int→Bool}
  (rule:∀ (i j:Int) (t u:Tok) (s:au) (Q:ag→au→Prop) (E:ag→au→Prop),Q (.bool (g i j)) s→wpAny (model X.prog X.w) X.A (f (.int i t) (.int j u)) Q E s) :
  xA X f (Pa fun i j=>.bl (g i j)):=by
 intro pins s σ H x y v u Q I rx ry h
 obtain ⟨i,j,rfl,rfl,q⟩:=h
 obtain ⟨t,rfl⟩:=rx
 obtain ⟨t',rfl⟩:=ry
 exact rule i j t t' s _ _ ⟨.bl (g i j),H,I,rfl,q⟩
def Vp (i j:Int):Prop:=0<j∧j<1073741824
theorem eO:xA X (binaryOp .Add) (Pa fun i j=>.int (i+j)):=Vc fun _ _ _ _ _ _ _ q=>add_int q
theorem Mu:xA X (binaryOp .Sub) (Pa fun i j=>.int (i - j)):=Vc fun _ _ _ _ _ _ _ q=>sub_int q
theorem Qo:xA X (binaryOp .FloorDiv) (rI Vp fun i j=>.int (i / j)):=Xl fun i j _ _ _ _ _ hc q=>by
 have h1:(0:Int)<j:=hc.1
 have h2:j<1073741824:=hc.2
 exact floordiv_int (by omega) (by rw[Int.fdiv_eq_ediv_of_nonneg i (by omega)];exact q) (.inl (CS (by omega)))
theorem Xe {f:ag→o9 ag}{g:Int→Int}
  (rule:∀ (i:Int) (t:Tok) (s:au) (Q:ag→au→Prop) (E:ag→au→Prop),Q (.int (g i) s.toks) {s with toks:=s.toks+1}→wpAny (model X.prog X.w) X.A (f (.int i t)) Q E s) :
  Wp X f (rU fun i=>.int (g i)):=by
 intro pins s σ H x v Q I rx h
 obtain ⟨i,rfl,q⟩:=h
 obtain ⟨t,rfl⟩:=rx
 exact rule i t s _ _ ⟨.int (g i),H,I.tok _,⟨_,rfl⟩,q⟩
theorem mj:Wp X (unaryOp .USub) (rU fun i=>.int (-i)):=Xe fun _ _ _ _ _ q=>neg_int q
end
def U8:V→V→Bool
 | .hU,.hU=>true | .hU,.int _=>true | .int _,.hU=>true | .hU,.bl _=>true | .bl _,.hU=>true | .hU,.str _=>true | .str _,.hU=>true
 | .int _,.int _=>true | .bl _,.bl _=>true | .str _,.str _=>true | .Fd _,.Fd _=>true
 | .int _,.str _=>true | .str _,.int _=>true | .bl _,.str _=>true | .str _,.bl _=>true
 | _,_=>false
def Fc:R2:=fun x y H Q=>U8 x y=true∧Q (.bl (decide (x=y))) H
def Xk:R2:=fun x y H Q=>U8 x y=true∧Q (.bl (!decide (x=y))) H
theorem Jb {i j:Int}:decide (V.int i=V.int j)=(i==j):=by
 rw[eM]
 simp
theorem MJ {i j:Bool}:decide (V.bl i=V.bl j)=(i==j):=by
 rw[eM]
 simp
theorem Ja {i j:bZ}:decide (V.str i=V.str j)=(i==j):=by
 rw[eM]
 simp
theorem Jc {i j:Array UInt8}:decide (V.Fd i=V.Fd j)=(i.toList==j.toList):=by
 rw[eM]
 cases i
 cases j
 simp
section
variable {X:Cx}{a b c:Expr}{ta tb tc:TE}{pos:jR}
theorem eT {pins:List (aj×fD)}{σ:St}{H:Hp}{s:au}{Q:VK}{k k':Bool}(I:Inv X pins σ H s)(q:Q (.bl k) H)(e:k=k'):EP X pins σ Q (.bool k') s:=by
 subst e
 exact ⟨.bl k,H,I,rfl,q⟩
theorem gC:xA X (compareOp .Eq) Fc:=by
 intro pins s σ H x y v u Q I rx ry h
 obtain ⟨hs,q⟩:=h
 cases x with
 | hU =>
  cases rx
  cases y with
  | hU=>cases ry;exact PySem.EqNone.eq_none_none (eT I q (by simp))
  | bl j=>cases ry;exact PySem.EqNone.eq_none_bool (eT I q (by simp))
  | int j=>obtain ⟨t',rfl⟩:=ry;exact PySem.EqNone.eq_none_int (eT I q (by simp))
  | str j=>obtain ⟨t',rfl⟩:=ry;exact PySem.EqNone.eq_none_str (eT I q (by simp))
  | _=>exact absurd (show false=true from hs) bo
 | bl i =>
  cases rx
  cases y with
  | hU=>cases ry;exact PySem.EqNone.eq_bool_none (eT I q (by simp))
  | bl j=>cases ry;exact eq_bool (eT I q MJ)
  | str j=>obtain ⟨t',rfl⟩:=ry;exact PySem.EqMixed.eq_bool_str (eT I q (by simp))
  | _=>exact absurd (show false=true from hs) bo
 | int i =>
  obtain ⟨t,rfl⟩:=rx
  cases y with
  | hU=>cases ry;exact PySem.EqNone.eq_int_none (eT I q (by simp))
  | int j=>obtain ⟨t',rfl⟩:=ry;exact eq_int (eT I q Jb)
  | str j=>obtain ⟨t',rfl⟩:=ry;exact PySem.EqMixed.eq_int_str (eT I q (by simp))
  | _=>exact absurd (show false=true from hs) bo
 | str i =>
  obtain ⟨t,rfl⟩:=rx
  cases y with
  | hU=>cases ry;exact PySem.EqNone.eq_str_none (eT I q (by simp))
  | bl j=>cases ry;exact PySem.EqMixed.eq_str_bool (eT I q (by simp))
  | int j=>obtain ⟨t',rfl⟩:=ry;exact PySem.EqMixed.eq_str_int (eT I q (by simp))
  | str j=>obtain ⟨t',rfl⟩:=ry;exact eq_str (eT I q Ja)
  | _=>exact absurd (show false=true from hs) bo
 | Fd i =>
  obtain ⟨t,rfl⟩:=rx
  cases y with
  | Fd j=>obtain ⟨t',rfl⟩:=ry;exact PySem.W.eq_bytes (eT I q Jc)
  | _=>exact absurd (show false=true from hs) bo
 | _=>cases y<;>exact absurd (show false=true from hs) bo
theorem wy:xA X (compareOp .NotEq) Xk:=by
 intro pins s σ H x y v u Q I rx ry h
 obtain ⟨hs,q⟩:=h
 cases x with
 | hU =>
  cases rx
  cases y with
  | hU=>cases ry;exact PySem.EqNone.ne_none_none (eT I q (by simp))
  | bl j=>cases ry;exact PySem.EqNone.ne_none_bool (eT I q (by simp))
  | int j=>obtain ⟨t',rfl⟩:=ry;exact PySem.EqNone.ne_none_int (eT I q (by simp))
  | str j=>obtain ⟨t',rfl⟩:=ry;exact PySem.EqNone.ne_none_str (eT I q (by simp))
  | _=>exact absurd (show false=true from hs) bo
 | bl i =>
  cases rx
  cases y with
  | hU=>cases ry;exact PySem.EqNone.ne_bool_none (eT I q (by simp))
  | bl j=>cases ry;exact ne_bool (eT I q (congrArg not MJ))
  | str j=>obtain ⟨t',rfl⟩:=ry;exact PySem.EqMixed.ne_bool_str (eT I q (by simp))
  | _=>exact absurd (show false=true from hs) bo
 | int i =>
  obtain ⟨t,rfl⟩:=rx
  cases y with
  | hU=>cases ry;exact PySem.EqNone.ne_int_none (eT I q (by simp))
  | int j=>obtain ⟨t',rfl⟩:=ry;exact ne_int (eT I q (congrArg not Jb))
  | str j=>obtain ⟨t',rfl⟩:=ry;exact PySem.EqMixed.ne_int_str (eT I q (by simp))
  | _=>exact absurd (show false=true from hs) bo
 | str i =>
  obtain ⟨t,rfl⟩:=rx
  cases y with
  | hU=>cases ry;exact PySem.EqNone.ne_str_none (eT I q (by simp))
  | bl j=>cases ry;exact PySem.EqMixed.ne_str_bool (eT I q (by simp))
  | int j=>obtain ⟨t',rfl⟩:=ry;exact PySem.EqMixed.ne_str_int (eT I q (by simp))
  | str j=>obtain ⟨t',rfl⟩:=ry;exact ne_str (eT I q (congrArg not Ja))
  | _=>exact absurd (show false=true from hs) bo
 | Fd i =>
  obtain ⟨t,rfl⟩:=rx
  cases y with
  | Fd j=>obtain ⟨t',rfl⟩:=ry;exact PySem.W.ne_bytes (eT I q (congrArg not Jc))
  | _=>exact absurd (show false=true from hs) bo
 | _=>cases y<;>exact absurd (show false=true from hs) bo
theorem wz:xA X (compareOp .Lt) (Pa fun i j=>.bl (decide (i<j))):=PN fun _ _ _ _ _ _ _ q=>lt_int q
theorem mX:xA X (compareOp .LtE) (Pa fun i j=>.bl (decide (i≤j))):=PN fun _ _ _ _ _ _ _ q=>le_int q
theorem Dk:xA X (compareOp .Gt) (Pa fun i j=>.bl (decide (j<i))):=PN fun _ _ _ _ _ _ _ q=>gt_int q
theorem Dl:xA X (compareOp .GtE) (Pa fun i j=>.bl (decide (j≤i))):=PN fun _ _ _ _ _ _ _ q=>ge_int q
theorem FW:xA X (compareOp .Is) (fun x y H Q=>y=.hU∧Q (.bl (decide (x=.hU))) H):=by
 intro pins s σ H x y v u Q I rx ry h
 obtain ⟨rfl,q⟩:=h
 cases ry
 refine is_none_gen (eT I q ?_)
 cases x<;>first
  | (cases rx;rfl)
  | (obtain ⟨t,rfl⟩:=rx;rfl)
theorem xY:xA X (compareOp .IsNot) (fun x y H Q=>y=.hU∧Q (.bl (!decide (x=.hU))) H):=by
 intro pins s σ H x y v u Q I rx ry h
 obtain ⟨rfl,q⟩:=h
 cases ry
 refine isnot_none_gen (eT I q ?_)
 cases x<;>first
  | (cases rx;rfl)
  | (obtain ⟨t,rfl⟩:=rx;rfl)
theorem cq (b:Expr){op:CmpOp}(h:op≠.In:=by decide)(h2:op≠.NotIn:=by decide):behindInMarks op b=false:=by
 have e1:(op==CmpOp.In)=false:=by cases op<;>first | rfl | exact absurd rfl h
 have e2:(op==CmpOp.NotIn)=false:=by cases op<;>first | rfl | exact absurd rfl h2
 cases b<;>simp[behindInMarks,e1,e2]
theorem pF {op:CmpOp}{r:R2}(ho:xA X (compareOp op) r)(ha:PE X a ta)(hb:PE X b tb)(hm:behindInMarks op b=false):PE X (.Compare a [op] [b] pos) (Bk r ta tb):=by
 intro pins s σ H Q I h
 exact wpAny_Compare1 (S1 ha hb I h fun v u s2 x y H2 I2 rx ry q=>ho pins s2 σ H2 x y v u Q I2 rx ry q) hm
def ko (t:TE):TT:=fun σ H Q=>t σ H fun x H'=>∃ k,x=.bl k∧Q k H'
theorem bU {op:CmpOp}{r:R2}(ho:xA X (compareOp op) r)(ha:PE X a ta)(hb:PE X b tb)(hm:behindInMarks op b=false):PT X (.Compare a [op] [b] pos) (ko (Bk r ta tb)):=by
 intro pins s σ H Q I h
 refine wpAny_isTrue_Compare1 (gN (ha pins s σ H _ I h) fun v s1 ⟨x,H1,I1,r1,q1⟩=>gN (hb pins s1 σ H1 _ I1 q1) fun u s2 ⟨y,H2,I2,r2,q2⟩ =>
  gN (ho pins s2 σ H2 x y v u _ I2 r1 r2 q2) fun c s3 ⟨z,H3,I3,r3,k,e,q3⟩=>?_) hm
 subst e
 cases r3
 exact fo ⟨H3,I3,q3⟩
def Fy (r r':R2)(ta tb tc:TE):TE:=fun σ H Q=>ta σ H fun x H1=>tb σ H1 fun y H2=>r x y H2 fun z H3=>∃ k,z=.bl k ∧
 (if k=true then tc σ H3 fun w' H4=>r' y w' H4 Q else Q (.bl false) H3)
theorem NJ {op op':CmpOp}{r r':R2}(ho:xA X (compareOp op) r)(ho':xA X (compareOp op') r')(ha:PE X a ta)(hb:PE X b tb)(hc:PE X c tc)
  (hm:lastMarks [op,op'] [b,c]=false:=by with_unfolding_all rfl):PE X (.Compare a [op,op'] [b,c] pos) (Fy r r' ta tb tc):=by
 intro pins s σ H Q I h
 refine Compare_chain (gN (ha pins s σ H _ I h) fun v s1 ⟨x,H1,I1,r1,q1⟩=>chain_link (gN (hb pins s1 σ H1 _ I1 q1) fun u s2 ⟨y,H2,I2,r2,q2⟩ =>
  gN (ho pins s2 σ H2 x y v u _ I2 r1 r2 q2) fun d s3 ⟨z,H3,I3,r3,k,e,q3⟩=>?_)) hm
 subst e
 cases r3
 refine fo ?_
 cases k with
 | false=>exact ite_ff ⟨.bl false,H3,I3,rfl,q3⟩
 | true=>exact ite_tt (chain_last (gN (hc pins s3 σ H3 _ I3 q3) fun w' s4 ⟨z',H4,I4,r4,q4⟩=>ho' pins s4 σ H4 y z' u w' Q I4 r2 r4 q4))
theorem uU {op op':CmpOp}{r r':R2}(ho:xA X (compareOp op) r)(ho':xA X (compareOp op') r')(ha:PE X a ta)(hb:PE X b tb)(hc:PE X c tc)
  (hm:lastMarks [op,op'] [b,c]=false:=by with_unfolding_all rfl):PT X (.Compare a [op,op'] [b,c] pos) (ko (Fy r r' ta tb tc)):=by
 intro pins s σ H Q I h
 refine isTrue_chain (gN (ha pins s σ H _ I h) fun v s1 ⟨x,H1,I1,r1,q1⟩=>test_link (gN (hb pins s1 σ H1 _ I1 q1) fun u s2 ⟨y,H2,I2,r2,q2⟩ =>
  gN (ho pins s2 σ H2 x y v u _ I2 r1 r2 q2) fun d s3 ⟨z,H3,I3,r3,k,e,q3⟩=>?_)) hm
 subst e
 cases r3
 refine fo ?_
 cases k with
 | false =>
  obtain ⟨k',e',q'⟩:=q3
  cases e'
  exact ite_ff ⟨H3,I3,q'⟩
 | true =>
  refine ite_tt (test_last (gN (hc pins s3 σ H3 _ I3 q3) fun w' s4 ⟨z',H4,I4,r4,q4⟩=>gN (ho' pins s4 σ H4 y z' u w' _ I4 r2 r4 q4) fun d' s5 ⟨z2,H5,I5,r5,k2,e2,q5⟩=>?_))
  subst e2
  cases r5
  exact fo ⟨H5,I5,q5⟩
theorem BQ:(aP:Nat)<2 ^ 63:=by rw[kX];decide
theorem vals1 {x:V}{us:List ag}(r:di [x] us):∃ u,us=[u]∧RelV x u:=by
 cases r with
 | cons r1 r2=>cases r2;exact ⟨_,rfl,r1⟩
theorem vals2 {x y:V}{us:List ag}(r:di [x,y] us):∃ u w',us=[u,w']∧RelV x u∧RelV y w':=by
 cases r with
 | cons r1 r2 =>
  cases r2 with
  | cons r3 r4=>cases r4;exact ⟨_,_,rfl,r1,r3⟩
theorem K3 (hc:X.calm=true):lM X (.builtin "min") (fun xs H Q=>∃ i j,xs=[.int i,.int j]∧Q (.int (if j<i then j else i)) H):=by
 intro pins s σ H xs us Q I r h
 obtain ⟨i,j,rfl,q⟩:=h
 obtain ⟨u,w',rfl,⟨t,rfl⟩,⟨t',rfl⟩⟩:=vals2 r
 refine min_two_ints (I.ok.hd hc) fun h' tk k=>⟨_,H,I.kept k,?_,q⟩
 by_cases hj:j<i
 ·rw[if_pos hj,if_pos hj];exact ⟨_,rfl⟩
 ·rw[if_neg hj,if_neg hj];exact ⟨_,rfl⟩
end
structure Fq (h:bW)(x dx C:aj)(mA:bZ→Option ag):Prop where
 obj:h.get? x=some (gX C dx)
 ns:h.Ns1 dx mA
 ne:dx≠x
theorem Kw {h:bW}{dx:aj}{mA:bZ→Option ag}(n:h.Ns1 dx mA):∃ od,h.get? dx=some od∧∀ name,rL name od=some (mA name):=by
 obtain ⟨o,es,ep,ho,hd,hk,_,hm⟩:=n
 refine ⟨o,ho,fun name=>?_⟩
 have e:=hm name
 unfold nsFind findBy at e
 rw[← Array.find?_toList] at e
 unfold rL
 rw[hd]
 dsimp only
 split
 ·rename_i y q
  rw[q] at e
  exact congrArg some e
 ·rename_i q
  rw[q] at e
  have a:es.toList.any (·.refKey)=false:=by
   rw[List.any_eq_false]
   intro y hy
   obtain ⟨z,t,hkey⟩:=hk y (Array.mem_toList_iff.mp hy)
   simp[fA.refKey,hkey]
  have a':¬ es.toList.any (·.refKey)=true:=by rw[a];exact bo
  rw[if_neg a']
  exact congrArg some e
theorem Fq.look {h:bW}{x dx C:aj}{mA:bZ→Option ag}(I:Fq h x dx C mA):∃ od,PySem.W.InstAt h x (gX C dx) C (some od)∧∀ name,rL name od=some (mA name) :=
 let ⟨od,ho,hl⟩:=Kw I.ns
 ⟨od,⟨I.obj,rfl,rfl,ho⟩,hl⟩
section
variable {prog:aV}{w:bK}{A:cC}{E:ag→au→Prop}{s:au}{K:ai}{x dx C f:aj}{mA:bZ→Option ag}{name:bZ}{v:ag}
theorem get_map {expr:Bool}{Q:ag→au→Prop}(X:K.In s.heap)(I:Fq s.heap x dx C mA)(hg:i8 K C name=true)(hh:j6 K C=true)
  (ha:eK K (.ref C) name=some none)(hv:mA name=some v)(hv':Lp v=true)(h:Q v {s with toks:=s.toks+1}) :
  wpAny (model prog w) A (getAttr (.ref x) name expr) Q E s:=by
 obtain ⟨od,J,hl⟩:=I.look
 exact PySem.W.get_value X J (sV hg).1 (PySem.W.findObj_own hh ha rfl (by rw[hl,hv])) hv' h
theorem Oe {pl:o9 Bool}{Q:ag×List ag→au→Prop}(X:K.In s.heap)(I:Fq s.heap x dx C mA)(hg:i8 K C name=true)
  (hf:eK K (.ref C) name=some (some (.ref f)))(ht:vd K (.ref f)=true)(hv:mA name=none)(h:Q (.ref f,[.ref x]) s) :
  wpAny (model prog w) A (getMethod (.ref x) name pl) Q E s:=by
 obtain ⟨od,J,hl⟩:=I.look
 exact PySem.W.method_fn X J (sV hg).1 (sV hg).2 hf (beq_iff_eq.mp ht) (by show (rL name od).map (·.isSome)=some false;rw[hl,hv];rfl) h
theorem Qb {ns:List bZ}{Q:Unit→au→Prop}(X:K.In s.heap)(I:Fq s.heap x dx C mA)
  (hs:eK K (.ref C) "__setattr__"=some (some (.builtin "object.__setattr__")))(hp:nG K C=true)(ht:xn K C name=some none)(hh:j6 K C=true)
  (hw:Eu mA ns)(hsz:ns.length≤aP)
  (h:∀ h',Fq h' x dx C (fun y=>if y=name then some v else mA y)→eE dx s.heap h'→Q () {s with heap:=h',toks:=s.toks+2}) :
  wpAny (model prog w) A (setAttr (.ref x) name v) Q E s:=by
 obtain ⟨od,J,hl⟩:=I.look
 refine PySem.W.set_plain X J hs (PySem.W.osa_open (s:={s with toks:=s.toks+1}) (r:=none) X J hp ht fun b=>?_)
 obtain ⟨cd,hc,hd'⟩:=PySem.W.any_some hh
 have hx:s.heap.get? x=some ⟨.ref C,some dx,.plain,#[]⟩:=I.obj
 refine aa (ak (aa (aa (wpAny_loadPart hx (aa (PySem.W.Looks.here (s:={s with toks:=s.toks+1}) (PySem.W.looks_clsIn X hc) ?_))))))
 rw[hd']
 refine ak (a:=some dx) (aa (ak (aa ?_)))
 refine wpAny_nsSet1 (s:={s with toks:=s.toks+1}) I.ns fun h' hn2 hs2=>?_
 obtain ⟨oD,esD,epD,hoD,hdD,hcD⟩:=hn2.count (Eu.cons name v hw)
 refine aa (wpAny_lookBehind hoD (by rw[hdD];exact pastItsLine_dict (aB hcD (by rw[aU];omega))) ?_)
 exact ak (h _ ⟨(hs2.2 _ (g4 I.ne)).trans I.obj,hn2,I.ne⟩ hs2)
theorem N3 {R:qS→au→Prop}{vs:List ag}{kw:List (bZ×ag)}(X:K.In s.heap)(hm:p9 K C=true)
  (hi:eK K (.ref C) "__init__"=some (some (.ref f)))(hf:PySem.W.typeIn K (.ref f)=some (.type "function"))
  (h:codeAny (model prog w) (A.under (.builtin "type.__call__" ⟨.ref C::vs,kw⟩)) (.call (.ref f) ⟨.ref (s.heap.objs.size+1)::vs,kw⟩) (PySem.W.InitBack (s.heap.objs.size+1) R)
   {s with heap:=(s.heap.push fF).push (gX C s.heap.objs.size)}) :
  codeAny (model prog w) A (.call (.ref C) ⟨vs,kw⟩) R s:=by
 obtain ⟨hh,g,d,t,os⟩:=s
 exact PySem.W.make_core (PySem.W.makes_of X hm) (PySem.W.looks_findIn X hi) (fun self=>PySem.W.bind_fn X self hf) (.inl rfl) h
end
def iy (f:bZ)(v:V):List (bZ×V)→List (bZ×V)
 | []=>[(f,v)]
 | (g,x)::r=>if g=f then (g,v)::r else (g,x)::iy f v r
theorem wW (f g:bZ)(v:V):∀ fs:List (bZ×V),(iy f v fs).lookup g=if g=f then some v else fs.lookup g
 | []=>by
  show j5 g [(f,v)]=_
  by_cases h:g=f
  ·have hb:(g==f)=true:=beq_iff_eq.mpr h
   simp only[j5,hb,if_pos h]
  ·have hb:(g==f)=false:=beq_eq_false_iff_ne.mpr h
   simp only[j5,hb,if_neg h]
 | (k,x)::r=>by
  have ih:=wW f g v r
  rw[show iy f v ((k,x)::r)=(if k=f then (k,v)::r else (k,x)::iy f v r) from rfl]
  by_cases hk:k=f
  ·rw[if_pos hk]
   by_cases h:g=k
   ·have hb:(g==k)=true:=beq_iff_eq.mpr h
    simp only[j5,hb,if_pos (h.trans hk)]
   ·have hb:(g==k)=false:=beq_eq_false_iff_ne.mpr h
    simp only[j5,hb,if_neg (fun e:g=f=>h (e.trans hk.symm))]
  ·rw[if_neg hk]
   by_cases h:g=k
   ·have hb:(g==k)=true:=beq_iff_eq.mpr h
    simp only[j5,hb,if_neg (fun e:g=f=>hk (h.symm.trans e))]
   ·have hb:(g==k)=false:=beq_eq_false_iff_ne.mpr h
    simp only[j5,hb]
    exact ih
theorem vV (f:bZ)(v:V):∀ fs:List (bZ×V),f∈(iy f v fs).map (·.1)∧∀ g,g∈fs.map (·.1)→g∈(iy f v fs).map (·.1)
 | []=>⟨by simp[iy],fun g h=>by simp at h⟩
 | (k,x)::r=>by
  obtain ⟨i1,i2⟩:=vV f v r
  rw[show iy f v ((k,x)::r)=(if k=f then (k,v)::r else (k,x)::iy f v r) from rfl]
  by_cases hk:k=f
  ·rw[if_pos hk]
   subst hk
   exact ⟨by simp,fun g h=>by simpa using h⟩
  ·rw[if_neg hk]
   refine ⟨?_,fun g h=>?_⟩
   ·rw[bq]
    exact ao _ i1
   ·rw[bq] at h ⊢
    rcases aI.mp h with e | e
    ·exact aI.mpr (.inl e)
    ·exact ao _ (i2 g e)
theorem wX (f:bZ)(v:V):∀ fs:List (bZ×V),(iy f v fs).length≤fs.length+1
 | []=>by simp[iy]
 | (k,x)::r=>by
  have ih:=wX f v r
  rw[show iy f v ((k,x)::r)=(if k=f then (k,v)::r else (k,x)::iy f v r) from rfl]
  by_cases hk:k=f
  ·rw[if_pos hk,aU,aU];omega
  ·rw[if_neg hk,aU,aU];omega
theorem ql.some_of {v:V}{o:Option ag}(r:ql (some v) o):∃ u,o=some u∧RelV v u:=by
 cases o with
 | none=>exact (show False from r).elim
 | some u=>exact ⟨u,rfl,r⟩
theorem ql.none_of {o:Option ag}(r:ql none o):o=none:=by
 cases o with
 | none=>rfl
 | some u=>exact (show False from r).elim
theorem KP {v:V}{u:ag}(r:RelV v u):Lp u=true:=by
 cases v with
 | hU=>cases (show u=ag.none from r);rfl
 | bl b=>cases (show u=ag.bool b from r);rfl
 | int i=>obtain ⟨t,e⟩:=(show ∃ t,u=ag.int i t from r);cases e;rfl
 | str x=>obtain ⟨t,e⟩:=(show ∃ t,u=ag.str x t from r);cases e;rfl
 | Fd b=>obtain ⟨t,e⟩:=(show ∃ t,u=ag.bytes b t from r);cases e;rfl
 | Wf b=>obtain ⟨t,e⟩:=(show ∃ t,u=ag.float b t from r);cases e;rfl
 | ref a=>cases (show u=ag.ref a from r);rfl
 | ty n=>cases (show u=ag.type n from r);rfl
section
variable {P:aV}{w:bK}{H H':Hp}{h h':bW}{a C dx:aj}{fs fs':List (bZ×V)}
theorem Co (fu:qh P w H h)(e:H a=some (.ins C dx fs)):∃ mA,Fq h a dx C mA∧(∀ f,ql (fs.lookup f) (mA f))∧Eu mA (fs.map (·.1))∧fs.length≤1000∧H dx=some (.own a):=by
 obtain ⟨d,z,ne,ob,mA,n,r,q⟩:=(show fQ P w H h a (.ins C dx fs) from fu a _ e)
 exact ⟨mA,⟨ob,n,ne⟩,r,q,z,d⟩
end
structure Lz (K:ai)(C:aj):Prop where
 pg:i8 K C P0=true
 hd:j6 K C=true
 po:nG K C=true
 sa:eK K (.ref C) "__setattr__"=some (some (.builtin "object.__setattr__"))
theorem Lz.get {K:ai}{C:aj}(c:Lz K C)(f:bZ):i8 K C f=true:=c.pg
def kH (K:ai)(C:aj)(f:bZ):Prop:=eK K (.ref C) f=some none
theorem kH.Vt {K:ai}{C:aj}{f:bZ}(n:kH K C f):xn K C f=some none:=by
 unfold xn
 rw[show eK K (.ref C) f=some none from n]
 rfl
structure yr (K:ai)(C:aj)(m:bZ)(f:aj):Prop where
 at_:eK K (.ref C) m=some (some (.ref f))
 fn:vd K (.ref f)=true
 kp:aQ K (.ref f)=true
section
variable {X:Cx}{pins:List (aj×fD)}{σ:St}{H:Hp}{s:au}{a C dx:aj}{fs:List (bZ×V)}{f:bZ}{v:V}{A:cC}{E:ag→au→Prop}
theorem GQ {b:Bool}{Q:ag→au→Prop}(I:Inv X pins σ H s)(e:H a=some (.ins C dx fs))(c:Lz X.K C)(n:kH X.K C f)(l:fs.lookup f=some v)
  (h:∀ u s',Inv X pins σ H s'→RelV v u→Q u s'):wpAny (model X.prog X.w) A (getAttr (.ref a) f b) Q E s:=by
 obtain ⟨mA,O,r,_,_,_⟩:=Co I.fu e
 obtain ⟨u,hu,ru⟩:=ql.some_of (v:=v) (o:=mA f) (by rw[← l];exact r f)
 exact get_map I.Hn O (c.get f) c.hd n hu (KP ru) (h u _ (I.tok _) ru)
theorem zw {m:bZ}{g:aj}{pl:o9 Bool}{Q:ag×List ag→au→Prop}(I:Inv X pins σ H s)(e:H a=some (.ins C dx fs))(c:Lz X.K C)(k:yr X.K C m g)(l:fs.lookup m=none)
  (h:Q (.ref g,[.ref a]) s):wpAny (model X.prog X.w) A (getMethod (.ref a) m pl) Q E s:=by
 obtain ⟨mA,O,r,_,_,_⟩:=Co I.fu e
 have hn:mA m=none:=ql.none_of (by rw[← l];exact r m)
 exact Oe I.Hn O (c.get m) k.at_ k.fn hn h
theorem Gs {y:V}{u:ag}{Q:Unit→au→Prop}(I:Inv X pins σ H s)(e:H a=some (.ins C dx fs))(c:Lz X.K C)(n:kH X.K C f)(hl:fs.length<1000)(ry:RelV y u)
  (h:∀ s',Inv X pins σ (upd H a (.ins C dx (iy f y fs))) s'→Q () s'):wpAny (model X.prog X.w) A (setAttr (.ref a) f u) Q E s:=by
 obtain ⟨mA,O,r,wi,_,ho⟩:=Co I.fu e
 have hz:(fs.map (·.1)).length≤aP:=by rw[ae,kX];omega
 refine Qb I.Hn O c.sa c.po n.Vt c.hd wi hz fun h' O' sb=>h _ ?_
 have hd:∃ o,h'.get? dx=some o:=let ⟨o,_,_,e',_⟩:=O'.ns;⟨o,e'⟩
 refine I.write (x:=a) (e:=dx) (by rw[e];exact qt) (.inr ho) (fun b q hb z=>(sb.2 b hb).trans z) hd ?_
 refine ⟨by rw[aW O.ne];exact ho,?_,O.ne,O'.obj,_,O'.ns,fun g=>?_,fun g hg=>?_⟩
 ·have:=wX f y fs;omega
 ·show ql ((iy f y fs).lookup g) (if g=f then some u else mA g)
  rw[wW]
  by_cases q:g=f
  ·rw[if_pos q,if_pos q];exact ry
  ·rw[if_neg q,if_neg q];exact r g
 ·by_cases q:g=f
  ·rw[q];exact (vV f y fs).1
  ·refine (vV f y fs).2 g (wi g fun z=>hg ?_)
   show (if g=f then some u else mA g)=none
   rw[if_neg q];exact z
theorem Inv.made (I:Inv X pins σ H s):Inv X pins σ (upd (upd H s.heap.objs.size (.own (s.heap.objs.size+1))) (s.heap.objs.size+1) (.ins C s.heap.objs.size []))
  {s with heap:=(s.heap.push fF).push (gX C s.heap.objs.size)}:=by
 have e1:(s.heap.push fF).get? s.heap.objs.size=some fF:=aG s.heap rfl
 have e2:((s.heap.push fF).push (gX C s.heap.objs.size)).get? (s.heap.objs.size+1)=some (gX C s.heap.objs.size):=by
  have:=aG (s.heap.push fF) (o:=gX C s.heap.objs.size) rfl
  rwa [cR] at this
 have e3:(s.heap.push fF).Ns s.heap.objs.size (fun _=>none):=⟨fF,#[],_,e1,rfl,(fun e he=>absurd he (by simp)),fun _=>rfl⟩
 have I1:=I.laid (a:=s.heap.objs.size) (o:=.own (s.heap.objs.size+1)) (h':=s.heap.push fF) (t':=s.toks) (fun b u q=>ay _ q) (aL _) ⟨_,e1⟩
 refine I1.laid (a:=s.heap.objs.size+1) (o:=.ins C s.heap.objs.size []) (t':=s.toks) (fun b u q=>ay _ q) (mS (cR _ _)) ?_
 have ne:s.heap.objs.size≠s.heap.objs.size+1:=bg (dS _)
 refine ⟨by rw[aW ne,aw],aS _,ne,e2,fun _=>none,(bW.Ns1.of_empty e3).at fun o q=>ay _ q,fun _=>qt,fun y hy=>absurd rfl hy⟩
theorem Rm {prog:aV}{w:bK}{env:Dc}{e:Expr}{f:bZ}{pos:jR}{s:au}{Q:ag→au→Prop}(hb:ja e f env (eval e env)=eval e env)
  (h:wpAny (model prog w) A (eval e env) (fun o s₁=>wpAny (model prog w) A (getAttr o f true) Q E s₁) E s):wpAny (model prog w) A (eval (.Attribute e f pos) env) Q E s :=
 Attribute_any_ h (by rw[arm_eval_Attribute,hb])
end
def U4 (K:ai)(ta:TE)(f:bZ):TE:=fun σ H Q=>ta σ H fun x H1=>∃ a C dx fs v,x=.ref a∧H1 a=some (.ins C dx fs)∧Lz K C∧kH K C f∧fs.lookup f=some v∧Q v H1
def Wx (K:ai)(ta tv:TE)(f:bZ):TS:=fun D σ H=>tv σ H fun y H1=>ta σ H1 fun x H2=>∃ a C dx fs,x=.ref a∧H2 a=some (.ins C dx fs)∧Lz K C∧kH K C f∧fs.length<1000 ∧
 D.nx σ (upd H2 a (.ins C dx (iy f y fs)))
section
variable {X:Cx}{o e value:Expr}{f:bZ}{pos pos' md:jR}{ta tv:TE}
theorem eY (he:PE X e ta)(hb:ja e f X.env (eval e X.env)=eval e X.env):PE X (.Attribute e f pos) (U4 X.K ta f):=by
 intro pins s σ H Q I h
 refine Rm hb (gN (he pins s σ H _ I h) fun u s1 ⟨x,H1,I1,rx,a,C,dx,fs,v,ex,ea,c,n,l,q⟩=>?_)
 subst ex
 obtain rfl:u=ag.ref a:=rx
 exact GQ I1 ea c n l fun u' s2 I2 ru=>⟨v,H1,I2,ru,q⟩
theorem tP (ha:PE X o ta)(hv:PE X value tv)(hs:swapsWith value (some (.Attribute o f pos')) pos.line X.env=pure false):PS X (.Assign [.Attribute o f pos'] value pos) (Wx X.K ta tv f):=by
 intro pins s σ H D I h
 refine plainObj_wpAny_Assign_Attribute (gN (hv pins s σ H _ I h) fun u s1 ⟨y,H1,I1,ry,q⟩=>gN (ha pins s1 σ H1 _ I1 q) fun ov s2 ⟨x,H2,I2,rx,a,C,dx,fs,ex,ea,c,n,l,q2⟩=>?_) hs
 subst ex
 obtain rfl:ov=ag.ref a:=rx
 exact Gs I2 ea c n l ry fun s3 I3=>⟨σ,_,I3,q2⟩
end
section
variable {X:Cx}{pins:List (aj×fD)}{σ:St}{H:Hp}{s:au}{A:cC}{E:ag→au→Prop}{Q:ag→au→Prop}{c:ag}{b:Bool}
end
structure fS (k:Nat)(A:cC):Prop where
 hd:A.handled=none
 dp:A.depth+3*k+5<recursionLimit
 un:A.units+16*k+200<cLine
theorem fS.mono {j k:Nat}{A:cC}(r:fS k A)(h:j≤k):fS j A:=⟨r.hd,by have:=r.dp;omega,by have:=r.un;omega⟩
theorem fS.deeper {k:Nat}{A:cC}(r:fS (k+1) A)(env:Dc):fS k (A.deeper env) :=
 ⟨r.hd,by have:=r.dp;show A.depth+1+3*k+5<_;omega,by have:=r.un;show A.units+3+16*k+200<_;omega⟩
theorem GI {A:cC}{C:aj}{us:List ag}{kw:List (bZ×ag)}:(A.under (.builtin "type.__call__" ⟨.ref C::us,kw⟩)).depth=A.depth+1:=by
 first | rfl | simp[C1,Code.weight,Code.isCreation,Code.isGuard,Code.isCaller,Code.frames,Fi,guardIds]
theorem GH {A:cC}{C:aj}{us:List ag}{kw:List (bZ×ag)}:(A.under (.builtin "type.__call__" ⟨.ref C::us,kw⟩)).units=A.units+1:=by
 first | rfl | simp[C1,Code.cUnits,Code.frames,Fi]
theorem fS.make {k:Nat}{A:cC}(r:fS (k+1) A)(C:aj)(us:List ag)(kw:List (bZ×ag)):fS k (A.under (.builtin "type.__call__" ⟨.ref C::us,kw⟩)) :=
 ⟨r.hd,by have:=r.dp;rw[GI];omega,by have:=r.un;rw[GH];omega⟩
theorem fS.depth {k:Nat}{A:cC}(r:fS k A):A.depth<recursionLimit:=by have:=r.dp;omega
theorem fS.units {k:Nat}{A:cC}(r:fS k A):A.units+64<cLine:=by have:=r.un;omega
def LO:TA:=fun _ H Q=>Q [] H
def VB (ta:TE)(tr:TA):TA:=fun σ H Q=>ta σ H fun x H1=>tr σ H1 fun xs H2=>Q (x::xs) H2
section
variable {X:Cx}{e:Expr}{es:List Expr}{te:TE}{t:TA}{pos:jR}
theorem aA:PA X [] LO:=fun _ _ _ _ H Q I h=>ki ⟨[],H,I,.nil,h⟩
theorem ah (ha:PE X e te)(hr:PA X es t)(hs:bS (e::es) X.env=(false,eval e X.env)::bS es X.env:=by rfl):PA X (e::es) (VB te t):=by
 intro pos pins s σ H Q I h
 rw[hs]
 show wpAny _ _ (spliced ((false,eval e X.env)::backTo pos (bS es X.env))) _ _ s
 refine iH (gN (ha pins s σ H _ I h) fun u s1 ⟨x,H1,I1,r1,q1⟩=>?_)
 exact gN (hr pos pins s1 σ H1 _ I1 q1) fun us s2 ⟨xs,H2,I2,r2,q2⟩=>⟨x::xs,H2,I2,.cons r1 r2,q2⟩
def Wt (t:TA):TE:=fun σ H Q=>t σ H fun xs H1=>xs.length≤aP∧∀ p,H1 p=none→Q (.ref p) (upd H1 p (.tup xs))
def Wv (t:TA):TE:=fun σ H Q=>t σ H fun xs H1=>xs.length≤aP∧∀ p,H1 p=none→Q (.ref p) (upd H1 p (.lst xs))
theorem jw {x1}(h:PA X es t):PE X (.Tuple es x1 pos) (Wt t):=by
 intro pins s σ H Q I hq
 refine wpAny_Tuple_spliced (gN (h pos pins s σ H _ I hq) fun us s1 ⟨xs,H1,I1,r,z,q⟩=>⟨by rw[← r.length];exact z,?_⟩)
 have hf:H1 s1.heap.objs.size=none:=I1.fu.fresh (aL _)
 refine ⟨.ref s1.heap.objs.size,upd H1 s1.heap.objs.size (.tup xs),I1.laid (t':=s1.toks) (fun b u e=>ay _ e) (aL _) ?_,rfl,q _ hf⟩
 exact ⟨z,us,r,⟨_,aG _ rfl,rfl,_,rfl⟩⟩
theorem cS (h:PA X es t):PE X (.List es pos) (Wv t):=by
 intro pins s σ H Q I hq
 refine wpAny_List_spliced (gN (h pos pins s σ H _ I hq) fun us s1 ⟨xs,H1,I1,r,z,q⟩=>⟨by rw[← r.length];exact z,?_⟩)
 have hf:H1 s1.heap.objs.size=none:=I1.fu.fresh (aL _)
 refine ⟨.ref s1.heap.objs.size,upd H1 s1.heap.objs.size (.lst xs),I1.laid (t':=s1.toks) (fun b u e=>ay _ e) (aL _) ?_,rfl,q _ hf⟩
 exact ⟨z,us,0,r,aG _ rfl⟩
end
abbrev Sp:=List V→Hp→VK→XK→Prop
abbrev LA:=List Dc→Hp→au→XK→ag→au→Prop
structure Fs (P:aV)(w:bK)(K:ai)(mg:bZ→Option ag)(base:bW)(A:cC)(outer:List Dc)(s:au)(H:Hp):Prop where
 frames:A.frames=some outer
 mod:Mod K mg base
 bs:∀ b o,base.get? b=some o→s.heap.get? b=some o∧H b=none
 PB:base.objs.size≤s.heap.objs.size
 xg:s.heap.FunFrames base outer
 SM:∀ b∈LJ outer,H b=none
 fu:qh P w H s.heap
 bare:z0 s.gens
def CE (outer:List Dc)(P:aV)(w:bK)(H:Hp)(s:au)(Q:VK)(u:ag)(s':au):Prop :=
 ∃ v H',s'.os=s.os∧z0 s'.gens∧Un (LJ outer) [] H H' s.heap s'.heap∧qh P w H' s'.heap∧RelV v u∧Q v H'
def CR (CX:LA)(outer:List Dc)(P:aV)(w:bK)(H:Hp)(s:au)(Q:VK)(E:XK)(r:qS)(s':au):Prop :=
 match r with
 | .ok (.ret u)=>CE outer P w H s Q u s'
 | .ok _=>False
 | .error e=>CX outer H s E e s'
structure cP (P:aV)(w:bK)(K:ai)(mg:bZ→Option ag)(base:bW)(CX:LA)(k:Nat)(f:aj)(fd:bH)(ps:List bZ)(sp:Sp):Prop where
 len:∀ vs H Q E,sp vs H Q E→vs.length=ps.length
 run:∀ (A:cC) (outer:List Dc) (s:au) (H:Hp) (args:Args) (us:List ag) (vs:List V) (Q:VK) (E:XK),fS k A→Fs P w K mg base A outer s H→zZ s fd args (ps.zip us)→di vs us→sp vs H Q E →
  codeAny (model P w) A (.call (.ref f) args) (CR CX outer P w H s Q E) s
theorem Fs.make {P:aV}{w:bK}{K:ai}{mg:bZ→Option ag}{base:bW}{A:cC}{outer:List Dc}{s:au}{H:Hp}(e:Fs P w K mg base A outer s H)(C:aj)(us:List ag)(kw:List (bZ×ag)) :
  Fs P w K mg base (A.under (.builtin "type.__call__" ⟨.ref C::us,kw⟩)) outer s H:=⟨by first | exact e.frames | (simpa [C1,Code.envs,Fi,pushEnvs] using e.frames),e.mod,e.bs,e.PB,e.xg,e.SM,e.fu,e.bare⟩
section
variable {X:Cx}{pins:List (aj×fD)}{σ:St}{H:Hp}{s s':au}
theorem Inv.Vi (I:Inv X pins σ H s):Fs X.prog X.w X.K X.mg X.base X.A X.stack s H :=
 ⟨I.ok.frames,I.ok.mod,I.bs,aB I.ok.PB I.sz,I.stack,I.HZ,I.fu,I.bare⟩
theorem Inv.after {Q:VK}{u:ag}(I:Inv X pins σ H s)(h:CE X.stack X.prog X.w H s Q u s'):EP X pins σ Q u s':=by
 obtain ⟨v,H',os,bare,un,fu,r,q⟩:=h
 obtain ⟨hh,g,d,t,os'⟩:=s'
 obtain rfl:os'=s.os:=os
 exact ⟨v,H',I.call (h':=hh) (g':=g) (d':=d) (t':=t) (ch:=[]) un fu bare (fun b z=>absurd z (by simp)),r,q⟩
end
def VC (sp:Sp)(dvs:List V)(E:XK)(t:TA):TE:=fun σ H Q=>t σ H fun vs H1=>sp (vs++dvs) H1 Q E
def Sa (C:aj)(m:bZ)(sp:Sp)(dvs:List V)(E:XK)(ta:TE)(t:TA):TE:=fun σ H Q=>ta σ H fun x H1=>∃ a dx fs,x=.ref a∧H1 a=some (.ins C dx fs)∧fs.lookup m=none ∧
 t σ H1 fun vs H2=>sp (x::(vs++dvs)) H2 Q E
def Vx (C:aj)(sp:Sp)(dvs:List V)(E:XK)(t:TA):TE:=fun σ H Q=>t σ H fun vs H1=>∀ x dx,H1 x=none→H1 dx=none→dx≠x →
 sp (.ref x::(vs++dvs)) (upd (upd H1 dx (.own x)) x (.ins C dx [])) (fun v H2=>v=.hU∧Q (.ref x) H2) E
def Binds (K:ai)(fd:bH)(ps:List bZ)(ds:List ag):Prop :=
 ∀ (s:au) (us:List ag),K.In s.heap→(us++ds).length=ps.length→zZ s fd ⟨us,[]⟩ (ps.zip (us++ds))
theorem Binds.all {K:ai}{fd:bH}{ps:List bZ}(h:∀ us:List ag,us.length=ps.length→bindArgs fd ⟨us,[]⟩=pure (ps.zip us)):Binds K fd ps []:=fun s us _ hl=>by
 rw[bY] at hl ⊢
 exact .of_eq (h us hl)
def tU (CX:LA)(X:Cx)(E:XK):Prop:=∀ (pins:List (aj×fD)) (σ:St) (H:Hp) (s:au) (e:ag) (s':au),Inv X pins σ H s→CX X.stack H s E e s'→X.xe e s'
section
variable {X:Cx}{CX:LA}{k:Nat}{f C:aj}{fd:bH}{ps:List bZ}{sp:Sp}{dvs:List V}{ds:List ag}{E:XK}{x m:bZ}{p pos apos:jR}{e o:Expr}{es:List Expr}{ta:TE}{t:TA}
theorem FN {pins:List (aj×fD)}{σ:St}{H:Hp}{s:au}{Q:VK}{us:List ag}{vs:List V}(F:cP X.prog X.w X.K X.mg X.base CX k f fd ps sp)(hr:fS k X.A)(hb:Binds X.K fd ps ds)(hd:di dvs ds)(hx:tU CX X E)
  (I:Inv X pins σ H s)(r:di vs us)(h:sp (vs++dvs) H Q E):wpAny (model X.prog X.w) X.A (call (.ref f) us) (EP X pins σ Q) X.xe s:=by
 have r2:di (vs++dvs) (us++ds):=r.append hd
 have hl:(us++ds).length=ps.length:=by rw[← r2.length];exact F.len _ _ _ _ h
 refine wpAny_call (jN (F.run X.A X.stack s H ⟨us,[]⟩ (us++ds) (vs++dvs) Q E hr I.Vi (hb s us I.Hn hl) r2 h) fun r s' hq=>?_)
 cases r with
 | error e=>exact hx pins σ H s e s' I hq
 | ok fl =>
  cases fl with
  | ret u=>exact I.after hq
  | next=>exact ft hq
  | brk=>exact ft hq
  | cont=>exact ft hq
theorem cj (F:cP X.prog X.w X.K X.mg X.base CX k f fd ps sp)(hr:fS k X.A)(hg:Gl X x)(hm:X.mg x=some (.ref f))(hk:aQ X.K (.ref f)=true)(hb:Binds X.K fd ps ds)(hd:di dvs ds)(hx:tU CX X E)
  (ha:PA X (e::es) t)(hdb:(x==("__debug__":bZ))=false:=by decide)(he:bS (e::es) X.env=(false,eval e X.env)::bS es X.env:=by rfl)(hpl:(backTo pos (bS es X.env)).any (·.1)=false:=by rfl) :
  PE X (.Call (.Name x p) (e::es) [] pos) (VC sp dvs E t):=by
 intro pins s σ H Q I h
 refine ee (Cm I hg hm ?_ hdb)
 refine Hj (h₀:=X.base) I.ok.mod.Wd hk (gN (ha pos pins s σ H _ I h) fun us s1 ⟨vs,H1,I1,r,q⟩=>⟨I1.Hn,?_⟩) he hpl
 exact FN F hr hb hd hx I1 r q
theorem ie {pl:o9 Bool}(he:PE X o ta)(c:Lz X.K C)(hm:yr X.K C m f)(F:cP X.prog X.w X.K X.mg X.base CX k f fd ps sp)(hr:fS k X.A)(hb:Binds X.K fd ps ds)(hd:di dvs ds)(hx:tU CX X E)(ha:PA X (e::es) t)
  (hst:bS (e::es) X.env=(false,eval e X.env)::bS es X.env:=by rfl)(hpl:(backTo pos (bS es X.env)).any (·.1)=false:=by rfl)
  (ht:eval (.Call (.Attribute o m apos) (e::es) [] pos) X.env=(do
   let ov ← eval o X.env
   standAt apos.atName
   let (f,first) ← holding [ov] (getMethod ov m pl)
   Fu pos f first (backTo pos (bS (e::es) X.env)) (backToKw pos (keywordEach [] X.env))):=by rfl) :
  PE X (.Call (.Attribute o m apos) (e::es) [] pos) (Sa C m sp dvs E ta t):=by
 intro pins s σ H Q I h
 refine C7 (pl:=pl) (gN (he pins s σ H _ I h) fun u s1 ⟨x,H1,I1,rx,a,dx,fs,ex,ea,l,q⟩=>?_) ht
 subst ex
 obtain rfl:u=ag.ref a:=rx
 refine zw I1 ea c hm l ?_
 refine Hj (first:=[.ref a]) (h₀:=X.base) I.ok.mod.Wd hm.kp (gN (ha pos pins s1 σ H1 _ I1 q) fun us s2 ⟨vs,H2,I2,r,q2⟩=>⟨I2.Hn,?_⟩) hst hpl
 exact FN (us:=.ref a::us) (vs:=.ref a::vs) F hr hb hd hx I2 (.cons rfl r) q2
theorem uV {pl:o9 Bool}(he:PE X o ta)(c:Lz X.K C)(hm:yr X.K C m f)(F:cP X.prog X.w X.K X.mg X.base CX k f fd ps sp)(hr:fS k X.A)(hb:Binds X.K fd ps ds)(hd:di dvs ds)(hx:tU CX X E)
  (ht:eval (.Call (.Attribute o m apos) [] [] pos) X.env=(do
   let ov ← eval o X.env
   standAt apos.atName
   let (f,first) ← holding [ov] (getMethod ov m pl)
   Fu pos f first (backTo pos (bS [] X.env)) (backToKw pos (keywordEach [] X.env))):=by rfl) :
  PE X (.Call (.Attribute o m apos) [] [] pos) (Sa C m sp dvs E ta LO):=by
 intro pins s σ H Q I h
 refine C7 (pl:=pl) (gN (he pins s σ H _ I h) fun u s1 ⟨x,H1,I1,rx,a,dx,fs,ex,ea,l,q⟩=>?_) ht
 subst ex
 obtain rfl:u=ag.ref a:=rx
 refine zw I1 ea c hm l ?_
 exact Fk (first:=[.ref a]) I1.Hn hm.kp (FN (us:=[.ref a]) (vs:=[.ref a]) F hr hb hd hx I1 (.cons rfl .nil) q)
structure Mk (K:ai)(C f:aj):Prop where
 makes:p9 K C=true
 init:eK K (.ref C) "__init__"=some (some (.ref f))
 fn:vd K (.ref f)=true
 kp:aQ K (.ref C)=true
theorem Nv {pins:List (aj×fD)}{σ:St}{H:Hp}{s:au}{Q:VK}{us:List ag}{vs:List V}(M:Mk X.K C f)(F:cP X.prog X.w X.K X.mg X.base CX k f fd ps sp)(hr:fS (k+1) X.A)(hb:Binds X.K fd ps ds)(hd:di dvs ds)
  (hx:tU CX X E)(I:Inv X pins σ H s)(r:di vs us)
  (h:∀ x dx,H x=none→H dx=none→dx≠x→sp (.ref x::(vs++dvs)) (upd (upd H dx (.own x)) x (.ins C dx [])) (fun v H2=>v=.hU∧Q (.ref x) H2) E) :
  wpAny (model X.prog X.w) X.A (call (.ref C) us) (EP X pins σ Q) X.xe s:=by
 have hq:=h (s.heap.objs.size+1) s.heap.objs.size (I.fu.fresh (ia _)) (I.fu.fresh (aL _)) (bg (dS _))
 have I2:=Inv.made (C:=C) I
 have r2:di (V.ref (s.heap.objs.size+1)::(vs++dvs)) (ag.ref (s.heap.objs.size+1)::(us++ds)):=.cons rfl (r.append hd)
 have hl:(ag.ref (s.heap.objs.size+1)::us++ds).length=ps.length:=by
  have e:=r2.length
  rw[F.len _ _ _ _ hq] at e
  exact e.symm
 refine wpAny_call (N3 (f:=f) I.Hn M.makes M.init (beq_iff_eq.mp M.fn) (jN (F.run _ X.stack _ _ ⟨ag.ref (s.heap.objs.size+1)::us,[]⟩ (ag.ref (s.heap.objs.size+1)::(us++ds)) _ _ E (hr.make C us [])
  (I2.Vi.make C us []) (hb _ (ag.ref (s.heap.objs.size+1)::us) I2.Hn hl) r2 hq) fun r s' hq'=>?_))
 cases r with
 | error e=>exact hx pins σ _ _ e s' I2 hq'
 | ok fl =>
  cases fl with
  | ret u =>
   obtain ⟨v,H',I3,rv,ev,q3⟩:=I2.after hq'
   subst ev
   exact ⟨rv,⟨V.ref (s.heap.objs.size+1),H',I3,rfl,q3⟩⟩
  | next=>exact ft hq'
  | brk=>exact ft hq'
  | cont=>exact ft hq'
theorem NI (M:Mk X.K C f)(F:cP X.prog X.w X.K X.mg X.base CX k f fd ps sp)(hr:fS (k+1) X.A)(hg:Gl X x)(hm:X.mg x=some (.ref C))(hb:Binds X.K fd ps ds)(hd:di dvs ds)(hx:tU CX X E)
  (hdb:(x==("__debug__":bZ))=false:=by decide):PE X (.Call (.Name x p) [] [] pos) (Vx C sp dvs E LO):=by
 intro pins s σ H Q I h
 refine ee (Cm I hg hm ?_ hdb)
 exact Fk I.Hn M.kp (Nv (us:=[]) M F hr hb hd hx I .nil h)
end
section
variable {X:Cx}{CX:LA}{k:Nat}{f C:aj}{fd:bH}{ps ks:List bZ}{sp:Sp}{E:XK}{x m:bZ}{p pos apos kpos:jR}{e o:Expr}{es:List Expr}{kws:List LX}{te ta:TE}{t tk:TA}{nm:Option bZ}
variable {g:List ag→List ag→List ag}{gV:List V→List V→List V}
end
structure bX (N P:List bZ)(sc:jv):Prop where
 kind:sc.kind=.function
 co:sc.isCoroutine=false
 gen:sc.isGenerator=false
 nd:N.Nodup
 pre:N.take P.length=P
 par:∀ x∈P,sc.names.lookup x=some .local∨sc.names.lookup x=some .cell
 TX:∀ y∈sc.names,y.2≠.free
theorem A8 {kindOf:bZ→Option il}{x:bZ}:∀ {binds:List (bZ×ag)} {m:bZ→Option ag},(∀ v,(x,v)∉binds)→bindL kindOf binds m x=m x
 | [],_,_=>rfl
 | (n,v)::r,m,h=>by
  unfold bindL
  rw[A8 fun w hw=>h w (ao _ hw)]
  split
  ·have:x≠n:=by rintro rfl;exact h v ax
   simp[this]
  ·rfl
theorem Ba {kindOf:bZ→Option il}{x:bZ}:∀ {binds:List (bZ×ag)} {m:bZ→Option ag},(∀ v,(x,v)∉binds)→bindC kindOf binds m x=m x
 | [],_,_=>rfl
 | (n,v)::r,m,h=>by
  unfold bindC
  rw[Ba fun w hw=>h w (ao _ hw)]
  split
  ·rfl
  ·have:x≠n:=by rintro rfl;exact h v ax
   simp[this]
theorem A9 {kindOf:bZ→Option il}{x:bZ}{v:ag}:∀ {P:List bZ} {vs:List ag} {i:Nat} {m:bZ→Option ag},P.Nodup→P[i]?=some x→vs[i]?=some v→kindOf x=some .local →
  bindL kindOf (P.zip vs) m x=some v
 | [],_,_,_,_,h,_,_=>by simp at h
 | _::_,[],_,_,_,_,h,_=>by simp at h
 | p::P,w::vs,0,m,nd,h1,h2,hk=>by
  simp at h1 h2;subst h1;subst h2
  show bindL kindOf ((p,w)::P.zip vs) m p=_
  unfold bindL
  rw[A8 fun v hv=>(fj.mp nd).1 (iS hv).1,if_pos hk]
  simp
 | p::P,w::vs,i+1,m,nd,h1,h2,hk=>by
  show bindL kindOf ((p,w)::P.zip vs) m x=_
  unfold bindL
  exact A9 (i:=i) (fj.mp nd).2 (by simpa using h1) (by simpa using h2) hk
theorem Bb {kindOf:bZ→Option il}{x:bZ}{v:ag}:∀ {P:List bZ} {vs:List ag} {i:Nat} {m:bZ→Option ag},P.Nodup→P[i]?=some x→vs[i]?=some v→kindOf x≠some .local →
  bindC kindOf (P.zip vs) m x=some v
 | [],_,_,_,_,h,_,_=>by simp at h
 | _::_,[],_,_,_,_,h,_=>by simp at h
 | p::P,w::vs,0,m,nd,h1,h2,hk=>by
  simp at h1 h2;subst h1;subst h2
  show bindC kindOf ((p,w)::P.zip vs) m p=_
  unfold bindC
  rw[Ba fun v hv=>(fj.mp nd).1 (iS hv).1,if_neg hk]
  simp
 | p::P,w::vs,i+1,m,nd,h1,h2,hk=>by
  show bindC kindOf ((p,w)::P.zip vs) m x=_
  unfold bindC
  exact Bb (i:=i) (fj.mp nd).2 (by simpa using h1) (by simpa using h2) hk
def start (N:List bZ)(vs:List V):St:=vs.map some++tp (N.length - vs.length) none
def JJ (CX:LA)(P:aV)(w:bK)(K:ai)(mg:bZ→Option ag)(base:bW)(N:List bZ)(qual:bZ)(scope:jv)(f:aj)(cd:ag)(A:cC)(outer:List Dc)(s:au)(H:Hp)(E:XK):Cx where
 prog:=P
 w:=w
 K:=K
 mg:=mg
 base:=base
 A:=A.deeper (envOfC qual scope s.heap.objs.size f cd)
 N:=N
 s_0:=s
 H_0:=H
 env:=envOfC qual scope s.heap.objs.size f cd
 outer:=outer
 stack:=envOfC qual scope s.heap.objs.size f cd::outer
 ex:=[]
 calm:=true
 fn:=fun _=>true
 pn:=[]
 xe:=fun e s'=>wpAny (model P w) (A.deeper (envOfC qual scope s.heap.objs.size f cd)) (leaving (envOfC qual scope s.heap.objs.size f cd) e) (fun _ s''=>CX outer H s E e s'') (fun e' s''=>CX outer H s E e' s'') s'
theorem Ej {sc:jv}{n:Nat}{x:bZ}(h:sc.names.lookup x=some .cell):∃ c,(cellsFrom n sc.names []).lookup x=some c:=by
 have q:=CP sc.names n [] (.inl h)
 exact og.mp q
theorem KH {CX:LA}{P:aV}{w:bK}{K:ai}{mg:bZ→Option ag}{base:bW}{N ps:List bZ}{qual:bZ}{scope:jv}{f:aj}{cd:ag}{A:cC}{outer:List Dc}{s s1:au}{H:Hp}{E:XK}{us:List ag}{vs:List V}
  (S:bX N ps scope)(hd:A.handled=none)(e0:Fs P w K mg base A outer s H)(hl:vs.length=ps.length)(r:di vs us)
  (x:InCallC s s.heap.objs.size (bindL (envOfC qual scope s.heap.objs.size f cd).kindOf (ps.zip us) fun _=>none) (cellsFrom (s.heap.objs.size+1) scope.names []) (bindC (envOfC qual scope s.heap.objs.size f cd).kindOf (ps.zip us) fun _=>none) s1) :
  Inv (JJ CX P w K mg base N qual scope f cd A outer s H E) [] (start N vs) H s1:=by
 have hpl:ps.length≤N.length:=by have:=congrArg dJ S.pre;rw[bP] at this;omega
 obtain ⟨h1,tk,rfl,hk⟩:=x.done
 have noA:∀ b:aj,b∉(JJ CX P w K mg base N qual scope f cd A outer s H E).ex:=fun b z=>absurd (show b∈([]:List aj) from z) (by simp)
 refine ⟨⟨e0.mod,S.kind,rfl,rfl,aL _,fun y z c h1 h2=>?_,fun y hy=>?_,fun y c _ h=>?_,fun _=>hd,cC.frames_deeper e0.frames,.inr ⟨rfl,rfl⟩,fun b z=>absurd z (noA b),e0.bs,e0.PB,fun b _ _=>noA b,fun b z=>absurd z (noA b),e0.xg,e0.SM⟩,
  rfl,e0.bare,Un.kept hk,⟨_,x.toInCall.ns,fun i y v h1 h2 h3=>?_⟩,fun y c h=>⟨_,x.cell y c h⟩,e0.fu.fresh (aL _),fun y c h=>?_,fun p hp=>absurd (show p∈([]:List (aj×fD)) from hp) (by simp),e0.fu.kept hk,?_⟩
 ·exact name_of_addr x.apart (cV h1) (cV h2)
 ·have hy:scope.names.lookup y=some .cell∨scope.names.lookup y=some .free:=hy
  rcases hy with hy | hy
  ·exact Ej hy
  ·exact absurd rfl (S.TX _ (cV hy))
 ·exact kR (x.above y c (cV h))
 ·have hi:i<vs.length:=by
   unfold start at h2
   by_cases hi:i<vs.length
   ·exact hi
   ·rw[fJ (by simpa using hi)] at h2
    rw[List.getElem?_replicate] at h2
    split at h2<;>cases h2
  have ha:vs[i]?=some v:=by
   unfold start at h2
   rw[oh (by simpa using hi),aO] at h2
   cases e:vs[i]? with
   | none=>rw[e] at h2;cases h2
   | some a=>rw[e] at h2;cases h2;rfl
  obtain ⟨u,hu,rv⟩:=r.get ha
  have hp:ps[i]?=some y:=by
   rw[← S.pre,List.getElem?_take_of_lt (by omega)];exact h1
  have ndP:ps.Nodup:=by rw[← S.pre];exact S.nd.sublist (O0 _ _)
  refine ⟨u,rv,?_⟩
  rcases S.par y (aY hp) with k | k
  ·exact .inl ⟨k,A9 ndP hp hu k⟩
  ·obtain ⟨c,e⟩:=Ej (n:=s.heap.objs.size+1) k
   refine .inr ⟨.inl k,c,e,?_⟩
   have q:=x.cell y c e
   rw[Bb ndP hp hu (by show scope.names.lookup y≠_;rw[k];decide)] at q
   exact q
 ·exact e0.fu.fresh (kR (x.above y c (cV h)))
 ·unfold start
  show _=N.length
  rw[aK,ae,k9]
  omega
theorem VU {CX:LA}{P:aV}{w:bK}{K:ai}{mg:bZ→Option ag}{base:bW}{k:Nat}{f:aj}{name qual:bZ}{params:Arguments}{body:List d3}{scope:jv}{dV kV doc pm gq ct oc:ag}{an od:Option aj}
  {osl:Array (Option ag)}{N ps:List bZ}{sp:Sp}(lk:K.lookup f=some ⟨oc,od,.func (fE name qual params body scope dV kV doc pm an gq ct),osl⟩)(hcd:mH K gq qual=true)(S:bX N ps scope)
  (len:∀ vs H Q E,sp vs H Q E→vs.length=ps.length)
  (hbody:∀ (A:cC) (outer:List Dc) (s:au) (H:Hp) (vs:List V) (Q:VK) (E:XK),fS k (A.deeper (envOfC qual scope s.heap.objs.size f gq))→sp vs H Q E →
   ∃ t,Jz (JJ CX P w K mg base N qual scope f gq A outer s H E) body t∧t {nx:=fun _ H'=>Q .hU H',rt:=Q} (start N vs) H) :
  cP P w K mg base CX (k+1) f (fE name qual params body scope dV kV doc pm an gq ct) ps sp:=by
 refine ⟨len,fun A outer s H args us vs Q E hr e0 hb r hsp=>?_⟩
 have hl:=len _ _ _ _ hsp
 have KX:K.In s.heap:=e0.mod.Wd.keeps fun b o e=>(e0.bs b o e).1
 have lim:s.heap.NoLimit:=e0.mod.nolimit.keeps fun b o e=>(e0.bs b o e).1
 have hkind:∀ y∈ps.zip us,scope.names.lookup y.1=some .local∨(scope.names.lookup y.1=some .cell∧((cellsFrom (s.heap.objs.size+1) scope.names []).lookup y.1).isSome=true):=fun ⟨n,v⟩ hy=>by
  rcases S.par n (iS hy).1 with q | q
  ·exact .inl q
  ·exact .inr ⟨q,CP _ _ _ (.inl q)⟩
 refine codeAny_call_function hr.depth (KX _ _ lk) rfl S.co S.gen rfl (PySem.W.codeRec_of KX hcd) (hb _ _ _ _ ?_)
 refine wpAny_newFunctionEnv_cells S.kind hkind fun env he s1 x=>?_
 subst he
 refine ⟨lim.keeps x.toInCall.keep,codeAny_func ?_⟩
 obtain ⟨t,ht,hq⟩:=hbody A outer s H vs Q E (hr.deeper _) hsp
 have I:Inv (JJ CX P w K mg base N qual scope f gq A outer s H E) [] (start N vs) H s1:=KH S hr.hd e0 hl r x
 refine hW (ht [] s1 (start N vs) H _ I hq) (fun fl s' hs=>?_) fun e s' hs=>hs
 have fin:∀ {σ':St} {H':Hp} {v:V} {u:ag},Inv (JJ CX P w K mg base N qual scope f gq A outer s H E) [] σ' H' s'→RelV v u→Q v H'→CE outer P w H s Q u s' :=
  fun {σ' H' v u} J rv q=>⟨v,H',J.os,J.bare,J.base,J.fu,rv,q⟩
 cases fl with
 | ret u =>
  obtain ⟨v,σ',H',J,rv,q⟩:=hs
  exact fin J rv q
 | next =>
  obtain ⟨σ',H',J,q⟩:=hs
  exact fin (v:=V.hU) (u:=ag.none) J rfl q
 | brk =>
  obtain ⟨_,_,_,q⟩:=hs
  exact ft q
 | cont =>
  obtain ⟨_,_,_,q⟩:=hs
  exact ft q
section
variable {X:Cx}{x:bZ}{p pos:jR}{e:Expr}{es:List Expr}{t:TA}{id T:String}{r:List V→Hp→VK→Prop}
def WX (r:List V→Hp→VK→Prop)(t:TA):TE:=fun σ H Q=>t σ H fun vs H1=>r vs H1 Q
theorem bR (hc:lM X (.builtin id) r)(hg:Gl X x)(hm:X.mg x=none)(hv:bootBuiltins x=some (.builtin id))(ha:PA X (e::es) t)(hn:x≠"__name__":=by decide)(hdb:(x==("__debug__":bZ))=false:=by decide)
  (he:bS (e::es) X.env=(false,eval e X.env)::bS es X.env:=by rfl)(hpl:(backTo pos (bS es X.env)).any (·.1)=false:=by rfl):PE X (.Call (.Name x p) (e::es) [] pos) (WX r t):=by
 intro pins s σ H Q I h
 refine ee (jy I hg hm hv ?_ hn hdb)
 exact tL (gN (ha pos pins s σ H _ I h) fun us s1 ⟨vs,H1,I1,r1,q1⟩=>hc pins s1 σ H1 vs us Q I1 r1 q1) he hpl
theorem kK (hc:lM X (.type T) r)(hg:Gl X x)(hm:X.mg x=none)(hv:bootBuiltins x=some (.type T))(ha:PA X (e::es) t)(hn:x≠"__name__":=by decide)(hdb:(x==("__debug__":bZ))=false:=by decide)
  (he:bS (e::es) X.env=(false,eval e X.env)::bS es X.env:=by rfl)(hpl:(backTo pos (bS es X.env)).any (·.1)=false:=by rfl):PE X (.Call (.Name x p) (e::es) [] pos) (WX r t):=by
 intro pins s σ H Q I h
 refine ee (jy I hg hm hv ?_ hn hdb)
 exact cN (gN (ha pos pins s σ H _ I h) fun us s1 ⟨vs,H1,I1,r1,q1⟩=>hc pins s1 σ H1 vs us Q I1 r1 q1) he hpl
end
end L2
namespace HT
open PySem PyProof.Rows
def lexLt:List Int→List Int→Bool
 | [],[]=>false
 | [],_::_=>true
 | _::_,[]=>false
 | x::xs,y::ys=>if x=y then lexLt xs ys else decide (x<y)
theorem hX (x y:Int)(xs ys:List Int):lexLt (x::xs) (y::ys)=if x=y then lexLt xs ys else decide (x<y):=rfl
theorem tz:lexLt [] []=false:=rfl
theorem mJ (y:Int)(ys:List Int):lexLt [] (y::ys)=true:=rfl
theorem rP (x:Int)(xs:List Int):lexLt (x::xs) []=false:=rfl
theorem Ol (A:cC)(s:au)(a:Int)(t:Tok)(c:Int)(u:Tok):∃ e,mP A s (.int a t) (.int c u) e∧(e=true↔a=c) :=
 ⟨(a==c),C6 a t c u,by simp⟩
theorem yL (A:cC)(s:au)(a:Int)(t:Tok)(c:Int)(u:Tok)(prog:aV)(w:bK)(E:ag→au→Prop)(Q:ag→au→Prop)(h:Q (.bool (decide (a<c))) s) :
  wpAny (model prog w) A (richCompare .Lt (.int a t) (.int c u)) Q E s :=
 (PyProof.Rows.lt_int h:wpAny (model prog w) A (compareOp .Lt (.int a t) (.int c u)) Q E s)
section
open PySem.SeqAt
open PySem.AutoSeq1 (wpAny_loadPart')
open PySem.MeetsSeq PySem.MeetsSeq2 PySem.MeetsSeq3
theorem z5 (l b:aj)(items items2:Array ag)(n n2:Nat)(dd dd2:Option aj)(sl sl2:Array (Option ag))(ns ms:List Int)(hi:eN items.toList ns)(hj:eN items2.toList ms) :
  Meets (Builtin.«tuple.__lt__» ⟨[.ref l,.ref b],[]⟩)
   (fun _ R s=>s.heap.get? l=some {cls:=.type "tuple",dict:=dd,data:=.seq items n,slots:=sl}∧s.heap.get? b=some {cls:=.type "tuple",dict:=dd2,data:=.seq items2 n2,slots:=sl2} ∧
    R (.ok (.ret (.bool (lexLt ns ms)))) s) :=
 .of_wp fun prog w A R s h=>by
  obtain ⟨hp,g,d,tk,os⟩:=s;obtain ⟨hl,hb,h⟩:=h
  have f2:=AutoSeq1.sub_tuple_tuple
  have z1:items.size=ns.length:=by rw[← hi.length];simp
  have z2:items2.size=ms.length:=by rw[← hj.length];simp
  wp_walk using dY hl,dY hb,Cz _ (fun rest b s'=>b.1=none∧s'=⟨hp,g,d,tk,os⟩∧∃ (vs ws:List ag) (ns' ms':List Int),rest=vs.zip ws ∧
   eN vs ns'∧eN ws ms'∧ns'.length+items2.size=ms'.length+items.size∧R (.ok (.ret (.bool (lexLt ns' ms')))) ⟨hp,g,d,tk,os⟩) _
  case turn =>
   rintro ⟨y,x⟩ rest b s' ⟨hb',rfl,vs,ws,ns',ms',hz,hvi,hwi,hlen,hR⟩
   cases hvi with
   | nil=>rw[List.zip_nil_left] at hz;cases hz
   | cons a t hvi' =>
    cases hwi with
    | nil=>rw[vp] at hz;cases hz
    | cons c u hwi' =>
     rw[jS] at hz
     injection hz with hyx hrest
     injection hyx with hy hx
     subst hy hx
     rw[hX] at hR
     simp only[aU] at hlen
     obtain ⟨e,he,hiff⟩:=Ol A.in1 ⟨hp,g,d,tk,os⟩ a t c u
     refine aa (he prog w _ _ ?_)
     cases e with
     | true =>
      rw[if_pos (hiff.mp rfl)] at hR
      wp_walk
      exact ⟨rfl,rfl,_,_,_,_,hrest,hvi',hwi',by omega,hR⟩
     | false =>
      rw[if_neg (fun q=>absurd (hiff.mpr q) bo)] at hR
      have hri:=yL A.in1 ⟨hp,g,d,tk,os⟩ a t c u prog w
      wp_walk using hri
      exact ⟨_,rfl,by simpa using hR⟩
  case fin =>
   rintro ⟨b1,b2⟩ s' ⟨hb',rfl,vs,ws,ns',ms',hz,hvi,hwi,hlen,hR⟩
   simp only at hb'
   subst hb'
   have hv:lexLt ns' ms'=decide (items.size<items2.size):=by
    cases hvi with
    | nil =>
     cases hwi with
     | nil =>
      simp only[eL] at hlen
      rw[tz]
      exact (decide_eq_false (by omega)).symm
     | cons c u hw =>
      simp only[eL,aU] at hlen
      rw[mJ]
      exact (decide_eq_true (by omega)).symm
    | cons a t hv =>
     cases hwi with
     | nil =>
      simp only[eL,aU] at hlen
      rw[rP]
      exact (decide_eq_false (by omega)).symm
     | cons c u hw =>
      rw[jS] at hz
      cases hz
   rw[hv] at hR
   wp_walk
   exact ⟨_,rfl,by simpa [Builtin.Tuple.tupleCompareSizes] using hR⟩
  case h =>
   exact ⟨rfl,rfl,items.toList,items2.toList,ns,ms,rfl,hi,hj,by omega,h⟩
end
section
variable {prog:aV}{w:bK}{A:cC}{E:ag→au→Prop}{s:au}
theorem GJ {l b:aj}{items items2:Array ag}{ns ms:List Int}{Q:ag→au→Prop}(hl:qr s.heap l items)(hb:qr s.heap b items2)(hi:eN items.toList ns)(hj:eN items2.toList ms)
  (hu:A.units<cLine)(h:Q (.bool (lexLt ns ms)) s):wpAny (model prog w) A (compareOp .Lt (.ref l) (.ref b)) Q E s:=by
 obtain ⟨⟨cls,dd,data,sl⟩,ho,hc,n,hd⟩:=id hl
 obtain ⟨⟨cls2,dd2,data2,sl2⟩,ho2,hc2,n2,hd2⟩:=id hb
 simp only at hc hd hc2 hd2
 subst hc hd hc2 hd2
 exact richCompare_meets_room (op:=.Lt) ⟨_,ho,rfl⟩ ⟨_,ho2,rfl⟩ PySem.F.slot_tuple_lt PySem.F.entry_tuple_lt (PySem.F.args_tuple_lt_2 _ _) (z5 l b items items2 n n2 dd dd2 sl sl2 ns ms hi hj)
  ⟨ho,ho2,show ag.bool (lexLt ns ms)≠ag.notImplemented∧Q (.bool (lexLt ns ms)) s from ⟨(fun x=>nomatch x),h⟩⟩ hu
def Af (n d:Nat):Option Int→Nat
 | none=>d
 | some v=>if v<0 then (v+(n:Int)).toNat else min v.toNat n
theorem DS (n d:Nat):Af n d none=d:=rfl
theorem xN (n d k:Nat):Af n d (some (k:Int))=min k n:=by
 show (if (k:Int)<0 then ((k:Int)+(n:Int)).toNat else min (k:Int).toNat n)=min k n
 rw[if_neg (by omega),bT]
end
end HT
namespace L2
open PySem PySem.Spec PyProof.Rows
abbrev TO:=St→Hp→(Option Int→Hp→Prop)→Prop
def PO (X:Cx)(e:Option Expr)(t:TO):Prop :=
 ∀ (pins:List (aj×fD)) (s:au) (σ:St) (H:Hp) (Q:Option Int→Hp→Prop),Inv X pins σ H s→t σ H Q →
  wpAny (model X.prog X.w) X.A (evalPart e X.env) (fun u s'=>∃ o H',Inv X pins σ H' s'∧IsPart u o∧Q o H') X.xe s
def P5:TO:=fun _ H Q=>Q none H
def Vu (t:TE):TO:=fun σ H Q=>t σ H fun x H1=>∃ i,x=.int i∧Q (some i) H1
theorem intsAre_of {ns:List Int}:∀ {us:List ag},di (ns.map V.int) us→eN us ns:=by
 induction ns with
 | nil=>intro us r;rw[fH] at r;cases r;exact .nil
 | cons n ns ih =>
  intro us r
  rw[bq] at r
  cases r with
  | cons r1 r2 =>
   obtain ⟨t,e⟩:=r1
   subst e
   exact .cons n t (ih r2)
section
variable {X:Cx}{e:Expr}{te:TE}{lo hi:Option Expr}{tl th:TO}{pos p2:jR}
theorem IC:PO X none P5:=by
 intro pins s σ H Q I h
 rw[evalPart_none]
 exact ak ⟨none,H,I,.none,h⟩
theorem kW (h:PE X e te):PO X (some e) (Vu te):=by
 intro pins s σ H Q I hw
 rw[evalPart_some]
 refine gN (h pins s σ H _ I hw) fun u s1 ⟨x,H1,I1,r1,q1⟩=>?_
 obtain ⟨i,rfl,q⟩:=q1
 obtain ⟨t,rfl⟩:=r1
 exact ⟨some i,H1,I1,.int i t,q⟩
def W3 (X:Cx)(r:V→Option Int→Option Int→Hp→VK→Prop):Prop :=
 ∀ (pins:List (aj×fD)) (s:au) (σ:St) (H:Hp) (x:V) (v vl vu:ag) (lo hi:Option Int) (sl:aj) (Q:VK),Inv X pins σ H s→RelV x v→s.heap.IsSliceOf sl vl vu .none→IsPart vl lo→IsPart vu hi→r x lo hi H Q →
  ∃ T id,typeLookup (.type T) "__getitem__"=pure (some (.builtin id))∧s.TypeIs v T∧wpAny (model X.prog X.w) X.A (getItem v (.ref sl)) (EP X pins σ Q) X.xe s
def Xg (r:V→Option Int→Option Int→Hp→VK→Prop)(te:TE)(tl th:TO):TE:=fun σ H Q=>te σ H fun x H1=>tl σ H1 fun l H2=>th σ H2 fun u H3=>r x l u H3 Q
theorem oI {r:V→Option Int→Option Int→Hp→VK→Prop}(hr:W3 X r)(he:PE X e te)(hl:PO X lo tl)(hu:PO X hi th):PE X (.Subscript e (.Slice lo hi none p2) pos) (Xg r te tl th):=by
 intro pins s σ H Q I h
 refine Subscript_ (gN (he pins s σ H _ I h) fun v s1 ⟨x,H1,I1,r1,q1⟩=>?_)
 refine wpAny_Slice (gN (hl pins s1 σ H1 _ I1 q1) fun vl s2 ⟨l,H2,I2,pl,q2⟩=>gN (hu pins s2 σ H2 _ I2 q2) fun vu s3 ⟨u,H3,I3,pu,q3⟩=>?_)
 rw[evalPart_none]
 refine ak ?_
 have I4:Inv X pins σ H3 {s3 with heap:=s3.heap.push {cls:=.type "slice",data:=.fields #[vl,vu,.none]}}:=I3.kept (t':=s3.toks) fun b ob q=>ay _ q
 obtain ⟨T,id,hT,ht,hg⟩:=hr pins {s3 with heap:=s3.heap.push {cls:=.type "slice",data:=.fields #[vl,vu,.none]}} σ H3 x v vl vu l u s3.heap.objs.size Q I4 r1 (bW.IsSliceOf.new ..) pl pu q3
 show wpAny (model X.prog X.w) X.A (subscriptTail e (.Slice lo hi none p2) v (.ref s3.heap.objs.size)) (EP X pins σ Q) X.xe {s3 with heap:=s3.heap.push {cls:=.type "slice",data:=.fields #[vl,vu,.none]}}
 exact tail_any (ops:=[.ref s3.heap.objs.size,v]) ht hT hg (by with_unfolding_all rfl)
def zW (xs:List V)(lo hi:Option Int):List V:=(xs.drop (HT.Af xs.length 0 lo)).take (HT.Af xs.length xs.length hi - HT.Af xs.length 0 lo)
theorem ES (xs:List V)(lo hi:Option Int):(zW xs lo hi).length≤xs.length:=by
 unfold zW
 rw[bP,cv]
 omega
end
def LI (n:Nat)(i:Int):Option Nat:=if 0≤i then (if i<n then some i.toNat else none) else if -(n:Int)≤i then some (i+n).toNat else none
def Fe {α:Type}(xs:List α)(i:Int):Option α:=(LI xs.length i).bind fun j=>xs[j]?
theorem IM {n:Nat}{i:Int}{j:Nat}(h:LI n i=some j):seqIndex? i n=some j∧j<n∧-(n:Int)≤i∧i<n:=by
 unfold LI at h
 by_cases h0:0≤i
 ·rw[if_pos h0] at h
  by_cases h1:i<n
  ·rw[if_pos h1] at h
   have e:i.toNat=j:=aH h
   exact ⟨by rw[PX h0 h1,e],by omega,by omega,h1⟩
  ·rw[if_neg h1] at h;cases h
 ·rw[if_neg h0] at h
  by_cases h1:-(n:Int)≤i
  ·rw[if_pos h1] at h
   have e:(i+n).toNat=j:=aH h
   exact ⟨by rw[MX (by omega) h1,e],by omega,h1,by omega⟩
  ·rw[if_neg h1] at h;cases h
theorem Jj {α:Type}{xs:List α}{i:Int}{v:α}(h:Fe xs i=some v):∃ j,seqIndex? i xs.length=some j∧xs[j]?=some v∧j<xs.length∧-(xs.length:Int)≤i∧i<xs.length:=by
 unfold Fe at h
 cases e:LI xs.length i with
 | none=>rw[e] at h;cases h
 | some j =>
  rw[e] at h
  obtain ⟨h1,h2,h3,h4⟩:=IM e
  exact ⟨j,h1,h,h2,h3,h4⟩
theorem cp {α:Type}{xs:List α}{j:Nat}{v:α}(h:xs[j]?=some v):Fe xs (j:Int)=some v:=by
 have hj:j<xs.length:=(bV.mp h).1
 have e:LI xs.length (j:Int)=some j:=by
  unfold LI
  rw[if_pos (by omega),if_pos (by omega)];simp
 unfold Fe;rw[e];exact h
def Ro (b:Expr):Prop:=∀ o i,subscripted b false o i=operate [o,i] (getItem o i)
def Wq (X:Cx)(r:R2):Prop :=
 ∀ (value slice:Expr) (pins:List (aj×fD)) (s:au) (σ:St) (H:Hp) (x y:V) (v u:ag) (Q:VK),Inv X pins σ H s→RelV x v→RelV y u→r x y H Q →
  subscripted slice false v u=operate [v,u] (getItem v u)→wpAny (model X.prog X.w) X.A (subscriptTail value slice v u) (EP X pins σ Q) X.xe s
def Xu (X:Cx)(id:String)(r:V→List V→Hp→VK→Prop):Prop :=
 ∀ (pins:List (aj×fD)) (s:au) (σ:St) (H:Hp) (x:V) (xs:List V) (v:ag) (us:List ag) (Q:VK),Inv X pins σ H s→RelV x v→di xs us→r x xs H Q →
  wpAny (model X.prog X.w) X.A (call (.builtin id) (v::us)) (EP X pins σ Q) X.xe s
section
variable {X:Cx}{a b:Expr}{ta tb:TE}{pos:jR}
theorem cA {r:R2}(hr:Wq X r)(ha:PE X a ta)(hb:PE X b tb)(hs:Ro b):PE X (.Subscript a b pos) (Bk r ta tb):=by
 intro pins s σ H Q I h
 exact Subscript_ (S1 ha hb I h fun v u s2 x y H2 I2 rx ry q=>hr a b pins s2 σ H2 x y v u Q I2 rx ry q (hs _ _))
def JG (K:ai):R2:=fun x y H Q=>∃ p xs i v,x=.ref p∧y=.int i∧cI K H p xs∧Fe xs i=some v∧Q v H
def Dd (K:ai):R2:=fun x y H Q=>∃ p xs i v,x=.ref p∧y=.int i∧fR K H p xs∧Fe xs i=some v∧Q v H
theorem cM:Wq X (JG X.K):=by
 intro value slice pins s σ H x y v u Q I rx ry h hs
 obtain ⟨p,xs,i,z,rfl,rfl,hq,he,q⟩:=h
 cases rx
 obtain ⟨t,rfl⟩:=ry
 obtain ⟨its,r,pl,hz⟩:=I.list hq
 obtain ⟨j,h1,h2,h3,h4,h5⟩:=Jj he
 obtain ⟨w,ew,rw'⟩:=r.get h2
 have hl:=r.length
 have hn:=BQ
 have fin:EP X pins σ Q w s:=⟨z,H,I,rw',q⟩
 by_cases h0:0≤i
 ·have hj:i.toNat=j:=by
   rw[PX h0 h5] at h1
   exact aH h1
  exact item_listR pl.isList h0 (by omega) (by rw[hj];simpa using ew) fin hs
 ·have hj:(i+(its.toArray.size:Int)).toNat=j:=by
   rw[MX (by omega) h4] at h1
   rw[bD,← hl]
   exact aH h1
  exact OW (x:=w) pl.isList.typeIs slot_list_getitem.lookup
   (wpAny_getItem_list_neg (Q:=fun r s'=>r=w∧EP X pins σ Q r s') pl.isList (by omega) (by rw[bD]<;>omega) (by omega) (by rw[hj];simpa using ew) ⟨rfl,fin⟩) hs
theorem dR:Wq X (Dd X.K):=by
 intro value slice pins s σ H x y v u Q I rx ry h hs
 obtain ⟨p,xs,i,z,rfl,rfl,hq,he,q⟩:=h
 cases rx
 obtain ⟨t,rfl⟩:=ry
 obtain ⟨its,r,pl,hz⟩:=I.tuple hq
 obtain ⟨j,h1,h2,h3,h4,h5⟩:=Jj he
 obtain ⟨w,ew,rw'⟩:=r.get h2
 have hl:=r.length
 have hn:=BQ
 have fin:EP X pins σ Q w s:=⟨z,H,I,rw',q⟩
 exact OW (x:=w) pl.typeIs slot_tuple_getitem.lookup
  (getItem_tuple (j:=j) (Q:=fun r s'=>r=w∧EP X pins σ Q r s') pl (by omega) (by omega) (by rw[bD,← hl];exact h1) (by simpa using ew) ⟨rfl,fin⟩) hs
theorem GG (its:List ag)(n j:Nat)(u:ag):fD.mapSeq (·.setIfInBounds j u) {cls:=.type "list",data:=.seq its.toArray n}={cls:=.type "list",data:=.seq (its.set j u).toArray n}:=by
 simp[fD.mapSeq]
theorem Inv.lst {pins:List (aj×fD)}{σ:St}{H:Hp}{s:au}{p:aj}{xs:List V}(I:Inv X pins σ H s)(h:H p=some (.lst xs)) :
  ∃ (its:List ag) (n:Nat),di xs its∧s.heap.get? p=some {cls:=.type "list",data:=.seq its.toArray n}∧xs.length≤aP:=by
 obtain ⟨z,its,n,r,e⟩:=I.fu p _ h
 exact ⟨its,n,r,e,z⟩
theorem Inv.T2 {pins:List (aj×fD)}{σ:St}{H:Hp}{s:au}{p:aj}{xs ys:List V}{its its':List ag}{n n':Nat}{f:fD→fD}(I:Inv X pins σ H s)(h:H p=some (.lst xs))
  (ho:s.heap.get? p=some {cls:=.type "list",data:=.seq its.toArray n})(hf:f {cls:=.type "list",data:=.seq its.toArray n}={cls:=.type "list",data:=.seq its'.toArray n'})(r:di ys its')(hz:ys.length≤aP)(t:Nat) :
  Inv X pins σ (upd H p (.lst ys)) {s with heap:=s.heap.update p f,toks:=t}:=by
 have e:(s.heap.update p f).get? p=some {cls:=.type "list",data:=.seq its'.toArray n'}:=by
  rw[cT f ho (by rw[hf]<;>rfl),hf]
 refine I.write (x:=p) (e:=p) (by rw[h];trivial) (.inl rfl) (fun b u hb q=>(dF _ _ (g4 hb)).trans q) ⟨_,e⟩ ?_
 exact ⟨hz,its',n',r,e⟩
def VF:V→V→V→Hp→(Hp→Prop)→Prop:=fun o i v H Q=>∃ p xs k j,o=.ref p∧i=.int k∧H p=some (.lst xs)∧LI xs.length k=some j∧Q (upd H p (.lst (xs.set j v)))
theorem set_list:Vm X VF:=by
 intro pins s σ H o i v ov iv u Q I ro ri rv h
 obtain ⟨p,xs,k,j,rfl,rfl,hp,hj,q⟩:=h
 cases ro
 obtain ⟨t,rfl⟩:=ri
 obtain ⟨its,n,r,ho,hz⟩:=I.lst hp
 obtain ⟨h1,h2,h3,h4⟩:=IM hj
 have hl:=r.length
 have hn:=BQ
 have I':Inv X pins σ (upd H p (.lst (xs.set j v))) {s with heap:=s.heap.update p (fD.mapSeq (·.setIfInBounds j u))} :=
  I.T2 hp ho (GG its n j u) (r.set rv j) (by rw[l6];exact hz) s.toks
 by_cases h0:0≤k
 ·have hk:k.toNat=j:=by
   rw[PX h0 h4] at h1
   exact aH h1
  exact PySem.W.ki_setAt ho h0 (by omega) (by rw[bD,← hl];exact h4) (by rw[hk];exact ⟨_,I',q⟩)
 ·have hk:(k+(its.toArray.size:Int)).toNat=j:=by
   rw[MX (by omega) h3] at h1
   rw[bD,← hl]
   exact aH h1
  exact PySem.W.ki_setBack ho (by omega) (by rw[bD,← hl];exact h3) (by omega) (by rw[hk];exact ⟨_,I',q⟩)
theorem CC (lo hi:Option Int)(n:Nat):(sliceBounds lo hi none n).1=((HT.Af n 0 lo:Nat):Int)∧(sliceBounds lo hi none n).2.1=((HT.Af n n hi:Nat):Int)∧(sliceBounds lo hi none n).2.2=1:=by
 refine ⟨?_,?_,rfl⟩
 ·cases lo with
  | none=>simp[sliceBounds,HT.Af]
  | some i =>
   simp only[sliceBounds,HT.Af,LD,show (1:Int) > 0 by decide,if_true]
   by_cases h:i<0
   ·simp only[h,if_true]<;>omega
   ·simp only[h,if_false]<;>omega
 ·cases hi with
  | none=>simp[sliceBounds,HT.Af]
  | some i =>
   simp only[sliceBounds,HT.Af,LD,show (1:Int) > 0 by decide,if_true]
   by_cases h:i<0
   ·simp only[h,if_true]<;>omega
   ·simp only[h,if_false]<;>omega
theorem z6 (its:List ag)(lo hi:Option Int):slicePick its.toArray lo hi none=((its.drop (HT.Af its.length 0 lo)).take (HT.Af its.length its.length hi - HT.Af its.length 0 lo)).toArray:=by
 obtain ⟨h1,h2,h3⟩:=CC lo hi its.toArray.size
 unfold slicePick
 rw[h1,h2,h3]
 simp only[sliceRange_one,pick_run,bD]<;>rfl
def Wz (K:ai):V→Option Int→Option Int→Hp→VK→Prop:=fun x lo hi H Q=>∃ a xs,x=.ref a∧cI K H a xs∧∀ p,H p=none→Q (.ref p) (upd H p (.lst (zW xs lo hi)))
theorem rW:W3 X (Wz X.K):=by
 intro pins s σ H x v vl vu lo hi sl Q I rx hs pl pu h
 obtain ⟨a,xs,rfl,hx,q⟩:=h
 cases rx
 obtain ⟨its,r,ht,hz⟩:=I.list hx
 have hlen:=r.length
 refine ⟨"list",_,slot_list_getitem.lookup,ht.isList.typeIs,?_⟩
 refine wpAny_getItem_list_slice ht.isList hs pl pu .none (by simp) ?_ (by rw[bD]<;>omega)
 rw[z6,← hlen]
 refine ⟨.ref s.heap.objs.size,_,I.laid (t':=s.toks) (o:=.lst (zW xs lo hi)) (fun b ob q=>ay _ q) (aL _) ?_,rfl,q _ (I.fu.fresh (aL _))⟩
 exact ⟨aB (ES xs lo hi) hz,_,0,(r.drop (HT.Af xs.length 0 lo)).take (HT.Af xs.length xs.length hi - HT.Af xs.length 0 lo),aG _ rfl⟩
def uy:V→Bool
 | .hU=>true
 | .bl _=>true
 | .int _=>true
 | .str _=>true
 | _=>false
def R1:V→V→Bool
 | .hU,.hU=>true
 | .bl a,.bl b=>a==b
 | .bl a,.int b=>(if a then 1 else 0)==b
 | .int a,.bl b=>a==(if b then 1 else 0)
 | .int a,.int b=>a==b
 | .str a,.str b=>a==b
 | _,_=>false
theorem Uc {A:cC}{s:au}{y x:V}{u v:ag}(ry:RelV y u)(rx:RelV x v)(fy:uy y=true)(fx:uy x=true):mP A s u v (R1 y x):=by
 cases y with
 | hU =>
  cases ry
  cases x with
  | hU=>cases rx;exact Hi _
  | bl b=>cases rx;exact mP.none_bool b
  | int b=>obtain ⟨t,rfl⟩:=rx;exact mP.none_int b t
  | str b=>obtain ⟨t,rfl⟩:=rx;exact mP.none_str b t
  | _=>exact absurd (show false=true from fx) bo
 | bl a =>
  cases ry
  cases x with
  | hU=>cases rx;exact mP.bool_none a
  | bl b=>cases rx;exact mP.bool_bool a b
  | int b=>obtain ⟨t,rfl⟩:=rx;exact mP.bool_int a b t
  | str b=>obtain ⟨t,rfl⟩:=rx;exact mP.bool_str a b t
  | _=>exact absurd (show false=true from fx) bo
 | int a =>
  obtain ⟨t',rfl⟩:=ry
  cases x with
  | hU=>cases rx;exact mP.int_none a t'
  | bl b=>cases rx;exact mP.int_bool a t' b
  | int b=>obtain ⟨t,rfl⟩:=rx;exact C6 a t' b t
  | str b=>obtain ⟨t,rfl⟩:=rx;exact C5 a t' b t
  | _=>exact absurd (show false=true from fx) bo
 | str a =>
  obtain ⟨t',rfl⟩:=ry
  cases x with
  | hU=>cases rx;exact mP.str_none a t'
  | bl b=>cases rx;exact mP.str_bool a t' b
  | int b=>obtain ⟨t,rfl⟩:=rx;exact C4 a t' b t
  | str b=>obtain ⟨t,rfl⟩:=rx;exact mP.str_str a t' b t
  | _=>exact absurd (show false=true from fx) bo
 | _=>exact absurd (show false=true from fy) bo
def Py (x:V)(u:ag):Bool:=match u with
 | .none=>R1 .hU x
 | .bool b=>R1 (.bl b) x
 | .int i _=>R1 (.int i) x
 | .str z _=>R1 (.str z) x
 | _=>false
theorem MI {x y:V}{u:ag}(r:RelV y u)(f:uy y=true):Py x u=R1 y x:=by
 cases y with
 | hU=>cases r;rfl
 | bl b=>cases r;rfl
 | int i=>obtain ⟨t,rfl⟩:=r;rfl
 | str z=>obtain ⟨t,rfl⟩:=r;rfl
 | _=>exact absurd (show false=true from f) bo
theorem Ct {x:V}:∀ {xs:List V} {us:List ag},di xs us→xs.all uy=true→us.any (Py x)=xs.any fun y=>R1 y x
 | _,_,.nil,_=>rfl
 | y::xs,u::us,.cons r t,f=>by
  rw[jH,bA] at f
  rw[jG,jG,MI r f.1,Ct t f.2]
theorem yS {A:cC}{s:au}{x:V}{v:ag}(rx:RelV x v)(fx:uy x=true):∀ {xs:List V} {us:List ag},di xs us→xs.all uy=true→∀ u∈us,mP A s u v (Py x u)
 | _,_,.nil,_=>fun u hu=>by cases hu
 | y::xs,u::us,.cons r t,f=>fun u' hu=>by
  rw[jH,bA] at f
  rcases aI.mp hu with rfl | hu
  ·rw[MI r f.1];exact Uc r rx f.1 fx
  ·exact yS rx fx t f.2 u' hu
def UT (x:V)(xs:List V):Bool:=xs.any fun y=>R1 y x
def WZ (K:ai)(neg:Bool):R2:=fun x y H Q=>∃ p xs,y=.ref p∧(cI K H p xs∨fR K H p xs)∧uy x=true∧xs.all uy=true∧Q (.bl (if neg then !UT x xs else UT x xs)) H
theorem CF:xA X (compareOp .NotIn) (WZ X.K true):=by
 intro pins s σ H x y v u Q I rx ry h
 obtain ⟨p,xs,rfl,hq,fx,fs,q⟩:=h
 cases ry
 rcases hq with hq | hq
 ·obtain ⟨its,r,pl,hz⟩:=I.list hq
  refine SeqAt.notIn_listAt (Py x) pl.isList (fun w hw=>yS rx fx r fs w (by simpa using hw)) ⟨.bl _,H,I,rfl,?_⟩
  rw[show its.toArray.any (Py x)=its.any (Py x) by simp,Ct r fs]
  exact q
 ·obtain ⟨its,r,pl,hz⟩:=I.tuple hq
  refine SeqAt.notIn_tupleAt (Py x) pl (fun w hw=>yS rx fx r fs w (by simpa using hw)) ⟨.bl _,H,I,rfl,?_⟩
  rw[show its.toArray.any (Py x)=its.any (Py x) by simp,Ct r fs]
  exact q
theorem bG:lM X (.builtin "len") (fun xs H Q=>∃ p ys,xs=[.ref p]∧(cI X.K H p ys∨fR X.K H p ys)∧Q (.int ys.length) H):=by
 intro pins s σ H xs us Q I r h
 obtain ⟨p,ys,rfl,hq,q⟩:=h
 obtain ⟨u,rfl,rx⟩:=vals1 r
 cases rx
 have hn:=BQ
 rcases hq with hq | hq
 ·obtain ⟨its,r',pl,hz⟩:=I.list hq
  have hlen:=r'.length
  exact Calls.call_len_list pl.isList (by simp only[bD]<;>omega) ⟨.int ys.length,H,I.tok _,⟨s.toks+1,by rw[bD,hlen]⟩,q⟩
 ·obtain ⟨its,r',pl,hz⟩:=I.tuple hq
  have hlen:=r'.length
  exact len_tuple pl (by simp only[bD]<;>omega) ⟨.int ys.length,H,I.tok _,⟨s.toks+1,by rw[bD,hlen]⟩,q⟩
theorem CL:lM X (.type "list") (fun xs H Q=>∃ p ys,xs=[.ref p]∧(cI X.K H p ys∨fR X.K H p ys)∧∀ l,H l=none→Q (.ref l) (upd H l (.lst ys))):=by
 intro pins s σ H xs us Q I r h
 obtain ⟨p,ys,rfl,hq,q⟩:=h
 obtain ⟨u,rfl,rx⟩:=vals1 r
 cases rx
 have fin:∀ (its:List ag),di ys its→ys.length≤aP→∀ (h':bW) (c':Nat),(∀ b o',s.heap.get? b=some o'→h'.get? b=some o') →
   h'.get? s.heap.objs.size=some {cls:=.type "list",dict:=none,data:=.seq its.toArray c',slots:=#[]}→EP X pins σ Q (.ref s.heap.objs.size) {s with heap:=h'}:=fun its r' hz h' c' kp e =>
  ⟨.ref s.heap.objs.size,_,I.laid (t':=s.toks) kp (aL _) (show fQ X.prog X.w _ h' _ (.lst ys) from ⟨hz,its,c',r',e⟩),rfl,q _ (I.fu.fresh (aL _))⟩
 rcases hq with hq | hq
 ·obtain ⟨its,r',pl,hz⟩:=I.list hq
  have hlen:=r'.length
  obtain ⟨o,ho,hc,n,hd⟩:=pl.isList
  exact call_list_seq p (.inl rfl) ho hc hd (fun h' c' kp e=>fin its r' hz h' c' kp e) (by simp only[bD]<;>omega)
 ·obtain ⟨its,r',pl,hz⟩:=I.tuple hq
  have hlen:=r'.length
  obtain ⟨o,ho,hc,n,hd⟩:=pl
  exact call_list_seq p (.inr rfl) ho hc hd (fun h' c' kp e=>fin its r' hz h' c' kp e) (by simp only[bD]<;>omega)
theorem z9:lM X (.type "tuple") (fun xs H Q=>∃ p ys,xs=[.ref p]∧((cI X.K H p ys∧∀ l,H l=none→Q (.ref l) (upd H l (.tup ys)))∨(fR X.K H p ys∧Q (.ref p) H))):=by
 intro pins s σ H xs us Q I r h
 obtain ⟨p,ys,rfl,h⟩:=h
 obtain ⟨u,rfl,rx⟩:=vals1 r
 cases rx
 rcases h with ⟨hq,q⟩ | ⟨hq,q⟩
 ·obtain ⟨its,r',pl,hz⟩:=I.list hq
  have hlen:=r'.length
  refine call_tuple_list pl.isList (fun h' kp=>?_) (by simp only[bD]<;>omega)
  have I1:Inv X pins σ H {s with heap:=h'}:=I.kept (t':=s.toks) kp
  have I2:Inv X pins σ (upd H h'.objs.size (.tup ys)) {s with heap:=h'.push {cls:=.type "tuple",data:=.seq its.toArray}} :=
   I1.laid (t':=s.toks) (fun b o e=>ay _ e) (aL _) (show fQ X.prog X.w _ _ _ (.tup ys) from ⟨hz,its,r',qr.new _ _⟩)
  exact ⟨.ref h'.objs.size,_,I2,rfl,q _ (I1.fu.fresh (aL _))⟩
 ·obtain ⟨its,r',pl,hz⟩:=I.tuple hq
  exact call_tuple_same pl ⟨.ref p,H,I,rfl,q⟩
def WW (K:ai)(T:String)(x:V)(H:Hp):Prop:=match x with
 | .str _=>T="str"
 | .int _=>T="int"
 | .ref p=>(T="list"∧∃ xs,cI K H p xs)∨(T="tuple"∧∃ o,K.lookup p=some o∧o.cls=.type "tuple"∧o.dict=none) ∨
   (T="dict"∧((∃ kvs,H p=some (.dK kvs))∨∃ kvs,H p=some (.dT kvs)))∨(T="set"∧∃ S n,H p=some (.set S n))
 | _=>False
theorem S8 {pins:List (aj×fD)}{σ:St}{H:Hp}{s:au}{T:String}{x:V}{v:ag}(I:Inv X pins σ H s)(r:RelV x v)(ty:WW X.K T x H) :
  s.TypeIs v T∧∀ a,v=.ref a→∃ ob,s.heap.get? a=some ob∧ob.dict=none:=by
 cases x with
 | str z =>
  obtain ⟨t,rfl⟩:=r
  cases (show T="str" from ty)
  exact ⟨typeIs_str s z t,fun _ e=>nomatch e⟩
 | int i =>
  obtain ⟨t,rfl⟩:=r
  cases (show T="int" from ty)
  exact ⟨typeIs_int s i t,fun _ e=>nomatch e⟩
 | ref p =>
  cases r
  rcases ty with ⟨rfl,xs,hq⟩ | ⟨rfl,o,hk,hc,hd⟩ | ⟨rfl,hk⟩ | ⟨rfl,S,n,hk⟩
  ·obtain ⟨its,_,pl,_⟩:=I.list hq
   refine ⟨pl.isList.typeIs,fun a e=>?_⟩
   cases e
   obtain ⟨o,n,e,c,hd,_⟩:=pl
   exact ⟨o,e,hd⟩
  ·refine ⟨⟨o,I.Hn p o hk,hc⟩,fun a e=>?_⟩
   cases e
   exact ⟨o,I.Hn _ o hk,hd⟩
  ·have z:∃ o,s.heap.get? p=some o∧o.ExactDict:=by
    rcases hk with ⟨kvs,hk⟩ | ⟨kvs,hk⟩
    ·obtain ⟨_,_,_,_,o,_,_,e,ex,_⟩:=I.fu p _ hk
     exact ⟨o,e,ex⟩
    ·obtain ⟨_,_,_,_,o,_,_,e,ex,_⟩:=I.fu p _ hk
     exact ⟨o,e,ex⟩
   obtain ⟨o,e,ex⟩:=z
   refine ⟨⟨o,e,ex.1⟩,fun a e2=>?_⟩
   cases e2
   exact ⟨o,e,ex.2.1⟩
  ·obtain ⟨o,_,_,_,e,ex,_⟩:=I.fu p _ hk
   refine ⟨⟨o,e,ex.1⟩,fun a e2=>?_⟩
   cases e2
   exact ⟨o,e,ex.2.1⟩
 | _=>exact ft ty
def Xj (K:ai)(T:String)(r:V→List V→Hp→VK→Prop)(to:TE)(t:TA):TE:=fun σ H Q=>to σ H fun x H1=>WW K T x H1∧t σ H1 fun xs H2=>r x xs H2 Q
variable {o e:Expr}{es:List Expr}{to:TE}{t:TA}{name:bZ}{apos jL:jR}{T id:String}{r:V→List V→Hp→VK→Prop}
theorem jU (pa:PlainAttrs T)(slot:Slot T name id)(hty:typeOf (.builtin id)=pure (.type "method_descriptor"))(hm:Xu X id r)(ho:PE X o to)(ha:PA X (e::es) t)
  (hbase:ja o name X.env (eval o X.env)=eval o X.env:=by rfl)
  (hfew:((backTo jL (bS (e::es) X.env)).all (fun x=>!x.1)&&(backToKw jL (keywordEach [] X.env)).all (fun x=>x.1.isSome)
   && decide ((e::es).length+([]:List LX).length+(if ([]:List LX).isEmpty then 0 else 1)<30))=true:=by rfl)
  (hline:(apos.endLine==jL.line)=true:=by rfl)(hs:bS (e::es) X.env=(false,eval e X.env)::bS es X.env:=by rfl)(hplain:(backTo jL (bS es X.env)).any (·.1)=false:=by rfl) :
  PE X (.Call (.Attribute o name apos) (e::es) [] jL) (Xj X.K T r to t):=by
 intro pins s σ H Q I h
 refine wpAny_Call_method_late hbase hfew hline rfl (gN (ho pins s σ H _ I h) fun v s1 ⟨x,H1,I1,r1,ty,q1⟩=>?_)
 obtain ⟨h1,h2⟩:=S8 I1 r1 ty
 refine ⟨T,id,pa,slot,hty,h1,h2,?_⟩
 have hA:=ha jL pins s1 σ H1 _ I1 q1
 rw[hs] at hA ⊢
 refine Fb (by show (false||(backTo jL (bS es X.env)).any (·.1))=false;rw[hplain]<;>rfl) (Hk ?_)
 exact gN hA fun us s2 ⟨vs,H2,I2,r2,q2⟩=>hm pins s2 σ H2 x vs v us Q I2 r1 r2 q2
end
def W4 (X:Cx)(id:String)(r:V→List V→Hp→VK→Prop):Prop :=
 ∀ (pins:List (aj×fD)) (s:au) (σ:St) (H:Hp) (x:V) (xs:List V) (v:ag) (us:List ag) (Q:VK),Inv X pins σ H s→RelV x v→di xs us→r x xs H Q →
  wpAny (model X.prog X.w) X.A (call (.builtin id) (v::us)) (EP X pins σ Q) X.xe s
theorem di.one:∀ {x:V} {us:List ag},di [x] us→∃ u,us=[u]∧RelV x u
 | _,_,.cons r .nil=>⟨_,rfl,r⟩
section
variable {X:Cx}{pins:List (aj×fD)}{σ:St}{H:Hp}{s:au}{l b:aj}{xs ys zs:List V}
theorem Inv.Vd {its its':List ag}{n:Nat}{f:Array ag→Array ag}{t':Nat}(I:Inv X pins σ H s)(hH:H l=some (.lst xs))
  (e:s.heap.get? l=some {cls:=.type "list",data:=.seq its.toArray n})(hf:f its.toArray=its'.toArray)(hv:di ys its')(hz:ys.length≤aP) :
  Inv X pins σ (upd H l (.lst ys)) {s with heap:=s.heap.update l (fD.mapSeq f),toks:=t'}:=by
 have q:=PySem.IsL.update e f
 rw[hf] at q
 refine I.write (x:=l) (e:=l) (by rw[hH];exact trivial) (.inl rfl) (fun b' u hb hu=>(dF s.heap (fD.mapSeq f) (g4 hb)).trans hu) ⟨_,q⟩ ?_
 exact ⟨hz,its',_,hv,q⟩
theorem Inv.WI {its:List ag}{t':Nat}(I:Inv X pins σ H s)(hv:di ys its)(hz:ys.length≤aP) :
  Inv X pins σ (upd H s.heap.objs.size (.lst ys)) {s with heap:=s.heap.push {cls:=.type "list",data:=.seq its.toArray},toks:=t'} :=
 I.laid (fun _ _ q=>ay _ q) (aL _) ⟨hz,its,0,hv,aG _ rfl⟩
theorem Inv.fresh (I:Inv X pins σ H s):H s.heap.objs.size=none:=I.fu.fresh (aL _)
theorem Inv.LR (I:Inv X pins σ H s)(hH:H l=some (.lst xs)):xs.length≤aP∧∃ (its:List ag) (n:Nat),di xs its∧xs.length=its.length∧s.heap.get? l=some {cls:=.type "list",data:=.seq its.toArray n}:=by
 obtain ⟨z,its,n,r,e⟩:=I.fu l _ hH
 exact ⟨z,its,n,r,r.length,e⟩
theorem N0 {n:Nat}(h:n≤aP):l9 n=false:=by
 unfold l9
 exact decide_eq_false (by omega)
end
section
variable {X:Cx}
def Qj:V→List V→Hp→VK→Prop:=fun x vs H Q=>∃ l xs y,x=.ref l∧vs=[y]∧H l=some (.lst xs)∧xs.length<aP∧Q .hU (upd H l (.lst (xs++[y])))
theorem gG:W4 X "list.append" Qj:=by
 intro pins s σ H x vs v us Q I rx rv h
 obtain ⟨l,xs,y,rfl,rfl,hH,hz,q⟩:=h
 cases rx
 obtain ⟨u,rfl,ru⟩:=rv.one
 obtain ⟨z,its,n,r,hl,e⟩:=I.LR hH
 refine Gb F.slot_list_append ⟨_,e,rfl⟩ F.entry_list_append (F.args_list_append_2 _ _) (PySem.list_append l its.toArray n u (by rw[bD];omega)) ⟨e,?_⟩
 refine ⟨.hU,_,I.Vd (its':=its++[u]) hH e (by simp) (r.append (.cons ru .nil)) ?_,rfl,q⟩
 rw[aK,gU]
 omega
def Qi:V→List V→Hp→VK→Prop:=fun x vs H Q=>∃ l b xs zs,x=.ref l∧vs=[.ref b]∧H l=some (.lst xs)∧H b=some (.lst zs)∧xs.length+zs.length≤aP∧Q .hU (upd H l (.lst (xs++zs)))
theorem lZ:W4 X "list.extend" Qi:=by
 intro pins s σ H x vs v us Q I rx rv h
 obtain ⟨l,b,xs,zs,rfl,rfl,hH,hB,hz,q⟩:=h
 cases rx
 obtain ⟨u,rfl,ru⟩:=rv.one
 cases ru
 obtain ⟨z,its,n,r,hl,e⟩:=I.LR hH
 obtain ⟨z2,its2,n2,r2,hl2,e2⟩:=I.LR hB
 have hsz:its.toArray.size+its2.toArray.size≤aP:=by rw[bD,bD];omega
 have hlong:¬ (!its.toArray.isEmpty&&l9 (its.toArray.size+its2.toArray.size))=true:=by
  rw[N0 hsz,Bool.and_false]
  exact bo
 refine Gb F.slot_list_extend ⟨_,e,rfl⟩ F.entry_list_extend (F.args_list_extend_2 _ _)
  (AutoSeq1.list_extend_list_list_0 l its.toArray n b its2.toArray n2 hlong (by rw[bD];omega) (by omega)) ⟨e,e2,?_⟩
 refine ⟨.hU,_,I.Vd (its':=its++its2) hH e (by simp) (r.append r2) ?_,rfl,q⟩
 rw[aK]
 omega
def Vb:R2:=fun x y H Q=>∃ l b xs zs,x=.ref l∧y=.ref b∧H l=some (.lst xs)∧H b=some (.lst zs)∧xs.length+zs.length≤aP∧∀ p,H p=none→Q (.ref p) (upd H p (.lst (xs++zs)))
theorem jx:xA X (binaryOp .Add) Vb:=by
 intro pins s σ H x y v u Q I rx ry h
 obtain ⟨l,b,xs,zs,rfl,rfl,hH,hB,hz,q⟩:=h
 cases rx
 cases ry
 obtain ⟨z,its,n,r,hl,e⟩:=I.LR hH
 obtain ⟨z2,its2,n2,r2,hl2,e2⟩:=I.LR hB
 refine PySem.P.add_list e e2 ?_ (by rw[bD,bD];omega)
 have ea:its.toArray++its2.toArray=(its++its2).toArray:=by simp
 rw[ea]
 exact ⟨.ref _,_,I.WI (t':=s.toks) (r.append r2) (by rw[aK];omega),rfl,q _ I.fresh⟩
end
section
variable {prog:aV}{w:bK}{A:cC}{E:ag→au→Prop}{s:au}
end
section
variable {X:Cx}
end
theorem di.ints:∀ {ns:List Int} {us:List ag},di (ns.map V.int) us→eN us ns
 | [],us,h=>by
  rw[fH] at h
  cases h
  exact eN.nil
 | n::ns,us,h=>by
  rw[bq] at h
  cases h with
  | cons r t =>
   obtain ⟨k,rfl⟩:=r
   exact eN.cons n k (di.ints t)
theorem pU:∀ {us:List ag} {ns:List Int},eN us ns→di (ns.map V.int) us
 | _,_,.nil=>by rw[fH];exact Paired.nil
 | _,_,.cons n t h=>by rw[bq];exact Paired.cons (show RelV (V.int n) (ag.int n t) from ⟨t,rfl⟩) (pU h)
theorem di.Wn:∀ {bs:List Bool} {us:List ag},di (bs.map V.bl) us→us=bs.map ag.bool
 | [],us,h=>by
  rw[fH] at h
  cases h
  rfl
 | b::bs,us,h=>by
  rw[bq] at h
  cases h with
  | cons r t =>
   cases r
   rw[di.Wn t,bq]
theorem di.xc {a:aj}{us:List ag}(r:di [V.ref a] us):us=[ag.ref a]:=by
 cases r with
 | cons r t =>
  cases t
  cases r
  rfl
section
variable {prog:aV}{w:bK}{A:cC}{E:ag→au→Prop}{s:au}{l:aj}{its:List ag}{ns:List Int}{Q:ag→au→Prop}
theorem P6 (hh:A.handled=none)(hl:s.heap.IsList l its.toArray)(hi:eN its ns)
  (h:∀ h' tk t',(∀ b o,s.heap.get? b=some o→h'.get? b=some o)→Q (.int ns.sum t') {s with heap:=h',toks:=tk}):wpAny (model prog w) A (call (.builtin "sum") [.ref l]) Q E s:=by
 obtain ⟨xs,e⟩:=hi.allInts.items
 have hn:numsOf (intItems xs).toList=ns:=by rw[← e];exact hi.numsOf
 rw[nums_intItems] at hn
 rw[e] at hl
 refine PySem.sum_intListG hh hl fun h' tk t' hk=>?_
 have:=h h' tk t' hk
 rw[preSum_eq,Fl (by simp),hn];exact this
theorem QM (hh:A.handled=none)(hl:s.heap.IsList l its.toArray)(hi:eN its ns)(hne:0<ns.length)
  (h:∀ h' tk M t',(∀ b o,s.heap.get? b=some o→h'.get? b=some o)→M∈ns→(∀ a,a∈ns→M≤a)→Q (.int M t') {s with heap:=h',toks:=tk}):wpAny (model prog w) A (call (.builtin "min") [.ref l]) Q E s:=by
 obtain ⟨xs,e⟩:=hi.allInts.items
 have hn:numsOf (intItems xs).toList=ns:=by rw[← e];exact hi.numsOf
 rw[nums_intItems] at hn
 subst hn
 rw[e] at hl
 have hsz:0<xs.size:=by simpa using hne
 refine PySem.min_intList hh hl hsz fun v h' tk hv hk=>?_
 obtain ⟨t,rfl⟩:=intItems_at hv
 obtain ⟨h1,h2⟩:=argBest_lt (numAt xs) (xs.size - 1)
 refine h h' tk _ t hk ?_ fun a ha=>?_
 ·rw[numAt_eq];exact PySem.getD_mem (by rw[ae,cO];omega)
 ·obtain ⟨j,hj,rfl⟩:=mem_getD ha
  rw[ae,cO] at hj
  rw[← numAt_eq];exact h2 j (by omega)
end
section
variable {X:Cx}
def U9 (K:ai):List V→Hp→VK→Prop:=fun vs H Q=>∃ (a:aj) (ns:List Int),vs=[V.ref a]∧cI K H a (ns.map V.int)∧Q (.int ns.sum) H
def WA (K:ai):List V→Hp→VK→Prop:=fun vs H Q=>∃ (a:aj) (ns:List Int),vs=[V.ref a]∧cI K H a (ns.map V.int)∧0<ns.length∧∀ m,m∈ns→(∀ y,y∈ns→m≤y)→Q (.int m) H
theorem yF (hc:X.calm=true):lM X (.builtin "sum") (U9 X.K):=by
 intro pins s σ H vs us Q I r h
 obtain ⟨a,ns,rfl,hs,q⟩:=h
 obtain ⟨its,rv,hl,_⟩:=I.list hs
 rw[di.xc r]
 exact P6 (I.ok.hd hc) hl.isList rv.ints fun h' tk t' hk=>⟨.int _,H,I.kept hk,⟨_,rfl⟩,q⟩
theorem ML (hc:X.calm=true):lM X (.builtin "min") (WA X.K):=by
 intro pins s σ H vs us Q I r h
 obtain ⟨a,ns,rfl,hs,hne,q⟩:=h
 obtain ⟨its,rv,hl,_⟩:=I.list hs
 rw[di.xc r]
 exact QM (I.ok.hd hc) hl.isList rv.ints hne fun h' tk m t' hk h1 h2=>⟨.int _,H,I.kept hk,⟨_,rfl⟩,q m h1 h2⟩
end
section
variable {X:Cx}
end
section
variable {X:Cx}
end
theorem Ed {prog:aV}{w:bK}{A:cC}{E:ag→au→Prop}{s:au}{l:aj}{items:Array ag}{Q:ag→au→Prop}(hl:s.heap.IsList l items)
  (h:∀ s₂:au,s₂={s with heap:=s.heap.push {cls:=.type "list_iterator",data:=.fields #[.ref l,.int 0 0]}} →
   (s₂.heap.IsListIter s.heap.objs.size l 0∧s₂.heap.IsList l items)→l≠s.heap.objs.size→Q (.ref s.heap.objs.size) s₂):wpAny (model prog w) A (pyIter (.ref l)) Q E s:=by
 have j7:l<s.heap.objs.size:=by obtain ⟨_,e,_⟩:=hl;exact aN e
 exact ip hl (h _ rfl ⟨⟨_,aG _ rfl,rfl,rfl⟩,hl.push _⟩ (bg j7))
theorem wI {prog:aV}{w:bK}{A:cC}{bs:List Bool}{its:List ag}(e:its=bs.map ag.bool) :
  TruthOf prog w A (fun i v=>its.toArray[i]?=some v) (fun i=>bs.getD i false):=fun i v s Q E hv hq=>by
 have hv':its[i]?=some v:=by simpa using hv
 rw[e,aO] at hv'
 obtain ⟨b,hb,rfl⟩:=dB.mp hv'
 have hg:bs.getD i false=b:=by rw[gS,hb]<;>rfl
 have hq':Q (bs.getD i false) s:=hq
 rw[hg] at hq'
 exact fo hq'
theorem any_range:∀ bs:List Bool,(br bs.length).any (fun i=>bs.getD i false)=bs.any id
 | []=>rfl
 | b::bs=>by
  rw[aU,qC,jG,mM,jG,← any_range bs]
  all_goals rfl
theorem all_range:∀ bs:List Bool,(br bs.length).all (fun i=>bs.getD i false)=bs.all id
 | []=>rfl
 | b::bs=>by
  rw[aU,qC,jH,Fh,jH,← all_range bs]
  all_goals rfl
section
variable {X:Cx}
def WC (K:ai):List V→Hp→VK→Prop:=fun vs H Q=>∃ (a:aj) (bs:List Bool),vs=[V.ref a]∧cI K H a (bs.map V.bl)∧Q (.bl (bs.any id)) H
def WD (K:ai):List V→Hp→VK→Prop:=fun vs H Q=>∃ (a:aj) (bs:List Bool),vs=[V.ref a]∧cI K H a (bs.map V.bl)∧Q (.bl (bs.all id)) H
theorem Ui (hc:X.calm=true):lM X (.builtin "any") (WC X.K):=by
 intro pins s σ H vs us Q I r h
 obtain ⟨a,bs,rfl,hs,q⟩:=h
 obtain ⟨its,rv,hl,_⟩:=I.list hs
 rw[di.xc r]
 have hb:=rv.Wn
 refine call_any_walk (Ed hl.isList fun s₂ e2 st hne=>?_)
 subst e2
 refine ⟨_,_,_,_,_,_,_,rfl,Walks.list (A:=X.A.in1) (I.ok.hd hc) _ a hne its.toArray,st,wI hb,fun h' tk hk=>?_⟩
 refine ⟨.bl _,H,I.kept fun b o eo=>hk b o (fun hmem=>?_) (ay _ eo),?_,q⟩
 ·rcases aI.mp hmem with e1 | hmem
  ·exact absurd (e1▸aN eo) (du _)
  ·cases hmem
 ·show ag.bool _=ag.bool _
  rw[← any_range,hb,bD,ae]
theorem F4 (hc:X.calm=true):lM X (.builtin "all") (WD X.K):=by
 intro pins s σ H vs us Q I r h
 obtain ⟨a,bs,rfl,hs,q⟩:=h
 obtain ⟨its,rv,hl,_⟩:=I.list hs
 rw[di.xc r]
 have hb:=rv.Wn
 refine call_all_walk (Ed hl.isList fun s₂ e2 st hne=>?_)
 subst e2
 refine ⟨_,_,_,_,_,_,_,rfl,Walks.list (A:=X.A.in1) (I.ok.hd hc) _ a hne its.toArray,st,wI hb,fun h' tk hk=>?_⟩
 refine ⟨.bl _,H,I.kept fun b o eo=>hk b o (fun hmem=>?_) (ay _ eo),?_,q⟩
 ·rcases aI.mp hmem with e1 | hmem
  ·exact absurd (e1▸aN eo) (du _)
  ·cases hmem
 ·show ag.bool _=ag.bool _
  rw[← all_range,hb,bD,ae]
end
mutual
inductive Dp (K:ai)(H:Hp):V→yu→Prop
 | hU:Dp K H .hU .none
 | bl (b:Bool):Dp K H (.bl b) (.bool b)
 | int (i:Int):Dp K H (.int i) (.int i)
 | str (x:bZ):Dp K H (.str x) (.str x)
 | lst {a:aj} {xs:List V} {ds:List yu}:cI K H a xs→yy K H xs ds→Dp K H (.ref a) (.list ds)
 | tup {a:aj} {xs:List V} {ds:List yu}:fR K H a xs→yy K H xs ds→Dp K H (.ref a) (.tuple ds)
inductive yy (K:ai)(H:Hp):List V→List yu→Prop
 | nil:yy K H [] []
 | cons {v:V} {vs:List V} {d:yu} {ds:List yu}:Dp K H v d→yy K H vs ds→yy K H (v::vs) (d::ds)
end
section
variable {X:Cx}{pins:List (aj×fD)}{σ:St}{H:Hp}{s:au}
mutual
theorem Dp.reads (I:Inv X pins σ H s):∀ (d:yu) (v:V) (u:ag),Dp X.K H v d→RelV v u→∃ as,Reads s.heap u d as
 | .none,_,_,h,r=>by
  cases h
  cases r
  exact ⟨_,Reads.none⟩
 | .bool b,_,_,h,r=>by
  cases h
  cases r
  exact ⟨_,Reads.bool b⟩
 | .int i,_,_,h,r=>by
  cases h
  obtain ⟨t,rfl⟩:=r
  exact ⟨_,Reads.int i t⟩
 | .str x,_,_,h,r=>by
  cases h
  obtain ⟨t,rfl⟩:=r
  exact ⟨_,Reads.str x t⟩
 | .list ds,_,_,h,r=>by
  cases h with
  | lst hs ha =>
   cases r
   obtain ⟨its,rv,⟨o,n,ho,hc,_,hd⟩,_⟩:=I.list hs
   obtain ⟨as,hr⟩:=Dp.readsAll I ds _ its ha rv
   exact ⟨_,Reads.list ho hc hd hr⟩
 | .tuple ds,_,_,h,r=>by
  cases h with
  | tup hs ha =>
   cases r
   obtain ⟨its,rv,⟨o,ho,hc,n,hd⟩,_⟩:=I.tuple hs
   obtain ⟨as,hr⟩:=Dp.readsAll I ds _ its ha rv
   exact ⟨_,Reads.tuple ho hc hd hr⟩
 | .dict _,_,_,h,_=>by cases h
theorem Dp.readsAll (I:Inv X pins σ H s):∀ (ds:List yu) (vs:List V) (us:List ag),yy X.K H vs ds→di vs us→∃ as,ReadsAll s.heap us ds as
 | [],_,_,h,r=>by
  cases h
  cases r
  exact ⟨_,ReadsAll.nil⟩
 | d::ds,_,_,h,r=>by
  cases h with
  | cons h1 h2 =>
   cases r with
   | cons r1 r2 =>
    obtain ⟨as,q1⟩:=Dp.reads I d _ _ h1 r1
    obtain ⟨bs,q2⟩:=Dp.readsAll I ds _ _ h2 r2
    exact ⟨_,ReadsAll.cons q1 q2⟩
end
end
section
variable {X:Cx}
def WB (K:ai):R2:=fun x y H Q=>∃ d e,Dp K H x d∧Dp K H y e∧wo d=true∧wo e=true∧Q (.bl (Jq d e)) H
theorem TH (hu:X.A.units+64<cLine):xA X (compareOp .Eq) (WB X.K):=by
 intro pins s σ H x y v u Q I rx ry h
 obtain ⟨d,e,hd,he,sd,se,q⟩:=h
 obtain ⟨as,r1⟩:=Dp.reads I d x v hd rx
 obtain ⟨bs,r2⟩:=Dp.reads I e y u he ry
 exact SeqAt.compareEq_shaped r1 r2 sd se hu ⟨.bl _,H,I,rfl,q⟩
end
abbrev MW (h:bW)(c:aj)(v:Option ag):Prop:=h.IsCell c v
def Wy (scope sc:jv):jv :=
 {scope with names:=scope.names.map fun (n,k)=>if (k==.free&&sc.kind==.function&&sc.names.lookup n==some .cell) then (n,.cell) else (n,k)}
def fV (cells:List (bZ×aj)):List (bZ×il)→List (bZ×aj)→List (bZ×aj)
 | [],acc=>acc
 | (n,k)::r,acc=>if k==.free then fV cells r ((n,(cells.lookup n).getD 0)::acc) else fV cells r acc
theorem vh (env:Dc)(f:bZ×il→List (bZ×aj)→o9 (ForInStep (List (bZ×aj))))
  (hf:∀ n k c,f (n,k) c=if k==.free then (do let a ← cellOf env n;pure (.yield ((n,a)::c))) else pure (.yield c)) :
  ∀ (names:List (bZ×il)) (acc:List (bZ×aj)),(∀ y∈names,y.2=.free→∃ c,env.cells.lookup y.1=some c)→forIn names acc f=pure (fV env.cells names acc)
 | [],acc,_=>by rw[kC];rfl
 | (n,k)::r,acc,h=>by
  rw[jO,hf]
  have ih:=fun acc=>vh env f hf r acc fun y hy=>h y (ao _ hy)
  unfold fV
  by_cases hk:(k==kS)=true
  ·rw[if_pos hk,if_pos hk]
   obtain ⟨c,hc⟩:=h (n,k) ax (by simpa using hk)
   have e:cellOf env n=pure c:=by unfold cellOf;rw[hc]
   rw[e]
   have e2:(env.cells.lookup n).getD 0=c:=by rw[hc];rfl
   rw[e2]
   exact ih _
  ·rw[if_neg hk,if_neg hk]
   exact ih _
theorem GW {scope:jv}{env:Dc}(h:∀ y∈scope.names,y.2=.free→∃ c,env.cells.lookup y.1=some c):closureFor scope env=pure (fV env.cells scope.names []):=by
 simp only[closureFor]
 rw[vh env _ (fun n k c=>rfl) scope.names [] h]
 rfl
theorem mem_lookup {α:Type}:∀ {l:List (bZ×α)} {n:bZ} {c:α},(n,c)∈l→∃ c',l.lookup n=some c'
 | (k,v)::r,n,c,h=>by
  rw[fC]
  cases hb:n==k with
  | true=>exact ⟨_,rfl⟩
  | false =>
   rcases aI.mp h with e | h
   ·cases e;simp at hb
   ·exact mem_lookup h
theorem nD {cells:List (bZ×aj)}:∀ {names:List (bZ×il)} {acc:List (bZ×aj)} {n:bZ} {c:aj},(n,c)∈fV cells names acc→(n,c)∈acc∨((n,.free)∈names∧c=(cells.lookup n).getD 0)
 | [],_,_,_,h=>.inl h
 | (m,k)::r,acc,n,c,h=>by
  unfold fV at h
  split at h
  ·rename_i hk
   have hk:k=.free:=by simpa using hk
   rcases nD h with h | ⟨h1,h2⟩
   ·rcases aI.mp h with e | h
    ·cases e;exact .inr ⟨hk▸ax,rfl⟩
    ·exact .inl h
   ·exact .inr ⟨ao _ h1,h2⟩
  ·rcases nD h with h | ⟨h1,h2⟩
   ·exact .inl h
   ·exact .inr ⟨ao _ h1,h2⟩
theorem rH {cells:List (bZ×aj)}:∀ {names:List (bZ×il)} {acc:List (bZ×aj)} {p:bZ×aj},p∈acc→p∈fV cells names acc
 | [],_,_,h=>h
 | (m,k)::r,acc,p,h=>by
  unfold fV
  split
  ·exact rH (ao _ h)
  ·exact rH h
theorem rG {cells:List (bZ×aj)}:∀ {names:List (bZ×il)} {acc:List (bZ×aj)} {n:bZ},(n,.free)∈names→(n,(cells.lookup n).getD 0)∈fV cells names acc
 | (m,k)::r,acc,n,h=>by
  unfold fV
  rcases aI.mp h with e | h
  ·cases e
   exact rH ax
  ·split
   ·exact rG h
   ·exact rG h
theorem oU:∀ {names:List (bZ×il)} {h:bW} {acc:List (bZ×aj)} {x:bZ} {c:aj},(x,c)∈cellsFrom h.objs.size names acc →
  (x,c)∈acc∨((x,.cell)∈names∧h.objs.size≤c∧MW (pushCells h names) c none)
 | [],_,_,_,_,h=>.inl h
 | (n,k)::r,h,acc,x,c,hm=>by
  unfold cellsFrom at hm
  unfold pushCells
  split at hm
  ·rename_i hk
   rw[if_pos hk]
   have hk:k=.cell:=by simpa using hk
   rw[← cR h {cls:=.type "cell",data:=.cell none}] at hm
   rcases oU hm with hm | ⟨h1,h2,h3⟩
   ·rcases aI.mp hm with e | hm
    ·cases e
     exact .inr ⟨hk▸ax,aL _,_,uu r _ _ _ (aG _ rfl),rfl⟩
    ·exact .inl hm
   ·rw[cR] at h2
    exact .inr ⟨ao _ h1,kT h2,h3⟩
  ·rename_i hk
   rw[if_neg hk]
   rcases oU hm with hm | ⟨h1,h2,h3⟩
   ·exact .inl hm
   ·exact .inr ⟨ao _ h1,h2,h3⟩
theorem sH:∀ {names:List (bZ×il)} {n:Nat} {acc:List (bZ×aj)} {p:bZ×aj},p∈acc→p∈cellsFrom n names acc
 | [],_,_,_,h=>h
 | (m,k)::r,n,acc,p,h=>by
  unfold cellsFrom
  split
  ·exact sH (ao _ h)
  ·exact sH h
theorem vY:∀ {names:List (bZ×il)} {n:Nat} {acc:List (bZ×aj)} {x:bZ},(x,.cell)∈names→∃ c,(x,c)∈cellsFrom n names acc
 | (m,k)::r,n,acc,x,h=>by
  unfold cellsFrom
  rcases aI.mp h with e | h
  ·cases e
   exact ⟨n,sH ax⟩
  ·split
   ·exact vY h
   ·exact vY h
theorem vX:∀ {names:List (bZ×il)} {h:bW} {acc:List (bZ×aj)} {x y:bZ} {c:aj},(∀ p∈acc,p.2<h.objs.size)→(∀ x y c,(x,c)∈acc→(y,c)∈acc→x=y) →
  (x,c)∈cellsFrom h.objs.size names acc→(y,c)∈cellsFrom h.objs.size names acc→x=y
 | [],_,_,_,_,_,_,hi,h1,h2=>hi _ _ _ h1 h2
 | (n,k)::r,h,acc,x,y,c,hl,hi,h1,h2=>by
  unfold cellsFrom at h1 h2
  split at h1
  ·rename_i hk
   rw[if_pos hk] at h2
   rw[← cR h {cls:=.type "cell",data:=.cell none}] at h1 h2
   refine vX (h:=h.push _) (fun p hp=>?_) (fun x y c a b=>?_) h1 h2
   ·rw[cR]
    rcases aI.mp hp with rfl | hp
    ·exact dS _
    ·exact dG (hl p hp)
   ·rcases aI.mp a with e | a<;>rcases aI.mp b with e' | b
    ·cases e;cases e';rfl
    ·cases e;exact absurd (hl _ b) (du _)
    ·cases e';exact absurd (hl _ a) (du _)
    ·exact hi _ _ _ a b
  ·rename_i hk
   rw[if_neg hk] at h2
   exact vX hl hi h1 h2
theorem EG {M:LB}{A:cC}{E:ag→au→Prop}{s:au}{scope:jv}{globals:aj}{closure:List (bZ×aj)}{qual:bZ}{func:Option aj}{code:ag}{around:Dc}{builtins:aj}{Q:Dc→au→Prop}
  (h:Q (newEnv scope s.heap.objs.size globals (cellsFrom (s.heap.objs.size+1) scope.names closure) qual func code (some around) builtins)
   {s with heap:=pushCells (s.heap.push {cls:=.type "dict",data:=.dict #[]}) scope.names}) :
  wpAny M A (newFunctionEnv scope globals closure [] qual func code (some around) builtins) Q E s:=by
 simp only[newFunctionEnv,Ju,if_true]
 refine aa (wpAny_alloc ?_)
 refine aa (wpAny_layCells _ (fun n k c=>rfl) scope.names closure _ _ ?_)
 rw[show ({s with heap:=s.heap.push {cls:=.type "dict",data:=.dict #[]}}:au).heap.objs.size=s.heap.objs.size+1 from cR ..]
 rw[kC]
 exact aa (ak (ak h))
theorem rE {sc:jv}:∀ {names:List (bZ×il)} {x:bZ} {k:il},
  (names.map fun (n,k)=>if (k==kS&&sc.kind==.function&&sc.names.lookup n==some .cell) then (n,zQ) else (n,k)).lookup x=some k →
  ∃ k',names.lookup x=some k'∧(k=k'∨(k'=.free∧k=.cell))
 | [],_,_,h=>by simp at h
 | (n,k₀)::r,x,k,h=>by
  have ih:=@rE sc r x k
  have h':j5 x ((if (k₀==kS&&sc.kind==.function&&sc.names.lookup n==some .cell)=true then (n,zQ) else (n,k₀))::(r.map _))=some k:=h
  cases hx:x==n with
  | true =>
   simp only[fC,hx]
   by_cases hc:(k₀==kS&&sc.kind==.function&&sc.names.lookup n==some .cell)=true
   ·rw[if_pos hc] at h'
    simp only[fC,hx] at h'
    cases h'
    simp only[bA,beq_iff_eq] at hc
    exact ⟨k₀,rfl,.inr ⟨hc.1.1,rfl⟩⟩
   ·rw[if_neg hc] at h'
    simp only[fC,hx] at h'
    cases h'
    exact ⟨_,rfl,.inl rfl⟩
  | false =>
   simp only[fC,hx]
   by_cases hc:(k₀==kS&&sc.kind==.function&&sc.names.lookup n==some .cell)=true
   ·rw[if_pos hc] at h'
    simp only[fC,hx] at h'
    exact ih h'
   ·rw[if_neg hc] at h'
    simp only[fC,hx] at h'
    exact ih h'
structure Dt (N:List bZ)(sc scope:jv)(own:List (bZ×Nat)):Prop where
 kind:scope.kind=.function
 uniq:∀ y∈scope.names,scope.names.lookup y.1=some y.2
 ix:∀ p∈own,N[p.2]?=some p.1
 free:∀ y∈scope.names,y.2=.free→sc.names.lookup y.1=some .cell∨sc.names.lookup y.1=some .free
 own:∀ y∈scope.names,y.2=.local∨y.2=.cell→y.1∈own.map (·.1)∨y.1∉N
def wipe (σ:St):List Nat→St
 | []=>σ
 | v::vs=>(wipe σ vs).set v none
theorem rh (σ:St):∀ vs:List Nat,(wipe σ vs).length=σ.length
 | []=>rfl
 | v::vs=>by unfold wipe;rw[l6,rh σ vs]
theorem vH {σ:St}{i:Nat}{x:V}:∀ {vs:List Nat},(wipe σ vs)[i]?=some (some x)→σ[i]?=some (some x)∧i∉vs
 | [],h=>⟨h,by simp⟩
 | v::vs,h=>by
  unfold wipe at h
  by_cases hi:v=i
  ·subst hi
   by_cases hv:v<(wipe σ vs).length
   ·rw[kE hv] at h;cases h
   ·rw[bJ (by simpa using hv)] at h;cases h
  ·rw[tK hi] at h
   obtain ⟨h1,h2⟩:=vH h
   exact ⟨h1,by simp only[aI,not_or];exact ⟨fun e=>hi e.symm,h2⟩⟩
abbrev Cx.Bn (X:Cx)(s:au)(H:Hp)(scope:jv)(jM:Dc)(fp:List aj):Cx:={X with s_0:=s,H_0:=H,env:=jM,outer:=X.stack,ex:=fp,fn:=fun x=>scope.names.lookup x==some .cell,pn:=[],xe:=fun _ _=>False}
section
variable {X:Cx}{pins:List (aj×fD)}{σ:St}{H:Hp}{s:au}
theorem EV {scope:jv}{own:List (bZ×Nat)}{fp:List aj}(I:Inv X pins σ H s)(ok:Dt X.N X.env.scope scope own)(hN:X.N.Nodup)(hfp:∀ b∈fp,xh X pins H b∧b<s.heap.objs.size) :
  Inv (X.Bn s H scope (compEnvC scope (cellsFrom (s.heap.objs.size+1) scope.names (fV X.env.cells scope.names [])) s.heap.objs.size X.env) fp) [] (wipe σ (own.map (·.2))) H {s with heap:=pushCells (s.heap.push {cls:=.type "dict",data:=.dict #[]}) scope.names}:=by
 have hfree:∀ y∈scope.names,y.2=.free→∃ c,X.env.cells.lookup y.1=some c:=fun y hy e=>by
  rcases ok.free y hy e with k | k
  ·exact I.ok.has _ (.inl k)
  ·exact I.ok.has _ (.inr k)
 generalize hcenv:compEnvC scope (cellsFrom (s.heap.objs.size+1) scope.names (fV X.env.cells scope.names [])) s.heap.objs.size X.env=jM
 have kp:∀ b o,s.heap.get? b=some o→(pushCells (s.heap.push {cls:=.type "dict",data:=.dict #[]}) scope.names).get? b=some o:=fun b o e=>uu _ _ _ _ (ay _ e)
 have hL:jM.locals=s.heap.objs.size:=by rw[← hcenv];rfl
 have hcl:jM.cells=cellsFrom (s.heap.objs.size+1) scope.names (fV X.env.cells scope.names []):=by rw[← hcenv];rfl
 have hsc:jM.scope=Wy scope X.env.scope:=by rw[← hcenv];rfl
 rw[← cR s.heap {cls:=.type "dict",data:=.dict #[]}] at hcl
 have cm:∀ {y c},(y,c)∈fV X.env.cells scope.names []→X.env.cells.lookup y=some c∧c<s.heap.objs.size:=fun {y c} hm=>by
  rcases nD hm with hm | ⟨h1,rfl⟩
  ·cases hm
  ·obtain ⟨c,hc⟩:=hfree _ h1 rfl
   rw[hc]
   obtain ⟨w,z⟩:=I.cell _ _ hc
   exact ⟨rfl,z.lt⟩
 have mem:∀ {y c},jM.cells.lookup y=some c→(X.env.cells.lookup y=some c∧c<s.heap.objs.size)∨(s.heap.objs.size+1≤c∧MW (pushCells (s.heap.push {cls:=.type "dict",data:=.dict #[]}) scope.names) c none):=fun {y c} e=>by
  rw[hcl] at e
  rcases oU (cV e) with hm | ⟨_,h2,h3⟩
  ·exact .inl (cm hm)
  ·rw[cR] at h2;exact .inr ⟨h2,h3⟩
 have look:∀ {y},scope.names.lookup y=some .free→∃ c,jM.cells.lookup y=some c∧X.env.cells.lookup y=some c:=fun {y} hl=>by
  have hy:(y,kS)∈scope.names:=cV hl
  obtain ⟨c',e'⟩:=mem_lookup (sH (names:=scope.names) (n:=(s.heap.push {cls:=.type "dict",data:=.dict #[]}).objs.size) (rG (cells:=X.env.cells) (acc:=[]) hy))
  rw[← hcl] at e'
  refine ⟨c',e',?_⟩
  rw[hcl] at e'
  rcases oU (cV e') with hm | ⟨h1,_,_⟩
  ·exact (cm hm).1
  ·have:=ok.uniq _ h1
   rw[hl] at this;cases this
 have okB:(X.Bn s H scope jM fp).Ok:=by
  refine ⟨I.ok.mod,by show jM.scope.kind=_;rw[hsc];exact ok.kind,by show jM.globals=_;rw[← hcenv];exact I.ok.glob,by show jM.builtins=_;rw[← hcenv];exact I.ok.blt,by show s.heap.objs.size≤jM.locals;rw[hL];exact aL _,
   fun y z c e1 e2=>?_,fun y hy=>?_,fun y c z e=>?_,I.ok.hd,I.ok.frames,.inl rfl,fun b hb=>⟨?_,fun y c e z=>?_⟩,I.bs,aB I.ok.PB I.sz,fun b o e hb=>?_,fun b hb z=>?_,I.stack,I.HZ⟩
  ·have e1:jM.cells.lookup y=some c:=e1
   have e2:jM.cells.lookup z=some c:=e2
   rw[hcl] at e1 e2
   refine vX (fun p hp=>?_) (fun y z c a b=>I.ok.inj y z c (cm a).1 (cm b).1) (cV e1) (cV e2)
   rw[cR]
   exact dG (cm (y:=p.1) (c:=p.2) hp).2
  ·show ∃ c,jM.cells.lookup y=some c
   have key:∀ k,jM.kindOf y=some k→(k=.cell∨k=.free)→∃ c,jM.cells.lookup y=some c:=fun k hk hk'=>by
    unfold Dc.kindOf at hk
    rw[hsc] at hk
    obtain ⟨k',e,r⟩:=rE hk
    have:k'=.cell∨k'=.free:=by
     rcases r with rfl | ⟨rfl,_⟩
     ·exact hk'
     ·exact .inr rfl
    rcases this with rfl | rfl
    ·obtain ⟨c,hm⟩:=vY (n:=(s.heap.push {cls:=.type "dict",data:=.dict #[]}).objs.size) (acc:=fV X.env.cells scope.names []) (cV e)
     obtain ⟨c',e'⟩:=mem_lookup hm
     exact ⟨c',by rw[hcl];exact e'⟩
    ·obtain ⟨c,h1,_⟩:=look e
     exact ⟨c,h1⟩
   rcases hy with hy | hy
   ·exact key _ hy (.inl rfl)
   ·exact key _ hy (.inr rfl)
  ·have z:(scope.names.lookup y==some zQ)=true:=z
   have z:scope.names.lookup y=some .cell:=by simpa using z
   have e:jM.cells.lookup y=some c:=e
   rw[hcl] at e
   rcases oU (cV e) with hm | ⟨_,h2,_⟩
   ·rcases nD hm with hm | ⟨h1,_⟩
    ·cases hm
    ·have q:=ok.uniq _ h1
     rw[z] at q;cases q
   ·rw[cR] at h2
    exact kT h2
  ·show b≠jM.locals
   rw[hL];exact bg (hfp b hb).2
  ·have e:jM.cells.lookup y=some c:=e
   rcases mem e with ⟨h1,_⟩ | ⟨h1,_⟩
   ·exact (hfp b hb).1.2.2.2.2.1 y c h1 z
   ·have h2:s.heap.objs.size+1≤b:=by rw[← z];exact h1
    exact absurd (cB (hfp b hb).2 (kT h2)) (du _)
  ·rcases (hfp b hb).1.2.2.2.1 with z | z
   ·exact I.ok.LQ b o e z
   ·exact absurd (cB (aN e) (aB I.ok.PB z)) (du _)
  ·rcases aI.mp (I.Fz b z) with z | z
   ·exact (hfp b hb).1.2.1 z
   ·exact (hfp b hb).1.2.2.1 z
 refine ⟨okB,rfl,I.bare,Un.kept kp,⟨fun _=>none,?_,fun i y av e1 e2 e3=>?_⟩,fun y c e=>?_,?_,fun y c e=>?_,fun p hp=>?_,I.fu.kept kp,by rw[rh];exact I.len⟩
 ·show bW.Ns _ jM.locals _
  rw[hL]
  exact bW.Ns.keeps (bW.Ns.new ..) fun b o e=>uu _ _ _ _ e
 ·obtain ⟨e2,hne⟩:=vH e2
  have hfr:scope.names.lookup y=some .free∧(jM.kindOf y=some .cell∨jM.kindOf y=some .free):=by
   have key:∀ k,jM.scope.names.lookup y=some k→k=.local∨k=.cell∨k=.free→scope.names.lookup y=some .free∧(jM.kindOf y=some .cell∨jM.kindOf y=some .free):=fun k hk hk'=>by
    have hk0:=hk
    rw[hsc] at hk
    obtain ⟨k',e,r⟩:=rE hk
    have no:¬ (k'=.local∨k'=.cell):=fun hh=>by
     rcases ok.own _ (cV e) hh with e' | e'
     ·obtain ⟨p,hp,hpy⟩:=aX.mp e'
      have e3:=ok.ix p hp
      have:p.1=y:=hpy
      rw[this] at e3
      exact hne (aX.mpr ⟨p,hp,yQ hN e3 e1⟩)
     ·exact e' (aY e1)
    rcases r with rfl | ⟨rfl,rfl⟩
    ·rcases hk' with rfl | rfl | rfl
     ·exact absurd (.inl rfl) no
     ·exact absurd (.inr rfl) no
     ·exact ⟨e,.inr hk0⟩
    ·exact ⟨e,.inl hk0⟩
   have e3:UW jM.scope y:=e3
   rcases e3 with e3 | e3 | e3
   ·exact key _ e3 (.inl rfl)
   ·exact key _ e3 (.inr (.inl rfl))
   ·exact key _ e3 (.inr (.inr rfl))
  obtain ⟨m,hn,hl⟩:=I.loc
  have hvis:UW X.env.scope y:=(ok.free _ (cV hfr.1) rfl).elim (fun k=>.inr (.inl k)) (fun k=>.inr (.inr k))
  obtain ⟨w,r,q⟩:=hl i y av e1 e2 hvis
  refine ⟨w,r,.inr ⟨hfr.2,?_⟩⟩
  obtain ⟨c,h1,h2⟩:=look hfr.1
  rcases q with ⟨k,_⟩ | ⟨_,c',e',z⟩
  ·have k:X.env.scope.names.lookup y=some .local:=k
   rcases ok.free _ (cV hfr.1) rfl with k' | k'<;>rw[show X.env.scope.names.lookup y=_ from k'] at k<;>cases k
  ·rw[h2] at e';cases e'
   exact ⟨c,h1,z.keeps kp⟩
 ·have e:jM.cells.lookup y=some c:=e
  rcases mem e with ⟨h1,_⟩ | ⟨_,z⟩
  ·obtain ⟨w,z⟩:=I.cell y c h1
   exact ⟨w,z.keeps kp⟩
  ·exact ⟨_,z⟩
 ·show H jM.locals=none
  rw[hL];exact I.fu.fresh (aL _)
 ·have e:jM.cells.lookup y=some c:=e
  rcases mem e with ⟨h1,_⟩ | ⟨h1,_⟩
  ·exact I.mZ y c h1
  ·exact I.fu.fresh (kT h1)
 ·exact absurd (show p∈([]:List (aj×fD))++[] from hp) (by simp)
theorem Uw {E:ag→au→Prop}{D:aj}{xs:List V}{y:V}{v:ag}{Q:ag→au→Prop}(I:Inv X pins σ H s)(hD:H D=some (.lst xs))(hz:xs.length<aP)(r:RelV y v)
  (h:∀ s',Inv X pins σ (upd H D (.lst (xs++[y]))) s'→Q .none s'):wpAny (model X.prog X.w) X.A (call (.builtin "list.append") [.ref D,v]) Q E s:=by
 obtain ⟨hz',its,n,ri,e⟩:=I.fu D _ hD
 have hl:=ri.length
 refine append_at (hsz:=by rw[bD];omega) e fun h' sb ho'=>?_
 refine h {s with heap:=h'} (I.write (t':=s.toks) (by rw[hD];trivial) (.inl rfl) (fun b u hb q=>(sb.2 b hb).trans q) ⟨_,ho'⟩ ⟨by rw[aK];exact hz,its++[v],n+1,ri.append (.cons r .nil),?_⟩)
 rw[ho']
 simp
def UY (X:Cx)(ifs:List Expr)(t:TT):Prop :=
 ∀ (pins:List (aj×fD)) (s:au) (σ:St) (H:Hp) (Q:Bool→Hp→Prop),Inv X pins σ H s→t σ H Q →
  wpAny (model X.prog X.w) X.A (forIn ifs true fun c r=>if r=true then do let ok ← isTrue c X.env (eval c X.env);pure (o6 ok) else pure (o6 r)) (TP X pins σ Q) X.xe s
def LN:TT:=fun _ H Q=>Q true H
theorem gA:UY X [] LN:=fun _ _ _ H _ I h=>wpAny_tests_nil ⟨H,I,h⟩
theorem pD {c:Expr}{t:TT}(h:PT X c t):UY X [c] t:=fun pins s σ H Q I hw=>wpAny_tests_one (h pins s σ H Q I hw)
end
theorem JE {α:Type}{t:o9 α}{Q Q':α→au→Prop}{M:LB}{A:cC}{E:ag→au→Prop}{s:au}(h:wpAny M A t Q (fun _ _=>False) s)(hQ:∀ a s,Q a s→Q' a s):wpAny M A t Q' E s:=hW h hQ fun _ _ z=>ft z
theorem CI {prog:aV}{w:bK}{A:cC}{R:qS→au→Prop}{s:au}{elt target iter:Expr}{ifs:List Expr}{scope:jv}{pos:jR}{it acc:ag}{env:Dc}(I:Nat→au→Prop)
  (turn:∀ n s,I n s→wpAny (model prog w) A (pyNext it) (fun r s₁=>match r with
   | none=>R (.ok .next) s₁
   | some v=>wpAny (model prog w) A (letOwnedTupleGo target it v) (fun _ s₁'=>wpAny (model prog w) A (assign target env v) (fun _ s₂ =>
     wpAny (model prog w) A (forIn ifs true fun c r=>if r=true then do let ok ← isTrue c env (eval c env);pure (o6 ok) else pure (o6 r)) (fun ok s₃ =>
      if ok=true then wpAny (model prog w) A (eval elt env) (fun x s₄ =>
       wpAny (model prog w) A (call (.builtin "list.append") [acc,x]) (fun _ s₅=>∃ m,m<n∧I m s₅) (notedBy (model prog w) A env fun e s'=>R (.error e) s') s₄) (notedBy (model prog w) A env fun e s'=>R (.error e) s') s₃
      else ∃ m,m<n∧I m s₃) (notedBy (model prog w) A env fun e s'=>R (.error e) s') s₂) (notedBy (model prog w) A env fun e s'=>R (.error e) s') s₁') (notedBy (model prog w) A env fun e s'=>R (.error e) s') s₁) (notedBy (model prog w) A env fun e s'=>R (.error e) s') s)
  (n:Nat)(h:I n s) :
  codeAny (model prog w) A (.compLoop (.ListComp elt [⟨target,iter,ifs,0⟩] scope pos) 0 it acc env) R s:=by
 refine codeAny_loop rfl I (fun n s hI=>?_) n h
 show wpAny _ A ((compTurn (.ListComp elt [⟨target,iter,ifs,0⟩] scope pos) 0 it acc env).onRaise (fun x=>do noteFrame x env;theTreesLotGoes x)) _ _ s
 refine wpAny_noted ?_
 rw[compTurn_list]
 refine aa (JL (aa (hW (turn n s hI) (fun r s₁ h₁=>?_) fun _ _ h'=>h')))
 cases r with
 | none=>exact ak h₁
 | some v =>
  refine aa (hW h₁ (fun _ s₁' h₁'=>?_) fun _ _ h'=>h')
  refine aa (hW h₁' (fun _ s₂ h₂=>aa (hW h₂ (fun ok s₃ h₃=>?_) fun _ _ h'=>h')) fun _ _ h'=>h')
  cases ok with
  | false=>exact ak ⟨rfl,h₃⟩
  | true =>
   exact aa (aa (hW h₃ (fun x s₄ h₄=>aa (hW h₄ (fun _ s₅ h₅=>ak (ak ⟨rfl,h₅⟩)) fun _ _ h'=>h')) fun _ _ h'=>h'))
section
variable {X:Cx}
def V8 (wi:TI)(g:TG)(tt:TT)(te:TE)(vs:List Nat):TE:=fun σ H Q=>wi σ H fun J H1=>∀ D,H1 D=none→∃ W:Nat→Nat→Hp→Prop,(∃ m,W 0 m (upd H1 D (.lst [])))∧∀ i m H,W i m H →
 (J.stop i H∧Q (.ref D) H)∨(J.go i H∧∃ Nx:Hp→Prop,(∀ H',Nx H'→∃ m',m'<m∧W (i+1) m' H')∧∀ x H',J.zO i H x H'→g x (wipe σ vs) H' fun σ2 H2=>wipe σ2 vs=wipe σ vs∧tt σ2 H2 fun b H3 =>
  if b=true then te σ2 H3 fun y H4=>∃ acc,H4 D=some (.lst acc)∧acc.length<aP∧Nx (upd H4 D (.lst (acc++[y]))) else Nx H3)
theorem IK {pins:List (aj×fD)}{s:au}{σ:St}{H:Hp}{Q:VK}{elt tg iter:Expr}{ifs:List Expr}{scope:jv}{own:List (bZ×Nat)}{pos pos':jR}{wi:TI}{g:TG}{tt:TT}{te:TE}{use:Option (ag→o9 Unit)}{Qf:ag→au→Prop}
  (hc:X.calm=true)(hN:X.N.Nodup)(I:Inv X pins σ H s)(hi:PI X tg iter wi)(ok:Dt X.N X.env.scope scope own)
  (hg:∀ (s:au) (H:Hp) (C:aj) (cl:List (bZ×aj)) (fp:List aj),PG (X.Bn s H scope (compEnvC scope cl C X.env) fp) tg g)(ht:∀ (s:au) (H:Hp) (C:aj) (cl:List (bZ×aj)) (fp:List aj),UY (X.Bn s H scope (compEnvC scope cl C X.env) fp) ifs tt)
  (he:∀ (s:au) (H:Hp) (C:aj) (cl:List (bZ×aj)) (fp:List aj),PE (X.Bn s H scope (compEnvC scope cl C X.env) fp) elt te)(hs:∀ x,foldedSetIterable iter X.env x=pure x)
  (h:V8 wi g tt te (own.map (·.2)) σ H Q)
  (hRR:∀ D C s' m H',Inv X pins σ H' s'→Q (.ref D) H'→s'.heap.Ns C m→xh X pins H' C→compPost (model X.prog X.w) X.A X.xe use Qf (.ref D) C (.ok .next) s') :
  wpAny (model X.prog X.w) X.A (comprehension (.ListComp elt [⟨tg,iter,ifs,0⟩] scope pos) scope X.env pos' (newList []) false (eval iter X.env) use) Qf X.xe s:=by
 have hfree:∀ y∈scope.names,y.2=.free→∃ c,X.env.cells.lookup y.1=some c:=fun y hy e=>by
  rcases ok.free y hy e with k | k
  ·exact I.ok.has _ (.inl k)
  ·exact I.ok.has _ (.inr k)
 refine wpAny_comprehension_free (use:=use) rfl hs (GW hfree) ok.kind (fun y hy e=>by rw[ok.uniq y hy,e])
  (gN (hi pins s σ H _ I h) fun xv s1 hx=>gN hx fun itv s2 h2=>?_)
 obtain ⟨it,fp,tn,J,H2,e,I2,T,st2,f2,q⟩:=h2
 subst e
 refine cw (EG ?_) (by show 0≤aP;decide)
 generalize hD:s2.heap.objs.size=D
 have hDn:H2 D=none:=I2.fu.fresh (mS hD)
 obtain ⟨W,⟨m0,w0⟩,turn⟩:=q D hDn
 generalize hs3:({s2 with heap:=s2.heap.push {cls:=.type "list",data:=.seq ([]:List ag).toArray}}:au)=s3
 have I3:Inv X pins σ (upd H2 D (.lst [])) s3:=by
  rw[← hs3]
  refine I2.laid (t':=s2.toks) (fun b o e=>ay _ e) (mS hD) ⟨aS _,[],0,.nil,?_⟩
  rw[← hD]
  exact aG _ rfl
 have h3:s3.heap=s2.heap.push {cls:=.type "list",data:=.seq ([]:List ag).toArray}:=by rw[← hs3]
 have sz:∀ b∈fp,b<s2.heap.objs.size:=fun b hb=>by
  obtain ⟨o,e,_⟩:=T.obj _ _ st2 b hb
  exact aN e
 have f3:∀ b∈fp,xh X pins (upd H2 D (.lst [])) b∧b<s3.heap.objs.size:=fun b hb=>by
  have j7:=sz b hb
  refine ⟨⟨?_,(f2 b hb).2⟩,by rw[h3,cR];exact dG j7⟩
  rw[aW (by rw[← hD];exact bg j7)]
  exact (f2 b hb).1
 have st3:tn 0 s3.heap:=T.keep _ _ _ st2 fun b _ o e=>by rw[h3];exact ay _ e
 have I4:=EV I3 ok hN f3
 have pg:=hg s3 (upd H2 D (.lst [])) s3.heap.objs.size (cellsFrom (s3.heap.objs.size+1) scope.names (fV X.env.cells scope.names [])) fp
 have pt:=ht s3 (upd H2 D (.lst [])) s3.heap.objs.size (cellsFrom (s3.heap.objs.size+1) scope.names (fV X.env.cells scope.names [])) fp
 have pe:=he s3 (upd H2 D (.lst [])) s3.heap.objs.size (cellsFrom (s3.heap.objs.size+1) scope.names (fV X.env.cells scope.names [])) fp
 show codeAny _ _ (.compStart (.ListComp elt [⟨tg,iter,ifs,0⟩] scope pos) 0 (.ref it) (.ref D) (compEnvC scope (cellsFrom (s3.heap.objs.size+1) scope.names (fV X.env.cells scope.names [])) s3.heap.objs.size X.env)) (compPost (model X.prog X.w) X.A X.xe use Qf (.ref D) s3.heap.objs.size) {s3 with heap:=pushCells (s3.heap.push {cls:=.type "dict",data:=.dict #[]}) scope.names}
 have nfp:∀ b∈fp,(upd H2 D (.lst [])) b=none:=fun b hb=>(f3 b hb).1.1
 generalize hce:compEnvC scope (cellsFrom (s3.heap.objs.size+1) scope.names (fV X.env.cells scope.names [])) s3.heap.objs.size X.env=ce at I4 pg pt pe ⊢
 have cL:ce.locals=s3.heap.objs.size:=by subst hce;rfl
 generalize hH3:upd H2 D (.lst [])=H3 at I3 I4 pg pt pe w0 nfp f3
 generalize hs4:({s3 with heap:=pushCells (s3.heap.push {cls:=.type "dict",data:=.dict #[]}) scope.names}:au)=s4 at I4 ⊢
 have st4:tn 0 s4.heap:=T.keep _ _ _ st3 fun b _ o e=>by rw[← hs4];exact uu _ _ _ _ (ay _ e)
 have stat:∀ {σ':St} {H':Hp} {s':au},Inv (X.Bn s3 H3 scope ce fp) [] σ' H' s'→(∀ b∈fp,H' b=none)→∀ b∈fp,xh (X.Bn s3 H3 scope ce fp) [] H' b:=fun {σ' H' s'} I' hn b hb =>
  ⟨hn b hb,(I'.ok.Wg b hb).1,I'.ok.LS b hb,.inl hb,fun x c e=>(I'.ok.Wg b hb).2 x c e,fun p hp=>absurd (show p∈([]:List (aj×fD))++[] from hp) (by simp)⟩
 have loop:codeAny (model X.prog X.w) X.A (.compLoop (.ListComp elt [⟨tg,iter,ifs,0⟩] scope pos) 0 (.ref it) (.ref D) ce) (compPost (model X.prog X.w) X.A X.xe use Qf (.ref D) s3.heap.objs.size) s4:=by
  refine CI (fun n s'=>∃ i H',Inv (X.Bn s3 H3 scope ce fp) [] (wipe σ (own.map (·.2))) H' s'∧tn i s'.heap∧(∀ b∈fp,H' b=none)∧W i n H') ?_ m0 ⟨0,H3,I4,st4,nfp,w0⟩
  rintro n s5 ⟨i,H5,I5,st5,n5,w5⟩
  rcases turn i n H5 w5 with ⟨stop,qq⟩ | ⟨go,Nx,hNx,step⟩
  ·have td:=T.done (X.Bn s3 H3 scope ce fp) rfl rfl rfl hc i [] s5 _ H5 (fun _ _=>False) I5 (stat I5 n5) st5 stop
   refine JE td fun r s6 ⟨hr,I6⟩=>?_
   subst hr
   have I7:Inv X pins σ H5 s6:=I3.VZ (ch:=fp) I6.os I6.base I6.fu I6.bare fun b hb=>⟨(f3 b hb).1.2.2.2.1,(f3 b hb).1.2.1,(f3 b hb).1.2.2.2.2.1,(f3 b hb).1.2.2.2.2.2⟩
   have nC:H5 s3.heap.objs.size=none:=by
    have z:H5 ce.locals=none:=I6.free
    rw[cL] at z
    exact z
   obtain ⟨m,hn,_⟩:=I6.loc
   have hn:s6.heap.Ns ce.locals m:=hn
   rw[cL] at hn
   exact hRR D s3.heap.objs.size s6 m H5 I7 qq hn (I3.De (aL _) nC)
  ·have ti:=T.item (X.Bn s3 H3 scope ce fp) rfl rfl rfl hc i [] s5 _ H5 (fun _ _=>False) I5 (stat I5 n5) st5 go
   refine JE ti fun r s6 ⟨u,hr,h6⟩=>?_
   subst hr
   refine JE h6 fun _ s7 ⟨x,H7,I7,r7,y7,st7,n7⟩=>?_
   have I7':=I7.pinned (stat I7 n7) (T.obj _ _ st7)
   refine JE (pg _ s7 _ H7 x u _ I7' r7 (step x H7 y7)) fun _ s8 ⟨σ8,H8,I8,hw8,q8⟩=>?_
   refine JE (pt _ s8 σ8 H8 _ I8 q8) fun b s9 ⟨H9,I9,q9⟩=>?_
   have fin:∀ {s':au} {H':Hp},Inv (X.Bn s3 H3 scope ce fp) ([]++yD fp s7.heap) σ8 H' s'→Nx H'→∃ m,m<n∧∃ i H',Inv (X.Bn s3 H3 scope ce fp) [] (wipe σ (own.map (·.2))) H' s'∧tn i s'.heap∧(∀ b∈fp,H' b=none)∧W i m H':=fun {s' H'} I' nx=>by
    obtain ⟨m',hm,w'⟩:=hNx H' nx
    have pin':∀ b∈fp,∀ o,s7.heap.get? b=some o→s'.heap.get? b=some o∧H' b=none:=fun b hb o e =>
     let z:=I'.pin (b,o) (eW _ (eW _ (ua hb e)))
     ⟨z.1,z.2.1⟩
    have hl:(wipe σ (own.map (·.2))).length=σ8.length:=by rw[← hw8,rh]
    refine ⟨m',hm,i+1,H',(I'.uN (pins:=[])).weak hl (fun j v e=>?_),T.keep _ _ _ st7 fun b hb o e=>(pin' b hb o e).1,fun b hb=>?_,w'⟩
    ·rw[← hw8] at e
     exact (vH e).1
    ·obtain ⟨o,e,_⟩:=T.obj _ _ st7 b hb
     exact (pin' b hb o e).2
   cases b with
   | false =>
    simp only[iM,if_false] at q9 ⊢
    exact fin I9 q9
   | true =>
    simp only[if_true] at q9 ⊢
    refine JE (pe _ s9 σ8 H9 _ I9 q9) fun z s10 ⟨yv,H10,I10,r10,acc,hD10,hz10,nx⟩=>?_
    exact Uw (X:=X.Bn s3 H3 scope ce fp) I10 hD10 hz10 r10 fun s11 I11=>fin I11 nx
 exact codeAny_compStart_list loop (T.self X.A 0 _ _ _ st4 loop)
theorem jm {elt tg iter:Expr}{ifs:List Expr}{scope:jv}{own:List (bZ×Nat)}{pos:jR}{wi:TI}{g:TG}{tt:TT}{te:TE}(hc:X.calm=true)(hN:X.N.Nodup)(hi:PI X tg iter wi)(ok:Dt X.N X.env.scope scope own)
  (hg:∀ (s:au) (H:Hp) (C:aj) (cl:List (bZ×aj)) (fp:List aj),PG (X.Bn s H scope (compEnvC scope cl C X.env) fp) tg g)(ht:∀ (s:au) (H:Hp) (C:aj) (cl:List (bZ×aj)) (fp:List aj),UY (X.Bn s H scope (compEnvC scope cl C X.env) fp) ifs tt)
  (he:∀ (s:au) (H:Hp) (C:aj) (cl:List (bZ×aj)) (fp:List aj),PE (X.Bn s H scope (compEnvC scope cl C X.env) fp) elt te)(hs:∀ x,foldedSetIterable iter X.env x=pure x:=by intro _;rfl) :
  PE X (.ListComp elt [⟨tg,iter,ifs,0⟩] scope pos) (V8 wi g tt te (own.map (·.2))):=by
 intro pins s σ H Q I h
 rw[eval_ListComp]
 refine IK hc hN I hi ok hg ht he hs h fun D C s' m H' I' q hn f=>⟨m,hn,fun h'' sb=>?_⟩
 obtain ⟨f0,f1,f2,f3,f4,f5⟩:=f
 exact ⟨.ref D,H',I'.turned (t':=s'.toks) (fun b o hb e=>(sb.2 b hb).trans e) f0 f1 f3 f4 f5,rfl,q⟩
theorem qZ {i:Nat}{y:bZ}{py:jR}{elt tg iter:Expr}{ifs:List Expr}{scope:jv}{own:List (bZ×Nat)}{pos U7:jR}{wi:TI}{g:TG}{tt:TT}{te:TE}(hc:X.calm=true)(hN:X.N.Nodup)(hy:X.N[i]?=some y)(hyl:X.env.scope.names.lookup y=some .local)
  (hsw:swapsWith (.ListComp elt [⟨tg,iter,ifs,0⟩] scope pos) (some (.Name y py)) U7.line X.env=pure true)(hi:PI X tg iter wi)(ok:Dt X.N X.env.scope scope own)
  (hg:∀ (s:au) (H:Hp) (C:aj) (cl:List (bZ×aj)) (fp:List aj),PG (X.Bn s H scope (compEnvC scope cl C X.env) fp) tg g)(ht:∀ (s:au) (H:Hp) (C:aj) (cl:List (bZ×aj)) (fp:List aj),UY (X.Bn s H scope (compEnvC scope cl C X.env) fp) ifs tt)
  (he:∀ (s:au) (H:Hp) (C:aj) (cl:List (bZ×aj)) (fp:List aj),PE (X.Bn s H scope (compEnvC scope cl C X.env) fp) elt te)(hs:∀ x,foldedSetIterable iter X.env x=pure x:=by intro _;rfl) :
  PS X (.Assign [.Name y py] (.ListComp elt [⟨tg,iter,ifs,0⟩] scope pos) U7) (LP (V8 wi g tt te (own.map (·.2))) (mY i)):=by
 intro pins s σ H D I h
 rw[exec_Assign_Name_used _ _ _ _ hsw]
 refine aa (JL (aa ?_))
 show wpAny _ X.A (do let _ ← comprehension (.ListComp elt [⟨tg,iter,ifs,0⟩] scope pos) scope X.env (firstIterPos [⟨tg,iter,ifs,0⟩] pos) (newList []) false (eval iter X.env) (some (assign (.Name y py) X.env))) _ _ s
 have h:V8 wi g tt te (own.map (·.2)) σ H (fun x H1=>mY i x σ H1 D.nx):=h
 refine aa (gN (IK (Qf:=fun _ s'=>SP X pins D .next s') hc hN I hi ok hg ht he hs h fun L C s' m H' I' q hn f=>?_) fun _ s' hq=>ak (ak hq))
 show wpAny _ _ (assign (.Name y py) X.env (.ref L)) _ _ _
 refine wpAny_assign_Name (Aw (v:=V.ref L) I' hN hy (.inl hyl) rfl (fun s2 I2 ⟨a,sb,ha⟩=>?_) (.inr hyl))
 obtain ⟨f0,f1,f2,f3,f4,f5⟩:=f
 have haC:C≠a:=by
  rcases ha with z | z
  ·rw[z];exact f1
  ·exact fun e=>f4 y a z e.symm
 refine ⟨m,hn.sameBut sb haC,fun h3 sb3=>?_⟩
 exact ⟨_,H',I2.turned (t':=s2.toks) (fun b o hb e=>(sb3.2 b hb).trans e) f0 f1 f3 f4 f5,q⟩
theorem uB {elt:Expr}{gs:List Comprehension}{scope:jv}{pos py:jR}{y:bZ}{l:Nat}{env:Dc}(hk:env.scope.kind=.function)(hy:env.scope.names.lookup y=some .local)(hl:(py.line==pos.line)=true)
  (ha:(scope.names.any fun (n,k)=>n==y&&(k==.local||k==.cell))=false):swapsWith (.ListComp elt gs scope pos) (some (.Name y py)) l env=pure true:=by
 have ky:env.kindOf y=some .local:=hy
 have hb:env.blockKind=.function:=by unfold Dc.blockKind;rw[hk];rfl
 unfold swapsWith
 simp only[hb,ky,ha,Expr.pos,hl]
 rfl
end
theorem Ea {lo:Int}{n:Nat}{g:TG}{tt:TT}{te:TE}{vs:List Nat}{σ:St}{H1:Hp}{D:aj}{Qd:Hp→Prop}(Pv:Nat→Hp→Prop)(h0:Pv 0 (upd H1 D (.lst [])))
  (hs:∀ i H,i<n→Pv i H→g (.int (lo+i)) (wipe σ vs) H fun σ2 H2=>wipe σ2 vs=wipe σ vs∧tt σ2 H2 fun b H3 =>
   if b=true then te σ2 H3 fun y H4=>∃ acc,H4 D=some (.lst acc)∧acc.length<aP∧Pv (i+1) (upd H4 D (.lst (acc++[y]))) else Pv (i+1) H3)(hd:∀ H,Pv n H→Qd H) :
  ∃ W:Nat→Nat→Hp→Prop,(∃ m,W 0 m (upd H1 D (.lst [])))∧∀ i m H,W i m H →
   ((JB lo n).stop i H∧Qd H)∨((JB lo n).go i H∧∃ Nx:Hp→Prop,(∀ H',Nx H'→∃ m',m'<m∧W (i+1) m' H')∧∀ x H',(JB lo n).zO i H x H'→g x (wipe σ vs) H' fun σ2 H2=>wipe σ2 vs=wipe σ vs∧tt σ2 H2 fun b H3 =>
    if b=true then te σ2 H3 fun y H4=>∃ acc,H4 D=some (.lst acc)∧acc.length<aP∧Nx (upd H4 D (.lst (acc++[y]))) else Nx H3):=by
 refine ⟨fun i m H=>m=n - i∧i≤n∧Pv i H,⟨n,by simp,aS _,h0⟩,?_⟩
 rintro i m H ⟨rfl,hi,p⟩
 by_cases j7:i<n
 ·refine .inr ⟨j7,Pv (i+1),fun H' p'=>⟨n - (i+1),by omega,rfl,j7,p'⟩,fun x H' y=>?_⟩
  obtain ⟨e,y⟩:=y
  subst e y
  exact hs i _ j7 p
 ·have e:i=n:=by omega
  subst e
  exact .inl ⟨aL _,hd H p⟩
theorem uI {K:ai}{a:aj}{xs:List V}{g:TG}{tt:TT}{te:TE}{vs:List Nat}{σ:St}{H1:Hp}{D:aj}{Qd:Hp→Prop}(Pv:Nat→Hp→Prop)(h0:Pv 0 (upd H1 D (.lst [])))(hl:∀ i H,i≤xs.length→Pv i H→cI K H a xs)
  (hs:∀ i x H,xs[i]?=some x→Pv i H→g x (wipe σ vs) H fun σ2 H2=>wipe σ2 vs=wipe σ vs∧tt σ2 H2 fun b H3 =>
   if b=true then te σ2 H3 fun y H4=>∃ acc,H4 D=some (.lst acc)∧acc.length<aP∧Pv (i+1) (upd H4 D (.lst (acc++[y]))) else Pv (i+1) H3)(hd:∀ H,Pv xs.length H→Qd H) :
  ∃ W:Nat→Nat→Hp→Prop,(∃ m,W 0 m (upd H1 D (.lst [])))∧∀ i m H,W i m H →
   ((Ag K a).stop i H∧Qd H)∨((Ag K a).go i H∧∃ Nx:Hp→Prop,(∀ H',Nx H'→∃ m',m'<m∧W (i+1) m' H')∧∀ x H',(Ag K a).zO i H x H'→g x (wipe σ vs) H' fun σ2 H2=>wipe σ2 vs=wipe σ vs∧tt σ2 H2 fun b H3 =>
    if b=true then te σ2 H3 fun y H4=>∃ acc,H4 D=some (.lst acc)∧acc.length<aP∧Nx (upd H4 D (.lst (acc++[y]))) else Nx H3):=by
 refine ⟨fun i m H=>m=xs.length - i∧i≤xs.length∧Pv i H,⟨xs.length,by simp,aS _,h0⟩,?_⟩
 rintro i m H ⟨rfl,hi,p⟩
 have q:=hl i H hi p
 by_cases j7:i<xs.length
 ·refine .inr ⟨⟨xs,xs[i],q,by simp[j7]⟩,Pv (i+1),fun H' p'=>⟨xs.length - (i+1),by omega,rfl,j7,p'⟩,fun x H' y=>?_⟩
  obtain ⟨e,y⟩:=y
  subst e
  exact hs i x _ (y xs q) p
 ·have e:i=xs.length:=by omega
  subst e
  exact .inl ⟨⟨xs,q,aL _⟩,hd H p⟩
theorem T4 {K:ai}{a:aj}{xs:List V}{g:TG}{tt:TT}{te:TE}{vs:List Nat}{σ:St}{H1:Hp}{D:aj}{Qd:Hp→Prop}(Pv:Nat→Hp→Prop)(h0:Pv 0 (upd H1 D (.lst [])))(hl:∀ i H,i≤xs.length→Pv i H→fR K H a xs)
  (hs:∀ i x H,xs[i]?=some x→Pv i H→g x (wipe σ vs) H fun σ2 H2=>wipe σ2 vs=wipe σ vs∧tt σ2 H2 fun b H3 =>
   if b=true then te σ2 H3 fun y H4=>∃ acc,H4 D=some (.lst acc)∧acc.length<aP∧Pv (i+1) (upd H4 D (.lst (acc++[y]))) else Pv (i+1) H3)(hd:∀ H,Pv xs.length H→Qd H) :
  ∃ W:Nat→Nat→Hp→Prop,(∃ m,W 0 m (upd H1 D (.lst [])))∧∀ i m H,W i m H →
   ((R6 K a).stop i H∧Qd H)∨((R6 K a).go i H∧∃ Nx:Hp→Prop,(∀ H',Nx H'→∃ m',m'<m∧W (i+1) m' H')∧∀ x H',(R6 K a).zO i H x H'→g x (wipe σ vs) H' fun σ2 H2=>wipe σ2 vs=wipe σ vs∧tt σ2 H2 fun b H3 =>
    if b=true then te σ2 H3 fun y H4=>∃ acc,H4 D=some (.lst acc)∧acc.length<aP∧Nx (upd H4 D (.lst (acc++[y]))) else Nx H3):=by
 refine ⟨fun i m H=>m=xs.length - i∧i≤xs.length∧Pv i H,⟨xs.length,by simp,aS _,h0⟩,?_⟩
 rintro i m H ⟨rfl,hi,p⟩
 have q:=hl i H hi p
 by_cases j7:i<xs.length
 ·refine .inr ⟨⟨xs,xs[i],q,by simp[j7]⟩,Pv (i+1),fun H' p'=>⟨xs.length - (i+1),by omega,rfl,j7,p'⟩,fun x H' y=>?_⟩
  obtain ⟨e,y⟩:=y
  subst e
  exact hs i x _ (y xs q) p
 ·have e:i=xs.length:=by omega
  subst e
  exact .inl ⟨⟨xs,q,aL _⟩,hd H p⟩
def Vk (N:List bZ)(sc scope:jv)(own:List (bZ×Nat)):Bool :=
 (match scope.kind with | .function=>true | _=>false)&&(scope.names.all fun y=>decide (scope.names.lookup y.1=some y.2))&&(own.all fun p=>decide (N[p.2]?=some p.1)) &&
  (scope.names.all fun y=>match y.2 with
   | .free=>(match sc.names.lookup y.1 with | some .cell=>true | some .free=>true | _=>false)
   | .local=>decide (y.1∈own.map (·.1))||decide (y.1∉N)
   | .cell=>decide (y.1∈own.map (·.1))||decide (y.1∉N)
   | _=>true)
theorem dX {N:List bZ}{sc scope:jv}{own:List (bZ×Nat)}(h:Vk N sc scope own=true):Dt N sc scope own:=by
 unfold Vk at h
 simp only[bA,dO,decide_eq_true_eq] at h
 obtain ⟨⟨⟨h1,h2⟩,h3⟩,h4⟩:=h
 refine ⟨?_,h2,h3,fun y hy e=>?_,fun y hy e=>?_⟩
 ·split at h1
  ·assumption
  ·cases h1
 ·have q:=h4 y hy
  simp only[e] at q
  split at q<;>first | exact .inl (by assumption) | exact .inr (by assumption) | cases q
 ·have q:=h4 y hy
  rcases e with e | e<;>(simp only[e,rO,decide_eq_true_eq] at q;exact q)
section
variable {prog:aV}{w:bK}{A:cC}{R:qS→au→Prop}{s:au}{elt t0 i0 t1 i1:Expr}{ifs0 ifs1:List Expr}{scope:jv}{pos:jR}{it acc:ag}{env:Dc}
end
section
variable {X:Cx}
end
section
variable {κ:Type}[DecidableEq κ]
def kg (kvs:List (κ×V))(k:κ):Option V:=(kvs.find? fun kv=>decide (kv.1=k)).map (·.2)
def putK (kvs:List (κ×V))(k:κ)(v:V):List (κ×V) :=
 if (kvs.any fun kv=>decide (kv.1=k))=true then kvs.map (fun kv=>if kv.1=k then (kv.1,v) else kv) else kvs++[(k,v)]
theorem iD {p:κ×V}{r:List (κ×V)}{k:κ}(e:p.1=k):kg (p::r) k=some p.2:=by simp[kg,cJ,e]
theorem iE {p:κ×V}{r:List (κ×V)}{k:κ}(e:¬ p.1=k):kg (p::r) k=kg r k:=by simp[kg,cJ,e]
theorem uM (k:κ):∀ kvs:List (κ×V),(kvs.any fun kv=>decide (kv.1=k))=(kg kvs k).isSome
 | []=>rfl
 | p::r=>by
  rw[jG]
  by_cases e:p.1=k
  ·simp only[iD e,decide_eq_true e,Bool.true_or,Ju]
  ·rw[iE e,decide_eq_false e,Bool.false_or];exact uM k r
theorem Dy (k j:κ)(y:V):∀ kvs:List (κ×V),kg (kvs.map fun kv=>if kv.1=k then (kv.1,y) else kv) j=(kg kvs j).map fun x=>if j=k then y else x
 | []=>rfl
 | p::r=>by
  have ih:=Dy k j y r
  rw[bq]
  by_cases h:p.1=k
  ·rw[if_pos h]
   by_cases e:p.1=j
   ·rw[iD (p:=(p.1,y)) e,iD e,lO,if_pos (e.symm.trans h)]
   ·rw[iE (p:=(p.1,y)) e,iE e,ih]
  ·rw[if_neg h]
   by_cases e:p.1=j
   ·rw[iD (p:=p) e,iD e,lO,if_neg (fun z=>h (e.trans z))]
   ·rw[iE (p:=p) e,iE e,ih]
theorem Aq (k j:κ)(y:V):∀ kvs:List (κ×V),kg kvs k=none→kg (kvs++[(k,y)]) j=if j=k then some y else kg kvs j
 | [],_=>by
  by_cases e:k=j
  ·rw[if_pos e.symm];exact iD (p:=(k,y)) e
  ·rw[if_neg (fun z=>e z.symm)];exact iE (p:=(k,y)) e
 | p::r,hn=>by
  rw[qd]
  have hk:¬ p.1=k:=fun z=>by rw[iD z] at hn;cases hn
  rw[iE hk] at hn
  have ih:=Aq k j y r hn
  by_cases e:p.1=j
  ·rw[iD e,iD e,if_neg (fun z=>hk (e.trans z))]
  ·rw[iE e,iE e,ih]
theorem Dx (kvs:List (κ×V))(k j:κ)(y:V):kg (putK kvs k y) j=if j=k then some y else kg kvs j:=by
 unfold putK
 by_cases a:(kvs.any fun kv=>decide (kv.1=k))=true
 ·rw[if_pos a,Dy]
  rw[uM] at a
  by_cases e:j=k
  ·obtain ⟨x,hx⟩:=og.mp a
   rw[if_pos e,e,hx,lO,if_pos rfl]
  ·rw[if_neg e]
   cases kg kvs j with
   | none=>rfl
   | some x=>rw[lO,if_neg e]
 ·rw[if_neg a]
  refine Aq k j y kvs ?_
  rw[uM] at a
  cases q:kg kvs k with
  | none=>rfl
  | some x=>rw[q] at a;exact (a rfl).elim
theorem nB (kvs:List (κ×V))(k:κ)(v:V):(putK kvs k v).length≤kvs.length+1:=by
 unfold putK
 split
 ·rw[ae];omega
 ·rw[aK,aU,eL];omega
theorem ql.KG {o:Option V}{u:Option ag}(r:ql o u):o.isSome=u.isSome:=by
 cases o with
 | none=>cases u with
  | none=>rfl
  | some _=>exact (show False from r).elim
 | some _=>cases u with
  | none=>exact (show False from r).elim
  | some _=>rfl
theorem ql.getD {o:Option V}{u:Option ag}{d:V}{d':ag}(r:ql o u)(rd:RelV d d'):RelV (o.getD d) (u.getD d'):=by
 cases o with
 | none=>cases u with
  | none=>exact rd
  | some _=>exact (show False from r).elim
 | some _=>cases u with
  | none=>exact (show False from r).elim
  | some _=>exact r
theorem KV.val {kvs:List (κ×V)}{vs:List (κ×ag)}(r:KV kvs vs)(k:κ):ql (kg kvs k) (valueAt vs k):=by
 unfold KV at r
 induction r with
 | nil=>exact qt
 | @cons p q ps qs h t ih =>
  obtain ⟨h1,h2⟩:=h
  by_cases e:p.1=k
  ·have e':q.1=k:=h1.symm.trans e
   have b:valueAt (q::qs) k=some q.2:=by simp[valueAt,cJ,e']
   rw[iD e,b];exact h2
  ·have e':¬ q.1=k:=fun z=>e (h1.trans z)
   have b:valueAt (q::qs) k=valueAt qs k:=by simp[valueAt,cJ,e']
   rw[iE e,b];exact ih
theorem KV.any {kvs:List (κ×V)}{vs:List (κ×ag)}(r:KV kvs vs)(k:κ):(kvs.any fun kv=>decide (kv.1=k))=vs.any fun kv=>decide (kv.1=k):=by
 unfold KV at r
 induction r with
 | nil=>rfl
 | cons h t ih=>rw[jG,jG,ih,h.1]
theorem KV.SS {kvs:List (κ×V)}{vs:List (κ×ag)}(r:KV kvs vs)(k:κ){y:V}{u:ag}(ry:RelV y u) :
  KV (kvs.map fun kv=>if kv.1=k then (kv.1,y) else kv) (vs.map fun kv=>if kv.1=k then (kv.1,u) else kv):=by
 unfold KV at r ⊢
 induction r with
 | nil=>exact .nil
 | @cons p q ps qs h t ih =>
  rw[bq,bq]
  refine .cons ?_ ih
  obtain ⟨h1,h2⟩:=h
  by_cases e:p.1=k
  ·rw[if_pos e,if_pos (h1.symm.trans e)];exact ⟨h1,ry⟩
  ·rw[if_neg e,if_neg (fun z=>e (h1.trans z))];exact ⟨h1,h2⟩
theorem KV.put {kvs:List (κ×V)}{vs:List (κ×ag)}(r:KV kvs vs)(k:κ){y:V}{u:ag}(ry:RelV y u):KV (putK kvs k y) (stored vs k u):=by
 unfold putK stored
 rw[r.any k]
 by_cases e:(vs.any fun kv=>decide (kv.1=k))=true
 ·rw[if_pos e,if_pos e];exact r.SS k ry
 ·rw[if_neg e,if_neg e];exact Paired.snoc r ⟨rfl,ry⟩
theorem KV.length {kvs:List (κ×V)}{vs:List (κ×ag)}(r:KV kvs vs):kvs.length=vs.length:=Paired.length r
end
theorem Ai {P:aV}{w:bK}{k:Key}{u:ag}(r:RelV (kV k) u):(dZ P w).is k u=true:=by
 cases k with
 | inl i=>obtain ⟨t,e⟩:=(show ∃ t,u=ag.int i t from r);subst e;exact EK P w i t
 | inr x=>obtain ⟨t,e⟩:=(show ∃ t,u=ag.str x t from r);subst e;exact EJ P w x t
theorem AY {P:aV}{w:bK}:∀ {ks:List Key} {us:List ag},di (ks.map kV) us→ItemsAre (dZ P w) ks us
 | [],_,r=>by rw[fH] at r;cases r;exact .nil
 | k::ks,_,r=>by
  rw[bq] at r
  cases r with
  | cons h t=>exact .cons (Ai h) (AY t)
abbrev KT (H:Hp):List (List eF×V)→List (List eF×aj×ag)→Prop:=Paired fun p q=>p.1=q.1∧lD H q.2.1 p.1∧RelV p.2 q.2.2
theorem KT.val {H:Hp}{kvs:List (List eF×V)}{xs:List (List eF×aj×ag)}(r:KT H kvs xs)(k:List eF):ql (kg kvs k) ((atKey xs k).map (·.2)):=by
 induction r with
 | nil=>exact qt
 | @cons p q ps qs h t ih =>
  obtain ⟨h1,_,h2⟩:=h
  by_cases e:p.1=k
  ·have e':q.1=k:=h1.symm.trans e
   have b:atKey (q::qs) k=some q.2:=by simp[atKey,cJ,e']
   rw[iD e,b];exact h2
  ·have e':¬ q.1=k:=fun z=>e (h1.trans z)
   have b:atKey (q::qs) k=atKey qs k:=by simp[atKey,cJ,e']
   rw[iE e,b];exact ih
theorem KT.SS {H:Hp}{kvs:List (List eF×V)}{xs:List (List eF×aj×ag)}(r:KT H kvs xs)(k:List eF){y:V}{u:ag}(ry:RelV y u) :
  KT H (kvs.map fun kv=>if kv.1=k then (kv.1,y) else kv) (xs.map (putAt k u)):=by
 induction r with
 | nil=>exact .nil
 | @cons p q ps qs h t ih =>
  rw[bq,bq]
  refine .cons ?_ ih
  obtain ⟨h1,h2,h3⟩:=h
  unfold putAt
  by_cases e:p.1=k
  ·rw[if_pos e,if_pos (h1.symm.trans e)];exact ⟨h1,h2,ry⟩
  ·rw[if_neg e,if_neg (fun z=>e (h1.trans z))];exact ⟨h1,h2,h3⟩
theorem KT.put {H:Hp}{kvs:List (List eF×V)}{xs:List (List eF×aj×ag)}(r:KT H kvs xs)(k:List eF){b:aj}{y:V}{u:ag}(hb:lD H b k)(ry:RelV y u) :
  KT H (putK kvs k y) (storedH xs k b u):=by
 have e:(kvs.any fun kv=>decide (kv.1=k))=(atKey xs k).isSome:=by
  rw[uM,(r.val k).KG,Option.isSome_map]
 unfold putK storedH
 rw[e]
 by_cases q:(atKey xs k).isSome=true
 ·rw[if_pos q,if_pos q];exact r.SS k ry
 ·rw[if_neg q,if_neg q];exact Paired.snoc r ⟨rfl,hb,ry⟩
theorem KT.keeps {H H':Hp}{kvs:List (List eF×V)}{xs:List (List eF×aj×ag)}(r:KT H kvs xs)(ht:∀ b ys,H b=some (.tup ys)→H' b=some (.tup ys)):KT H' kvs xs :=
 Paired.SU r fun _ _ z=>⟨z.1,lD.keeps ht z.2.1,z.2.2⟩
section
variable {P:aV}{w:bK}{H:Hp}{h:bW}{a:aj}
theorem Sf {u:HO}(ok:qh P w H h)(e:Rd H a u):fQ P w H h a u:=e.ok ok
theorem Aj {kvs:List (Key×V)}(ok:qh P w H h)(e:Rd H a (.dK kvs)):kvs.length≤aP∧(a==eZ)=false∧∃ vs,KV kvs vs∧h.DictOf (dZ P w) a vs :=
 show fQ P w H h a (.dK kvs) from Sf ok e
theorem VX {kvs:List (Key×V)}(ok:qh P w H h)(e:H a=some (.dK kvs)):kvs.length≤aP∧(a==eZ)=false∧∃ vs,KV kvs vs∧h.DictOf (dZ P w) a vs:=Aj ok (.inl e)
theorem Og {ks:List Key}(ok:qh P w H h)(e:H a=some (.tup (ks.map kV))):Gd (dZ P w) h ks a:=by
 obtain ⟨_,its,r,o,h1,h2,n,h3⟩:=(show fQ P w H h a (.tup (ks.map kV)) from ok a _ e)
 exact ⟨o,its.toArray,n,h1,h2,h3,by simpa using AY r⟩
theorem yO (ok:qh P w H h):∀ {ks:List eF} {vs:List V} {us:List ag},Paired (R4 H) ks vs→di vs us→Paired (lF P w h) ks us
 | _,_,_,.nil,.nil=>.nil
 | .inl k::_,_,_,.cons a t,.cons r u=>.cons (show jV k _=true from Ai (P:=P) (w:=w) ((show _=kV k from a)▸r)) (yO ok t u)
 | .inr l::_,_,_,.cons a t,.cons r u=>.cons (show ∃ b,_=ag.ref b∧Gd (dZ P w) h l b from by
   obtain ⟨b,e,q⟩:=a
   subst e
   exact ⟨b,r,Og ok q⟩) (yO ok t u)
theorem BR {ks:List eF}(ok:qh P w H h)(e:lD H a ks):(mB P w).is h ks a:=by
 obtain ⟨vs,e,q⟩:=e
 obtain ⟨_,its,r,o,h1,h2,n,h3⟩:=(show fQ P w H h a (.tup vs) from ok a _ e)
 exact ⟨its.toArray,⟨o,h1,h2,n,h3⟩,by simpa using yO ok q r⟩
theorem Dn {kvs:List (List eF×V)}(ok:qh P w H h)(e:Rd H a (.dT kvs)):kvs.length≤aP∧(a==eZ)=false ∧
  ∃ xs,KT H kvs xs∧h.DictOfH (mB P w) a xs:=by
 obtain ⟨z,y,xs,r,o,es,ep,h1,h2,h3,h4,h5⟩:=(show fQ P w H h a (.dT kvs) from Sf ok e)
 refine ⟨z,y,xs,r,o,es,ep,h1,h2,h3,h4,fun x hx=>?_,h5⟩
 have all:∀ {l:List (List eF×V)} {m:List (List eF×aj×ag)},KT H l m→∀ x∈m,(mB P w).is h x.1 x.2.1:=by
  intro l m q
  induction q with
  | nil=>intro x hx;exact nomatch hx
  | @cons p q ps qs hq t ih =>
   intro x hx
   rcases aI.mp hx with e | hx
   ·subst e
    exact BR ok (by rw[← hq.1];exact hq.2.1)
   ·exact ih x hx
 exact all r x hx
theorem VW {kvs:List (List eF×V)}(ok:qh P w H h)(e:H a=some (.dT kvs)):kvs.length≤aP∧(a==eZ)=false ∧
  ∃ xs,KT H kvs xs∧h.DictOfH (mB P w) a xs:=Dn ok (.inl e)
end
def ux (H:Hp)(a:aj)(y:V)(r:Option V):Prop :=
 (∃ kvs k,Rd H a (.dK kvs)∧y=kV k∧r=kg kvs k)∨∃ kvs k b,Rd H a (.dT kvs)∧y=.ref b∧lD H b k∧r=kg kvs k
def zY (H:Hp)(a:aj)(y v:V)(H':Hp):Prop :=
 (∃ kvs k,H a=some (.dK kvs)∧y=kV k∧kvs.length<aP∧H'=upd H a (.dK (putK kvs k v))) ∨
 ∃ kvs k b,H a=some (.dT kvs)∧y=.ref b∧lD H b k∧kvs.length<aP∧H'=upd H a (.dT (putK kvs k v))
theorem ux.t {H:Hp}{a b:aj}{kvs:List (List eF×V)}{k:List eF}(e:H a=some (.dT kvs))(eb:lD H b k):ux H a (.ref b) (kg kvs k):=.inr ⟨kvs,k,b,.inl e,rfl,eb,rfl⟩
theorem zY.k {H:Hp}{a:aj}{kvs:List (Key×V)}{k:Key}{v:V}(e:H a=some (.dK kvs))(hl:kvs.length<aP):zY H a (kV k) v (upd H a (.dK (putK kvs k v))):=.inl ⟨kvs,k,e,rfl,hl,rfl⟩
theorem zY.t {H:Hp}{a b:aj}{kvs:List (List eF×V)}{k:List eF}{v:V}(e:H a=some (.dT kvs))(eb:lD H b k)(hl:kvs.length<aP) :
  zY H a (.ref b) v (upd H a (.dT (putK kvs k v))):=.inr ⟨kvs,k,b,e,rfl,eb,hl,rfl⟩
section
variable {X:Cx}{pins:List (aj×fD)}{σ:St}{H:Hp}{s:au}{a:aj}{y v:V}{u r:ag}{o:Option V}{A:cC}{E:ag→au→Prop}
theorem Inv.Wo (I:Inv X pins σ H s):eZ<s.heap.objs.size:=by
 have h:c7<s.heap.objs.size:=(I.mod.glob.keeps I.bk).lt
 exact kQ (by decide) h
theorem KY {Q:ag→au→Prop}(hu:A.units+8<cLine)(I:Inv X pins σ H s)(g:ux H a y (some v))(ry:RelV y u)(h:∀ w' s',Inv X pins σ H s'→RelV v w'→Q w' s') :
  wpAny (model X.prog X.w) A (getItem (.ref a) u) Q E s:=by
 rcases g with ⟨kvs,k,e,ey,l⟩ | ⟨kvs,k,b,e,ey,eb,l⟩
 ·subst ey
  obtain ⟨z,hd,vs,rel,dd⟩:=Aj I.fu e
  obtain ⟨w',hw,rw'⟩:=ql.some_of (v:=v) (o:=valueAt vs k) (by rw[l];exact rel.val k)
  exact wpAny_getItem_of (Ai ry) dd.mapOf hw (h w' _ (I.tok _) rw')
 ·subst ey
  cases (show u=ag.ref b from ry)
  obtain ⟨z,hd,xs,rel,dd⟩:=Dn I.fu e
  obtain ⟨w',hw,rw'⟩:=ql.some_of (v:=v) (o:=(atKey xs k).map (·.2)) (by rw[l];exact rel.val k)
  obtain ⟨p,hp,hp2⟩:=dB.mp hw
  refine wpAny_getItem_heap (vR hu) (BR I.fu eb) dd hp ?_
  rw[hp2]
  exact h w' _ (I.tok _) rw'
theorem Jd {h':bW}{t':Nat}{ob:HO}(I:Inv X pins σ H s)(mu:PC (H a))(hs:eE a s.heap h')(he:∃ q,h'.get? a=some q)(new:fQ X.prog X.w (upd H a ob) h' a ob) :
  Inv X pins σ (upd H a ob) {s with heap:=h',toks:=t'} :=
 I.write (x:=a) (e:=a) mu (.inl rfl) (fun b q hb z=>(hs.2 b hb).trans z) he new
theorem Ue {P:aV}{w:bK}{H':Hp}{h':bW}{kvs:List (Key×V)}{vs:List (Key×ag)}(z:kvs.length≤aP)(hd:(a==eZ)=false)(rel:KV kvs vs)(dd:h'.DictOf (dZ P w) a vs) :
  fQ P w H' h' a (.dK kvs):=⟨z,hd,vs,rel,dd⟩
theorem KW {H':Hp}{Q:Unit→au→Prop}(hu:A.units+8<cLine)(I:Inv X pins σ H s)(g:zY H a y v H')(ry:RelV y u)(rv:RelV v r)(h:∀ s',Inv X pins σ H' s'→Q () s') :
  wpAny (model X.prog X.w) A (setItem (.ref a) u r) Q E s:=by
 rcases g with ⟨kvs,k,e,ey,l,eH⟩ | ⟨kvs,k,b,e,ey,eb,l,eH⟩
 ·subst ey eH
  obtain ⟨z,hd,vs,rel,dd⟩:=VX I.fu e
  have hz:vs.length≤aP:=by rw[← rel.length];exact z
  have hl:(putK kvs k v).length≤aP:=by have:=nB kvs k v;omega
  refine wpAny_setItem_pairs (hsz:=hz) (Ai ry) dd fun h' dd' hs=>h _ ?_
  have he:∃ q,h'.get? a=some q:=let ⟨q,_,_,hq,_⟩:=dd';⟨q,hq⟩
  exact Jd I (by rw[e];exact qt) hs he (Ue hl hd (rel.put k rv) dd')
 ·subst ey eH
  cases (show u=ag.ref b from ry)
  obtain ⟨z,hd,xs,rel,dd⟩:=VW I.fu e
  have hz:xs.length≤aP:=by rw[← Paired.length rel];exact z
  have hl:(putK kvs k v).length≤aP:=by have:=nB kvs k v;omega
  refine wpAny_setItem_heap (hsz:=hz) (vR hu) (BR I.fu eb) dd fun h' dd' hs=>h _ ?_
  obtain ⟨q,es,ep,hq,h2,h3,h4,_,h5⟩:=dd'
  refine Jd I (by rw[e];exact qt) hs ⟨q,hq⟩ ⟨hl,hd,_,(rel.put k eb rv).keeps fun c ys ec=>?_,q,es,ep,hq,h2,h3,h4,h5⟩
  rw[aW (ir ec e (fun z=>nomatch z))]
  exact ec
end
section
variable {X:Cx}{pins:List (aj×fD)}{σ:St}{H:Hp}{s:au}{a:aj}{kvs:List (Key×V)}{k:Key}{u:ag}{A:cC}{E:ag→au→Prop}
end
def Vn (i:Expr):Prop:=∀ ov iv,subscripted i false ov iv=operate [ov,iv] (getItem ov iv)
theorem P7 {prog:aV}{w:bK}{A:cC}{E:ag→au→Prop}{s:au}{env:Dc}{value slice:Expr}{pos:jR}{T id:String}{Q:ag→au→Prop}
  (hl:typeLookup (.type T) "__getitem__"=pure (some (.builtin id)))(hs:Vn slice)
  (h:wpAny (model prog w) A (eval value env) (fun o s₁=>wpAny (model prog w) A (eval slice env) (fun i s₂=>s₂.TypeIs o T∧wpAny (model prog w) A (getItem o i) Q E s₂) E s₁) E s) :
  wpAny (model prog w) A (eval (.Subscript value slice pos) env) Q E s:=by
 refine Subscript_ (hW h (fun o s₁ h₁=>hW h₁ (fun i s₂ h₂=>?_) fun _ _ x=>x) fun _ _ x=>x)
 obtain ⟨hT,h₂⟩:=h₂
 unfold subscriptTail
 refine aa ?_
 rw[getitemInPython_of_ne hT.not_modules]
 refine aa (Et hT hl ?_)
 have fin:wpAny (model prog w) A (subscripted slice false o i) (fun r s₃=>wpAny (model prog w) A (letTemporaryGo value o r >>= fun _=>pure r) Q E s₃) E s₂:=by
  rw[hs o i]
  exact wpAny_operating (hW h₂ (fun r s₃ h₃=>aa (wpAny_letTemporaryGo (ak h₃))) fun _ _ x=>x)
 first
  | exact ak (aa fin)
  | exact aa (ak (aa fin))
  | exact aa fin
theorem ER {X:Cx}{pins:List (aj×fD)}{σ:St}{H:Hp}{s:au}{a:aj}{y:V}{o:Option V}(I:Inv X pins σ H s)(g:ux H a y o):s.TypeIs (.ref a) "dict":=by
 rcases g with ⟨kvs,k,e,_,_⟩ | ⟨kvs,k,b,e,_,_,_⟩
 ·obtain ⟨_,_,vs,_,dd⟩:=Aj I.fu e
  exact dd.typeIs
 ·obtain ⟨_,_,xs,_,dd⟩:=Dn I.fu e
  exact dd.typeIs
def VA (td ty:TE):TE:=fun σ H Q=>td σ H fun x H1=>ty σ H1 fun y H2=>∃ a v,x=.ref a∧ux H2 a y (some v)∧Q v H2
def VE (td ty tv:TE):TS:=fun D σ H=>tv σ H fun v H1=>td σ H1 fun x H2=>ty σ H2 fun y H3=>∃ a H4,x=.ref a∧zY H3 a y v H4∧D.nx σ H4
section
variable {X:Cx}{o i e value:Expr}{pos pos' md:jR}{td ty tv:TE}
theorem xX (hu:X.A.units+8<cLine)(ho:PE X o td)(hi:PE X i ty)(hs:Vn i):PE X (.Subscript o i pos) (VA td ty):=by
 intro pins s σ H Q I h
 refine P7 PySem.F.slot_dict_getitem.lookup hs (gN (ho pins s σ H _ I h) fun u s1 ⟨x,H1,I1,rx,q1⟩=>gN (hi pins s1 σ H1 _ I1 q1) fun iv s2 ⟨y,H2,I2,ry,a,v,ex,g,q2⟩=>?_)
 subst ex
 obtain rfl:u=ag.ref a:=rx
 exact ⟨ER I2 g,KY hu I2 g ry fun w' s3 I3 rw'=>⟨v,H2,I3,rw',q2⟩⟩
theorem xV (hu:X.A.units+8<cLine)(ho:PE X o td)(hi:PE X i ty)(hv:PE X value tv)(hs:swapsWith value (some (.Subscript o i pos')) pos.line X.env=pure false) :
  PS X (.Assign [.Subscript o i pos'] value pos) (VE td ty tv):=by
 intro pins s σ H D I h
 refine wpAny_Assign_Subscript (gN (hv pins s σ H _ I h) fun r s1 ⟨v,H1,I1,rv,q1⟩=>gN (ho pins s1 σ H1 _ I1 q1) fun u s2 ⟨x,H2,I2,rx,q2⟩=>gN (hi pins s2 σ H2 _ I2 q2) fun iv s3 ⟨y,H3,I3,ry,a,H4,ex,g,q3⟩=>?_) hs
 subst ex
 obtain rfl:u=ag.ref a:=rx
 exact KW hu I3 g ry rv fun s4 I4=>⟨σ,H4,I4,q3⟩
end
theorem Ox {P:aV}{w:bK}{H:Hp}(h:bW)(hb:eZ<h.objs.size):fQ P w H (h.push {cls:=.type "dict",data:=.dict #[]}) h.objs.size (.dK []) :=
 ⟨aS _,beq_eq_false_iff_ne.mpr (g4 (bg hb)),[],.nil,Fn h⟩
theorem Ow {P:aV}{w:bK}{H:Hp}(h:bW)(hb:eZ<h.objs.size):fQ P w H (h.push {cls:=.type "dict",data:=.dict #[]}) h.objs.size (.dT []) :=
 ⟨aS _,beq_eq_false_iff_ne.mpr (g4 (bg hb)),[],.nil,_,#[],0,aG _ rfl,⟨rfl,rfl,rfl⟩,rfl,rfl,List.nodup_nil⟩
def Tj:TE:=fun _ H Q=>∀ p,H p=none→Q (.ref p) (upd H p (.dK []))
def Ti:TE:=fun _ H Q=>∀ p,H p=none→Q (.ref p) (upd H p (.dT []))
section
variable {X:Cx}{pos:jR}
theorem DX:PE X (.Dict [] [] pos) Tj:=fun pins s σ H Q I h =>
 wpAny_Dict_empty ⟨.ref s.heap.objs.size,_,I.laid (a:=s.heap.objs.size) (o:=.dK []) (t':=s.toks) (fun _ _ q=>ay _ q) (aL _) (Ox s.heap I.Wo),rfl,h _ (I.fu.fresh (aL _))⟩
theorem yN:PE X (.Dict [] [] pos) Ti:=fun pins s σ H Q I h =>
 wpAny_Dict_empty ⟨.ref s.heap.objs.size,_,I.laid (a:=s.heap.objs.size) (o:=.dT []) (t':=s.toks) (fun _ _ q=>ay _ q) (aL _) (Ow s.heap I.Wo),rfl,h _ (I.fu.fresh (aL _))⟩
end
def mn (kvs more:List (Key×V)):List (Key×V):=more.foldl (fun acc kv=>putK acc kv.1 kv.2) kvs
theorem KV.merge:∀ {more:List (Key×V)} {rs:List (Key×ag)} {kvs:List (Key×V)} {vs:List (Key×ag)},KV more rs→KV kvs vs→KV (mn kvs more) (merged vs rs):=by
 intro more rs kvs vs r
 unfold KV at r
 induction r generalizing kvs vs with
 | nil=>intro q;exact q
 | @cons p q ps qs h t ih =>
  intro r0
  have e:KV (putK kvs p.1 p.2) (stored vs q.1 q.2):=by
   have:=r0.put p.1 h.2
   rw[← h.1];exact this
  exact ih e
theorem tD:∀ (more kvs:List (Key×V)),(mn kvs more).length≤kvs.length+more.length
 | [],kvs=>by show kvs.length≤kvs.length+0;omega
 | p::r,kvs=>by
  have h1:=tD r (putK kvs p.1 p.2)
  have h2:=nB kvs p.1 p.2
  show (mn (putK kvs p.1 p.2) r).length≤_
  rw[aU];omega
structure M2 (X:Cx)(o:Expr)(m:bZ)(apos:jR)(e f:Expr)(jL:jR):Prop where
 base:ja o m X.env (eval o X.env)=eval o X.env
 Xr:((backTo jL (bS [e,f] X.env)).all (fun x=>!x.1)&&(backToKw jL (keywordEach [] X.env)).all (fun x=>x.1.isSome)
  && decide (([e,f]:List Expr).length+([]:List LX).length+(if ([]:List LX).isEmpty then 0 else 1)<30))=true
 line:(apos.endLine==jL.line)=true
 trees:backTo jL (bS [e,f] X.env)=[(false,eval e X.env),(false,eval f X.env)]
def W5 (H:Hp)(a:aj):Prop:=(∃ kvs,Rd H a (.dK kvs))∨∃ kvs,Rd H a (.dT kvs)
theorem T7 {X:Cx}{pins:List (aj×fD)}{σ:St}{H:Hp}{s:au}{a:aj}(I:Inv X pins σ H s)(d:W5 H a) :
  s.TypeIs (.ref a) "dict"∧(∀ b,ag.ref a=.ref b→∃ ob,s.heap.get? b=some ob∧ob.dict=none)∧(a==eZ)=false:=by
 rcases d with ⟨kvs,e⟩ | ⟨kvs,e⟩
 ·obtain ⟨_,hd,vs,_,dd⟩:=Aj I.fu e
  refine ⟨dd.typeIs,fun b q=>?_,hd⟩
  cases q
  obtain ⟨ob,_,_,h1,h2,_⟩:=dd
  exact ⟨ob,h1,h2.2.1⟩
 ·obtain ⟨_,hd,xs,_,dd⟩:=Dn I.fu e
  refine ⟨dd.typeIs,fun b q=>?_,hd⟩
  cases q
  obtain ⟨ob,_,_,h1,h2,_⟩:=dd
  exact ⟨ob,h1,h2.2.1⟩
section
variable {X:Cx}{pins:List (aj×fD)}{σ:St}{H:Hp}{s:au}{a:aj}{y d:V}{u r:ag}{o:Option V}{A:cC}{E:ag→au→Prop}
theorem Ug {Q:ag→au→Prop}(hu:A.units+8<cLine)(I:Inv X pins σ H s)(g:ux H a y o)(ry:RelV y u)(rd:RelV d r)(h:∀ w' s',Inv X pins σ H s'→RelV (o.getD d) w'→Q w' s') :
  wpAny (model X.prog X.w) A (call (.builtin "dict.get") [.ref a,u,r]) Q E s:=by
 rcases g with ⟨kvs,k,e,ey,l⟩ | ⟨kvs,k,b,e,ey,eb,l⟩
 ·subst ey
  obtain ⟨z,hd,vs,rel,dd⟩:=Aj I.fu e
  refine call_meetsIn qm dd.typeIs CQ (Bh _ _ _) (meets_dict_get_default (dZ X.prog X.w) a (Ai ry) hd r) ⟨_,dd.mapOf,h _ _ (I.tok _) ?_⟩
  rw[l]
  exact (rel.val k).getD rd
 ·subst ey
  cases (show u=ag.ref b from ry)
  obtain ⟨z,hd,xs,rel,dd⟩:=Dn I.fu e
  refine call_meetsIn qm dd.typeIs CQ (Bh _ _ _) (meetsH_dict_get_default (mB X.prog X.w) a b hd r) ⟨vR hu,k,xs,BR I.fu eb,dd,h _ _ (I.tok _) ?_⟩
  rw[l]
  exact (rel.val k).getD rd
end
def Tn (td ty tx:TE):TE:=fun σ H Q=>td σ H fun x H1=>∃ a,x=.ref a∧W5 H1 a∧ty σ H1 fun y H2=>tx σ H2 fun z H3=>∃ o,ux H3 a y o∧Q (o.getD z) H3
section
variable {X:Cx}{o e f:Expr}{apos jL:jR}{td ty tx:TE}
theorem DY (hu:X.A.units+8<cLine)(ho:PE X o td)(he:PE X e ty)(hf:PE X f tx)(m:M2 X o "get" apos e f jL):PE X (.Call (.Attribute o "get" apos) [e,f] [] jL) (Tn td ty tx):=by
 intro pins s σ H Q I h
 refine qz m.base m.Xr m.line PySem.F.plainAttrs_dict qm PySem.F.type_dict_get (gN (ho pins s σ H _ I h) fun u s1 ⟨x,H1,I1,rx,a,ex,d,q1⟩=>?_)
 subst ex
 obtain rfl:u=ag.ref a:=rx
 obtain ⟨t1,t2,_⟩:=T7 I1 d
 refine ⟨t1,t2,?_⟩
 rw[m.trees]
 refine Fb rfl (Hk (iH (gN (he pins s1 σ H1 _ I1 q1) fun iv s2 ⟨y,H2,I2,ry,q2⟩ =>
  iH (gN (hf pins s2 σ H2 _ I2 q2) fun fv s3 ⟨z,H3,I3,rz,ov,g,q3⟩=>ki ?_))))
 exact Ug hu I3 g ry rz fun w' s4 I4 rw'=>⟨_,H3,I4,rw',q3⟩
end
section
variable {X:Cx}{pins:List (aj×fD)}{σ:St}{H:Hp}{s:au}{a:aj}{kvs:List (Key×V)}{A:cC}{E:ag→au→Prop}
end
section
variable {X:Cx}{pins:List (aj×fD)}{σ:St}{H:Hp}{s:au}{a:aj}{y:V}{u:ag}{A:cC}{E:ag→au→Prop}
end
theorem zL:typeLookup (.type "list") "keys"=pure none:=am_miss_of_fast (by first | decide +kernel | rfl)
theorem DA:entryFor table "dict.update.loop"=some Builtin.«dict.update.loop»:=entryFor_of_tree (by kernel_rfl)
theorem qW:plainId "dict.update.loop"=true:=by decide +kernel
section
variable {prog:aV}{w:bK}{A:cC}{E:ag→au→Prop}
theorem Kv {s:au}{a:aj}{o:fD}{xs:Array ag}{k:Nat}{Q:Option ag→au→Prop}(hx:s.heap.get? a=some o)(hc:o.cls=.type "list")(hdat:o.data=.seq xs k)(hd:o.dict=none)(hA:A.handled=none)
  (h:∀ h' tk,(∀ b ob,s.heap.get? b=some ob→h'.get? b=some ob)→Q none {s with heap:=h',toks:=tk}):wpAny (model prog w) A (getAttr? (.ref a) "keys") Q E s:=by
 obtain ⟨c,dct,dat,sl⟩:=o
 simp only at hc hdat hd
 subst hc hdat hd
 obtain ⟨hp,g,d,tk,os⟩:=s
 have hT:∀ tk',(⟨hp,g,d,tk',os⟩:au).TypeIs (.ref a) "list":=fun _=>⟨_,hx,rfl⟩
 have hmiss:=zL
 have hname:(["__module__","__name__","__qualname__","__doc__","__annotations__"]:List bZ).contains "keys"=false:=by decide +kernel
 have hsz:("keys":bZ).length+100≤aP:=by first | size_fits | decide +kernel
 have f1:=sub_AttributeError
 have f3:=kU.lookup
 have f4:=kU.bind (.ref a)
 have f5:=am_list_getattr_none
 unfold getAttr? getAttrBy? getAttrBy
 repeat (any_goals (first | assumption | exact hT _ | ((with_reducible show wpAny _ _ (call (ag.builtin "list.__getattribute__") _ _) _ _ _);refine Gb kU (hT _) am_entry_list_getattribute (PySem.F.args_list_getattribute_2 _ _) (meets_getattribute_miss_list a xs k sl "keys" _ hmiss hname hsz) ⟨hx,hA,fun h' tk' e hx'=>?_⟩) | wp_step))
 obtain ⟨t',u',he⟩:=hx'.there
 show wpAny _ _ (getattributeRaised _ _ _ _ _ _ _) _ _ _
 unfold getattributeRaised
 repeat (any_goals (first | assumption | wp_step))
 all_goals first | exact h _ _ hx'.keeps | (dsimp only;repeat (any_goals (first | assumption | exact h _ _ hx'.keeps | wp_step)))
theorem Dz {R:qS→au→Prop}{S I l:aj}{items:Array ag}{res:ag}(hh:A.handled=none)(hlI:l≠I)(hSI:S≠I)(hSl:S≠l) :
  ∀ (rest:List (Key×ag)) (i:Nat) (acc:List (Key×ag)) (ix:Int) (t:Tok) (s:au),items.size=i+rest.length→acc.length+rest.length≤aP →
   (∀ (j:Nat) (q:Key×ag),rest[j]?=some q→∃ (b:aj) (u:ag),items[i+j]?=some (.ref b)∧b≠S∧b≠I∧qr s.heap b #[u,q.2]∧jV q.1 u=true) →
   s.heap.IsListIter I l i→s.heap.IsList l items→s.heap.DictOf (dZ prog w) S acc →
   (∀ h' tk,h'.DictOf (dZ prog w) S (merged acc rest)→(∀ b o,b≠S→b≠I→s.heap.get? b=some o→h'.get? b=some o)→R (.ok (.ret res)) {s with heap:=h',toks:=tk}) →
   codeAny (model prog w) A (.builtin "dict.update.loop" ⟨[.ref S,.ref I,.int ix t,res],[]⟩) R s
 | [],i,acc,ix,t,s,hsz,hln,ht,hit,hl,hm,hR=>by
  refine eC DA ?_
  rw[dk qW _]
  show wpAny _ A.in1 (pyNext (.ref I) >>= _) _ _ s
  refine aa (gi (A:=A.in1) hh hit hl (by first | exact iI (mS hsz) | (simp at hsz;simp;omega)) fun h' he=>?_)
  show wpAny _ A.in1 (Builtin.Dict.addKeywords S [] >>= _) _ _ _
  refine aa (ak (ak ?_))
  exact hR h' s.toks (hm.extBut he hSI) fun b o _ hb e=>he b o hb e
 | q::rest,i,acc,ix,t,s,hsz,hln,ht,hit,hl,hm,hR=>by
  obtain ⟨b,u,hb,hbS,hbI,htup,hk⟩:=ht 0 q rfl
  rw[aU] at hsz hln
  refine eC DA ?_
  rw[dk qW _]
  show wpAny _ A.in1 (pyNext (.ref I) >>= _) _ _ s
  refine aa (fP (x:=.ref b) hit hl (by simpa using hb) fun h1 hit1 hs1=>?_)
  have ht1:qr h1 b #[u,q.2]:=htup.extBut hs1.extBut hbI
  have hl1:h1.IsList l items:=hl.extBut hs1.extBut hlI
  have hm1:h1.DictOf (dZ prog w) S acc:=hm.extBut hs1.extBut hSI
  obtain ⟨o,ho,hc,n,hd⟩:=id ht1
  show wpAny _ A.in1 (holding [ag.ref b] _ >>= _) _ _ _
  refine aa (dn ?_)
  refine aa (fN ?_)
  unfold Builtin.Dict.pairItems
  refine aa (oV (T:="tuple") ⟨o,ho,hc⟩ ?_)
  rw[if_pos (by first | decide | rfl | simp)]
  refine aa (dc ho hd (ak ?_))
  show wpAny _ A.in1 (holding [u,q.2] (dictSet S u q.2)) _ _ _
  refine dn (wpAny_dictSet_pairs (knd:=dZ prog w) (k:=q.1) hk hm1 (fun h2 hm2 hs2=>?_) (by omega))
  refine ak ⟨dA qW _,Dz (items:=items) hh hlI hSI hSl rest (i+1) (stored acc q.1 q.2) (ix+1) 0 _ (show items.size=i+1+rest.length by omega) ?_ (fun j q' e=>?_) ?_ ?_ hm2 fun h' tk hd' k=>?_⟩
  ·have z:=stored_length_le acc q.1 q.2
   omega
  ·obtain ⟨b',u',hb',hbS',hbI',htup',hk'⟩:=ht (j+1) q' (by simpa using e)
   refine ⟨b',u',?_,hbS',hbI',(htup'.extBut hs1.extBut hbI').extBut hs2.extBut hbS',hk'⟩
   rw[show i+1+j=i+(j+1) by omega]
   exact hb'
  ·exact hit1.at fun o' e=>hs2.extBut I o' (g4 hSI) e
  ·exact hl1.extBut hs2.extBut (g4 hSl)
  ·exact hR h' tk hd' fun c oc h3 h4 e=>k c oc h3 h4 (hs2.extBut c oc h3 (hs1.extBut c oc h4 e))
theorem xr {s:au}{l:aj}{ol:fD}{items:Array ag}{n:Nat}{prs:List (Key×ag)}{Q:ag→au→Prop}(hh:A.handled=none)(hl:s.heap.get? l=some ol)(hc:ol.cls=.type "list")(hd:ol.dict=none)
  (hdat:ol.data=.seq items n)(hsz:items.size=prs.length)(hln:prs.length≤aP)
  (ht:∀ (j:Nat) (q:Key×ag),prs[j]?=some q→∃ (b:aj) (u:ag),items[j]?=some (.ref b)∧qr s.heap b #[u,q.2]∧jV q.1 u=true)
  (h:∀ h' tk,h'.DictOf (dZ prog w) s.heap.objs.size (merged [] prs)→(∀ b o,s.heap.get? b=some o→h'.get? b=some o)→Q (.ref s.heap.objs.size) {s with heap:=h',toks:=tk}) :
  wpAny (model prog w) A (call (.type "dict") [.ref l]) Q E s:=by
 refine callType_codes (Q₁:=fun obj s₁=>obj=.ref s.heap.objs.size∧s₁={s with heap:=s.heap.push {cls:=.type "dict",data:=.dict #[]}}) PySem.F.kt_called_dict (PySem.F.kt_typeCall_dict_1 _) PySem.F.entry_dict_init (kt_code_dict_new _ ⟨rfl,rfl⟩) ?_
 rintro obj s₁ ⟨rfl,rfl⟩
 have hnew:(s.heap.push {cls:=.type "dict",data:=.dict #[]}).DictOf (dZ prog w) s.heap.objs.size []:=Fn s.heap
 have k0:∀ b o,s.heap.get? b=some o→(s.heap.push {cls:=.type "dict",data:=.dict #[]}).get? b=some o:=fun b o e=>ay _ e
 refine ⟨hnew.typeIs,PySem.F.args_dict_init_2 _ _,?_⟩
 unfold Builtin.«dict.__init__»
 refine aa ?_
 unfold Builtin.Dict.selfAndRest
 refine aa (vi hnew.typeIs ?_)
 show wpAny _ _ (pure (s.heap.objs.size,[ag.ref l])) _ _ _
 refine ak ?_
 show wpAny _ _ (xy "dict.__init__" s.heap.objs.size (.ref l) [] .none) _ _ _
 unfold xy
 refine aa (oV (T:="list") ⟨ol,k0 _ _ hl,hc⟩ ?_)
 rw[if_pos (by first | decide | rfl | simp)]
 refine aa (Kv (k0 _ _ hl) hc hdat hd hh fun h1 tk1 hk1=>?_)
 rw[if_pos (show (none:Option ag).isNone=true from rfl)]
 refine aa (jz ?_)
 have hl1:h1.IsList l items:=⟨ol,hk1 _ _ (k0 _ _ hl),hc,n,hdat⟩
 have hS1:s.heap.objs.size<h1.objs.size:=by
  have e:(s.heap.push {cls:=.type "dict",data:=.dict #[]}).get? s.heap.objs.size=some {cls:=.type "dict",data:=.dict #[]}:=aG _ rfl
  exact aN (hk1 _ _ e)
 refine aa (ip hl1 ?_)
 have k2:∀ b o,h1.get? b=some o→(h1.push {cls:=.type "list_iterator",data:=.fields #[.ref l,.int 0 0]}).get? b=some o:=fun b o e=>ay _ e
 have j7:l<s.heap.objs.size:=aN hl
 have key:=Dz (prog:=prog) (w:=w) (A:=A.in1) (R:=wants (fun r s₂=>r=.none∧Q (.ref s.heap.objs.size) s₂) E) (S:=s.heap.objs.size) (I:=h1.objs.size) (l:=l) (items:=items) (res:=ag.none) hh
  (bg (kQ j7 hS1)) (bg hS1) (gh j7) prs 0 [] 0 0
  {s with heap:=h1.push {cls:=.type "list_iterator",data:=.fields #[.ref l,.int 0 0]},toks:=tk1} (by rw[hsz,mR]) (by rw[eL,mR];exact hln)
  (fun j q e=>by
   obtain ⟨b,u,e1,e2,e3⟩:=ht j q e
   have hb:b<s.heap.objs.size:=e2.lt
   exact ⟨b,u,by rw[mR];exact e1,bg hb,bg (kQ hb hS1),e2.keeps fun c o z=>k2 _ _ (hk1 _ _ (k0 _ _ z)),e3⟩)
  ⟨_,aG _ rfl,rfl,rfl⟩ (hl1.at fun o e=>k2 _ _ e) ((hnew.at fun o e=>hk1 _ _ e).at fun o e=>k2 _ _ e)
  (fun h' tk hd' k=>⟨rfl,h h' tk hd' fun b o e=>k b o (bg (aN e)) (bg (kQ (aN e) hS1)) (k2 _ _ (hk1 _ _ (k0 _ _ e)))⟩)
 first
  | exact ak ⟨dA qW _,key⟩
  | exact aa (ak (ak ⟨dA qW _,key⟩))
end
section
variable {X:Cx}
theorem D0 {pins:List (aj×fD)}{σ:St}{H:Hp}{s:au}(I:Inv X pins σ H s):∀ {ps:List aj} {kvs:List (Key×V)},Paired (fun p kv=>fR X.K H p [kV kv.1,kv.2]) ps kvs →
  ∃ prs:List (Key×ag),KV kvs prs∧prs.length=ps.length∧∀ (j:Nat) (q:Key×ag),prs[j]?=some q→∃ (b:aj) (u:ag),ps[j]?=some b∧qr s.heap b #[u,q.2]∧jV q.1 u=true
 | _,_,.nil=>⟨[],.nil,rfl,fun j q e=>by simp at e⟩
 | _,_,.cons (a:=p) (b:=kv) h t=>by
  obtain ⟨prs,r,hl,hp⟩:=D0 I t
  obtain ⟨its,rv,ht,_⟩:=I.tuple h
  obtain ⟨u,y,ei,ru,ry⟩:=vals2 rv
  subst ei
  refine ⟨(kv.1,y)::prs,.cons ⟨rfl,ry⟩ r,by rw[aU,aU,hl],fun j q e=>?_⟩
  cases j with
  | zero =>
   have e':(kv.1,y)=q:=aH e
   subst e'
   exact ⟨p,u,rfl,ht,Ai (P:=X.prog) (w:=X.w) ru⟩
  | succ j =>
   obtain ⟨b,u',e1,e2,e3⟩:=hp j q (by simpa using e)
   exact ⟨b,u',by simpa using e1,e2,e3⟩
theorem jY:∀ {ps:List aj} {us:List ag},di (ps.map V.ref) us→us=ps.map ag.ref
 | [],us,r=>by
  rw[fH] at r
  cases r
  rfl
 | p::ps,us,r=>by
  rw[bq] at r
  cases r with
  | cons h t =>
   cases h
   rw[bq,← jY t]
theorem GX (hcalm:X.calm=true):lM X (.type "dict") (fun xs H Q=>∃ (a:aj) (ps:List aj) (kvs:List (Key×V)),xs=[.ref a]∧cI X.K H a (ps.map V.ref)∧Paired (fun p kv=>fR X.K H p [kV kv.1,kv.2]) ps kvs ∧
  ∀ p,H p=none→Q (.ref p) (upd H p (.dK (mn [] kvs)))):=by
 intro pins s σ H xs us Q I r q
 obtain ⟨a,ps,kvs,ex,hq,hp,q⟩:=q
 subst ex
 obtain ⟨u,eu,rx⟩:=vals1 r
 subst eu
 cases rx
 obtain ⟨its,rv,pl,hz⟩:=I.list hq
 have ei:=jY rv
 subst ei
 rw[ae] at hz
 obtain ⟨prs,rel,hl,hpr⟩:=D0 I hp
 obtain ⟨o,n,ho,hc,hd,hdat⟩:=pl
 refine xr (prs:=prs) (I.ok.hd hcalm) ho hc hd hdat (by simp[hl]) (by rw[hl];exact hz) (fun j q' e=>?_) fun h' tk hd' k=>?_
 ·obtain ⟨b,u,e1,e2,e3⟩:=hpr j q' e
  exact ⟨b,u,by simp[e1],e2,e3⟩
 ·have hm:(s.heap.objs.size==eZ)=false:=beq_eq_false_iff_ne.mpr (gh I.Wo)
  have hlen:(mn [] kvs).length≤aP:=by
   refine aB (tD kvs []) ?_
   rw[eL,mR,rel.length,hl]
   exact hz
  exact ⟨.ref s.heap.objs.size,upd H s.heap.objs.size (.dK (mn [] kvs)),I.laid (t':=tk) k (aL _) (show fQ X.prog X.w _ _ _ (.dK (mn [] kvs)) from ⟨hlen,hm,merged [] prs,KV.merge rel .nil,hd'⟩),rfl,q _ (I.fu.fresh (aL _))⟩
end
section
variable {X:Cx}{pins:List (aj×fD)}{σ:St}{H:Hp}{s:au}{h':bW}
theorem Inv.HY {t':Nat}{ch:List aj}(I:Inv X pins σ H s)(k:∀ b o,b∉ch→s.heap.get? b=some o→h'.get? b=some o)(hf:∀ b∈ch,xh X pins H b):Inv X pins σ H {s with heap:=h',toks:=t'}:=by
 have nit:∀ b u,H b=some u→b∉ch:=fun b u e z=>by
  have q:=(hf b z).1
  rw[q] at e;cases e
 refine I.step (g':=s.gens) (d':=s.drawn) (ch:=ch) (fun b hb=>⟨(hf b hb).2.2.2.1,(hf b hb).2.1,(hf b hb).2.2.2.2.1,(hf b hb).2.2.2.2.2⟩) (fun b o _ _ hc e _=>k b o hc e) (fun b o _ _ hc e _=>⟨o.slots,k b o hc e⟩)
  (fun _ _ _ _ n=>n) (fun b o hc e=>⟨o,k b o hc e⟩) (fun _ _ e=>e) (fun _ _ _ e=>e) (fun b ps e=>⟨#[],by rw[e];simp⟩) (fun m hm=>?_) (fun b u e=>?_) I.bare
 ·obtain ⟨o,es,ep,ho,r⟩:=hm
  exact ⟨o,es,ep,k _ o (fun z=>(hf _ z).2.1 rfl) ho,r⟩
 ·refine (I.fu b u e).zV (fun c v hc q=>k c v ?_ q) (fun _ q=>q) fun _ _ q=>q
  rcases hc with z | z
  ·rw[z];exact nit b u e
  ·exact nit c _ z
theorem Inv.oN {t':Nat}{ch:List aj}{T:aj}{ob:HO}(I:Inv X pins σ H s)(k:∀ b o,b∉ch→s.heap.get? b=some o→h'.get? b=some o)(hf:∀ b∈ch,xh X pins H b)(hT:s.heap.objs.size≤T)
  (new:fQ X.prog X.w (upd H T ob) h' T ob):Inv X pins σ (upd H T ob) {s with heap:=h',toks:=t'}:=by
 have hn:H T=none:=I.fu.fresh hT
 have nit:∀ b u,H b=some u→b∉ch:=fun b u e z=>by
  have q:=(hf b z).1
  rw[q] at e;cases e
 refine I.step (g':=s.gens) (d':=s.drawn) (ch:=ch) (fun b hb=>⟨(hf b hb).2.2.2.1,(hf b hb).2.1,(hf b hb).2.2.2.2.1,(hf b hb).2.2.2.2.2⟩) (fun b o _ _ hc e _=>k b o hc e) (fun b o _ _ hc e _=>⟨o.slots,k b o hc e⟩)
  (fun b o _ e n=>?_) (fun b o hc e=>⟨o,k b o hc e⟩) (fun b xs e=>?_) (fun b o u e=>?_) (fun b ps e=>⟨#[],?_⟩) (fun m hm=>?_) (fun b u e=>?_) I.bare
 ·rw[aW (bg (cB (aN e) hT))];exact n
 ·rw[aW (dj e hn)];exact e
 ·rw[aW (dj e hn)];exact e
 ·rw[aW (dj e hn),e];simp
 ·obtain ⟨o,es,ep,ho,r⟩:=hm
  exact ⟨o,es,ep,k _ o (fun z=>(hf _ z).2.1 rfl) ho,r⟩
 ·by_cases hb:b=T
  ·subst hb
   rw[aw] at e
   cases e
   exact new
  ·rw[aW hb] at e
   refine (I.fu b u e).zV (fun c v hc q=>k c v ?_ q) (fun c q=>by rw[aW (dj q hn)];exact q) fun c xs q=>by rw[aW (dj q hn)];exact q
   rcases hc with z | z
   ·rw[z];exact nit b u e
   ·exact nit c _ z
theorem Inv.lock {d:aj}{u:HO}(I:Inv X pins σ H s)(h:H d=some u)(mu:PC (some u)):∃ od,Inv X pins σ (upd H d (.lT od u)) s:=by
 have x:=I.fu d u h
 have ex:∃ od,s.heap.get? d=some od:=by
  cases u with
  | lst xs=>obtain ⟨_,_,_,_,e⟩:=x;exact ⟨_,e⟩
  | dK kvs=>obtain ⟨_,_,_,_,o,_,_,e,_⟩:=x;exact ⟨o,e⟩
  | dT kvs=>obtain ⟨_,_,_,_,o,_,_,e,_⟩:=x;exact ⟨o,e⟩
  | set S n=>obtain ⟨o,_,_,_,e,_⟩:=x;exact ⟨o,e⟩
  | ins C dx fs=>obtain ⟨_,_,_,e,_⟩:=x;exact ⟨_,e⟩
  | ext φ=>obtain ⟨_,⟨_,e⟩,_⟩:=x;exact ⟨_,e⟩
  | _=>exact ft mu
 obtain ⟨od,e⟩:=ex
 have new:fQ X.prog X.w (upd H d (.lT od u)) s.heap d (.lT od u):=by
  refine ⟨e,x.zV (fun b v _ q=>q) (fun b q=>?_) fun b xs q=>?_⟩
  ·rw[aW (fun z=>by rw[z,h] at q;cases q;exact mu)];exact q
  ·rw[aW (fun z=>by rw[z,h] at q;cases q;exact mu)];exact q
 exact ⟨od,I.write (x:=d) (e:=d) (t':=s.toks) (h':=s.heap) (by rw[h];exact mu) (.inl rfl) (fun b v _ q=>q) ⟨od,e⟩ new⟩
theorem Inv.Dm {d:aj}{u:HO}(I:Inv X pins σ H s)(h:H d=some u)(mu:PC (some u)):∀ o' u',X.H_0 d≠some (.lT o' u'):=fun o' u' e=>by
 have q:=I.base.yq d o' u' e
 rw[h] at q
 cases q
 exact mu
theorem Inv.unlock {d:aj}{od:fD}{u:HO}(I:Inv X pins σ H s)(h:H d=some (.lT od u))(hn:∀ o' u',X.H_0 d≠some (.lT o' u')):Inv X pins σ (upd H d u) s:=by
 have neH:∀ b o,H b=some o→(∀ o' u',o≠.lT o' u')→b≠d:=fun b o e hne z=>by
  rw[z,h] at e
  cases e
  exact hne _ _ rfl
 have neN:∀ b,H b=none→b≠d:=fun b e z=>by rw[z,h] at e;cases e
 refine ⟨I.ok,I.os,I.bare,⟨I.base.keep,I.base.slot,fun b o e n hx=>?_,I.base.there,fun b xs e=>?_,fun b o x e=>?_,fun b ps e=>?_⟩,I.loc,I.cell,?_,fun x c e=>?_,fun p hp=>?_,fun b o e=>?_,I.len⟩
 ·rw[aW (neN b (I.base.free b o e n hx))];exact I.base.free b o e n hx
 ·have q:=I.base.Bo b xs e
  rw[aW (neH b _ q (fun _ _ z=>nomatch z))];exact q
 ·have q:=I.base.yq b o x e
  rw[aW (fun z=>by rw[z] at e;exact hn _ _ e)];exact q
 ·obtain ⟨m,q⟩:=I.base.Bp b ps e
  exact ⟨m,by rw[aW (neH b _ q (fun _ _ z=>nomatch z))];exact q⟩
 ·rw[aW (neN _ I.free)];exact I.free
 ·rw[aW (neN c (I.mZ x c e))];exact I.mZ x c e
 ·obtain ⟨e,n,r⟩:=I.pin p hp
  exact ⟨e,by rw[aW (neN _ n)];exact n,r⟩
 ·by_cases hb:b=d
  ·rw[hb,aw] at e
   cases e
   rw[hb]
   obtain ⟨_,x⟩:=I.fu d _ h
   exact x.zV (fun c v _ q=>q) (fun c q=>by rw[aW (neH c _ q (fun _ _ z=>nomatch z))];exact q) fun c xs q=>by rw[aW (neH c _ q (fun _ _ z=>nomatch z))];exact q
  ·rw[aW hb] at e
   exact (I.fu b o e).zV (fun c v _ q=>q) (fun c q=>by rw[aW (neH c _ q (fun _ _ z=>nomatch z))];exact q) fun c xs q=>by rw[aW (neH c _ q (fun _ _ z=>nomatch z))];exact q
end
def Vy (t:TS):TS:=fun D σ H=>∃ d u,H d=some u∧PC (some u)∧∀ od,t ⟨fun σ' H'=>H' d=some (.lT od u)∧D.nx σ' (upd H' d u),fun v H'=>H' d=some (.lT od u)∧D.rt v (upd H' d u),fun σ' H'=>H' d=some (.lT od u)∧D.bk σ' (upd H' d u),fun σ' H'=>H' d=some (.lT od u)∧D.ct σ' (upd H' d u)⟩ σ (upd H d (.lT od u))
def Ta (t:TE):TE:=fun σ H Q=>∃ d u,H d=some u∧PC (some u)∧∀ od,t σ (upd H d (.lT od u)) fun v H'=>H' d=some (.lT od u)∧Q v (upd H' d u)
section
variable {X:Cx}
theorem Qk {st:d3}{t:TS}(h:PS X st t):PS X st (Vy t):=by
 intro pins s σ H D I hw
 obtain ⟨d,u,hd,mu,hw⟩:=hw
 obtain ⟨od,I1⟩:=I.lock hd mu
 refine gN (h pins s σ _ _ I1 (hw od)) fun f s1 q=>?_
 cases f with
 | next=>obtain ⟨σ',H',I2,e,q⟩:=q;exact ⟨σ',_,I2.unlock e (I.Dm hd mu),q⟩
 | brk=>obtain ⟨σ',H',I2,e,q⟩:=q;exact ⟨σ',_,I2.unlock e (I.Dm hd mu),q⟩
 | cont=>obtain ⟨σ',H',I2,e,q⟩:=q;exact ⟨σ',_,I2.unlock e (I.Dm hd mu),q⟩
 | ret v=>obtain ⟨x,σ',H',I2,r,e,q⟩:=q;exact ⟨x,σ',_,I2.unlock e (I.Dm hd mu),r,q⟩
theorem IF {e:Expr}{t:TE}(h:PE X e t):PE X e (Ta t):=by
 intro pins s σ H Q I hw
 obtain ⟨d,u,hd,mu,hw⟩:=hw
 obtain ⟨od,I1⟩:=I.lock hd mu
 refine gN (h pins s σ _ _ I1 (hw od)) fun v s1 ⟨x,H1,I2,r,e2,q⟩=>?_
 exact ⟨x,_,I2.unlock e2 (I.Dm hd mu),r,q⟩
theorem FU {tg:Expr}{pins:List (aj×fD)}{σ:St}{H:Hp}{s:au}{R:It→Hp→Prop}{J:It}{tn:Nat→bW→Prop}{tk:Nat}(I:Inv X pins σ H s)(o:fD)
  (T:Turn X.prog X.w X.K tg J [s.heap.objs.size] s.heap.objs.size tn)(st:tn 0 (s.heap.push o))(q:R J H):UZ X pins σ tg R (.ref s.heap.objs.size) {s with heap:=s.heap.push o,toks:=tk}:=by
 refine ⟨s.heap.objs.size,[s.heap.objs.size],tn,J,H,rfl,I.kept fun b ob e=>ay _ e,T,st,fun b hb=>?_,q⟩
 have e:b=s.heap.objs.size:=by simpa using hb
 subst e
 exact I.De (aL _) (I.fu.fresh (aL _))
end
def R8 (lo c:Int)(n:Nat):It:=⟨fun i _=>i<n,fun i H x H'=>H'=H∧x=.int (lo+(i:Nat)*c),fun i _=>n≤i⟩
theorem Ez {P:aV}{w:bK}{K:ai}{tg:Expr}(it:aj)(lo c:Int)(n:Nat):Turn P w K tg (R8 lo c n) [it] it (fun i h=>CZ h it (lo+(i:Nat)*c) ((n:Int) - (i:Nat)) c) where
 mem:=by simp
 obj:=fun i h st b hb=>by
  have e:b=it:=by simpa using hb
  subst e
  exact ⟨_,st,fun v z=>nomatch z⟩
 keep:=fun i h h' st k=>k it (by simp) _ st
 item:=by
  intro X hP hw hK hc i pins s σ H E I hf st hg
  subst hP hw hK
  obtain ⟨f0,f1,f2,f3,f4,f5⟩:=hf it (by simp)
  have W:=Walks.range (prog:=X.prog) (w:=X.w) (I.ok.hd hc) it lo c n
  refine W.item i s _ _ hg st fun v h' tk hv st' kk=>?_
  obtain ⟨t,rfl⟩:=hv
  have I1:Inv X pins σ H {s with heap:=h',toks:=tk}:=I.turned (fun b o hb e=>kk b o (by simpa using hb) e) f0 f1 f3 f4 f5
  exact ⟨_,rfl,HP (s:={s with heap:=h',toks:=tk}) (n:="range_iterator") st' rfl rfl (by decide) ⟨.int (lo+(i:Nat)*c),H,I1,⟨t,rfl⟩,⟨rfl,rfl⟩,st',fun b hb=>(hf b hb).1⟩⟩
 done:=by
  intro X hP hw hK hc i pins s σ H E I hf st hg
  subst hP hw hK
  obtain ⟨f0,f1,f2,f3,f4,f5⟩:=hf it (by simp)
  exact OU (I.ok.hd hc) st (by have:n≤i:=hg;omega) fun h' eb=>⟨rfl,I.turned (t':=s.toks) (fun b o hb e=>eb b o hb e) f0 f1 f3 f4 f5⟩
 self:=fun A i s Q E st h=>OV st h
def SQ (i j c:Int)(n:Nat):Prop:=c≠0∧c.natAbs<1073741824∧zT i j c=true∧g8 i j c=n
theorem SQ.neg {i j:Int}(ha:-(2 ^ 62)≤i)(ha':i<2 ^ 62)(hb:-(2 ^ 62)≤j)(hb':j<2 ^ 62):SQ i j (-1) (i - j).toNat :=
 ⟨by decide,by decide,PySem.W.small_down ha ha' hb hb',PySem.W.rangeSize_downNat i j⟩
def VP (ta:TA):TI:=fun σ H R=>ta σ H fun vs H1=>∃ (i j c:Int) (n:Nat),vs=[.int i,.int j,.int c]∧SQ i j c n∧R (R8 i c n) H1
section
variable {X:Cx}{tg:Expr}
theorem sC {a b c:Expr}{ta:TA}{p pos:jR}(hg:Gl X "range")(hm:X.mg "range"=none)(ha:PA X [a,b,c] ta)
  (hs:bS [a,b,c] X.env=(false,eval a X.env)::bS [b,c] X.env:=by rfl)(hpl:(backTo pos (bS [b,c] X.env)).any (·.1)=false:=by rfl) :
  PI X tg (.Call (.Name "range" p) [a,b,c] [] pos) (VP ta):=by
 intro pins s σ H R I h
 refine Call_ (jy I hg hm Gc (cN (gN (ha pos pins s σ H _ I h) fun us s1 ⟨vs,H1,I1,r1,q1⟩=>?_) hs hpl))
 obtain ⟨i,j,k,n,e,⟨c0,c1,c2,c3⟩,q⟩:=q1
 subst e
 cases r1 with
 | cons r rr =>
  cases rr with
  | cons r' rr =>
   cases rr with
   | cons r'' rr =>
    cases rr
    obtain ⟨t,rfl⟩:=r
    obtain ⟨t',rfl⟩:=r'
    obtain ⟨t'',rfl⟩:=r''
    refine call_range_3 c0 ?_ (.inl (CS c1))
    refine wpAny_pyIter_range (Ew ..) c2 ?_
    have I2:Inv X pins σ H1 {s1 with heap:=s1.heap.push {cls:=.type "range",data:=.fields #[.int i t,.int j t',.int k t'']}}:=I1.kept (t':=s1.toks) fun b o e=>ay _ e
    refine FU (tk:=s1.toks) I2 _ (Ez _ i k n) ?_ q
    have e1:i+((0:Nat):Int)*k=i:=by simp
    have e2:(n:Int) - ((0:Nat):Int)=g8 i j k:=by rw[c3];simp
    show CZ _ _ (i+((0:Nat):Int)*k) ((n:Int) - ((0:Nat):Int)) k
    rw[e1,e2]
    exact aG _ rfl
end
theorem uc {lo c:Int}{n:Nat}{g:TG}{tb:TS}{D:Ends}{σ:St}{H:Hp}(Pv:Nat→St→Hp→Prop)(h0:Pv 0 σ H)
  (hs:∀ i σ H,i<n→Pv i σ H→g (.int (lo+(i:Nat)*c)) σ H fun σ2 H2=>tb {D with nx:=Pv (i+1),ct:=Pv (i+1),bk:=D.nx} σ2 H2)(hd:∀ σ H,Pv n σ H→D.nx σ H) :
  ∃ W:Nat→Nat→St→Hp→Prop,(∃ m,W 0 m σ H)∧∀ i m σ H,W i m σ H →
   ((R8 lo c n).stop i H∧D.nx σ H)∨((R8 lo c n).go i H∧∃ N:St→Hp→Prop,(∀ σ' H',N σ' H'→∃ m',m'<m∧W (i+1) m' σ' H')∧∀ x H',(R8 lo c n).zO i H x H'→g x σ H' fun σ2 H2=>tb {D with nx:=N,ct:=N,bk:=D.nx} σ2 H2):=by
 refine ⟨fun i m σ H=>m=n - i∧i≤n∧Pv i σ H,⟨n,by simp,aS _,h0⟩,?_⟩
 rintro i m σ H ⟨rfl,hi,p⟩
 by_cases j7:i<n
 ·refine .inr ⟨j7,Pv (i+1),fun σ' H' p'=>⟨n - (i+1),by omega,rfl,j7,p'⟩,fun x H' y=>?_⟩
  obtain ⟨e,y⟩:=y
  subst e y
  exact hs i σ _ j7 p
 ·have e:i=n:=by omega
  subst e
  exact .inl ⟨aL _,hd σ H p⟩
section
variable {X:Cx}{tg:Expr}
end
section
variable {prog:aV}{w:bK}{A:cC}{E:ag→au→Prop}{s:au}
theorem KE {d:aj}{o:fD}{es:Array fA}{ep:Nat}{Q:ag→au→Prop}(hd:(d==eZ)=false)(ho:s.heap.get? d=some o)(hc:o.ExactDict)(hdat:o.data=.dict es ep)
  (hQ:Q (.ref s.heap.objs.size) {s with heap:=s.heap.push {cls:=.type "dict_keyiterator",data:=.fields #[.ref d,.int 0 0,.int es.size 0,.int ep 0]}}) :
  wpAny (model prog w) A (pyIter (.ref d)) Q E s:=by
 have hT:s.TypeIs (.ref d) "dict":=⟨o,ho,hc.1⟩
 refine qw hT F.slot_dict_iter (c8 F.slot_dict_iter hT F.entry_dict_iter ?_ (F.args_dict_iter_1 _))
 unfold Builtin.«dict.__iter__»
 refine aa ?_
 unfold Builtin.Dict.dictSlotNone
 refine aa (vi hT ?_)
 show wpAny _ _ (pure (ag.ref d)) _ _ s
 refine ak ?_
 show wpAny _ _ (jQ d >>= _) _ _ s
 unfold jQ
 rw[if_neg (by rw[hd];exact bo)]
 refine aa (ak ?_)
 refine aa (iq ho hdat ?_)
 refine aa (kx ho hdat ?_)
 refine aa (cw (ak ⟨_,rfl,"dict_keyiterator",_,⟨_,aG _ rfl,rfl⟩,gH.lookup,?_⟩))
 simpa [gu] using hQ
theorem z8 {it d:aj}{i n ep:Nat}{od:fD}{es:Array fA}{en:fA}{Q:Option ag→au→Prop}(hit:s.heap.IsKeyIter it d i n ep)(hod:s.heap.get? d=some od)(hdd:od.data=.dict es ep)
  (hsz:es.size=n)(hx:es[i]?=some en)(hQ:∀ h',h'.IsKeyIter it d (i+1) n ep→eE it s.heap h'→Q (some en.key) {s with heap:=h'}):wpAny (model prog w) A (pyNext (.ref it)) Q E s:=by
 obtain ⟨o,ho,hc,hd⟩:=id hit
 unfold pyNext
 refine aa (iB (dg (name:=dM "__next__") hit.typeIs gH
  (c8 gH hit.typeIs Bj ?_ (Ac _))))
 refine aa (ak ?_)
 refine aa ?_
 refine aa ?_
 first | refine aa (iW hit.typeIs (ak ?_)) | refine aa (kl hit.typeIs (ak ?_))
 refine aa (lG ho hd ?_)
 have hown:fK "dict_keyiterator"=false:=by decide
 simp only[hown,iM,if_false]
 show wpAny _ _ (if (ag.ref d==ag.none)=true then _ else _) _ _ s
 rw[if_neg (show ¬ ((ag.ref d==ag.none)=true) from bo)]
 refine aa (ak ?_)
 refine aa (iq hod hdd ?_)
 rw[if_neg (by rw[hsz];simp)]
 refine aa (ak ?_)
 refine aa (kx hod hdd ?_)
 rw[if_neg (by simp)]
 refine ak ?_
 obtain ⟨hlt',hen⟩:=Ae.mp hx
 simp only[show ¬ ((i:Int)<0) from by omega,if_false,bT,cz hlt']
 refine aa ?_
 first | refine aa (iW hit.typeIs (ak ?_)) | refine aa (kl hit.typeIs (ak ?_))
 refine aa (Ph hit.typeIs ?_)
 show wpAny _ _ (setField (.ref it) 1 (gu ((i:Int)+1)) >>= _) _ _ s
 refine aa (fO ho hd (by simp) ?_)
 have hit':(s.heap.update it (fD.mapFields (·.setIfInBounds 1 (gu ((i:Int)+1))))).IsKeyIter it d (i+1) n ep :=
  ⟨_,cT _ ho (fD.isFreed_of_fields (fD.data_mapFields hd _)),(fD.cls_mapFields ..).trans hc,by rw[fD.data_mapFields hd];simp[gu]⟩
 refine aa (dn ?_)
 refine aa (Ph (s:={s with heap:=s.heap.update it (fD.mapFields (·.setIfInBounds 1 (gu ((i:Int)+1))))}) hit'.typeIs ?_)
 show wpAny _ _ (pure es[i].key) _ _ _
 rw[hen]
 exact ak (ak ⟨_,rfl,ak (hQ _ hit' (c9 ..))⟩)
theorem CG {it d:aj}{i n ep:Nat}{od:fD}{es:Array fA}{Q:Option ag→au→Prop}(hh:A.handled=none)(hit:s.heap.IsKeyIter it d i n ep)(hod:s.heap.get? d=some od)(hdd:od.data=.dict es ep)
  (hsz:es.size=n)(hge:n≤i)(hQ:∀ h',oY it s.heap h'→Q none {s with heap:=h'}):wpAny (model prog w) A (pyNext (.ref it)) Q E s:=by
 obtain ⟨o,ho,hc,hd⟩:=id hit
 unfold pyNext
 refine aa (iB (dg (name:=dM "__next__") hit.typeIs gH
  (c8 gH hit.typeIs Bj ?_ (Ac _))))
 refine aa (ak ?_)
 refine aa ?_
 refine aa ?_
 first | refine aa (iW hit.typeIs (ak ?_)) | refine aa (kl hit.typeIs (ak ?_))
 refine aa (lG ho hd ?_)
 have hown:fK "dict_keyiterator"=false:=by decide
 simp only[hown,iM,if_false]
 show wpAny _ _ (if (ag.ref d==ag.none)=true then _ else _) _ _ s
 rw[if_neg (show ¬ ((ag.ref d==ag.none)=true) from bo)]
 refine aa (ak ?_)
 refine aa (iq hod hdd ?_)
 rw[if_neg (by rw[hsz];simp)]
 refine aa (ak ?_)
 refine aa (kx hod hdd ?_)
 rw[if_neg (by simp)]
 refine ak ?_
 have hge':es.size≤i:=by rw[hsz];exact hge
 simp only[show ¬ ((i:Int)<0) from by omega,if_false,bT,iI hge']
 refine aa ?_
 first | refine aa (iW hit.typeIs (ak ?_)) | refine aa (kl hit.typeIs (ak ?_))
 show wpAny _ _ (setField (.ref it) 0 .none >>= _) _ _ s
 refine aa (fO ho hd (by simp) ?_)
 show wpAny _ _ (newExc (.type "StopIteration") [] >>= _) _ _ _
 refine aa ?_
 simp only[newExc,newTuple]
 refine aa (cw ?_ (by size_fits))
 refine aa (m:=firstArgMember _ _) (jA (a:=ag.none) (by first | rfl | (simp only[firstArgMember];rfl)) ?_)
 refine cw ?_ (by size_fits)
 simp only[raiseNew]
 refine aa (rg ?_)
 rw[show A.in1.handled=none from hh]
 refine aa (ak (vG ?_))
 refine aa (iN (T:="StopIteration") (b:=true) ⟨_,aG _ rfl,rfl⟩ pS ?_)
 exact ak (hQ _ (((c9 ..).extBut.push _).push _))
end
theorem My {κ:Type}{kvs:List (κ×V)}{vs:List (κ×ag)}(h:KV kvs vs):∀ {i:Nat} {k:κ} {v:V},kvs[i]?=some (k,v)→∃ u,vs[i]?=some (k,u)∧RelV v u:=by
 unfold KV at h
 induction h with
 | nil=>intro i k v e;simp at e
 | @cons a b l₁ l₂ r t ih =>
  intro i k v e
  cases i with
  | zero =>
   simp only[qg,C8] at e
   subst e
   refine ⟨b.2,?_,r.2⟩
   simp only[qg]
   exact congrArg some (Prod.ext r.1.symm rfl)
  | succ j =>
   simp only[E9] at e ⊢
   exact ih e
theorem zj {α β:Type}{G:α→β→Prop}{l₁:List α}{l₂:List β}(h:Paired G l₁ l₂):∀ {i:Nat} {a:α},l₁[i]?=some a→∃ b,l₂[i]?=some b∧G a b:=by
 induction h with
 | nil=>intro i a e;simp at e
 | @cons a b l₁ l₂ r t ih =>
  intro i a' e
  cases i with
  | zero =>
   simp only[qg,C8] at e
   subst e
   exact ⟨b,rfl,r⟩
  | succ j =>
   simp only[E9] at e ⊢
   exact ih e
theorem NC {k:Key}{u:ag}(h:jV k u=true):RelV (kV k) u:=by
 rcases d6 h with ⟨i,t,rfl,rfl⟩ | ⟨x,t,rfl,rfl⟩
 ·exact ⟨t,rfl⟩
 ·exact ⟨t,rfl⟩
section
variable {X:Cx}{pins:List (aj×fD)}{σ:St}{H:Hp}{s:au}{d:aj}{o:fD}
theorem Inv.SY {kvs:List (Key×V)}(I:Inv X pins σ H s)(h:H d=some (.lT o (.dK kvs))) :
  (d==eZ)=false∧s.heap.get? d=some o∧o.ExactDict∧∃ (es:Array fA) (ep:Nat) (vs:List (Key×ag)),o.data=.dict es ep∧es.size=kvs.length∧KV kvs vs∧s.heap.DictAt (dZ X.prog X.w) d vs ep:=by
 obtain ⟨hd,z,hs,vs,kv,o',es,ep,ho,hx,hdt,r⟩:=I.fu d _ h
 rw[hd] at ho
 cases ho
 refine ⟨hs,hd,hx,es,ep,vs,hdt,?_,kv,o,es,hd,hx,hdt,r⟩
 have l1:=r.2.1.length
 have l2:kvs.length=vs.length:=Paired.length kv
 rw[cO] at l1
 omega
end
def U0 (d:aj)(o:fD)(kvs:List (Key×V)):It :=
 ⟨fun i H=>H d=some (.lT o (.dK kvs))∧i<kvs.length,fun i H x H'=>∃ T k v,kvs[i]?=some (k,v)∧x=.ref T∧H T=none∧H'=upd H T (.tup [kV k,v]),fun i H=>H d=some (.lT o (.dK kvs))∧kvs.length≤i⟩
theorem x5 {o:fD}{es es':Array fA}{ep ep':Nat}(h:o.data=.dict es ep)(h':o.data=.dict es' ep'):es'=es∧ep'=ep:=by
 rw[h] at h'
 cases h'
 exact ⟨rfl,rfl⟩
section
variable {P:aV}{w:bK}{K:ai}{tg:Expr}{d:aj}{o:fD}{es:Array fA}{ep:Nat}
theorem Gk {kvs:List (Key×V)}{elts:List Expr}{kk:Nat}{md:jR}(it:aj)(hod:o.data=.dict es ep) :
  Turn P w K (.Tuple elts kk md) (U0 d o kvs) [it] it (fun i h=>∃ ok ov,kI h it d i kvs.length ep ok ov) where
 mem:=by simp
 obj:=fun i h st b hb=>by
  have e:b=it:=by simpa using hb
  subst e
  obtain ⟨ok,ov,e⟩:=st
  exact ⟨_,e,fun v z=>nomatch z⟩
 keep:=fun i h h' st k=>let ⟨ok,ov,e⟩:=st;⟨ok,ov,k it (by simp) _ e⟩
 item:=by
  intro X hP hw hK hc i pins s σ H E I hf st hg
  subst hP hw hK
  obtain ⟨hd,hi⟩:=hg
  obtain ⟨hs,hgd,hx,es',ep',vs,hdt,hsz,kv,hm⟩:=I.SY hd
  obtain ⟨rfl,rfl⟩:=x5 hod hdt
  obtain ⟨⟨k,v⟩,hkv⟩:∃ p,kvs[i]?=some p:=⟨kvs[i],aD hi⟩
  obtain ⟨u,hu,ru⟩:=My kv hkv
  have hl:kvs.length=vs.length:=Paired.length kv
  obtain ⟨ok,ov,he⟩:=st
  rw[hl] at he
  have j7:it<s.heap.objs.size:=aN he
  refine wpAny_pyNext_items_item he hm hu fun key h' hkey ho hT hz hk=>?_
  refine ⟨_,rfl,Fj (s:={s with heap:=h'}) ho fun h'' he' sb=>?_⟩
  have hT2:h''.get? s.heap.objs.size=some {cls:=.type "tuple",data:=.seq #[key,u]}:=(sb.2 _ (gh j7)).trans hT
  have new:fQ X.prog X.w (upd H s.heap.objs.size (.tup [kV k,v])) h'' s.heap.objs.size (.tup [kV k,v]) :=
   ⟨by show 2≤aP;decide,[key,u],.cons (NC (show jV k key=true from hkey)) (.cons ru .nil),⟨_,hT2,rfl,_,rfl⟩⟩
  have I1:Inv X pins σ (upd H s.heap.objs.size (.tup [kV k,v])) {s with heap:=h''} :=
   I.oN (t':=s.toks) (ch:=[it]) (fun b ob hb e=>(sb.2 b (by simpa using hb)).trans (hk b ob (by simpa using hb) e)) hf (aL _) new
  refine ⟨.ref s.heap.objs.size,_,I1,rfl,⟨_,k,v,hkv,rfl,I.fu.fresh (aL _),rfl⟩,⟨key,u,?_⟩,fun b hb=>?_⟩
  ·rw[hl];exact he'
  ·have e:b=it:=by simpa using hb
   rw[e,aW (bg j7)]
   exact (hf it (by simp)).1
 done:=by
  intro X hP hw hK hc i pins s σ H E I hf st hg
  subst hP hw hK
  obtain ⟨hd,hi⟩:=hg
  obtain ⟨f0,f1,f2,f3,f4,f5⟩:=hf it (by simp)
  obtain ⟨hs,hgd,hx,es',ep',vs,hdt,hsz,kv,hm⟩:=I.SY hd
  obtain ⟨rfl,rfl⟩:=x5 hod hdt
  have hl:kvs.length=vs.length:=Paired.length kv
  obtain ⟨ok,ov,he⟩:=st
  rw[hl] at he
  exact wpAny_pyNext_items_end (I.ok.hd hc) he hm (bJ (by omega)) fun h' eb=>⟨rfl,I.turned (t':=s.toks) (fun b ob hb e=>eb b ob hb e) f0 f1 f3 f4 f5⟩
 self:=fun A i s Q E st h=>let ⟨_,_,e⟩:=st;Lo e h
end
def T8 (td:TE):TI:=fun σ H R=>td σ H fun x H1=>∃ d o kvs,x=.ref d∧H1 d=some (.lT o (.dK kvs))∧R (U0 d o kvs) H1
section
variable {X:Cx}{tg e:Expr}{td:TE}{apos jL:jR}
theorem DW {elts:List Expr}{kk:Nat}{md:jR}(he:PE X e td)(hbase:ja e "items" X.env (eval e X.env)=eval e X.env:=by rfl)(hline:(apos.endLine==jL.line)=true:=by rfl) :
  PI X (.Tuple elts kk md) (.Call (.Attribute e "items" apos) [] [] jL) (T8 td):=by
 intro pins s σ H R I h
 refine qz (T:="dict") (id:="dict.items") hbase rfl hline zK qf SG (gN (he pins s σ H _ I h) fun u s1 ⟨x,H1,I1,rx,d,o,kvs,ex,hd,q⟩=>?_)
 subst ex
 obtain rfl:u=ag.ref d:=rx
 obtain ⟨hs,hgd,hx,es,ep,vs,hdt,hsz,kv,hm⟩:=I1.SY hd
 have hl:kvs.length=vs.length:=Paired.length kv
 refine ⟨hm.dictOf.typeIs,hm.dictOf.mapOf.noDict,?_⟩
 have I2:Inv X pins σ H1 {s1 with heap:=s1.heap.push {cls:=.type "dict_items",data:=.fields #[.ref d]}}:=I1.kept (t':=s1.toks) fun b ob q=>ay _ q
 have fin:wpAny (model X.prog X.w) X.A (pyIter (.ref s1.heap.objs.size)) (UZ X pins σ (.Tuple elts kk md) R) X.xe {s1 with heap:=s1.heap.push {cls:=.type "dict_items",data:=.fields #[.ref d]}}:=by
  refine wpAny_pyIter_items (d:=d) (knd:=dZ X.prog X.w) ⟨_,aG _ rfl,rfl,rfl⟩ (hm.push _) (FU (tk:=s1.toks) I2 _ (Gk _ hdt) ⟨.none,.none,?_⟩ q)
  rw[hl]
  exact aG _ rfl
 show wpAny _ _ (Fu jL (.builtin "dict.items") [.ref d] [] []) _ X.xe s1
 exact Ge qf RW rfl (um ⟨rfl,hm.dictOf.typeIs,Pt _,_,meets_dict_items (dZ X.prog X.w) d hs,⟨vs,hm.dictOf⟩,fin⟩)
end
def U1 (K:ai)(a:aj):It :=
 ⟨fun i H=>∃ (xs:List V) (x:V),cI K H a xs∧xs[i]?=some x,fun i H v H'=>∃ T x,v=.ref T∧H T=none∧H'=upd H T (.tup [.int (i:Nat),x])∧∀ xs,cI K H a xs→xs[i]?=some x,fun i H=>∃ xs:List V,cI K H a xs∧xs.length≤i⟩
theorem JV {P:aV}{w:bK}{K:ai}{elts:List Expr}{kk:Nat}{md:jR}(a e it:aj) :
  Turn P w K (.Tuple elts kk md) (U1 K a) [e,it] e (fun i h=>(∃ old,IsEnum h e it ((i:Nat):Int) old)∧h.IsListIter it a i∧e≠it) where
 mem:=by simp
 obj:=fun i h st b hb=>by
  obtain ⟨⟨old,he⟩,⟨o,ho,hc,hd⟩,_⟩:=st
  have e':b=e∨b=it:=by simpa using hb
  rcases e' with z | z
  ·rw[z];exact ⟨_,he,fun v q=>nomatch q⟩
  ·rw[z];exact ⟨o,ho,fun v q=>by rw[hd] at q;cases q⟩
 keep:=fun i h h' st k=>let ⟨⟨old,he⟩,hi,hne⟩:=st;⟨⟨old,k e (by simp) _ he⟩,hi.at fun o q=>k it (by simp) o q,hne⟩
 item:=by
  intro X hP hw hK hc i pins s σ H E I hf st hg
  subst hP hw hK
  obtain ⟨⟨old,he⟩,hit,hne⟩:=st
  obtain ⟨xs,x,hq,hx⟩:=hg
  obtain ⟨its,rv,p,hz⟩:=I.list hq
  obtain ⟨u,hu,ru⟩:=rv.get hx
  have hel:e<s.heap.objs.size:=aN he
  have hil:it<s.heap.objs.size:=by obtain ⟨_,q,_⟩:=hit;exact aN q
  refine wpAny_pyNext_enum_item he hit p.isList (x:=u) (by simpa using hu) hne fun h' ho hit' hT hsz hk=>?_
  refine ⟨_,rfl,wpAny_letOwnedTupleGo_enum (s:={s with heap:=h',toks:=s.toks+1}) ho fun h'' he' sb=>?_⟩
  have hT2:h''.get? s.heap.objs.size=some {cls:=.type "tuple",data:=.seq #[.int i s.toks,u]}:=(sb.2 _ (gh hel)).trans hT
  have new:fQ X.prog X.w (upd H s.heap.objs.size (.tup [.int (i:Nat),x])) h'' s.heap.objs.size (.tup [.int (i:Nat),x]) :=
   ⟨by show 2≤aP;decide,[.int i s.toks,u],.cons ⟨_,rfl⟩ (.cons ru .nil),⟨_,hT2,rfl,_,rfl⟩⟩
  have I1:Inv X pins σ (upd H s.heap.objs.size (.tup [.int (i:Nat),x])) {s with heap:=h'',toks:=s.toks+1} :=
   I.oN (ch:=[e,it]) (fun b ob hb q=>(sb.2 b (fun z=>hb (by simp[z]))).trans (hk b ob (fun z=>hb (by simp[z])) (fun z=>hb (by simp[z])) q)) hf (aL _) new
  refine ⟨.ref s.heap.objs.size,_,I1,rfl,⟨_,x,rfl,I.fu.fresh (aL _),rfl,fun ys hy=>by rw[I.uY hy hq];exact hx⟩,⟨⟨u,?_⟩,hit'.at fun o q=>(sb.2 it (g4 hne)).trans q,hne⟩,fun b hb=>?_⟩
  ·have e1:((i+1:Nat):Int)=(i:Int)+1:=by omega
   rw[e1];exact he'
  ·have hb':b<s.heap.objs.size:=by
    have e':b=e∨b=it:=by simpa using hb
    rcases e' with z | z
    ·rw[z];exact hel
    ·rw[z];exact hil
   rw[aW (bg hb')]
   exact (hf b hb).1
 done:=by
  intro X hP hw hK hc i pins s σ H E I hf st hg
  subst hP hw hK
  obtain ⟨⟨old,he⟩,hit,hne⟩:=st
  obtain ⟨xs,hq,hx⟩:=hg
  obtain ⟨its,rv,p,hz⟩:=I.list hq
  obtain ⟨f0,f1,f2,f3,f4,f5⟩:=hf it (by simp)
  have hl:=rv.length
  exact wpAny_pyNext_enum_end (I.ok.hd hc) he hit p.isList (by simp;omega) fun h' eb=>⟨rfl,I.turned (t':=s.toks) (fun b o hb q=>eb b o hb q) f0 f1 f3 f4 f5⟩
 self:=fun A i s Q E st h=>let ⟨⟨_,he⟩,_⟩:=st;wpAny_pyIter_enum he h
def VT (K:ai)(ta:TA):TI:=fun σ H R=>ta σ H fun vs H1=>∃ a xs,vs=[.ref a]∧cI K H1 a xs∧R (U1 K a) H1
theorem Qm {X:Cx}{e:Expr}{ta:TA}{p pos md:jR}{elts:List Expr}{kk:Nat}(hg:Gl X "enumerate")(hm:X.mg "enumerate"=none)(ha:PA X [e] ta)(hs:bS [e] X.env=[(false,eval e X.env)]:=by rfl) :
  PI X (.Tuple elts kk md) (.Call (.Name "enumerate" p) [e] [] pos) (VT X.K ta):=by
 intro pins s σ H R I h
 refine Call_ (jy I hg hm boot_enumerate (cN (gN (ha pos pins s σ H _ I h) fun us s1 ⟨vs,H1,I1,r1,q1⟩=>?_) hs rfl))
 obtain ⟨a,xs,ex,hq,q⟩:=q1
 subst ex
 cases r1 with
 | cons r rr =>
  cases rr
  cases r
  obtain ⟨its,rv,p',hz⟩:=I1.list hq
  refine call_enumerate_list p'.isList fun h' he hit hsz hk=>wpAny_pyIter_enum he ?_
  have I2:Inv X pins σ H1 {s1 with heap:=h'}:=I1.kept (t':=s1.toks) hk
  refine ⟨s1.heap.objs.size+1,[s1.heap.objs.size+1,s1.heap.objs.size],_,_,H1,rfl,I2,JV a (s1.heap.objs.size+1) s1.heap.objs.size,⟨⟨.none,he⟩,hit,RM _⟩,fun b hb=>?_,q⟩
  have e':b=s1.heap.objs.size+1∨b=s1.heap.objs.size:=by simpa using hb
  have hle:s1.heap.objs.size≤b:=by
   rcases e' with z | z
   ·rw[z];exact gf _ _
   ·rw[z];exact aL _
  exact I1.De hle (I1.fu.fresh hle)
theorem A7:bootBuiltins "zip"=some (.type "zip"):=by decide +kernel
def R5 (K:ai)(a b:aj):It :=
 ⟨fun i H=>∃ (xs ys:List V) (x y:V),cI K H a xs∧cI K H b ys∧xs[i]?=some x∧ys[i]?=some y,
  fun i H v H'=>∃ T x y,v=.ref T∧H T=none∧H'=upd H T (.tup [x,y])∧(∀ xs,cI K H a xs→xs[i]?=some x)∧∀ ys,cI K H b ys→ys[i]?=some y,
  fun i H=>∃ xs ys:List V,cI K H a xs∧cI K H b ys∧(xs.length≤i∨ys.length≤i)⟩
theorem Nf {P:aV}{w:bK}{K:ai}{elts:List Expr}{kk:Nat}{md:jR}{a b z TI TO i1 i2:aj}(D:z4 z TI TO i1 i2 a b) :
  Turn P w K (.Tuple elts kk md) (R5 K a b) [z,TI,TO,i1,i2] z (fun i h=>nZ h z TI TO .none∧gw h TI (.ref i1) (.ref i2)∧(∃ x y,gw h TO x y)∧h.IsListIter i1 a i∧h.IsListIter i2 b i) where
 mem:=by simp
 obj:=fun i h st c hc=>by
  obtain ⟨hz,hTI,⟨x,y,hTO⟩,⟨o1,e1,_,d1⟩,⟨o2,e2,_,d2⟩⟩:=st
  have e':c=z∨c=TI∨c=TO∨c=i1∨c=i2:=by simpa using hc
  rcases e' with q | q | q | q | q
  ·rw[q];exact ⟨_,hz,fun v q=>nomatch q⟩
  ·rw[q];exact ⟨_,hTI,fun v q=>nomatch q⟩
  ·rw[q];exact ⟨_,hTO,fun v q=>nomatch q⟩
  ·rw[q];exact ⟨o1,e1,fun v q=>by rw[d1] at q;cases q⟩
  ·rw[q];exact ⟨o2,e2,fun v q=>by rw[d2] at q;cases q⟩
 keep:=fun i h h' st k=>by
  obtain ⟨hz,hTI,⟨x,y,hTO⟩,h1,h2⟩:=st
  exact ⟨k z (by simp) _ hz,k TI (by simp) _ hTI,⟨x,y,k TO (by simp) _ hTO⟩,h1.at fun o q=>k i1 (by simp) o q,h2.at fun o q=>k i2 (by simp) o q⟩
 item:=by
  intro X hP hw hK hc i pins s σ H E I hf st hg
  subst hP hw hK
  obtain ⟨hz,hTI,⟨x0,y0,hTO⟩,h1,h2⟩:=st
  obtain ⟨xs,ys,x,y,hqx,hqy,hx,hy⟩:=hg
  obtain ⟨its,rv,p,_⟩:=I.list hqx
  obtain ⟨its2,rv2,p2,_⟩:=I.list hqy
  obtain ⟨u,hu,ru⟩:=rv.get hx
  obtain ⟨u2,hu2,ru2⟩:=rv2.get hy
  have hzl:z<s.heap.objs.size:=aN hz
  refine wpAny_pyNext_zip_item D hz hTI hTO h1 h2 p.isList p2.isList (x:=u) (y:=u2) (by simpa using hu) (by simpa using hu2) fun h' z' TO' h1' h2' hT hsz hk=>?_
  refine ⟨_,rfl,Js (s:={s with heap:=h'}) z' fun h'' z'' sb=>?_⟩
  have hT2:h''.get? s.heap.objs.size=some {cls:=.type "tuple",data:=.seq #[u,u2]}:=(sb.2 _ (gh hzl)).trans hT
  have new:fQ X.prog X.w (upd H s.heap.objs.size (.tup [x,y])) h'' s.heap.objs.size (.tup [x,y]) :=
   ⟨by show 2≤aP;decide,[u,u2],.cons ru (.cons ru2 .nil),⟨_,hT2,rfl,_,rfl⟩⟩
  have I1:Inv X pins σ (upd H s.heap.objs.size (.tup [x,y])) {s with heap:=h''} :=
   I.oN (t':=s.toks) (ch:=[z,TI,TO,i1,i2]) (fun c o hb q=>(sb.2 c (fun q'=>hb (by simp[q']))).trans (hk c o (fun q'=>hb (by simp[q'])) (fun q'=>hb (by simp[q'])) (fun q'=>hb (by simp[q'])) (fun q'=>hb (by simp[q'])) q)) hf (aL _) new
  refine ⟨.ref s.heap.objs.size,_,I1,rfl,⟨_,x,y,rfl,I.fu.fresh (aL _),rfl,fun l hl=>by rw[I.uY hl hqx];exact hx,fun l hl=>by rw[I.uY hl hqy];exact hy⟩,⟨z'',?_,⟨u,u2,?_⟩,?_,?_⟩,fun c hcm=>?_⟩
  ·exact (sb.2 _ D.TIz).trans (hk _ _ D.TIz D.TITO D.TIi1 D.TIi2 hTI)
  ·exact (sb.2 _ D.TOz).trans TO'
  ·exact h1'.at fun o q=>(sb.2 _ D.i1z).trans q
  ·exact h2'.at fun o q=>(sb.2 _ D.i2z).trans q
  ·have j7:c<s.heap.objs.size:=by
    have e':c=z∨c=TI∨c=TO∨c=i1∨c=i2:=by simpa using hcm
    rcases e' with q | q | q | q | q
    ·rw[q];exact hzl
    ·rw[q];exact aN hTI
    ·rw[q];exact aN hTO
    ·rw[q];obtain ⟨_,e1,_⟩:=h1;exact aN e1
    ·rw[q];obtain ⟨_,e2,_⟩:=h2;exact aN e2
   rw[aW (bg j7)]
   exact (hf c hcm).1
 done:=by
  intro X hP hw hK hc i pins s σ H E I hf st hg
  subst hP hw hK
  obtain ⟨hz,hTI,⟨x0,y0,hTO⟩,h1,h2⟩:=st
  obtain ⟨xs,ys,hqx,hqy,hend⟩:=hg
  obtain ⟨its,rv,p,_⟩:=I.list hqx
  obtain ⟨its2,rv2,p2,_⟩:=I.list hqy
  have l1:=rv.length
  have l2:=rv2.length
  have he:its.toArray[i]?=none∨its2.toArray[i]?=none:=by
   rcases hend with q | q
   ·exact .inl (by simp;omega)
   ·exact .inr (by simp;omega)
  exact wpAny_pyNext_zip_end (I.ok.hd hc) D hz hTI hTO h1 h2 p.isList p2.isList he fun h' hk=>⟨rfl,I.HY (t':=s.toks) (ch:=[z,TI,TO,i1,i2]) (fun c o hb q =>
   hk c o (fun q'=>hb (by simp[q'])) (fun q'=>hb (by simp[q'])) (fun q'=>hb (by simp[q'])) (fun q'=>hb (by simp[q'])) q) hf⟩
 self:=fun A i s Q E st h=>sU st.1 h
def WM (K:ai)(ta:TA):TI:=fun σ H R=>ta σ H fun vs H1=>∃ a b xs ys,vs=[.ref a,.ref b]∧cI K H1 a xs∧cI K H1 b ys∧R (R5 K a b) H1
theorem FT {X:Cx}{e e2:Expr}{ta:TA}{p pos md:jR}{elts:List Expr}{kk:Nat}(hg:Gl X "zip")(hm:X.mg "zip"=none)(ha:PA X [e,e2] ta)
  (hs:bS [e,e2] X.env=(false,eval e X.env)::bS [e2] X.env:=by rfl)(hpl:(backTo pos (bS [e2] X.env)).any (·.1)=false:=by rfl) :
  PI X (.Tuple elts kk md) (.Call (.Name "zip" p) [e,e2] [] pos) (WM X.K ta):=by
 intro pins s σ H R I h
 refine Call_ (jy I hg hm A7 (cN (gN (ha pos pins s σ H _ I h) fun us s1 ⟨vs,H1,I1,r1,q1⟩=>?_) hs hpl))
 obtain ⟨a,b,xs,ys,ex,hqx,hqy,q⟩:=q1
 subst ex
 cases r1 with
 | cons r rr =>
  cases rr with
  | cons r' rr =>
   cases rr
   cases r
   cases r'
   obtain ⟨its,rv,p1,_⟩:=I1.list hqx
   obtain ⟨its2,rv2,p2,_⟩:=I1.list hqy
   have la:a<s1.heap.objs.size:=p1.lt
   have lb:b<s1.heap.objs.size:=p2.lt
   refine call_zip_2 p1.isList p2.isList fun h' hz hTI hTO h1 h2 hsz hk=>sU hz ?_
   have I2:Inv X pins σ H1 {s1 with heap:=h'}:=I1.kept (t':=s1.toks) hk
   refine ⟨s1.heap.objs.size+4,[s1.heap.objs.size+4,s1.heap.objs.size+2,s1.heap.objs.size+3,s1.heap.objs.size,s1.heap.objs.size+1],_,_,H1,rfl,I2,Nf (Jt s1.heap.objs.size a b la lb),⟨hz,hTI,⟨_,_,hTO⟩,h1,h2⟩,fun c hcm=>?_,q⟩
   have e':c=s1.heap.objs.size+4∨c=s1.heap.objs.size+2∨c=s1.heap.objs.size+3∨c=s1.heap.objs.size∨c=s1.heap.objs.size+1:=by simpa using hcm
   have hle:s1.heap.objs.size≤c:=by
    rcases e' with z | z | z | z | z
    ·rw[z];exact gf _ _
    ·rw[z];exact gf _ _
    ·rw[z];exact gf _ _
    ·rw[z];exact aL _
    ·rw[z];exact gf _ _
   exact I1.De hle (I1.fu.fresh hle)
end L2
section
namespace WV
open PySem PyProof.Rows
end WV
end
section
namespace TL
open PySem PySem.Builtin PySem.Builtin.Str PySem.StrLaws
end TL
end
namespace L2
open PySem PySem.Spec PyProof.Rows
section
variable {X:Cx}{pins:List (aj×fD)}{σ:St}{H:Hp}{s:au}{Q:VK}
end
section
variable {X:Cx}
end
section
variable {X:Cx}{o e:Expr}{to te:TE}
end
section
variable {X:Cx}
end
end L2
namespace Xv
open PySem PySem.W PySem.Calls PyProof.Rows
section
variable {prog:aV}{w:bK}{A:cC}{E:ag→au→Prop}{s:au}{K:Frag}
end
end Xv
namespace L2
open PySem PySem.Spec PyProof.Rows
abbrev fG:LA:=fun _ _ _ _ _ _=>False
abbrev E0:XK:=fun _ _ _=>False
theorem cU {X:Cx}:tU fG X E0:=fun _ _ _ _ _ _ _ h=>h.elim
structure jb (K:ai)(x qual:bZ)(st:d3)(f:aj)(fd:bH):Prop where
 ex:∃ (oc:ag) (od:Option aj) (kV doc pm:ag) (an:Option aj) (gq ct:ag) (osl:Array (Option ag)),
  fd=fE x qual (jr st) (i3 st) (bB st) .none kV doc pm an gq ct∧K.lookup f=some ⟨oc,od,.func fd,osl⟩∧mH K gq qual=true
 kp:aQ K (.ref f)=true
section
variable {P:aV}{w:bK}{K:ai}{mg:bZ→Option ag}{base:bW}
theorem jb.ok {x qual:bZ}{st:d3}{f:aj}{fd:bH}{N ps:List bZ}{k:Nat}{sp:Sp}(F:jb K x qual st f fd)(S:bX N ps (bB st))(len:∀ vs H Q E,sp vs H Q E→vs.length=ps.length)
  (hbody:∀ (gq:ag) (A:cC) (outer:List Dc) (s:au) (H:Hp) (vs:List V) (Q:VK) (E:XK),fS k (A.deeper (envOfC qual (bB st) s.heap.objs.size f gq))→sp vs H Q E →
   ∃ t,Jz (JJ fG P w K mg base N qual (bB st) f gq A outer s H E).Wc (i3 st) t∧t {nx:=fun _ H'=>Q .hU H',rt:=Q} (start N vs) H):cP P w K mg base fG (k+1) f fd ps sp:=by
 obtain ⟨oc,od,kV,doc,pm,an,gq,ct,osl,rfl,lk,hcd⟩:=F.ex
 refine VU lk hcd S len fun A outer s H vs Q E hr hsp=>?_
 obtain ⟨t,h,q⟩:=hbody gq A outer s H vs Q E hr hsp
 exact ⟨t,h.Wc,q⟩
theorem jb.binds {x qual:bZ}{st:d3}{f:aj}{fd:bH}{ps:List bZ}(F:jb K x qual st f fd)
  (h:∀ (kV doc pm:ag) (an:Option aj) (gq ct:ag) (us:List ag),us.length=ps.length→bindArgs (fE x qual (jr st) (i3 st) (bB st) .none kV doc pm an gq ct) ⟨us,[]⟩=pure (ps.zip us)):Binds K fd ps []:=by
 obtain ⟨oc,od,kV,doc,pm,an,gq,ct,osl,rfl,lk,hcd⟩:=F.ex
 exact .all (h kV doc pm an gq ct)
theorem MG {x qual:bZ}{st:d3}{f:aj}{oc:ag}{od an:Option aj}{osl:Array (Option ag)}{kV doc pm gq ct:ag}(l:K.lookup f=some ⟨oc,od,.func (fE x qual (jr st) (i3 st) (bB st) .none kV doc pm an gq ct),osl⟩)
  (c:mH K gq qual=true)(k:aQ K (.ref f)=true):jb K x qual st f (fE x qual (jr st) (i3 st) (bB st) .none kV doc pm an gq ct):=⟨⟨oc,od,kV,doc,pm,an,gq,ct,osl,rfl,l,c⟩,k⟩
end
theorem wB {A:cC}{k:Nat}(hr:fS k A):A.units+8<cLine:=aF (Nat.add_le_add_left (by decide:8≤64) _) hr.units
section
variable {X:Cx}
theorem pv (i:Nat){x:bZ}{pos:jR}(hN:X.N[i]?=some x:=by rfl)(hv:UW X.env.scope x:=by first | exact bp rfl | exact p6 (bp rfl) | exact p6 (p6 rfl))(hd:(x==("__debug__":bZ))=false:=by decide)
  (hcd:(x==("__classdict__":bZ))=false:=by decide):PE X (.Name x pos) (qG i):=TC hN hv hd hcd
end
theorem nN {A B:Prop}(h:B):if false=true then A else B:=by
 rw[if_neg bo]
 exact h
theorem pd {A B:Prop}(h:A):if true=true then A else B:=by
 rw[if_pos rfl]
 exact h
theorem gI {c A B:Prop}[Decidable c](h1:c→A)(h2:¬ c→B):if c then A else B:=by
 by_cases h:c
 ·rw[if_pos h]
  exact h1 h
 ·rw[if_neg h]
  exact h2 h
def aM (H H':Hp):Prop:=∀ b o,H b=some o→H' b=some o
theorem aM.refl (H:Hp):aM H H:=fun _ _ h=>h
theorem aM.trans {H H1 H2:Hp}(a:aM H H1)(b:aM H1 H2):aM H H2:=fun c o h=>b c o (a c o h)
theorem aM.free {H H':Hp}(e:aM H H'){l:aj}(h:H' l=Option.none):H l=Option.none:=by
 cases q:H l with
 | none=>rfl
 | some o =>
  rw[e l o q] at h
  cases h
theorem aM.seq {K:ai}{H H':Hp}{a:aj}{xs:List V}(e:aM H H')(h:cI K H a xs):cI K H' a xs:=by
 rcases h with (h | ⟨o,h⟩) | h
 ·exact .inl (.inl (e _ _ h))
 ·exact .inl (.inr ⟨o,e _ _ h⟩)
 ·exact .inr h
section
variable {κ:Type}[DecidableEq κ]
end
end L2
namespace Sk
open Si35
def PL (x:List Int):List Int:=(x.length:Int)::x
def ou (xs:List (List Int)):List Int:=xs.flatMap PL
theorem Ny {r x t:List Int}(h:Jp r=some (x,t)):r=PL x++t:=by
 match r,h with
 | [],h=>simp[Jp] at h
 | n::r,h =>
  simp only[Jp] at h
  split at h
  ·rename_i hc
   injection h with h
   injection h with h1 h2
   subst h1 h2
   unfold PL
   rw[bP,mI hc.2,qd,k7]
   congr 1
   omega
  ·cases h
theorem AG:∀ {k:Nat} {r:List Int} {xs:List (List Int)} {t:List Int},Ff k r=some (xs,t)→xs.length=k∧r=ou xs++t
 | 0,r,xs,t,h=>by
  unfold Ff at h
  injection h with h
  injection h with h1 h2
  subst h1 h2
  exact ⟨rfl,rfl⟩
 | k+1,r,xs,t,h=>by
  unfold Ff at h
  split at h
  ·cases h
  ·rename_i x s e
   split at h
   ·cases h
   ·rename_i ys u e2
    injection h with h
    injection h with h1 h2
    subst h1 h2
    obtain ⟨l,q⟩:=AG e2
    refine ⟨by simp[l],?_⟩
    rw[Ny e,q]
    simp[ou]
theorem K1 {p:Int}{r:List Int}{c:List (List Int)}{t:List Int}(h:PyFlat.call gE (p::r)=some (c,t)) :
  ∃ n k nums xs,gE p=some (n,k)∧nums.length=n∧xs.length=k∧c=(p::nums)::xs∧r=nums++(ou xs++t):=by
 simp only[PyFlat.call] at h
 split at h
 ·cases h
 ·rename_i n k e
  split at h
  ·cases h
  ·rename_i hl
   split at h
   ·cases h
   ·rename_i xs u e2
    injection h with h
    injection h with h1 h2
    subst h1 h2
    obtain ⟨l,q⟩:=AG e2
    refine ⟨n,k,r.take n,xs,e,by rw[bP];omega,l,rfl,?_⟩
    rw[← q,k7]
def Left (r:List Int)(cs:List (List (List Int))):Prop:=∃ f,p8 gE f r=some cs
theorem N5 {cs:List (List (List Int))}(h:Left [] cs):cs=[]:=by
 obtain ⟨f,h⟩:=h
 cases f<;>(unfold p8 at h;injection h with h;exact h.symm)
theorem Kx {p:Int}{r:List Int}{cs:List (List (List Int))}(h:Left (p::r) cs) :
  ∃ n k nums xs t cs',gE p=some (n,k)∧nums.length=n∧xs.length=k∧r=nums++(ou xs++t)∧cs=((p::nums)::xs)::cs'∧Left t cs':=by
 obtain ⟨f,h⟩:=h
 cases f with
 | zero=>unfold p8 at h;cases h
 | succ f =>
  unfold p8 at h
  split at h
  ·cases h
  ·rename_i c t e
   split at h
   ·cases h
   ·rename_i cs' e2
    injection h with h
    obtain ⟨n,k,nums,xs,h1,h2,h3,h4,h5⟩:=K1 e
    subst h4
    exact ⟨n,k,nums,xs,t,cs',h1,h2,h3,h5,h.symm,f,e2⟩
def gT (c:List (List Int)):Option Call:=rR ((cH c).headD [])
theorem jX {p q:Int}{x o:Option (Nat×Nat)}{n k:Nat}(h:(if p=q then x else o)=some (n,k)):(p=q∧x=some (n,k))∨o=some (n,k):=by
 by_cases e:p=q
 ·rw[if_pos e] at h;exact .inl ⟨e,h⟩
 ·rw[if_neg e] at h;exact .inr h
theorem gk {a b n k:Nat}(h:some (a,b)=some (n,k)):n=a∧k=b:=by
 injection h with h
 injection h with h1 h2
 exact ⟨h1.symm,h2.symm⟩
theorem rm {p:Int}{n k:Nat}(h:gE p=some (n,k)) :
  (p=0∧n=1∧k=0)∨(p=1∧n=3∧k=0)∨(p=2∧n=0∧k=2)∨(p=3∧n=0∧k=1)∨(p=4∧n=0∧k=0)∨(p=5∧n=0∧k=0)∨(p=6∧n=1∧k=0)∨(p=7∧n=1∧k=1)∨(p=8∧n=1∧k=0)∨(p=9∧n=0∧k=1)∨(p=10∧n=0∧k=0)∨(p=11∧n=2∧k=0)∨(p=12∧n=2∧k=0)∨(p=13∧n=0∧k=0):=by
 unfold gE at h
 rcases jX h with ⟨e,q⟩ | h
 ·exact .inl ⟨e,gk q⟩
 rcases jX h with ⟨e,q⟩ | h
 ·exact .inr (.inl ⟨e,gk q⟩)
 rcases jX h with ⟨e,q⟩ | h
 ·exact .inr (.inr (.inl ⟨e,gk q⟩))
 rcases jX h with ⟨e,q⟩ | h
 ·exact .inr (.inr (.inr (.inl ⟨e,gk q⟩)))
 rcases jX h with ⟨e,q⟩ | h
 ·exact .inr (.inr (.inr (.inr (.inl ⟨e,gk q⟩))))
 rcases jX h with ⟨e,q⟩ | h
 ·exact .inr (.inr (.inr (.inr (.inr (.inl ⟨e,gk q⟩)))))
 rcases jX h with ⟨e,q⟩ | h
 ·exact .inr (.inr (.inr (.inr (.inr (.inr (.inl ⟨e,gk q⟩))))))
 rcases jX h with ⟨e,q⟩ | h
 ·exact .inr (.inr (.inr (.inr (.inr (.inr (.inr (.inl ⟨e,gk q⟩)))))))
 rcases jX h with ⟨e,q⟩ | h
 ·exact .inr (.inr (.inr (.inr (.inr (.inr (.inr (.inr (.inl ⟨e,gk q⟩))))))))
 rcases jX h with ⟨e,q⟩ | h
 ·exact .inr (.inr (.inr (.inr (.inr (.inr (.inr (.inr (.inr (.inl ⟨e,gk q⟩)))))))))
 rcases jX h with ⟨e,q⟩ | h
 ·exact .inr (.inr (.inr (.inr (.inr (.inr (.inr (.inr (.inr (.inr (.inl ⟨e,gk q⟩))))))))))
 rcases jX h with ⟨e,q⟩ | h
 ·exact .inr (.inr (.inr (.inr (.inr (.inr (.inr (.inr (.inr (.inr (.inr (.inl ⟨e,gk q⟩)))))))))))
 rcases jX h with ⟨e,q⟩ | h
 ·exact .inr (.inr (.inr (.inr (.inr (.inr (.inr (.inr (.inr (.inr (.inr (.inr (.inl ⟨e,gk q⟩))))))))))))
 rcases jX h with ⟨e,q⟩ | h
 ·exact .inr (.inr (.inr (.inr (.inr (.inr (.inr (.inr (.inr (.inr (.inr (.inr (.inr ⟨e,gk q⟩))))))))))))
 cases h
def nats (l:List Int):List Nat:=l.map j9
def Pc (l:List Nat):List Int:=l.map fun (n:Nat)=>(n:Int)
theorem QJ (l:List Int)(h:∀ z∈l,0≤z):Pc (nats l)=l:=by
 unfold Pc nats
 rw[bx]
 refine (dt fun z hz=>?_).trans (Jr l)
 have:=h z hz
 show ((z.toNat:Nat):Int)=z
 omega
theorem KN (x:Int):gT [[0,x]]=some (.begins x.toNat):=rfl
theorem QY (a b c:Int):gT [[1,a,b,c]]=some (.cost a.toNat b.toNat c.toNat):=rfl
theorem KL (x y:List Int)(hs:(gT [[2],x,y]).isSome=true):gT [[2],x,y]=some (.beside (nats x) (nats y))∧x.length≤12∧y.length≤12:=by
 have e:gT [[2],x,y]=(l8 (x.length::(nats x++nats y))).bind fun z=>if z.2.length≤12 then some (.beside z.1 z.2) else none:=by
  have m:([2]++[(x.length:Int)]++x++y).map j9=2::x.length::(nats x++nats y):=by simp[nats]
  show rR ([2]++[(x.length:Int)]++x++y)=_
  unfold rR
  rw[m]
  rfl
 rw[e] at hs ⊢
 simp only[l8] at hs ⊢
 by_cases h1:x.length≤12∧x.length≤(nats x++nats y).length
 ·rw[if_pos h1] at hs ⊢
  have t1:(nats x++nats y).take x.length=nats x:=by
   rw[show x.length=(nats x).length by simp[nats]]
   exact nF
  have t2:(nats x++nats y).drop x.length=nats y:=by
   rw[show x.length=(nats x).length by simp[nats]]
   exact iu
  rw[o5,t1,t2] at hs ⊢
  by_cases h2:(nats y).length≤12
  ·exact ⟨if_pos h2,h1.1,by simpa [nats] using h2⟩
  ·rw[if_neg h2] at hs
   cases hs
 ·rw[if_neg h1] at hs
  cases hs
theorem QU (x:List Int):gT [[3],x]=(jf 12 (nats x)).map fun c=>.word c:=rfl
theorem EN:gT [[4]]=some .patterns:=rfl
theorem QX:gT [[5]]=some .olds:=rfl
theorem KJ (k:Int):gT [[6,k]]=some (.reflex k.toNat):=rfl
theorem EO (i:Int)(x:List Int):gT [[7,i],x]=(hC 12 (nats x)).map fun l=>.expected i.toNat l:=rfl
theorem Ob (k:Int):gT [[8,k]]=some (.leave k.toNat):=rfl
theorem QV (x:List Int):gT [[9],x]=(je 8 (nats x)).bind fun t=>match t.2 with
  | []=>some (.tree t.1)
  | _=>none:=rfl
theorem Oa:gT [[10]]=some .score:=rfl
theorem QW (w c:Int):gT [[11,w,c]]=some (.root w.toNat c.toNat):=rfl
theorem KI (w c:Int):gT [[12,w,c]]=some (.states w.toNat c.toNat):=rfl
theorem QZ:gT [[13]]=some .best:=rfl
def cY (s:St)(q:Call):List Int:=(bz s q).2.v::(bz s q).2.l
theorem P8 {s:St}{c:List (List Int)}{q:Call}(h:gT c=some q):hZ s (cH c)=((bz s q).1,cY s q):=by
 unfold gT at h
 unfold hZ
 rw[h]
 rfl
def JK (c:lR):List Nat:=c.env::c.sounds.length::c.sounds
theorem A4:∀ {k:Nat} {r:List Nat} {w:List lR},jf k r=some w→r=w.flatMap JK∧w.length≤k∧∀ c∈w,c.sounds.length≤12
 | k,[],w,h=>by
  have:w=[]:=by cases k<;>(unfold jf at h;injection h with h;exact h.symm)
  subst this
  exact ⟨rfl,aS _,fun _ h=>by simp at h⟩
 | 0,_::_,w,h=>by unfold jf at h;cases h
 | k+1,e::r,w,h=>by
  unfold jf at h
  match r,h with
  | [],h=>simp[l8] at h
  | n::r,h =>
   simp only[l8] at h
   by_cases hc:n≤12∧n≤r.length
   ·rw[if_pos hc,o5] at h
    obtain ⟨l,hl,rfl⟩:=dB.mp h
    obtain ⟨q1,q2,q3⟩:=A4 hl
    have e1:(r.take n).length=n:=by rw[bP];omega
    refine ⟨?_,by simp;exact q2,fun c hc'=>?_⟩
    ·rw[bQ,← q1]
     show e::n::r=e::(r.take n).length::(r.take n)++r.drop n
     rw[e1]
     simp
    ·rcases aI.mp hc' with rfl | hc'
     ·show (r.take n).length≤12
      omega
     ·exact q3 c hc'
   ·rw[if_neg hc] at h
    cases h
theorem zi:∀ {k:Nat} {r:List Nat} {l:List (Nat×Nat)},hC k r=some l→(r=l.flatMap fun p=>[p.1,p.2])∧l.length≤k
 | k,[],l,h=>by
  have:l=[]:=by cases k<;>(unfold hC at h;injection h with h;exact h.symm)
  subst this
  exact ⟨rfl,aS _⟩
 | 0,_::_,l,h=>by simp[hC] at h
 | k+1,[a],l,h=>by simp[hC] at h
 | k+1,a::b::r,l,h=>by
  unfold hC at h
  obtain ⟨m,hm,rfl⟩:=dB.mp h
  obtain ⟨q1,q2⟩:=zi hm
  refine ⟨?_,by simp;exact q2⟩
  rw[bQ,← q1]
  rfl
def depth:Tree→Nat
 | .leaf _=>1
 | .node a b=>max (depth a) (depth b)+1
theorem vL:∀ {k:Nat} {r:List Nat} {t:Tree} {u:List Nat},je k r=some (t,u)→r=t.out++u∧depth t≤k
 | 0,r,t,u,h=>by unfold je at h;cases h
 | k+1,r,t,u,h=>by
  unfold je at h
  split at h
  ·cases h
  ·injection h with h
   injection h with h1 h2
   subst h1 h2
   exact ⟨rfl,by simp[depth]⟩
  ·rename_i k' r' _
   rename_i e
   cases e
   obtain ⟨⟨a,r1⟩,ha,h⟩:=ik.mp h
   obtain ⟨⟨b,r2⟩,hb,h⟩:=dB.mp h
   injection h with h1 h2
   subst h1 h2
   obtain ⟨q1,d1⟩:=vL ha
   obtain ⟨q2,d2⟩:=vL hb
   refine ⟨?_,by simp[depth];omega⟩
   simp only at q1 q2
   rw[q1,q2]
   simp[Tree.out]
  ·cases h
end Sk
namespace Sk
open PySem PySem.Spec PyProof.Rows L2
theorem aJ {α:Type}{A Q:α→Prop}{v:α}(a:A v)(q:Q v):∃ v,A v∧Q v:=⟨v,a,q⟩
theorem oj:1≤aP:=by decide
theorem Bm:2≤aP:=by decide
theorem tM {K:ai}{H:Hp}{p C dx:aj}{fs:List (bZ×V)}{f:bZ}{v:V}{Q:V→Prop}(i:H p=some (.ins C dx fs))(c:Lz K C)(n:kH K C f)(l:fs.lookup f=some v)(q:Q v):∃ a C dx fs v,V.ref p=.ref a∧H a=some (.ins C dx fs)∧Lz K C∧kH K C f∧fs.lookup f=some v∧Q v:=⟨p,C,dx,fs,v,rfl,i,c,n,l,q⟩
theorem Bl {H:Hp}{p C dx:aj}{fs:List (bZ×V)}{m:bZ}{R:Prop}(i:H p=some (.ins C dx fs))(l:fs.lookup m=none)(q:R):∃ a dx fs,V.ref p=.ref a∧H a=some (.ins C dx fs)∧fs.lookup m=none∧R:=⟨p,dx,fs,rfl,i,l,q⟩
theorem iJ {S:aj→List V→Prop}{xs:List V}{Q:V→Prop}(p:aj)(i:Int)(v:V)(s:S p xs)(e:Fe xs i=some v)(q:Q v):∃ p' xs i' v,V.ref p=.ref p'∧V.int i=.int i'∧S p' xs∧Fe xs i'=some v∧Q v:=⟨p,xs,i,v,rfl,rfl,s,e,q⟩
theorem kG {N P:List bZ}{sc:jv}(h1:sc.kind=.function:=by rfl)(h2:sc.isCoroutine=false:=by rfl)(h3:sc.isGenerator=false:=by rfl)(h4:N.Nodup:=by decide +kernel)(h5:N.take P.length=P:=by rfl)(h6:∀ x∈P,sc.names.lookup x=some .local∨sc.names.lookup x=some .cell:=by decide +kernel)(h7:∀ y∈sc.names,y.2≠.free:=by decide +kernel):bX N P sc:=⟨h1,h2,h3,h4,h5,h6,h7⟩
abbrev iv (n:Nat):V:=.int (n:Int)
abbrev eX (l:List Nat):List V:=l.map iv
theorem tS {x:List Nat}{i:Nat}(h:i<x.length):(eX x)[i]?=some (iv x[i]):=by
 rw[aO,aD h]
 rfl
def k2 (a b:Nat):List eF:=[.inl (.inl (a:Int)),.inl (.inl (b:Int))]
theorem MD {a b c d:Nat}(h:k2 a b=k2 c d):a=c∧b=d:=by
 unfold k2 at h
 injection h with h1 h2
 injection h2 with h2 _
 injection h1 with h1
 injection h1 with h1
 injection h2 with h2
 injection h2 with h2
 omega
theorem US {H:Hp}{p:aj}{a b:Nat}(h:H p=some (.tup [iv a,iv b])):lD H p (k2 a b):=⟨_,h,.cons rfl (.cons rfl .nil)⟩
theorem _root_.L2.aM.new {H:Hp}{p:aj}{o:HO}(h:H p=none):aM H (upd H p o):=fun b u e=>by
 rw[aW (dj e h)]
 exact e
theorem _root_.L2.aM.tup {K:ai}{H H':Hp}{a:aj}{xs:List V}(e:aM H H')(h:fR K H a xs):fR K H' a xs:=by
 rcases h with (h | ⟨o,h⟩) | h
 ·exact .inl (.inl (e _ _ h))
 ·exact .inl (.inr ⟨o,e _ _ h⟩)
 ·exact .inr h
theorem _root_.L2.aM.upd {H H':Hp}{p:aj}{o:HO}(s:aM H H')(h:H p=none):aM H (upd H' p o):=fun b u e=>by
 rw[aW (dj e h)]
 exact s _ _ e
theorem iP {t u:TS}{D:Ends}{σ:L2.St}{H:Hp}(C:L2.St→Hp→Prop)(h1:∀ N:L2.St→Hp→Prop,(∀ σ' H',C σ' H'→N σ' H')→t {D with nx:=N} σ H)(h2:∀ σ' H',C σ' H'→u D σ' H'):om t u D σ H:=h1 (u D) h2
theorem VM {c A B:Prop}[Decidable c](h:c)(q:A):if decide c=true then A else B:=by
 rw[decide_eq_true h]
 exact pd q
theorem VN {c A B:Prop}[Decidable c](h:¬ c)(q:B):if decide c=true then A else B:=by
 rw[decide_eq_false h]
 exact nN q
theorem sj {te:TE}{i:Nat}{u:TS}{D:Ends}{σ:L2.St}{H:Hp}(h:∀ N:L2.St→Hp→Prop,(∀ σ H,u D σ H→N σ H)→te σ H fun x H1=>N (σ.set i (some x)) H1):om (LP te (mY i)) u D σ H:=h (u D) fun _ _ h=>h
theorem Ir {t u:TS}{D:Ends}{σ:L2.St}{H:Hp}(h:∀ N:L2.St→Hp→Prop,(∀ σ H,u D σ H→N σ H)→t {D with nx:=N} σ H):om t u D σ H:=h (u D) fun _ _ h=>h
theorem cQ {te:TE}{i:Nat}{u:TS}{D:Ends}{σ:L2.St}{H:Hp}(h:te σ H fun x H1=>u D (σ.set i (some x)) H1):om (LP te (mY i)) u D σ H:=h
def iR (H:Hp)(c:aj)(l:dw):Prop :=
 ∃ kvs:List (List eF×V),H c=some (.dT kvs)∧kvs.length≤l.length∧∀ a b:Nat,kg kvs (k2 a b)=(l.find? fun x=>x.1==a&&x.2.1==b).map fun x=>iv x.2.2
theorem iR.same {H H':Hp}{c:aj}{l:dw}(h:iR H c l)(s:aM H H'):iR H' c l:=let ⟨k,e,r⟩:=h;⟨k,s _ _ e,r⟩
def qQ (r:Pg):List V:=r.flatMap fun p=>[iv p.1,iv p.2]
theorem A2 (r:Pg):(qQ r).length=2*r.length:=by
 induction r with
 | nil=>rfl
 | cons p r ih=>simp[qQ] at ih ⊢;omega
def gP (H:Hp)(a:aj)(b:cW):Prop:=∃ p,H a=some (.tup [iv b.cost,iv b.many,.ref p])∧H p=some (.lst (qQ b.first))
theorem gP.same {H H':Hp}{a:aj}{b:cW}(h:gP H a b)(s:aM H H'):gP H' a b:=let ⟨p,e,r⟩:=h;⟨p,s _ _ e,s _ _ r⟩
structure S5 (K:ai)(mg:bZ→Option ag):Prop where
 ns:∃ t,mg "NO_SOUND"=some (.int 1 t)
 cu:∃ t,mg "COST_UNTOLD"=some (.int 10 t)
def yI:Sp:=fun vs H Q _=>∃ (c:aj) (a b:Nat) (l:dw),vs=[.ref c,iv a,iv b]∧iR H c l∧∀ H',aM H H'→Q (iv (iU l a b)) H'
def FA:Sp:=fun vs H Q _=>∃ (a b:Nat) (r c:aj) (l:dw) (d:cW),vs=[iv a,iv b,.ref r,.ref c]∧iR H c l∧gP H r d∧d.first.length≤100 ∧
 ∀ H' p q,aM H H'→H q=none→H' p=some (.tup [iv (d.with_ (iU l a b) (a,b)).cost,iv d.many,.ref q])→H' q=some (.lst (qQ ((a,b)::d.first)))→Q (.ref p) H'
section
variable {P:aV}{w:bK}{K:ai}{mg:bZ→Option ag}{base:bW}
theorem Nt:bX ["costs","one","other"] ["costs","one","other"] (bB xR):=kG
theorem Kp {f:aj}{fd:bH}(F:jb K "change_cost" "change_cost" xR f fd)(T:S5 K mg):cP P w K mg base fG 1 f fd ["costs","one","other"] yI:=by
 obtain ⟨tc,hcu⟩:=T.cu
 refine F.ok Nt (fun vs H Q E h=>?_) (fun gq A outer s H vs Q E hr h=>?_)
 ·obtain ⟨c,a,b,l,rfl,_⟩:=h
  rfl
 ·obtain ⟨c,a,b,l,rfl,⟨kvs,hc,hlen,hv⟩,k⟩:=h
  refine ⟨_,aR (bO (DY (wB hr) (pv 0) (jw (ah (pv 1) (ah (pv 2) aA)))
   (yM (bU gC (pv 1) (pv 2) (cq _)) aZ (cg (v:=.int 10) rfl hcu ⟨_,rfl⟩)) ⟨rfl,rfl,rfl,rfl⟩)),?_⟩
  refine aJ rfl ⟨c,rfl,.inr ⟨kvs,.inl hc⟩,aJ rfl (aJ rfl ⟨Bm,fun t ht=>?_⟩)⟩
  have s1:aM H (upd H t (.tup [iv a,iv b])):=aM.new ht
  have hd:ux (upd H t (.tup [iv a,iv b])) c (.ref t) (kg kvs (k2 a b)):=ux.t (s1 _ _ hc) (US aw)
  rw[hv a b] at hd
  refine aJ rfl (aJ rfl ⟨rfl,aJ rfl ?_⟩)
  have fin:∀ d:Nat,d=(if a=b then 0 else 10)→∃ o,ux (upd H t (.tup [iv a,iv b])) c (.ref t) o∧Q (o.getD (iv d)) (upd H t (.tup [iv a,iv b])):=fun d e=>by
   refine ⟨_,hd,?_⟩
   have:=k _ s1
   unfold iU at this
   cases q:l.find? fun x=>x.1==a&&x.2.1==b with
   | some x=>rw[q] at this;exact this
   | none=>rw[q] at this;rw[e];exact this
  refine gI (fun hc=>?_) fun hc=>?_
  ·have e:a=b:=by
    have q:iv a=iv b:=of_decide_eq_true hc
    injection q with q
    omega
   exact fin 0 (by rw[if_pos e])
  ·have e:¬ a=b:=fun z=>hc (by rw[z];exact decide_eq_true rfl)
   exact fin 10 (by rw[if_neg e])
theorem Ts:bX ["one","other","rest","costs"] ["one","other","rest","costs"] (bB Hv):=kG
theorem Qq {f fc:aj}{fd fdc:bH}(F:jb K "with_pair" "with_pair" Hv f fd)(G:cP P w K mg base fG 1 fc fdc ["costs","one","other"] yI)(mc:mg "change_cost"=some (.ref fc))(kc:aQ K (.ref fc)=true)(bc:Binds K fdc ["costs","one","other"] []) :
  cP P w K mg base fG 2 f fd ["one","other","rest","costs"] FA:=by
 refine F.ok Ts (fun vs H Q E h=>?_) (fun gq A outer s H vs Q E hr h=>?_)
 ·obtain ⟨a,b,r,c,l,d,rfl,_⟩:=h
  rfl
 ·obtain ⟨a,b,r,c,l,d,rfl,hc,⟨q,nY,hr2⟩,hl,k⟩:=h
  refine ⟨_,aR (bO (jw (ah (d4 eO (cj G hr rfl mc kc bc .nil cU (ah (pv 3) (ah (pv 0) (ah (pv 1) aA)))) (cA dR (pv 2) aZ (fun _ _=>rfl)))
   (ah (cA dR (pv 2) aZ (fun _ _=>rfl)) (ah (d4 jx (cS (ah (pv 0) (ah (pv 1) aA))) (cA dR (pv 2) aZ (fun _ _=>rfl))) aA))))),?_⟩
  refine aJ rfl (aJ rfl (aJ rfl ⟨c,a,b,l,rfl,hc,fun H1 s1=>?_⟩))
  refine aJ rfl (iJ r 0 _ (fR.of (s1 _ _ nY)) (cp (j:=0) rfl) ⟨_,aJ rfl ⟨rfl,?_⟩⟩)
  refine aJ rfl (iJ r 1 _ (fR.of (s1 _ _ nY)) (cp (j:=1) rfl) ?_)
  refine aJ rfl (aJ rfl ⟨Bm,fun t ht=>?_⟩)
  have s2:aM H1 (upd H1 t (.lst [iv a,iv b])):=aM.new ht
  refine aJ rfl (iJ r 2 _ (fR.of (s2 _ _ (s1 _ _ nY))) (cp (j:=2) rfl) ?_)
  refine ⟨t,q,_,aJ rfl ⟨rfl,aw,s2 _ _ (s1 _ _ hr2),?_,fun p hp=>?_⟩⟩
  ·rw[A2]
   exact aB (show 2+2*d.first.length≤202 by omega) (by decide)
  ·refine ⟨(by show 3≤aP;decide),fun p2 hp2=>?_⟩
   have s3:=aM.new (o:=.lst ([iv a,iv b]++qQ d.first)) hp
   refine k _ p2 p (((s1.trans s2).trans s3).trans (aM.new hp2)) ((s1.trans s2).free hp) ?_ ?_
   ·rw[aw]
    rfl
   ·rw[aW (dj aw hp2),aw]
    rfl
end
def Vq (H:Hp)(p:aj)(cs:List cW):Prop:=∃ rs:List aj,H p=some (.lst (rs.map V.ref))∧Paired (gP H) rs cs
theorem rB {H H':Hp}(s:aM H H'):∀ {rs:List aj} {cs:List cW},Paired (gP H) rs cs→Paired (gP H') rs cs
 | _,_,.nil=>.nil
 | _,_,.cons a t=>.cons (a.same s) (rB s t)
def iY (p:aj)(H:Hp)(a:aj)(b:cW):Prop:=∃ q,q≠p∧H a=some (.tup [iv b.cost,iv b.many,.ref q])∧H q=some (.lst (qQ b.first))
theorem iY.at_ {p a:aj}{H:Hp}{b:cW}(h:iY p H a b):gP H a b:=let ⟨q,_,e,f⟩:=h;⟨q,e,f⟩
theorem iY.same {p a:aj}{H H':Hp}{b:cW}(h:iY p H a b)(s:aM H H'):iY p H' a b:=let ⟨q,n,e,f⟩:=h;⟨q,n,s _ _ e,s _ _ f⟩
theorem iY.upd {p a:aj}{H:Hp}{b:cW}{xs ys:List V}(h:iY p H a b)(hp:H p=some (.lst xs)):iY p (upd H p (.lst ys)) a b:=by
 obtain ⟨q,n,e,f⟩:=h
 refine ⟨q,n,?_,?_⟩
 ·rw[aW (ir e hp (by intro z;cases z))]
  exact e
 ·rw[aW n]
  exact f
theorem Iu {p:aj}{H:Hp}:∀ {rs:List aj} {cs:List cW},Paired (iY p H) rs cs→Paired (gP H) rs cs
 | _,_,.nil=>.nil
 | _,_,.cons a t=>.cons a.at_ (Iu t)
theorem vO {p:aj}{H H2:Hp}(s:aM H H2):∀ {rs:List aj} {cs:List cW},Paired (iY p H) rs cs→Paired (iY p H2) rs cs
 | _,_,.nil=>.nil
 | _,_,.cons a t=>.cons (a.same s) (vO s t)
theorem Cr (l:dw)(x y:List Nat)(i j:Nat):(Jy l x y i j).length≤1:=by
 unfold Jy
 cases x[i]?<;>cases y[j]?<;>simp
theorem Jf (l:dw)(x y:List Nat)(i j:Nat):(LK l x y i j).length≤1:=by
 unfold LK
 cases x[i]?<;>simp
theorem AB {p r:aj}{H H2:Hp}{b:cW}{xs ys:List V}(s:aM H H2)(hp:H2 p=some (.lst xs))(hb:iY p H2 r b):∀ {rs:List aj} {cs:List cW},Paired (iY p H) rs cs→Paired (iY p (upd H2 p (.lst ys))) (rs++[r]) (cs++[b])
 | _,_,.nil=>.cons (hb.upd hp) .nil
 | _,_,.cons a t=>.cons ((a.same s).upd hp) (AB s hp hb t)
def Rt (H:Hp)(kn:aj)(l:dw)(x y:List Nat)(S:Nat→Nat→Prop):Prop :=
 ∃ kvs:List (List eF×V),H kn=some (.dT kvs)∧∀ a b,S a b→∃ r,kg kvs (k2 a b)=some (.ref r)∧gP H r (Pd l x y a b)
theorem Cs (l:dw)(x y:List Nat)(i j:Nat)(hx:x.length≤6)(hy:y.length≤6):(Pd l x y i j).first.length≤100:=by
 have:=zE l ((x.drop i).length+(y.drop j).length) (x.drop i) (y.drop j)
 have h1:(x.drop i).length≤6:=by rw[cv];omega
 have h2:(y.drop j).length≤6:=by rw[cv];omega
 unfold Pd fB
 omega
def After (x y:List Nat)(i j a b:Nat):Prop:=i≤a∧j≤b∧a≤x.length∧b≤y.length∧¬ (a=i∧b=j)
def Ay (K:ai):Sp:=fun vs H Q _=>∃ (px py kn c:aj) (x y:List Nat) (i j:Nat) (l:dw),vs=[.ref px,.ref py,iv i,iv j,.ref kn,.ref c]∧cI K H px (eX x)∧cI K H py (eX y)∧x.length≤6∧y.length≤6 ∧
 i≤x.length∧j≤y.length∧iR H c l∧Rt H kn l x y (After x y i j)∧∀ H' p,aM H H'→Vq H' p (zX l x y i j)→Q (.ref p) H'
section
variable {P:aV}{w:bK}{K:ai}{mg:bZ→Option ag}{base:bW}
theorem AE:bX ["first","second","i","j","known","costs","found"] ["first","second","i","j","known","costs"] (bB uS):=kG
theorem VL {a b:Nat}:decide (iv a=V.int (b:Int))=decide (a=b):=decide_eq_decide.mpr ⟨fun h=>by injection h with h;omega,fun h=>by rw[h]⟩
theorem GC {f fw:aj}{fd fdw:bH}(F:jb K "choices_at" "choices_at" uS f fd)(T:S5 K mg)(hln:mg "len"=none)(G:cP P w K mg base fG 2 fw fdw ["one","other","rest","costs"] FA)(mw:mg "with_pair"=some (.ref fw))(kw:aQ K (.ref fw)=true)(bw:Binds K fdw ["one","other","rest","costs"] []) :
  cP P w K mg base fG 3 f fd ["first","second","i","j","known","costs"] (Ay K):=by
 obtain ⟨tn,hns⟩:=T.ns
 refine F.ok AE (fun vs H Q E h=>?_) (fun gq A outer s H vs Q E hr h=>?_)
 ·obtain ⟨px,py,kn,c,x,y,i,j,l,rfl,_⟩:=h
  rfl
 ·obtain ⟨px,py,kn,c,x,y,i,j,l,rfl,hx,hy,lx,ly,hi,hj,hc,hk,k⟩:=h
  have hu:=wB hr
  refine ⟨_,aE (eG (pj (bU gC (pv 2) (bR bG (by rfl) hln bj (ah (pv 0) aA)) (cq _)) (pC (bU gC (pv 3) (bR bG (by rfl) hln bj (ah (pv 1) aA)) (cq _)))).pt
    (aR (bO (cS (ah (jw (ah aZ (ah aZ (ah (cS aA) aA)))) aA)))) cX)
   (aE (cy (i:=6) AE.nd rfl (bp rfl) (cS aA))
   (aE (eG (pj (bU wz (pv 2) (bR bG (by rfl) hln bj (ah (pv 0) aA)) (cq _)) (pC (bU wz (pv 3) (bR bG (by rfl) hln bj (ah (pv 1) aA)) (cq _)))).pt
    (aR (fT (jU bN cE cD gG (pv 6) (ah (cj G hr rfl mw kw bw .nil cU (ah (cA cM (pv 0) (pv 2) (fun _ _=>rfl)) (ah (cA cM (pv 1) (pv 3) (fun _ _=>rfl)) (ah (xX hu (pv 4) (jw (ah (d4 eO (pv 2) aZ) (ah (d4 eO (pv 3) aZ) aA))) (fun _ _=>rfl)) (ah (pv 5) aA))))) aA)))) cX)
   (aE (eG (bU wz (pv 2) (bR bG (by rfl) hln bj (ah (pv 0) aA)) (cq _))
    (aR (fT (jU bN cE cD gG (pv 6) (ah (cj G hr rfl mw kw bw .nil cU (ah (cA cM (pv 0) (pv 2) (fun _ _=>rfl)) (ah (cg (v:=.int 1) rfl hns ⟨_,rfl⟩) (ah (xX hu (pv 4) (jw (ah (d4 eO (pv 2) aZ) (ah (pv 3) aA))) (fun _ _=>rfl)) (ah (pv 5) aA))))) aA)))) cX)
   (aE (eG (bU wz (pv 3) (bR bG (by rfl) hln bj (ah (pv 1) aA)) (cq _))
    (aR (fT (jU bN cE cD gG (pv 6) (ah (cj G hr rfl mw kw bw .nil cU (ah (cg (v:=.int 1) rfl hns ⟨_,rfl⟩) (ah (cA cM (pv 1) (pv 3) (fun _ _=>rfl)) (ah (xX hu (pv 4) (jw (ah (pv 2) (ah (d4 eO (pv 3) aZ) aA))) (fun _ _=>rfl)) (ah (pv 5) aA))))) aA)))) cX)
   (aR (bO (pv 6))))))),?_⟩
  have lx':((eX x).length:Int)=(x.length:Int):=by rw[ae]
  have ly':((eX y).length:Int)=(y.length:Int):=by rw[ae]
  have eqd:∀ {m n:Nat} {z:Int},z=(n:Int)→(decide (iv m=V.int z)=true↔m=n):=fun {m n z} e=>by
   rw[e,decide_eq_true_iff]
   exact ⟨fun h=>by injection h with h;omega,fun h=>by rw[h]⟩
  have ltd:∀ {m n:Nat} {z:Int},z=(n:Int)→(decide ((m:Int)<z)=true↔m<n):=fun {m n z} e=>by
   rw[e,decide_eq_true_iff]
   omega
  refine iP (fun σ' H'=>σ'=start ["first","second","i","j","known","costs","found"] [.ref px,.ref py,iv i,iv j,.ref kn,.ref c]∧H'=H∧¬ (i=x.length∧j=y.length)) (fun _ go=>?_) ?_
  ·refine aJ rfl (aJ rfl ⟨px,aJ rfl ⟨.inl hx,rfl,aJ rfl ?_⟩⟩)
   refine gI (fun h1=>?_) fun h1=>?_
   ·refine aJ rfl (aJ rfl ⟨py,aJ rfl ⟨.inl hy,rfl,aJ rfl ?_⟩⟩)
    refine gI (fun h2=>?_) fun h2=>?_
    ·have e1:=(eqd lx').mp h1
     have e2:=(eqd ly').mp h2
     refine ⟨aS _,fun q hq=>⟨(by show 3≤aP;decide),fun t ht=>⟨oj,fun p hp=>?_⟩⟩⟩
     refine k _ p (((aM.new hq).trans (aM.new ht)).trans (aM.new hp)) ?_
     unfold zX
     rw[if_pos ⟨e1,e2⟩]
     exact ⟨[t],aw,.cons ⟨q,aM.new hp _ _ aw,aM.new hp _ _ (aM.new ht _ _ aw)⟩ .nil⟩
    ·exact go _ _ ⟨rfl,rfl,fun z=>h2 ((eqd ly').mpr z.2)⟩
   ·exact nN (go _ _ ⟨rfl,rfl,fun z=>h1 ((eqd lx').mpr z.1)⟩)
  rintro σ' H' ⟨rfl,rfl,ne⟩
  refine cQ ⟨aS _,fun p hp=>?_⟩
  obtain ⟨kvs,hkn,hkv⟩:=hk
  have push:∀ (H1:Hp) (rs:List aj) (cs:List cW) (a b:Nat) (r:aj) (d:cW) (R:Hp→Prop),aM H' H1→H1 p=some (.lst (rs.map V.ref))→Paired (iY p H1) rs cs→cs.length≤3→gP H1 r d→d.first.length≤100→(∀ H2 rs2,aM H' H2→H2 p=some (.lst (rs2.map V.ref))→Paired (iY p H2) rs2 (cs++[d.with_ (iU l a b) (a,b)])→R H2) →
    FA ([iv a,iv b,.ref r,.ref c]++[]) H1 (fun y H2=>∃ l_1 xs y_1,V.ref p=V.ref l_1∧[y]=[y_1]∧H2 l_1=some (.lst xs)∧xs.length<aP∧R (upd H2 l_1 (.lst (xs++[y_1])))) E0:=by
   intro H1 rs cs a b r d R s1 h1 pr lc hd ld fin
   refine ⟨a,b,r,c,l,d,rfl,hc.same s1,hd,ld,fun H2 t q s2 hq e1 e2=>?_⟩
   refine ⟨p,_,aJ rfl ⟨rfl,s2 _ _ h1,?_,?_⟩⟩
   ·rw[ae,bC pr]
    exact aF lc (by decide)
   ·refine fin _ (rs++[t]) ((s1.trans s2).upd hp) (by rw[aw,ba];rfl) ?_
    exact AB s2 (s2 _ _ h1) ⟨q,(dj h1 hq).symm,e1,e2⟩ pr
  let st:L2.St:=[some (.ref px),some (.ref py),some (iv i),some (iv j),some (.ref kn),some (.ref c),some (.ref p)]
  let Mid:List cW→L2.St→Hp→Prop:=fun cs σ H1=>σ=st∧∃ rs:List aj,aM H' H1∧H1 p=some (.lst (rs.map V.ref))∧Paired (iY p H1) rs cs
  have hch:zX l x y i j=Jy l x y i j++LK l x y i j++Pz l x y i j:=by
   unfold zX
   rw[if_neg ne]
  have look:∀ (H1:Hp) (a b:Nat) (t:aj),aM H' H1→After x y i j a b→H1 t=some (.tup [iv a,iv b])→∃ r,ux H1 kn (.ref t) (some (.ref r))∧gP H1 r (Pd l x y a b):=fun H1 a b t s1 af ht=>by
   obtain ⟨r,e1,e2⟩:=hkv a b af
   exact ⟨r,e1▸ux.t (s1 _ _ hkn) (US ht),e2.same s1⟩
  have s0:aM H' (upd H' p (.lst [])):=aM.new hp
  refine iP (Mid (Jy l x y i j)) (fun _ go=>?_) ?_
  ·refine aJ rfl (aJ rfl ⟨px,aJ rfl ⟨.inl (s0.seq hx),_,aJ rfl ⟨rfl,aJ rfl ?_⟩⟩⟩)
   refine gI (fun h1=>?_) fun h1=>?_
   ·have h1':=(ltd lx').mp h1
    refine aJ rfl (aJ rfl ⟨py,aJ rfl ⟨.inl (s0.seq hy),_,aJ rfl ⟨rfl,aJ rfl ?_⟩⟩⟩)
    refine gI (fun h2=>?_) fun h2=>?_
    ·have h2':=(ltd ly').mp h2
     refine aJ rfl ⟨.inl ⟨rfl,_,cI.of aw⟩,?_⟩
     refine aJ rfl (aJ rfl ⟨px,_,_,aJ rfl ⟨rfl,s0.seq hx,cp (tS h1'),?_⟩⟩)
     refine aJ rfl (aJ rfl ⟨py,_,_,aJ rfl ⟨rfl,s0.seq hy,cp (tS h2'),?_⟩⟩)
     refine aJ rfl (aJ rfl ⟨_,aJ rfl ⟨rfl,aJ rfl ⟨_,aJ rfl ⟨rfl,Bm,fun t ht=>?_⟩⟩⟩⟩)
     have s1:aM (upd H' p (.lst [])) (upd (upd H' p (.lst [])) t (.tup [iv (i+1),iv (j+1)])):=aM.new ht
     obtain ⟨r,g,hb⟩:=look _ (i+1) (j+1) t (s0.trans s1) ⟨by omega,by omega,by omega,by omega,by omega⟩ aw
     refine ⟨kn,aJ rfl ⟨g,aJ rfl ?_⟩⟩
     refine push _ [] [] x[i] y[j] r _ _ (s0.trans s1) (s1 _ _ aw) .nil (by decide) hb (Cs l x y _ _ lx ly) fun H2 rs2 s2 e2 p2=>go _ _ ⟨rfl,rs2,s2,e2,?_⟩
     unfold Jy
     rw[aD h1',aD h2']
     exact p2
    ·refine go _ _ ⟨rfl,[],s0,aw,?_⟩
     unfold Jy
     rw[bJ (l:=y) (by have:¬ j<y.length:=fun z=>h2 ((ltd ly').mpr z);omega)]
     cases x[i]?<;>exact .nil
   ·refine nN (go _ _ ⟨rfl,[],s0,aw,?_⟩)
    unfold Jy
    rw[bJ (l:=x) (by have:¬ i<x.length:=fun z=>h1 ((ltd lx').mpr z);omega)]
    exact .nil
  rintro σ1 H1 ⟨rfl,rs1,s1,e1,p1⟩
  refine iP (Mid (Jy l x y i j++LK l x y i j)) (fun _ go=>?_) ?_
  ·refine aJ rfl (aJ rfl ⟨px,aJ rfl ⟨.inl (s1.seq hx),_,aJ rfl ⟨rfl,aJ rfl ?_⟩⟩⟩)
   refine gI (fun h1=>?_) fun h1=>?_
   ·have h1':=(ltd lx').mp h1
    refine aJ rfl ⟨.inl ⟨rfl,_,cI.of e1⟩,?_⟩
    refine aJ rfl (aJ rfl ⟨px,_,_,aJ rfl ⟨rfl,s1.seq hx,cp (tS h1'),?_⟩⟩)
    refine aJ rfl (aJ rfl ⟨_,aJ rfl ⟨rfl,aJ rfl ⟨Bm,fun t ht=>?_⟩⟩⟩)
    have s2:aM H1 (upd H1 t (.tup [iv (i+1),iv j])):=aM.new ht
    obtain ⟨r,g,hb⟩:=look _ (i+1) j t (s1.trans s2) ⟨by omega,by omega,by omega,by omega,by omega⟩ aw
    refine ⟨kn,aJ rfl ⟨g,aJ rfl ?_⟩⟩
    refine push _ rs1 (Jy l x y i j) x[i] 1 r _ _ (s1.trans s2) (s2 _ _ e1) (vO s2 p1) ?_ hb (Cs l x y _ _ lx ly) fun H2 rs2 s2 e2 p2=>go _ _ ⟨rfl,rs2,s2,e2,?_⟩
    ·exact aB (Cr l x y i j) (by decide)
    ·unfold LK
     rw[aD h1']
     exact p2
   ·refine go _ _ ⟨rfl,rs1,s1,e1,?_⟩
    unfold LK
    rw[bJ (l:=x) (by have:¬ i<x.length:=fun z=>h1 ((ltd lx').mpr z);omega),bY]
    exact p1
  rintro σ2 H2 ⟨rfl,rs2,s2,e2,p2⟩
  refine iP (Mid (Jy l x y i j++LK l x y i j++Pz l x y i j)) (fun _ go=>?_) ?_
  ·refine aJ rfl (aJ rfl ⟨py,aJ rfl ⟨.inl (s2.seq hy),_,aJ rfl ⟨rfl,aJ rfl ?_⟩⟩⟩)
   refine gI (fun h1=>?_) fun h1=>?_
   ·have h1':=(ltd ly').mp h1
    refine aJ rfl ⟨.inl ⟨rfl,_,cI.of e2⟩,?_⟩
    refine aJ rfl (aJ rfl ⟨py,_,_,aJ rfl ⟨rfl,s2.seq hy,cp (tS h1'),?_⟩⟩)
    refine aJ rfl (aJ rfl (aJ rfl ⟨_,aJ rfl ⟨rfl,Bm,fun t ht=>?_⟩⟩))
    have s3:aM H2 (upd H2 t (.tup [iv i,iv (j+1)])):=aM.new ht
    obtain ⟨r,g,hb⟩:=look _ i (j+1) t (s2.trans s3) ⟨by omega,by omega,by omega,by omega,by omega⟩ aw
    refine ⟨kn,aJ rfl ⟨g,aJ rfl ?_⟩⟩
    refine push _ rs2 (Jy l x y i j++LK l x y i j) 1 y[j] r _ _ (s2.trans s3) (s3 _ _ e2) (vO s3 p2) ?_ hb (Cs l x y _ _ lx ly) fun H4 rs4 s4 e4 p4=>go _ _ ⟨rfl,rs4,s4,e4,?_⟩
    ·rw[aK]
     have:=Cr l x y i j
     have:=Jf l x y i j
     omega
    ·unfold Pz
     rw[aD h1']
     exact p4
   ·refine go _ _ ⟨rfl,rs2,s2,e2,?_⟩
    unfold Pz
    rw[bJ (l:=y) (by have:¬ j<y.length:=fun z=>h1 ((ltd ly').mpr z);omega),bY]
    exact p2
  rintro σ3 H3 ⟨rfl,rs3,s3,e3,p3⟩
  refine aJ rfl ?_
  exact k H3 p s3 (hch▸⟨rs3,e3,Iu p3⟩)
end
theorem take_snoc {α:Type}:∀ {l:List α} {i:Nat} {x:α},l[i]?=some x→l.take (i+1)=l.take i++[x]
 | [],i,x,h=>by simp at h
 | a::l,0,x,h=>by
  have e:a=x:=aH h
  subst e
  rfl
 | a::l,i+1,x,h=>by
  have ih:=take_snoc (l:=l) (i:=i) (x:=x) h
  show a::l.take (i+1)=a::l.take i++[x]
  rw[ih]
  rfl
theorem fZ {α:Type}{l:List α}{i:Nat}{x:α}(p:α→Bool)(h:l[i]?=some x):(l.take (i+1)).filter p=(l.take i).filter p++(if p x=true then [x] else []):=by
 rw[take_snoc h,gQ,cG,List.filter_nil]
theorem gY {α:Type}(l:List α)(i:Nat)(p:α→Bool):((l.take i).filter p).length≤l.length :=
 aB (c4 _ _) (by rw[bP];omega)
theorem pG {K:ai}{a:aj}{xs:List V}{j:Nat}{tt:TT}{te:TE}{vs:List Nat}{σ:L2.St}{H1:Hp}{D:aj}{Qd:Hp→Prop}(p:V→Bool)(f:V→V)(hD:H1 D=none)(hl:cI K H1 a xs)(hz:xs.length<aP)
  (hw:∀ x,wipe ((wipe σ vs).set j (some x)) vs=wipe σ vs)
  (hp:∀ x∈xs,∀ H,aM H1 H→∀ R:Bool→Hp→Prop,(∀ H',aM H H'→R (p x) H')→tt ((wipe σ vs).set j (some x)) H R)
  (he:∀ x∈xs,p x=true→∀ H,aM H1 H→∀ R:V→Hp→Prop,(∀ H',aM H H'→R (f x) H')→te ((wipe σ vs).set j (some x)) H R)
  (hd:∀ H',aM H1 H'→H' D=some (.lst ((xs.filter p).map f))→Qd H') :
  ∃ W:Nat→Nat→Hp→Prop,(∃ m,W 0 m (upd H1 D (.lst [])))∧∀ i m H,W i m H →
   ((Ag K a).stop i H∧Qd H)∨((Ag K a).go i H∧∃ Nx:Hp→Prop,(∀ H',Nx H'→∃ m',m'<m∧W (i+1) m' H')∧∀ x H',(Ag K a).zO i H x H'→mY j x (wipe σ vs) H' fun σ2 H2=>wipe σ2 vs=wipe σ vs∧tt σ2 H2 fun b H3 =>
    if b=true then te σ2 H3 fun y H4=>∃ acc,H4 D=some (.lst acc)∧acc.length<aP∧Nx (upd H4 D (.lst (acc++[y]))) else Nx H3):=by
 refine uI (fun i H=>aM H1 H∧H D=some (.lst (((xs.take i).filter p).map f))) ⟨aM.new hD,aw⟩ (fun i H _ h=>h.1.seq hl) (fun i x H hx h=>?_) (fun H h=>?_)
 ·obtain ⟨s1,e⟩:=h
  have mx:=aY hx
  refine ⟨hw x,hp x mx H s1 _ fun H3 s3=>?_⟩
  have s13:=s1.trans s3
  cases hpx:p x with
  | false =>
   refine nN ⟨s13,?_⟩
   rw[fZ p hx,hpx,if_neg (by decide),bY]
   exact s3 _ _ e
  | true =>
   refine pd (he x mx hpx H3 s13 _ fun H4 s4=>⟨_,s4 _ _ (s3 _ _ e),?_,fun b u q=>?_,?_⟩)
   ·rw[ae]
    exact aF (gY xs i p) hz
   ·rw[aW (dj q hD)]
    exact s4 _ _ (s13 _ _ q)
   ·rw[aw,fZ p hx,hpx,if_pos rfl,ba]
    rfl
 ·obtain ⟨s1,e⟩:=h
  rw[bI] at e
  exact hd H s1 e
theorem kO {α:Type}(l:List α):l.filter (fun _=>true)=l:=List.filter_eq_self.mpr fun _ _=>rfl
def qK (H:Hp)(k:Nat):V→V
 | .ref r=>match H r with
  | some (.tup xs)=>(xs[k]?).getD .hU
  | _=>.hU
 | _=>.hU
theorem DC {H:Hp}{r:aj}{xs:List V}{k:Nat}{v:V}(h:H r=some (.tup xs))(e:xs[k]?=some v):qK H k (.ref r)=v:=by
 simp only[qK,h,e,Option.getD_some]
theorem gP.t0 {H:Hp}{r:aj}{b:cW}(h:gP H r b):qK H 0 (.ref r)=iv b.cost:=let ⟨_,e,_⟩:=h;DC e rfl
theorem gP.t1 {H:Hp}{r:aj}{b:cW}(h:gP H r b):qK H 1 (.ref r)=iv b.many:=let ⟨_,e,_⟩:=h;DC e rfl
theorem yb {H:Hp}:∀ {rs:List aj} {cs:List cW},Paired (gP H) rs cs→∀ x∈rs.map V.ref,∃ r b,x=V.ref r∧gP H r b∧b∈cs
 | _,_,.nil,x,h=>by simp at h
 | _,_,.cons a t,x,h=>by
  rcases aI.mp h with e | h
  ·exact ⟨_,_,e,a,ax⟩
  ·obtain ⟨r,b,e,q,m⟩:=yb t x h
   exact ⟨r,b,e,q,ao _ m⟩
theorem MP {H:Hp}:∀ {rs:List aj} {cs:List cW},Paired (gP H) rs cs→(rs.map V.ref).map (qK H 0)=(cs.map fun b=>((b.cost:Nat):Int)).map V.int
 | _,_,.nil=>rfl
 | _,_,.cons a t=>by
  simp only[bq]
  rw[a.t0]
  exact congrArg _ (MP t)
theorem MO {H:Hp}:∀ {rs:List aj} {cs:List cW},Paired (gP H) rs cs→(rs.map V.ref).map (qK H 1)=(cs.map fun b=>((b.many:Nat):Int)).map V.int
 | _,_,.nil=>rfl
 | _,_,.cons a t=>by
  simp only[bq]
  rw[a.t1]
  exact congrArg _ (MO t)
theorem zF {H:Hp}(m:Nat):∀ {rs:List aj} {cs:List cW},Paired (gP H) rs cs→∃ rs':List aj,(rs.map V.ref).filter (fun x=>decide (qK H 0 x=iv m))=rs'.map V.ref∧Paired (gP H) rs' (cs.filter fun b=>decide (b.cost=m))
 | _,_,.nil=>⟨[],rfl,.nil⟩
 | r::rs,b::cs,.cons a t=>by
  obtain ⟨rs',e,q⟩:=zF m t
  have d:decide (qK H 0 (V.ref r)=iv m)=decide (b.cost=m):=by
   rw[a.t0]
   exact decide_eq_decide.mpr ⟨fun h=>by injection h with h;omega,fun h=>by rw[h]⟩
  rw[bq,cG,cG,d]
  by_cases z:b.cost=m
  ·rw[if_pos (decide_eq_true z),if_pos (decide_eq_true z),e]
   exact ⟨r::rs',rfl,.cons a q⟩
  ·rw[if_neg (by simp[z]),if_neg (by simp[z]),e]
   exact ⟨rs',rfl,q⟩
theorem vS:∀ (cs:List cW) (m:Nat),(cs.foldl (fun m b=>min m b.cost) m≤m∧∀ b∈cs,cs.foldl (fun m b=>min m b.cost) m≤b.cost)∧(cs.foldl (fun m b=>min m b.cost) m=m∨∃ b∈cs,cs.foldl (fun m b=>min m b.cost) m=b.cost)
 | [],m=>⟨⟨aL _,fun _ h=>by simp at h⟩,.inl rfl⟩
 | c::cs,m=>by
  obtain ⟨⟨h1,h2⟩,h3⟩:=vS cs (min m c.cost)
  rw[d7]
  refine ⟨⟨by omega,fun b hb=>?_⟩,?_⟩
  ·rcases aI.mp hb with rfl | hb
   ·omega
   ·exact h2 b hb
  ·rcases h3 with h3 | ⟨b,hb,h3⟩
   ·rw[h3]
    by_cases z:m≤c.cost
    ·exact .inl (by omega)
    ·exact .inr ⟨c,ax,by omega⟩
   ·exact .inr ⟨b,ao _ hb,h3⟩
theorem Kz {cs:List cW}{m:Int}(h1:m∈cs.map fun b=>((b.cost:Nat):Int))(h2:∀ y∈cs.map fun b=>((b.cost:Nat):Int),m≤y):m=(iX cs:Int):=by
 obtain ⟨b,hb,rfl⟩:=aX.mp h1
 have h2':∀ c∈cs,b.cost≤c.cost:=fun c hc=>by
  have:=h2 _ (aX.mpr ⟨c,hc,rfl⟩)
  omega
 cases cs with
 | nil=>simp at hb
 | cons c r =>
  obtain ⟨⟨q1,q2⟩,q3⟩:=vS r c.cost
  have e:iX (c::r)=r.foldl (fun m b=>min m b.cost) c.cost:=rfl
  rw[e]
  have low:r.foldl (fun m b=>min m b.cost) c.cost≤b.cost:=by
   rcases aI.mp hb with rfl | hb
   ·exact q1
   ·exact q2 b hb
  have up:b.cost≤r.foldl (fun m b=>min m b.cost) c.cost:=by
   rcases q3 with q3 | ⟨d,hd,q3⟩
   ·rw[q3];exact h2' c ax
   ·rw[q3];exact h2' d (ao _ hd)
  omega
theorem GK {cs:List cW}(h:cs≠[]):∃ b∈cs,b.cost=iX cs:=by
 cases cs with
 | nil=>exact absurd rfl h
 | cons c r =>
  obtain ⟨_,q3⟩:=vS r c.cost
  rcases q3 with q3 | ⟨d,hd,q3⟩
  ·exact ⟨c,ax,q3.symm⟩
  ·exact ⟨d,ao _ hd,q3.symm⟩
theorem oB:∀ l:List Nat,(l.map fun n=>((n:Nat):Int)).sum=((l.sum:Nat):Int)
 | []=>rfl
 | a::l=>by
  rw[bq,C0,C0,oB l]
  omega
def Il:Sp:=fun vs H Q _=>∃ (p:aj) (cs:List cW),vs=[.ref p]∧Vq H p cs∧cs≠[]∧cs.length≤100∧∀ H' t,aM H H'→gP H' t (tT cs)→Q (.ref t) H'
section
variable {P:aV}{w:bK}{K:ai}{mg:bZ→Option ag}{base:bW}
theorem nj:bX ["choices","least","kept","choice"] ["choices"] (bB BM):=kG
theorem NZ {f:aj}{fd:bH}(F:jb K "cheapest" "cheapest" BM f fd)(hmin:mg "min"=none)(hsum:mg "sum"=none):cP P w K mg base fG 1 f fd ["choices"] Il:=by
 refine F.ok nj (fun vs H Q E h=>?_) (fun gq A outer s H vs Q E hr h=>?_)
 ·obtain ⟨p,cs,rfl,_⟩:=h
  rfl
 ·obtain ⟨p,cs,rfl,⟨rs,hp,pr⟩,hne,hlen,k⟩:=h
  have lrs:rs.length=cs.length:=bC pr
  have zr:(rs.map V.ref).length<aP:=by rw[ae,lrs];exact aF hlen (by decide)
  refine ⟨_,aE (cy (i:=1) nj.nd rfl (p6 rfl) (bR (ML rfl) (by rfl) hmin Fv (ah (jm rfl nj.nd (eh (pv 0)) (dX (own:=[("choice",3)]) (by rfl)) (fun _ _ _ _ _=>cK (i:=3) nj.nd rfl (bp rfl)) (fun _ _ _ _ _=>gA) (fun _ _ _ _ _=>cA (r:=Dd K) dR (pv 3) aZ (fun _ _=>rfl))) aA)))
   (aE (qZ (i:=2) rfl nj.nd rfl rfl (uB rfl rfl rfl rfl) (eh (pv 0)) (dX (own:=[("choice",3)]) (by rfl)) (fun _ _ _ _ _=>cK (i:=3) nj.nd rfl (bp rfl)) (fun _ _ _ _ _=>pD (bU gC (cA (r:=Dd K) dR (pv 3) aZ (fun _ _=>rfl)) (pv 1) (cq _))) (fun _ _ _ _ _=>pv 3))
   (aR (bO (jw (ah (pv 1) (ah (bR (yF rfl) (by rfl) hsum boot_sum (ah (jm rfl nj.nd (eh (pv 2)) (dX (own:=[("choice",3)]) (by rfl)) (fun _ _ _ _ _=>cK (i:=3) nj.nd rfl (bp rfl)) (fun _ _ _ _ _=>gA) (fun _ _ _ _ _=>cA (r:=Dd K) dR (pv 3) aZ (fun _ _=>rfl))) aA)) (ah (cA dR (cA cM (pv 2) aZ (fun _ _=>rfl)) aZ (fun _ _=>rfl)) aA))))))),?_⟩
  refine cQ (aJ rfl ⟨p,rfl,⟨_,cI.of hp⟩,fun D hD=>pG (fun _=>true) (qK H 0) hD (cI.of hp) zr (fun x=>rfl) (fun x _ H1 _ R hR=>hR _ (aM.refl _)) (fun x hx _ H1 s1 R hR=>?_) (fun H1 s1 e1=>?_)⟩)
  ·obtain ⟨r,b,rfl,hb,_⟩:=yb pr x hx
   obtain ⟨q,e,_⟩:=id hb
   refine aJ rfl (iJ r 0 _ (fR.of (s1 _ _ e)) (cp (j:=0) rfl) ?_)
   have:=hR _ (aM.refl _)
   rw[hb.t0] at this
   exact this
  rw[kO,MP pr] at e1
  refine ⟨D,aJ rfl ⟨cI.of e1,?_,fun m h1 h2=>?_⟩⟩
  ·rw[ae]
   exact Lu.mpr hne
  have em:=Kz h1 h2
  subst em
  have pr1:Paired (gP H1) rs cs:=rB s1 pr
  refine cQ (aJ rfl ⟨p,rfl,⟨_,cI.of (s1 _ _ hp)⟩,fun D2 hD2=>pG (fun x=>decide (qK H1 0 x=iv (iX cs))) (fun x=>x) hD2 (cI.of (s1 _ _ hp)) zr (fun x=>rfl) (fun x hx H2 s2 R hR=>?_) (fun x hx _ H2 s2 R hR=>⟨_,rfl,hR _ (aM.refl _)⟩) (fun H2 s2 e2=>?_)⟩)
  ·obtain ⟨r,b,rfl,hb,_⟩:=yb pr1 x hx
   obtain ⟨q,e,_⟩:=id hb
   refine aJ rfl (iJ r 0 _ (fR.of (s2 _ _ e)) (cp (j:=0) rfl) (aJ rfl ⟨rfl,aJ rfl ?_⟩))
   have:=hR _ (aM.refl _)
   rw[hb.t0] at this
   exact this
  obtain ⟨rs',er,pr'⟩:=zF (iX cs) pr1
  rw[qv,er] at e2
  have pr2:=rB s2 pr'
  have lk:(cs.filter fun b=>decide (b.cost=iX cs)).length≤cs.length:=c4 _ _
  have zr':(rs'.map V.ref).length<aP:=by
   rw[ae,bC pr']
   exact aF (aB lk hlen) (by decide)
  refine aJ rfl (aJ rfl ⟨D2,rfl,⟨_,cI.of e2⟩,fun D3 hD3=>pG (fun _=>true) (qK H2 1) hD3 (cI.of e2) zr' (fun x=>rfl) (fun x _ H3 _ R hR=>hR _ (aM.refl _)) (fun x hx _ H3 s3 R hR=>?_) (fun H3 s3 e3=>?_)⟩)
  ·obtain ⟨r,b,rfl,hb,_⟩:=yb pr2 x hx
   obtain ⟨q,e,_⟩:=id hb
   refine aJ rfl (iJ r 1 _ (fR.of (s3 _ _ e)) (cp (j:=1) rfl) ?_)
   have:=hR _ (aM.refl _)
   rw[hb.t1] at this
   exact this
  rw[kO,MO pr2] at e3
  refine ⟨D3,aJ rfl ⟨cI.of e3,?_⟩⟩
  obtain ⟨b0,hb0,eb0⟩:=GK hne
  obtain ⟨r,rt,b,bt,e4,e5,hb,_⟩:∃ r rt b bt,rs'=r::rt∧(cs.filter fun b=>decide (b.cost=iX cs))=b::bt∧gP H2 r b∧True:=by
   have m:b0∈cs.filter fun b=>decide (b.cost=iX cs):=fL.mpr ⟨hb0,decide_eq_true eb0⟩
   generalize (cs.filter fun b=>decide (b.cost=iX cs))=ks at pr2 m
   cases pr2 with
   | nil=>simp at m
   | cons a t=>exact ⟨_,_,_,_,rfl,rfl,a,trivial⟩
  obtain ⟨q,eq1,eq2⟩:=hb
  rw[e4] at e2
  refine aJ rfl (iJ D2 0 _ (cI.of (s3 _ _ e2)) (cp (j:=0) rfl) (iJ r 2 _ (fR.of (s3 _ _ eq1)) (cp (j:=2) rfl) ⟨(by show 3≤aP;decide),fun t ht=>?_⟩))
  have s4:=aM.new (o:=.tup [V.int (iX cs:Int),V.int ((cs.filter fun b=>decide (b.cost=iX cs)).map fun b=>((b.many:Nat):Int)).sum,.ref q]) ht
  refine k _ t (((s1.trans s2).trans s3).trans s4) ⟨q,?_,?_⟩
  ·rw[aw]
   have es:((cs.filter fun b=>decide (b.cost=iX cs)).map fun b=>((b.many:Nat):Int)).sum=((((cs.filter fun b=>decide (b.cost=iX cs)).map (·.many)).sum:Nat):Int):=by
    rw[← oB,bx]
    rfl
   rw[es]
   rfl
  ·have ef:(tT cs).first=b.first:=by
    show ((cs.filter fun b=>decide (b.cost=iX cs)).head?.map (·.first)).getD []=b.first
    rw[e5]
    rfl
   rw[ef]
   exact s4 _ _ (s3 _ _ eq2)
end
def Sd (K:ai):Sp:=fun vs H Q _=>∃ (px py c:aj) (x y:List Nat) (l:dw),vs=[.ref px,.ref py,.ref c]∧cI K H px (eX x)∧cI K H py (eX y)∧x.length≤6∧y.length≤6∧iR H c l ∧
 ∀ H' p,aM H H'→gP H' p (fB l x y)→Q (.ref p) H'
theorem gP.U3 {H:Hp}{kn a:aj}{b:cW}{kvs:List (List eF×V)}{o:HO}(h:gP H a b)(e:H kn=some (.dT kvs)):gP (upd H kn o) a b:=by
 obtain ⟨q,h1,h2⟩:=h
 refine ⟨q,?_,?_⟩
 ·rw[aW (ir h1 e (by intro z;cases z))]
  exact h1
 ·rw[aW (ir h2 e (by intro z;cases z))]
  exact h2
theorem VY (l:dw)(x y:List Nat){i j:Nat}(hi:i≤x.length)(hj:j≤y.length):zX l x y i j≠[]:=by
 unfold zX
 by_cases h:i=x.length∧j=y.length
 ·rw[if_pos h];simp
 ·rw[if_neg h]
  by_cases h1:i<x.length
  ·unfold LK
   rw[aD h1]
   simp
  ·unfold Pz
   rw[aD (show j<y.length by omega)]
   simp
theorem Ul (l:dw)(x y:List Nat)(i j:Nat):(zX l x y i j).length≤100:=by
 unfold zX
 split
 ·simp
 ·have h1:=Cr l x y i j
  have h2:=Jf l x y i j
  have h3:(Pz l x y i j).length≤1:=by unfold Pz;cases y[j]?<;>simp
  rw[aK,aK]
  omega
def Laid (x y:List Nat)(a b A B:Nat):Prop:=A≤x.length∧B≤y.length∧(x.length<A+a∨(A+a=x.length∧y.length<B+b))
structure vC (H0:Hp)(kn:aj)(l:dw)(x y:List Nat)(a b:Nat)(H:Hp):Prop where
 same:aM H0 H
 ex:∃ kvs:List (List eF×V),H kn=some (.dT kvs)∧kvs.length≤a*(y.length+1)+b∧∀ A B,Laid x y a b A B→∃ r,kg kvs (k2 A B)=some (.ref r)∧gP H r (Pd l x y A B)
theorem vC.row {H0:Hp}{kn:aj}{l:dw}{x y:List Nat}{a:Nat}{H:Hp}(h:vC H0 kn l x y a (y.length+1) H):vC H0 kn l x y (a+1) 0 H:=by
 obtain ⟨s,kvs,e,n,q⟩:=h
 refine ⟨s,kvs,e,?_,fun A B z=>q A B ?_⟩
 ·rw[Nat.succ_mul]
  exact n
 ·obtain ⟨h1,h2,h3⟩:=z
  exact ⟨h1,h2,by omega⟩
section
variable {P:aV}{w:bK}{K:ai}{mg:bZ→Option ag}{base:bW}
theorem Hs:bX ["first","second","costs","known","i","j"] ["first","second","costs"] (bB PH):=kG
theorem TM {f fh fc:aj}{fd fdh fdc:bH}(F:jb K "lay_beside" "lay_beside" PH f fd)(hln:mg "len"=none)(hrg:mg "range"=none)
  (G:cP P w K mg base fG 3 fh fdh ["first","second","i","j","known","costs"] (Ay K))(mh:mg "choices_at"=some (.ref fh))(kh:aQ K (.ref fh)=true)(bh:Binds K fdh ["first","second","i","j","known","costs"] [])
  (G2:cP P w K mg base fG 1 fc fdc ["choices"] Il)(mc:mg "cheapest"=some (.ref fc))(kc:aQ K (.ref fc)=true)(bc:Binds K fdc ["choices"] []) :
  cP P w K mg base fG 4 f fd ["first","second","costs"] (Sd K):=by
 refine F.ok Hs (fun vs H Q E h=>?_) (fun gq A outer s H vs Q E hr h=>?_)
 ·obtain ⟨px,py,c,x,y,l,rfl,_⟩:=h
  rfl
 ·obtain ⟨px,py,c,x,y,l,rfl,hx,hy,lx,ly,hc,k⟩:=h
  have hu:=wB hr
  have nY:fS 1 _:=hr.mono (by decide)
  refine ⟨_,aE (cy (i:=3) Hs.nd rfl (bp rfl) yN)
   (aE (gz bL rfl (sC rfl hrg (ah (bR bG (by rfl) hln bj (ah (pv 0) aA)) (ah (qM mj aZ) (ah (qM mj aZ) aA)))) (cK (i:=4) Hs.nd rfl (bp rfl))
    (aR (gz bL rfl (sC rfl hrg (ah (bR bG (by rfl) hln bj (ah (pv 1) aA)) (ah (qM mj aZ) (ah (qM mj aZ) aA)))) (cK (i:=5) Hs.nd rfl (bp rfl))
     (aR (xV hu (pv 3) (jw (ah (pv 4) (ah (pv 5) aA))) (cj G2 nY rfl mc kc bc .nil cU (ah (cj G hr rfl mh kh bh .nil cU (ah (pv 0) (ah (pv 1) (ah (pv 4) (ah (pv 5) (ah (pv 3) (ah (pv 2) aA))))))) aA)) rfl)))))
   (aR (bO (xX hu (pv 3) (jw (ah aZ (ah aZ aA))) (fun _ _=>rfl))))),?_⟩
  refine cQ fun kn hkn=>?_
  have lx':((eX x).length:Int)=(x.length:Int):=by rw[ae]
  have ly':((eX y).length:Int)=(y.length:Int):=by rw[ae]
  have s0:aM H (upd H kn (.dT [])):=aM.new hkn
  have I0:vC H kn l x y 0 0 (upd H kn (.dT [])):=⟨s0,[],aw,by simp,fun A B z=>by
   obtain ⟨h1,h2,h3⟩:=z
   omega⟩
  refine aJ rfl ⟨px,aJ rfl ⟨.inl (s0.seq hx),aJ rfl (aJ rfl ⟨(x.length:Int),-1,-1,x.length+1,by rw[lx'],?_,?_⟩)⟩⟩
  ·have:=SQ.neg (i:=(x.length:Int)) (j:=-1) (by omega) (by omega) (by omega) (by omega)
   have e:((x.length:Int) - -1).toNat=x.length+1:=by omega
   rw[e] at this
   exact this
  refine uc (fun a σ H'=>∃ v4 v5:Option V,σ=[some (.ref px),some (.ref py),some (.ref c),some (.ref kn),v4,v5]∧vC H kn l x y a 0 H') ⟨none,none,rfl,I0⟩ ?_ ?_
  ·rintro a σ H1 ha ⟨v4,v5,rfl,I1⟩
   have ei:(x.length:Int)+(a:Nat)*(-1)=((x.length - a:Nat):Int):=by omega
   rw[ei]
   refine aJ rfl ⟨py,aJ rfl ⟨.inl (I1.same.seq hy),aJ rfl (aJ rfl ⟨(y.length:Int),-1,-1,y.length+1,by rw[ly'],?_,?_⟩)⟩⟩
   ·have:=SQ.neg (i:=(y.length:Int)) (j:=-1) (by omega) (by omega) (by omega) (by omega)
    have e:((y.length:Int) - -1).toNat=y.length+1:=by omega
    rw[e] at this
    exact this
   refine uc (fun b σ H'=>∃ v5:Option V,σ=[some (.ref px),some (.ref py),some (.ref c),some (.ref kn),some (iv (x.length - a)),v5]∧vC H kn l x y a b H') ⟨v5,rfl,I1⟩ ?_ ?_
   ·rintro b σ H2 hb ⟨v5,rfl,I2⟩
    have ej:(y.length:Int)+(b:Nat)*(-1)=((y.length - b:Nat):Int):=by omega
    rw[ej]
    obtain ⟨s2,kvs,ek,nk,hk⟩:=I2
    refine aJ rfl (aJ rfl (aJ rfl (aJ rfl (aJ rfl (aJ rfl ⟨px,py,kn,c,x,y,x.length - a,y.length - b,l,rfl,s2.seq hx,s2.seq hy,lx,ly,by omega,by omega,hc.same s2,⟨kvs,ek,fun A B af=>hk A B ?_⟩,fun H3 p s3 bl=>?_⟩)))))
    ·obtain ⟨h1,h2,h3,h4,h5⟩:=af
     refine ⟨h3,h4,?_⟩
     omega
    refine ⟨p,aJ rfl ⟨bl,VY l x y (by omega) (by omega),Ul l x y _ _,fun H4 t s4 bt=>?_⟩⟩
    rw[Oz l x y (by omega) (by omega)] at bt
    refine aJ rfl (aJ rfl (aJ rfl ⟨Bm,fun tk htk=>?_⟩))
    have s5:=aM.new (o:=.tup [iv (x.length - a),iv (y.length - b)]) htk
    have s25:=(s3.trans s4).trans s5
    have ek5:=s25 _ _ ek
    refine ⟨kn,aJ rfl ⟨zY.t ek5 (US aw) ?_,aJ rfl ⟨(s2.trans s25).upd hkn,_,aw,?_,fun A B z=>?_⟩⟩⟩
    ·have:a*(y.length+1)≤6*7:=Nat.mul_le_mul (by omega) (by omega)
     exact aF (show kvs.length≤100 by omega) (by decide)
    ·have:=nB kvs (k2 (x.length - a) (y.length - b)) (.ref t)
     omega
    ·rw[Dx]
     by_cases e:k2 A B=k2 (x.length - a) (y.length - b)
     ·obtain ⟨e1,e2⟩:=MD e
      rw[if_pos e,e1,e2]
      exact ⟨t,rfl,(bt.same s5).U3 ek5⟩
     ·rw[if_neg e]
      obtain ⟨h1,h2,h3⟩:=z
      obtain ⟨r,nY,hr2⟩:=hk A B ⟨h1,h2,by
       by_cases q:A=x.length - a∧B=y.length - b
       ·exact absurd (by rw[q.1,q.2]) e
       ·omega⟩
      exact ⟨r,nY,(hr2.same s25).U3 ek5⟩
   ·rintro σ H2 ⟨v5,rfl,I2⟩
    exact ⟨_,aJ rfl I2.row⟩
  ·rintro σ H1 ⟨v4,v5,rfl,I1⟩
   obtain ⟨s1,kvs,ek,nk,hk⟩:=I1
   refine aJ rfl ⟨Bm,fun tk htk=>?_⟩
   have s2:=aM.new (o:=.tup [V.int 0,V.int 0]) htk
   obtain ⟨r,h1,h2⟩:=hk 0 0 ⟨aS _,aS _,by omega⟩
   have g:=ux.t (k:=k2 0 0) (s2 _ _ ek) (US (a:=0) (b:=0) aw)
   rw[h1] at g
   refine ⟨kn,aJ rfl ⟨g,?_⟩⟩
   exact k _ r (s1.trans s2) (h2.same s2)
end
end Sk
namespace L2
open PySem PySem.Spec PyProof.Rows
def ow:Option Int→List Int→Option Int
 | b,[]=>b
 | none,x::r=>ow (some x) r
 | some m,x::r=>ow (some (if x > m then x else m)) r
def UO (h:bW)(S:aj):Option Int→Prop
 | none=>∃ c,h.get? S=some {cls:=.type "list",dict:=none,data:=.seq #[] c,slots:=#[]}
 | some m=>∃ t c,h.get? S=some {cls:=.type "list",dict:=none,data:=.seq #[.int m t,.int m t] c,slots:=#[]}
section
variable {prog:aV}{w:bK}{A:cC}{s:au}
def RI (R:qS→au→Prop)(d:ag)(s:au):Option Int→Prop
 | some m=>∀ t,R (.ok (.ret (.int m t))) s
 | none=>R (.ok (.ret d)) s
theorem sF {l I S:aj}{its:Array ag}{ns:List Int}(d:ag)(hh:A.handled=none)(hv:∀ (i:Nat) (n:Int),ns[i]?=some n→∃ t,its[i]?=some (ag.int n t))(hsz:its.size=ns.length)(nIS:I≠S)(nlI:l≠I)(nlS:l≠S){R:qS→au→Prop} :
  ∀ (rest:List Int) (i:Nat) (s:au) (b:Option Int),ns.drop i=rest→i≤ns.length→s.heap.IsListIter I l i→s.heap.IsList l its→UO s.heap S b →
   (∀ h' tk,(∀ c o,c≠I→c≠S→s.heap.get? c=some o→h'.get? c=some o)→RI R d {s with heap:=h',toks:=tk} (ow b rest)) →
   codeAny (model prog w) A (.builtin "max.loop" ⟨[.ref I,.none,.ref S],[("default",d)]⟩) R s
 | [],i,s,b,hd,hi,hit,hl,hb,hR=>by
  have e:i=ns.length:=by
   have:=congrArg dJ hd
   rw[cv,eL] at this
   omega
  have hx:its[i]?=none:=by rw[mW];omega
  refine eC F.entry_max_loop ?_
  rw[dk jD _]
  cases b with
  | none =>
   obtain ⟨c,hS⟩:=hb
   refine aa (m:=seqItems? (.ref S)) (dc hS rfl (aa (m:=tryCatch (pyNext (.ref I)) _) (fN (gi hh hit hl hx fun h' ex=>?_))))
   exact aa (jz (ak (hR h' s.toks fun c o n1 _ q=>ex c o n1 q)))
  | some m =>
   obtain ⟨t,c,hS⟩:=hb
   refine aa (m:=seqItems? (.ref S)) (dc hS rfl (aa (m:=tryCatch (pyNext (.ref I)) _) (fN (gi hh hit hl hx fun h' ex=>?_))))
   have hS':=ex S _ nIS.symm hS
   refine aa (m:=updateSeq S fun _=>#[]) ?_
   refine ij hS' rfl (aa (gB (ak ?_)))
   exact hR _ s.toks (fun c o n1 n2 q=>(dF _ _ (g4 n2)).trans (ex c o n1 q)) t
 | x::r,i,s,b,hd,hi,hit,hl,hb,hR=>by
  have lt:i<ns.length:=by
   have:=congrArg dJ hd
   rw[cv,aU] at this
   omega
  have hx0:ns[i]?=some x:=by rw[← rN,hd];rfl
  have hd':ns.drop (i+1)=r:=by rw[← tf,hd];rfl
  obtain ⟨tx,hx⟩:=hv i x hx0
  have nm:(toString "max"++toString ".loop":String)="max.loop":=by decide
  refine eC F.entry_max_loop ?_
  rw[dk jD _]
  cases b with
  | none =>
   obtain ⟨c,hS⟩:=hb
   refine aa (m:=seqItems? (.ref S)) (dc hS rfl (aa (m:=tryCatch (pyNext (.ref I)) _) (fN (fP hit hl hx fun h' hit' sb=>?_))))
   have hS':=sb.extBut S _ nIS.symm hS
   refine aa (m:=updateSeq S fun _=>#[ag.int x tx,ag.int x tx]) ?_
   refine ij hS' rfl ?_
   rw[nm]
   have up:∀ c o,c≠S→h'.get? c=some o→(h'.update S (fD.mapSeq fun _=>#[ag.int x tx,ag.int x tx])).get? c=some o:=fun c o n q=>(dF _ _ (g4 n)).trans q
   refine ak ⟨dA jD _,sF d hh hv hsz nIS nlI nlS r (i+1) _ (some x) hd' lt (let ⟨o,q,z⟩:=hit';⟨o,up _ _ nIS q,z⟩) (let ⟨o,q,z⟩:=hl;⟨o,up _ _ nlS (sb.extBut _ _ nlI q),z⟩) ⟨tx,_,cT _ hS' rfl⟩ fun h2 tk q=>?_⟩
   exact hR h2 tk fun c o n1 n2 z=>q c o n1 n2 (up c o n2 (sb.extBut _ _ n1 z))
  | some m =>
   obtain ⟨t,c,hS⟩:=hb
   refine aa (m:=seqItems? (.ref S)) (dc hS rfl (aa (m:=tryCatch (pyNext (.ref I)) _) (fN (fP hit hl hx fun h' hit' sb=>?_))))
   have hS':=sb.extBut S _ nIS.symm hS
   have cmp:=CmpOf.ints_gt (prog:=prog) (w:=w) (A:=A.in1) (P:=fun k v=>∃ u,v=.int (if k=0 then x else m) u) (fun k=>if k=0 then x else m) fun _ _ h=>h
   refine aa (m:=tryCatch (holding [ag.int x tx,ag.int x tx] (richCompare .Gt (ag.int x tx) (ag.int m t) >>= _)) _) (fN (dn (aa (cmp 0 1 (.int x tx) (.int m t) _ _ _ ⟨tx,rfl⟩ ⟨t,rfl⟩ (aa (dn (fo (aa (gB (ak ?_))))))))))
   by_cases g:x > m
   ·show wpAny _ _ (if decide (x > m)=true then _ else _) _ _ _
    rw[if_pos (decide_eq_true g)]
    refine aa (m:=updateSeq S fun _=>#[ag.int x tx,ag.int x tx]) ?_
    refine ij hS' rfl (aa (gB ?_))
    rw[nm]
    have up:∀ c o,c≠S→h'.get? c=some o→(h'.update S (fD.mapSeq fun _=>#[ag.int x tx,ag.int x tx])).get? c=some o:=fun c o n q=>(dF _ _ (g4 n)).trans q
    refine ak ⟨dA jD _,sF d hh hv hsz nIS nlI nlS r (i+1) _ (some x) hd' lt (let ⟨o,q,z⟩:=hit';⟨o,up _ _ nIS q,z⟩) (let ⟨o,q,z⟩:=hl;⟨o,up _ _ nlS (sb.extBut _ _ nlI q),z⟩) ⟨tx,_,cT _ hS' rfl⟩ fun h2 tk q=>?_⟩
    have:=hR h2 tk fun c o n1 n2 z=>q c o n1 n2 (up c o n2 (sb.extBut _ _ n1 z))
    rw[ow,if_pos g] at this
    exact this
   ·show wpAny _ _ (if decide (x > m)=true then _ else _) _ _ _
    rw[if_neg (by rw[decide_eq_false g];decide)]
    refine aa (gB ?_)
    rw[nm]
    refine ak ⟨dA jD _,sF d hh hv hsz nIS nlI nlS r (i+1) _ (some m) hd' lt hit' (hl.extBut sb.extBut nlI) ⟨t,c,hS'⟩ fun h2 tk q=>?_⟩
    have:=hR h2 tk fun c o n1 n2 z=>q c o n1 n2 (sb.extBut _ _ n1 z)
    rw[ow,if_neg g] at this
    exact this
theorem Lf (a v:ag):argsOk "max" ⟨[a],[(dM "default",v)]⟩:=by unfold argsOk;kernel_rfl
theorem K4 {E:ag→au→Prop}{l:aj}{its:Array ag}{ns:List Int}{d:ag}{Q:ag→au→Prop}(hh:A.handled=none)(hl:s.heap.IsList l its)(hv:∀ (i:Nat) (n:Int),ns[i]?=some n→∃ t,its[i]?=some (ag.int n t))(hsz:its.size=ns.length)
  (h:∀ h' tk,(∀ c o,s.heap.get? c=some o→h'.get? c=some o)→match ow none ns with
   | some m=>∀ t,Q (.int m t) {s with heap:=h',toks:=tk}
   | none=>Q d {s with heap:=h',toks:=tk}):wpAny (model prog w) A (call (.builtin "max") [.ref l] [(dM "default",d)]) Q E s:=by
 have nm:(toString "max"++toString ".loop":String)="max.loop":=by decide
 have ll:l<s.heap.objs.size:=let ⟨_,q,_⟩:=hl;aN q
 refine oa F.kind_max F.plain_max F.entry_max (Lf _ _) ?_
 refine aa (m:=ka "max" ["key","default"] 0 ⟨[],[(dM "default",d)]⟩) (jA (a:=[none,some d]) rfl (aa (ak (aa (ip hl (aa (cw ?_)))))))
 rw[nm]
 have z1:(s.heap.push {cls:=.type "list_iterator",data:=.fields #[.ref l,.int 0 0]}).objs.size=s.heap.objs.size+1:=cR ..
 have old:∀ {g:bW} {o u:fD} {c:aj},g.get? c=some u→(g.push o).get? c=some u:=fun q=>ay _ q
 refine ak ⟨dA jD _,sF d hh hv hsz (bg (by rw[z1];exact dS _)) (bg ll) (bg (by rw[z1];exact dG ll)) ns 0 _ none rfl (aS _) ⟨_,old (aG _ rfl),rfl,rfl⟩ (let ⟨o,q,z⟩:=hl;⟨o,old (old q),z⟩) ⟨0,aG _ rfl⟩ fun h' tk kp=>?_⟩
 have:=h h' tk fun c o q=>kp c o (fun z=>by subst z;exact absurd (aN q) (du _)) (fun z=>by
  have q':=aN q
  rw[z,z1] at q'
  exact absurd q' (Nat.not_lt.mpr (ia _))) (old (old q))
 revert this
 cases ow none ns with
 | none=>exact fun z=>z
 | some m=>exact fun z t=>z t
end
def HQ (d:V):Option Int→V
 | some m=>.int m
 | none=>d
def Vw (K:ai)(t:TA)(te:TE):TE:=fun σ H Q=>t σ H fun vs H1=>te σ H1 fun d H2=>∃ a ns,vs=[V.ref a]∧cI K H2 a (ns.map V.int)∧Q (HQ d (ow none ns)) H2
theorem xW {X:Cx}{e1 e2:Expr}{t:TA}{te:TE}{p pos kp:jR}(hc:X.calm=true)(hg:Gl X "max")(hm:X.mg "max"=none)(ha:PA X [e1] t)(hk:PE X e2 te)
  (he:backTo pos (bS [e1] X.env)=(false,eval e1 X.env)::backTo pos (bS [] X.env):=by rfl)(hpl:(backTo pos (bS [e1] X.env)).any (·.1)=false:=by rfl) :
  PE X (.Call (.Name "max" p) [e1] [⟨some "default",e2,kp⟩] pos) (Vw X.K t te):=by
 intro pins s σ H Q I h
 refine ee (jy I hg hm boot_max ?_)
 refine callWith_kw (gN (ha pos pins s σ H _ I h) fun us s1 ⟨vs,H1,I1,r,q⟩=>kws_cons (gN (hk pins s1 σ H1 _ I1 q) fun dv s2 ⟨d,H2,I2,rd,a,ns,ev,hs,q2⟩=>kws_nil ?_)) he hpl
 subst ev
 obtain ⟨its,rv,hl,_⟩:=I2.list hs
 rw[di.xc r]
 have hln:=rv.length
 refine K4 (ns:=ns) (d:=dv) (I2.ok.hd hc) hl.isList (fun i n hi=>?_) (by rw[bD,← hln,ae]) fun h' tk kp=>?_
 ·obtain ⟨u,hu,t',e⟩:=rv.get (i:=i) (x:=V.int n) (by rw[aO,hi];rfl)
  subst e
  exact ⟨t',by simpa using hu⟩
 ·have I3:Inv X pins σ H2 {s2 with heap:=h',toks:=tk}:=I2.kept kp
  revert q2
  cases ow none ns with
  | none=>exact fun q2=>⟨d,H2,I3,rd,q2⟩
  | some m=>exact fun q2 t=>⟨.int m,H2,I3,⟨t,rfl⟩,q2⟩
section
variable {prog:aV}{w:bK}{A:cC}{E:ag→au→Prop}{s:au}
theorem nextT {it t:aj}{k:Nat}{its:Array ag}{x:ag}{Q:ag→au→Prop}(hi:s.heap.IsTupleIter it t k)(ht:s.heap.IsTuple t its)(hx:its[k]?=some x)
  (h:∀ h',h'.IsTupleIter it t (k+1)→eE it s.heap h'→Q x {s with heap:=h'}):wpAny (model prog w) A (dm (.ref it)) Q E s:=by
 obtain ⟨oi,e1,e2,e3⟩:=id hi
 obtain ⟨ot,f1,f2,n,f3⟩:=ht
 unfold dm
 refine aa (dg (name:=dM "__next__") hi.typeIs jq (c8 jq hi.typeIs C9 ?_ (CW _)))
 refine aa (m:=field (.ref it) 0) (fg e1 e3 (x:=.ref t) rfl ?_)
 rw[if_neg (show ¬ (ag.ref t==ag.none)=true from bo)]
 refine aa (m:=field (.ref it) 1) (fg e1 e3 (x:=.int k 0) rfl (aa (m:=seqItems? (.ref t)) (dc f1 f3 ?_)))
 simp only[bT,hx]
 have fin:=h _ ⟨_,cT _ e1 (fD.isFreed_of_fields (fD.data_mapFields e3 (·.setIfInBounds 1 (gu ((k:Int)+1))))),(fD.cls_mapFields ..).trans e2,by rw[fD.data_mapFields e3];simp[gu]⟩ (c9 ..)
 exact aa (fO e1 e3 (by simp) (ak ⟨x,rfl,ak fin⟩))
theorem Vj {it t:aj}{k:Nat}{its:Array ag}{Q:ag→au→Prop}(hh:A.handled=none)(hi:s.heap.IsTupleIter it t k)(ht:s.heap.IsTuple t its)(hx:its[k]?=none)
  (h:∀ h' e,oY it s.heap h'→(∃ o,h'.get? e=some o∧o.cls=.type "StopIteration")→E (.ref e) {s with heap:=h'}):wpAny (model prog w) A (dm (.ref it)) Q E s:=by
 obtain ⟨oi,e1,e2,e3⟩:=id hi
 obtain ⟨ot,f1,f2,n,f3⟩:=ht
 unfold dm
 refine aa (dg (name:=dM "__next__") hi.typeIs jq (c8 jq hi.typeIs C9 ?_ (CW _)))
 refine aa (m:=field (.ref it) 0) (fg e1 e3 (x:=.ref t) rfl ?_)
 rw[if_neg (show ¬ (ag.ref t==ag.none)=true from bo)]
 refine aa (m:=field (.ref it) 1) (fg e1 e3 (x:=.int k 0) rfl (aa (m:=seqItems? (.ref t)) (dc f1 f3 ?_)))
 simp only[bT,hx]
 refine aa (jz (aa (fO e1 e3 (by simp) (aa (m:=newExc (.type "StopIteration") []) ?_))))
 simp only[newExc,newTuple]
 refine aa (cw (aa (m:=firstArgMember _ _) (jA (a:=ag.none) (by first | rfl | (simp only[firstArgMember];rfl)) (cw ?_ (by size_fits)))) (by size_fits))
 simp only[raiseNew]
 refine aa (rg ?_)
 first | rw[show A.in1.handled=none from hh] | rw[hh]
 exact aa (ak (vG (h _ _ (((c9 ..).extBut.push _).push _) ⟨_,aG _ rfl,rfl⟩)))
def Hq (h:bW)(it t:aj)(k:Nat)(its:Array ag):Prop:=h.IsTupleIter it t k∧h.IsTuple t its
theorem Hq.out {h h':bW}{it t b:aj}{k:Nat}{its:Array ag}(x:Hq h it t k its)(e:oY b h h')(n1:it≠b)(n2:t≠b):Hq h' it t k its:=⟨x.1.extBut e n1,x.2.extBut e n2⟩
def Dq (z TO i1 i2:aj)(h h':bW):Prop:=∀ c o,c≠z→c≠TO→c≠i1→c≠i2→h.get? c=some o→h'.get? c=some o
abbrev HW (z:aj):o9 Fin:=Builtin.«zip.__next__» ⟨[.ref z],[]⟩
theorem JR {z TI TO i1 i2 l1 l2:aj}{k1 k2:Nat}{xs ys:Array ag}{x y a b:ag}{Q:ag→au→Prop}(D:z4 z TI TO i1 i2 l1 l2)(hz:nZ s.heap z TI TO .none)(hTI:gw s.heap TI (.ref i1) (.ref i2))(hTO:gw s.heap TO a b)
  (h1:Hq s.heap i1 l1 k1 xs)(h2:Hq s.heap i2 l2 k2 ys)(hx:xs[k1]?=some x)(hy:ys[k2]?=some y)
  (hQ:∀ h',nZ h' z TI TO (gu s.heap.objs.size)→gw h' TO x y→h'.IsTupleIter i1 l1 (k1+1)→h'.IsTupleIter i2 l2 (k2+1)→gw h' s.heap.objs.size x y →
   Dq z TO i1 i2 s.heap h'→Q (.ref s.heap.objs.size) {s with heap:=h'}) :
  wpAny (model prog w) A (HW z) (fun fin s'=>∃ v,fin=.done (.ret v)∧Q v s') E s:=by
 refine aa (m:=field (.ref z) 2) (fg hz rfl (x:=.bool false) rfl ?_)
 refine aa (m:=field (.ref z) 3) (fg hz rfl (x:=.ref TI) rfl (aa (dc hTI rfl ?_)))
 refine aa (m:=fY (.ref z)) ?_
 unfold fY
 refine aa (fg hz rfl (x:=.none) rfl (ak ?_))
 simp only[if_true]
 refine aa (jz (aa (fg hz rfl (x:=.ref TO) rfl (aa (eP hz (by simp) fun ha za sa=>aa ?_)))))
 have za:nZ ha z TI TO .ellipsis:=za
 simp only[Pk,RO,jO,kC]
 refine aa (aa (yo ?_))
 refine aa (m:=dm (.ref i1)) (nextT (h1.out sa.extBut D.i1z D.l1z).1 (h1.out sa.extBut D.i1z D.l1z).2 hx fun hb ib sb=>ak ?_)
 have Tb:gw hb TO a b:=sb.extBut _ _ D.TOi1 (sa.extBut _ _ D.TOz hTO)
 refine aa (dc Tb rfl (aa (wq Tb fun hc Tc sc=>aa (gB (ak ?_)))))
 have Tc:gw hc TO x b:=Tc
 have w2:Hq hc i2 l2 k2 ys:=((h2.out sa.extBut D.i2z D.l2z).out sb.extBut D.i12.symm D.l2i1).out sc.extBut D.TOi2.symm D.l2TO
 refine aa (aa (yo ?_))
 refine aa (m:=dm (.ref i2)) (nextT w2.1 w2.2 hy fun hd id sd=>ak ?_)
 have Td:gw hd TO x b:=sd.extBut _ _ D.TOi2 Tc
 refine aa (dc Td rfl (aa (wq Td fun he Te se=>aa (gB (ak (ak ?_))))))
 have Te:gw he TO x y:=Te
 refine aa (dc Te rfl (aa (wk ?_)))
 have size:he.objs.size=s.heap.objs.size:=by rw[se.1,sd.1,sc.1,sb.1,sa.1]
 have ze:nZ he z TI TO .ellipsis:=se.extBut _ _ D.TOz.symm (sd.extBut _ _ D.i2z.symm (sc.extBut _ _ D.TOz.symm (sb.extBut _ _ D.i1z.symm za)))
 have kept:∀ c o,c≠z→c≠TO→c≠i1→c≠i2→s.heap.get? c=some o→he.get? c=some o:=fun c o n1 n2 n3 n4 q=>se.extBut _ _ n2 (sd.extBut _ _ n4 (sc.extBut _ _ n2 (sb.extBut _ _ n3 (sa.extBut _ _ n1 q))))
 have j1:he.IsTupleIter i1 l1 (k1+1):=((ib.extBut sc.extBut D.TOi1.symm).extBut sd.extBut D.i12).extBut se.extBut D.TOi1.symm
 have j2:he.IsTupleIter i2 l2 (k2+1):=id.extBut se.extBut D.TOi2.symm
 have below:z<he.objs.size:=aN ze
 refine aa (m:=nM (.ref z) (.ref he.objs.size)) ?_
 unfold nM
 have zp:nZ (he.push {cls:=.type "tuple",data:=.seq #[x,y]}) z TI TO .ellipsis:=ay _ ze
 refine aa (eP zp (by simp) fun hf zf sf=>?_)
 have zf:nZ hf z TI TO (gu he.objs.size):=zf
 refine eP zf (by simp) fun hg zg sg=>?_
 have zg:nZ hg z TI TO (gu he.objs.size):=zg
 have up:∀ c o,c≠z→he.get? c=some o→hg.get? c=some o:=fun c o n q=>sg.extBut _ _ n (sf.extBut _ _ n (ay _ q))
 have Tg:gw hg he.objs.size x y:=sg.extBut _ _ (gh below) (sf.extBut _ _ (gh below) (aG _ rfl))
 rw[size] at zg Tg
 refine ak ⟨_,rfl,?_⟩
 have fin:=hQ hg zg (up _ _ D.TOz Te) (let ⟨o,q,r⟩:=j1;⟨o,up _ o D.i1z q,r⟩) (let ⟨o,q,r⟩:=j2;⟨o,up _ o D.i2z q,r⟩) Tg fun c o n1 n2 n3 n4 q=>up c o n1 (kept c o n1 n2 n3 n4 q)
 rw[← size] at fin
 exact fin
theorem MY {z TI TO i1 i2 l1 l2:aj}{k1 k2:Nat}{xs ys:Array ag}{a b:ag}{Q:Fin→au→Prop}(hh:A.handled=none)(D:z4 z TI TO i1 i2 l1 l2)(hz:nZ s.heap z TI TO .none)(hTI:gw s.heap TI (.ref i1) (.ref i2))(hTO:gw s.heap TO a b)
  (h1:Hq s.heap i1 l1 k1 xs)(h2:Hq s.heap i2 l2 k2 ys)(hend:xs[k1]?=none∨ys[k2]?=none)
  (hE:∀ h' e,Dq z TO i1 i2 s.heap h'→(∃ o,h'.get? e=some o∧o.cls=.type "StopIteration")→E (.ref e) {s with heap:=h'}) :
  wpAny (model prog w) A (HW z) Q E s:=by
 refine aa (m:=field (.ref z) 2) (fg hz rfl (x:=.bool false) rfl ?_)
 refine aa (m:=field (.ref z) 3) (fg hz rfl (x:=.ref TI) rfl (aa (dc hTI rfl ?_)))
 refine aa (m:=fY (.ref z)) ?_
 unfold fY
 refine aa (fg hz rfl (x:=.none) rfl (ak ?_))
 simp only[if_true]
 refine aa (jz (aa (fg hz rfl (x:=.ref TO) rfl (aa (eP hz (by simp) fun ha za sa=>aa ?_)))))
 have za:nZ ha z TI TO .ellipsis:=za
 simp only[Pk,RO,jO,kC]
 have w1:Hq ha i1 l1 k1 xs:=h1.out sa.extBut D.i1z D.l1z
 have stop:∀ (hb:bW) (e:aj),nZ hb z TI TO .ellipsis→(∃ o,hb.get? e=some o∧o.cls=.type "StopIteration")→Dq z TO i1 i2 s.heap hb →
   wpAny (model prog w) A (setField (.ref z) 0 .none) (fun _ s'=>E (.ref e) s') E {s with heap:=hb}:=fun hb e zb ⟨oe,q1,q2⟩ kb=>by
  have far:e≠z:=fun q=>by
   rw[q,zb] at q1
   cases q1
   exact absurd q2 (by simp)
  exact eP zb (by simp) fun hc _ sc=>hE hc e (fun c o n1 n2 n3 n4 q=>sc.extBut _ _ n1 (kb c o n1 n2 n3 n4 q)) ⟨oe,sc.extBut _ _ far q1,q2⟩
 refine aa (aa (yo ?_))
 cases hx:xs[k1]? with
 | none=>exact aa (m:=dm (.ref i1)) (Vj hh w1.1 w1.2 hx fun hb e eb he=>stop hb e (eb _ _ D.i1z.symm za) he fun c o n1 _ n3 _ q=>eb _ _ n3 (sa.extBut _ _ n1 q))
 | some x =>
  have hy:ys[k2]?=none:=hend.resolve_left fun q=>by rw[hx] at q;cases q
  refine aa (m:=dm (.ref i1)) (nextT w1.1 w1.2 hx fun hb ib sb=>ak ?_)
  have Tb:gw hb TO a b:=sb.extBut _ _ D.TOi1 (sa.extBut _ _ D.TOz hTO)
  refine aa (dc Tb rfl (aa (wq Tb fun hc Tc sc=>aa (gB (ak ?_)))))
  have w2:Hq hc i2 l2 k2 ys:=((h2.out sa.extBut D.i2z D.l2z).out sb.extBut D.i12.symm D.l2i1).out sc.extBut D.TOi2.symm D.l2TO
  refine aa (aa (yo ?_))
  exact aa (m:=dm (.ref i2)) (Vj hh w2.1 w2.2 hy fun hd e ed he=>stop hd e (ed _ _ D.i2z.symm (sc.extBut _ _ D.TOz.symm (sb.extBut _ _ D.i1z.symm za))) he fun c o n1 n2 n3 n4 q=>ed _ _ n4 (sc.extBut _ _ n2 (sb.extBut _ _ n3 (sa.extBut _ _ n1 q))))
theorem EC {z TI TO i1 i2 l1 l2:aj}{k1 k2:Nat}{xs ys:Array ag}{x y a b:ag}{Q:Option ag→au→Prop}(D:z4 z TI TO i1 i2 l1 l2)(hz:nZ s.heap z TI TO .none)(hTI:gw s.heap TI (.ref i1) (.ref i2))(hTO:gw s.heap TO a b)
  (h1:Hq s.heap i1 l1 k1 xs)(h2:Hq s.heap i2 l2 k2 ys)(hx:xs[k1]?=some x)(hy:ys[k2]?=some y)
  (hQ:∀ h',nZ h' z TI TO (gu s.heap.objs.size)→gw h' TO x y→h'.IsTupleIter i1 l1 (k1+1)→h'.IsTupleIter i2 l2 (k2+1)→gw h' s.heap.objs.size x y →
   Dq z TO i1 i2 s.heap h'→Q (some (.ref s.heap.objs.size)) {s with heap:=h'}):wpAny (model prog w) A (pyNext (.ref z)) Q E s:=by
 have hT:s.TypeIs (.ref z) "zip":=⟨_,hz,rfl⟩
 unfold pyNext
 exact aa (iB (dg (name:=dM "__next__") hT tq (c8 tq hT F.entry_zip_next
  (JR D hz hTI hTO h1 h2 hx hy fun h' a1 a2 a3 a4 a5 a6=>ak (hQ h' a1 a2 a3 a4 a5 a6)) (SI _))))
theorem xp {z TI TO i1 i2 l1 l2:aj}{k1 k2:Nat}{xs ys:Array ag}{a b:ag}{Q:Option ag→au→Prop}(hh:A.handled=none)(D:z4 z TI TO i1 i2 l1 l2)(hz:nZ s.heap z TI TO .none)(hTI:gw s.heap TI (.ref i1) (.ref i2))(hTO:gw s.heap TO a b)
  (h1:Hq s.heap i1 l1 k1 xs)(h2:Hq s.heap i2 l2 k2 ys)(hend:xs[k1]?=none∨ys[k2]?=none)
  (hQ:∀ h',Dq z TO i1 i2 s.heap h'→Q none {s with heap:=h'}):wpAny (model prog w) A (pyNext (.ref z)) Q E s:=by
 have hT:s.TypeIs (.ref z) "zip":=⟨_,hz,rfl⟩
 unfold pyNext
 refine aa (iB (dg (name:=dM "__next__") hT tq (c8 tq hT F.entry_zip_next
  (MY hh D hz hTI hTO h1 h2 hend fun h' e kb ⟨o,q1,q2⟩=>aa (iN (T:="StopIteration") (b:=true) ⟨o,q1,q2⟩ pS (ak (hQ _ kb)))) (SI _))))
end
theorem KR {hp:bW}{l1 l2:aj}{R:ag→bW→Prop}
  (h:∀ h',nZ h' (hp.objs.size+4) (hp.objs.size+2) (hp.objs.size+3) .none→gw h' (hp.objs.size+2) (.ref hp.objs.size) (.ref (hp.objs.size+1))→gw h' (hp.objs.size+3) .none .none →
   h'.IsTupleIter hp.objs.size l1 0→h'.IsTupleIter (hp.objs.size+1) l2 0→(∀ c o,hp.get? c=some o→h'.get? c=some o)→R (.ref (hp.objs.size+4)) h') :
  let a:=hp.push {cls:=.type "tuple_iterator",data:=.fields #[.ref l1,.int 0 0]}
  let b:=a.push {cls:=.type "tuple_iterator",data:=.fields #[.ref l2,.int 0 0]}
  let c:=b.push {cls:=.type "tuple",data:=.seq #[.ref hp.objs.size,.ref a.objs.size]}
  let d:=c.push {cls:=.type "tuple",data:=.seq #[.none,.none]}
  R (.ref d.objs.size) (d.push {cls:=.type "zip",data:=.fields #[.none,.bool false,.bool false,.ref b.objs.size,.ref c.objs.size]}):=by
 intro a b c d
 have za:a.objs.size=hp.objs.size+1:=cR ..
 have zb:b.objs.size=hp.objs.size+2:=by rw[show b.objs.size=a.objs.size+1 from cR ..,za]
 have zc:c.objs.size=hp.objs.size+3:=by rw[show c.objs.size=b.objs.size+1 from cR ..,zb]
 have zd:d.objs.size=hp.objs.size+4:=by rw[show d.objs.size=c.objs.size+1 from cR ..,zc]
 have old:∀ {g:bW} {o:fD} {x:aj} {u:fD},g.get? x=some u→(g.push o).get? x=some u:=fun q=>ay _ q
 have ga:a.get? hp.objs.size=some _:=aG _ rfl
 have gb:b.get? a.objs.size=some _:=aG _ rfl
 have gc:c.get? b.objs.size=some _:=aG _ rfl
 have gd:d.get? c.objs.size=some _:=aG _ rfl
 have ge:(d.push {cls:=.type "zip",data:=.fields #[.none,.bool false,.bool false,.ref b.objs.size,.ref c.objs.size]}).get? d.objs.size=some _:=aG _ rfl
 rw[zd,zb,zc] at ge
 rw[zd]
 rw[za] at gb gc
 rw[zb] at gc
 rw[zc] at gd
 rw[zb,zc]
 exact h _ ge (old (old gc)) (old gd) ⟨_,old (old (old (old ga))),rfl,rfl⟩ ⟨_,old (old (old gb)),rfl,rfl⟩ fun x o q=>old (old (old (old (old q))))
theorem K0 {prog:aV}{w:bK}{A:cC}{E:ag→au→Prop}{s:au}{l1 l2:aj}{xs ys:Array ag}{Q:ag→au→Prop}(h1:s.heap.IsTuple l1 xs)(h2:s.heap.IsTuple l2 ys)
  (h:∀ h',nZ h' (s.heap.objs.size+4) (s.heap.objs.size+2) (s.heap.objs.size+3) .none→gw h' (s.heap.objs.size+2) (.ref s.heap.objs.size) (.ref (s.heap.objs.size+1))→gw h' (s.heap.objs.size+3) .none .none →
   h'.IsTupleIter s.heap.objs.size l1 0→h'.IsTupleIter (s.heap.objs.size+1) l2 0→(∀ c o,s.heap.get? c=some o→h'.get? c=some o)→Q (.ref (s.heap.objs.size+4)) {s with heap:=h'}) :
  wpAny (model prog w) A (call (.type "zip") [.ref l1,.ref l2]) Q E s:=by
 have made:Meets (Builtin.«zip.__new__» ⟨[.type "zip",.ref l1,.ref l2],[]⟩) (fun _ R s=>s.heap.IsTuple l1 xs∧s.heap.IsTuple l2 ys ∧
   ∀ h',nZ h' (s.heap.objs.size+4) (s.heap.objs.size+2) (s.heap.objs.size+3) .none→gw h' (s.heap.objs.size+2) (.ref s.heap.objs.size) (.ref (s.heap.objs.size+1))→gw h' (s.heap.objs.size+3) .none .none →
    h'.IsTupleIter s.heap.objs.size l1 0→h'.IsTupleIter (s.heap.objs.size+1) l2 0→(∀ c o,s.heap.get? c=some o→h'.get? c=some o)→R (.ok (.ret (.ref (s.heap.objs.size+4)))) {s with heap:=h'}) :=
  .of_wp fun prog w A R s h=>by
   obtain ⟨hp,g,d,tk,os⟩:=s
   obtain ⟨q1,q2,h⟩:=h
   have sub:=sub_zip
   have t1:bW.IsTuple (au.heap ⟨hp,g,d,tk,os⟩) l1 xs:=q1
   have t2:bW.IsTuple (au.heap ⟨hp.push {cls:=.type "tuple_iterator",data:=.fields #[.ref l1,.int 0 0]},g,d,tk,os⟩) l2 ys:=bW.IsTuple.push q2 _
   wp_walk using zJ t1,zJ t2
   refine ⟨_,rfl,?_⟩
   exact KR (hp:=hp) (R:=fun v h'=>R (.ok (.ret v)) ⟨h',g,d,tk,os⟩) h
 exact callType_new F.called_zip (by decide) (F.typeCall_zip_2 _ _) (F.newCall_zip_2 _ _) (fun obj=>F.args_object_init_3 obj _ _) F.entry_zip_new made ⟨h1,h2,fun h' q1 q2 q3 q4 q5 q6=>⟨⟨_,q1,rfl⟩,h h' q1 q2 q3 q4 q5 q6⟩⟩
theorem We {h h':bW}{it t:aj}{k:Nat}(x:h.IsTupleIter it t k)(q:∀ o,h.get? it=some o→h'.get? it=some o):h'.IsTupleIter it t k:=let ⟨o,e,r⟩:=x;⟨o,q o e,r⟩
def LV (K:ai)(a b:aj):It :=
 ⟨fun i H=>∃ (xs ys:List V) (x y:V),fR K H a xs∧fR K H b ys∧xs[i]?=some x∧ys[i]?=some y,
  fun i H v H'=>∃ T x y,v=.ref T∧H T=none∧H'=upd H T (.tup [x,y])∧(∀ xs,fR K H a xs→xs[i]?=some x)∧∀ ys,fR K H b ys→ys[i]?=some y,
  fun i H=>∃ xs ys:List V,fR K H a xs∧fR K H b ys∧(xs.length≤i∨ys.length≤i)⟩
theorem JT {P:aV}{w:bK}{K:ai}{elts:List Expr}{kk:Nat}{md:jR}{a b z TI TO i1 i2:aj}(D:z4 z TI TO i1 i2 a b) :
  Turn P w K (.Tuple elts kk md) (LV K a b) [z,TI,TO,i1,i2] z (fun i h=>nZ h z TI TO .none∧gw h TI (.ref i1) (.ref i2)∧(∃ x y,gw h TO x y)∧h.IsTupleIter i1 a i∧h.IsTupleIter i2 b i) where
 mem:=by simp
 obj:=fun i h st c hc=>by
  obtain ⟨hz,hTI,⟨x,y,hTO⟩,⟨o1,e1,_,d1⟩,⟨o2,e2,_,d2⟩⟩:=st
  have e':c=z∨c=TI∨c=TO∨c=i1∨c=i2:=by simpa using hc
  rcases e' with q | q | q | q | q
  ·rw[q];exact ⟨_,hz,fun v q=>nomatch q⟩
  ·rw[q];exact ⟨_,hTI,fun v q=>nomatch q⟩
  ·rw[q];exact ⟨_,hTO,fun v q=>nomatch q⟩
  ·rw[q];exact ⟨o1,e1,fun v q=>by rw[d1] at q;cases q⟩
  ·rw[q];exact ⟨o2,e2,fun v q=>by rw[d2] at q;cases q⟩
 keep:=fun i h h' st k=>by
  obtain ⟨hz,hTI,⟨x,y,hTO⟩,h1,h2⟩:=st
  exact ⟨k z (by simp) _ hz,k TI (by simp) _ hTI,⟨x,y,k TO (by simp) _ hTO⟩,We h1 fun o q=>k i1 (by simp) o q,We h2 fun o q=>k i2 (by simp) o q⟩
 item:=by
  intro X hP hw hK hc i pins s σ H E I hf st hg
  subst hP hw hK
  obtain ⟨hz,hTI,⟨x0,y0,hTO⟩,h1,h2⟩:=st
  obtain ⟨xs,ys,x,y,hqx,hqy,hx,hy⟩:=hg
  obtain ⟨its,rv,p,_⟩:=I.tuple hqx
  obtain ⟨its2,rv2,p2,_⟩:=I.tuple hqy
  obtain ⟨u,hu,ru⟩:=rv.get hx
  obtain ⟨u2,hu2,ru2⟩:=rv2.get hy
  have hzl:z<s.heap.objs.size:=aN hz
  refine EC D hz hTI hTO ⟨h1,p⟩ ⟨h2,p2⟩ (x:=u) (y:=u2) (by simpa using hu) (by simpa using hu2) fun h' z' TO' h1' h2' hT hk=>?_
  refine ⟨_,rfl,Js (s:={s with heap:=h'}) z' fun h'' z'' sb=>?_⟩
  have hT2:h''.get? s.heap.objs.size=some {cls:=.type "tuple",data:=.seq #[u,u2]}:=(sb.2 _ (gh hzl)).trans hT
  have new:fQ X.prog X.w (upd H s.heap.objs.size (.tup [x,y])) h'' s.heap.objs.size (.tup [x,y]) :=
   ⟨by show 2≤aP;decide,[u,u2],.cons ru (.cons ru2 .nil),⟨_,hT2,rfl,_,rfl⟩⟩
  have I1:Inv X pins σ (upd H s.heap.objs.size (.tup [x,y])) {s with heap:=h''} :=
   I.oN (t':=s.toks) (ch:=[z,TI,TO,i1,i2]) (fun c o hb q=>(sb.2 c (fun q'=>hb (by simp[q']))).trans (hk c o (fun q'=>hb (by simp[q'])) (fun q'=>hb (by simp[q'])) (fun q'=>hb (by simp[q'])) (fun q'=>hb (by simp[q'])) q)) hf (aL _) new
  refine ⟨.ref s.heap.objs.size,_,I1,rfl,⟨_,x,y,rfl,I.fu.fresh (aL _),rfl,fun l hl=>by rw[I.vK hl hqx];exact hx,fun l hl=>by rw[I.vK hl hqy];exact hy⟩,⟨z'',?_,⟨u,u2,?_⟩,?_,?_⟩,fun c hcm=>?_⟩
  ·exact (sb.2 _ D.TIz).trans (hk _ _ D.TIz D.TITO D.TIi1 D.TIi2 hTI)
  ·exact (sb.2 _ D.TOz).trans TO'
  ·exact We h1' fun o q=>(sb.2 _ D.i1z).trans q
  ·exact We h2' fun o q=>(sb.2 _ D.i2z).trans q
  ·have j7:c<s.heap.objs.size:=by
    have e':c=z∨c=TI∨c=TO∨c=i1∨c=i2:=by simpa using hcm
    rcases e' with q | q | q | q | q
    ·rw[q];exact hzl
    ·rw[q];exact aN hTI
    ·rw[q];exact aN hTO
    ·rw[q];obtain ⟨_,e1,_⟩:=h1;exact aN e1
    ·rw[q];obtain ⟨_,e2,_⟩:=h2;exact aN e2
   rw[aW (bg j7)]
   exact (hf c hcm).1
 done:=by
  intro X hP hw hK hc i pins s σ H E I hf st hg
  subst hP hw hK
  obtain ⟨hz,hTI,⟨x0,y0,hTO⟩,h1,h2⟩:=st
  obtain ⟨xs,ys,hqx,hqy,hend⟩:=hg
  obtain ⟨its,rv,p,_⟩:=I.tuple hqx
  obtain ⟨its2,rv2,p2,_⟩:=I.tuple hqy
  have l1:=rv.length
  have l2:=rv2.length
  have he:its.toArray[i]?=none∨its2.toArray[i]?=none:=by
   rcases hend with q | q
   ·exact .inl (by simp;omega)
   ·exact .inr (by simp;omega)
  exact xp (I.ok.hd hc) D hz hTI hTO ⟨h1,p⟩ ⟨h2,p2⟩ he fun h' hk=>⟨rfl,I.HY (t':=s.toks) (ch:=[z,TI,TO,i1,i2]) (fun c o hb q =>
   hk c o (fun q'=>hb (by simp[q'])) (fun q'=>hb (by simp[q'])) (fun q'=>hb (by simp[q'])) (fun q'=>hb (by simp[q'])) q) hf⟩
 self:=fun A i s Q E st h=>sU st.1 h
def VO (K:ai)(ta:TA):TI:=fun σ H R=>ta σ H fun vs H1=>∃ a b xs ys,vs=[.ref a,.ref b]∧fR K H1 a xs∧fR K H1 b ys∧R (LV K a b) H1
theorem Ql {X:Cx}{e e2:Expr}{ta:TA}{p pos md:jR}{elts:List Expr}{kk:Nat}(hg:Gl X "zip")(hm:X.mg "zip"=none)(ha:PA X [e,e2] ta)
  (hs:bS [e,e2] X.env=(false,eval e X.env)::bS [e2] X.env:=by rfl)(hpl:(backTo pos (bS [e2] X.env)).any (·.1)=false:=by rfl) :
  PI X (.Tuple elts kk md) (.Call (.Name "zip" p) [e,e2] [] pos) (VO X.K ta):=by
 intro pins s σ H R I h
 refine Call_ (jy I hg hm A7 (cN (gN (ha pos pins s σ H _ I h) fun us s1 ⟨vs,H1,I1,r1,q1⟩=>?_) hs hpl))
 obtain ⟨a,b,xs,ys,ex,hqx,hqy,q⟩:=q1
 subst ex
 cases r1 with
 | cons r rr =>
  cases rr with
  | cons r' rr =>
   cases rr
   cases r
   cases r'
   obtain ⟨its,rv,p1,_⟩:=I1.tuple hqx
   obtain ⟨its2,rv2,p2,_⟩:=I1.tuple hqy
   have la:a<s1.heap.objs.size:=let ⟨_,q,_⟩:=p1;aN q
   have lb:b<s1.heap.objs.size:=let ⟨_,q,_⟩:=p2;aN q
   refine K0 p1 p2 fun h' hz hTI hTO h1 h2 hk=>sU hz ?_
   have I2:Inv X pins σ H1 {s1 with heap:=h'}:=I1.kept (t':=s1.toks) hk
   refine ⟨s1.heap.objs.size+4,[s1.heap.objs.size+4,s1.heap.objs.size+2,s1.heap.objs.size+3,s1.heap.objs.size,s1.heap.objs.size+1],_,_,H1,rfl,I2,JT (Jt s1.heap.objs.size a b la lb),⟨hz,hTI,⟨_,_,hTO⟩,h1,h2⟩,fun c hcm=>?_,q⟩
   have e':c=s1.heap.objs.size+4∨c=s1.heap.objs.size+2∨c=s1.heap.objs.size+3∨c=s1.heap.objs.size∨c=s1.heap.objs.size+1:=by simpa using hcm
   have hle:s1.heap.objs.size≤c:=by
    rcases e' with z | z | z | z | z
    ·rw[z];exact gf _ _
    ·rw[z];exact gf _ _
    ·rw[z];exact gf _ _
    ·rw[z];exact aL _
    ·rw[z];exact gf _ _
   exact I1.De hle (I1.fu.fresh hle)
end L2
namespace Sk
open PySem PySem.Spec PyProof.Rows L2
def jE (H:Hp)(a:aj)(c:bM):Prop:=∃ b,H a=some (.tup [iv c.env,.ref b])∧H b=some (.tup (eX c.sounds))
theorem jE.same {H H':Hp}{a:aj}{c:bM}(h:jE H a c)(s:aM H H'):jE H' a c:=let ⟨b,e,f⟩:=h;⟨b,s _ _ e,s _ _ f⟩
theorem sG {H H':Hp}(s:aM H H'):∀ {rs:List aj} {cs:List bM},Paired (jE H) rs cs→Paired (jE H') rs cs
 | _,_,.nil=>.nil
 | _,_,.cons a t=>.cons (a.same s) (sG s t)
def gJ (H:Hp)(q:aj)(w:eJ):Prop:=∃ rs:List aj,H q=some (.lst (rs.map V.ref))∧Paired (jE H) rs w
theorem gJ.same {H H':Hp}{q:aj}{w:eJ}(h:gJ H q w)(s:aM H H'):gJ H' q w:=let ⟨rs,e,f⟩:=h;⟨rs,s _ _ e,sG s f⟩
theorem pH {H H':Hp}(s:aM H H'):∀ {qs:List aj} {ws:List eJ},Paired (gJ H) qs ws→Paired (gJ H') qs ws
 | _,_,.nil=>.nil
 | _,_,.cons a t=>.cons (a.same s) (pH s t)
def lU (H:Hp)(p:aj)(ws:List eJ):Prop:=∃ qs:List aj,H p=some (.lst (qs.map V.ref))∧Paired (gJ H) qs ws
theorem lU.same {H H':Hp}{p:aj}{ws:List eJ}(h:lU H p ws)(s:aM H H'):lU H' p ws:=let ⟨rs,e,f⟩:=h;⟨rs,s _ _ e,pH s f⟩
def kc (c:bM):List eF:=[.inl (.inl (c.env:Int)),.inr (c.sounds.map fun n=>.inl ((n:Nat):Int))]
theorem wV:∀ {l m:List Nat},(l.map fun n=>(gK ((n:Nat):Int):Key))=m.map (fun n=>gK ((n:Nat):Int))→l=m
 | [],[],_=>rfl
 | [],_::_,h=>by simp at h
 | _::_,[],h=>by simp at h
 | a::l,b::m,h=>by
  rw[bq,bq] at h
  injection h with h1 h2
  injection h1 with h1
  rw[wV h2]
  congr 1
  omega
theorem F0 {c d:bM}(h:kc c=kc d):c=d:=by
 obtain ⟨e,s⟩:=c
 obtain ⟨f,t⟩:=d
 unfold kc at h
 injection h with h1 h2
 injection h2 with h2 _
 injection h1 with h1
 injection h1 with h1
 injection h2 with h2
 have e1:e=f:=by
  have h1:(e:Int)=(f:Int):=h1
  omega
 have e2:s=t:=wV h2
 rw[e1,e2]
theorem IL (l:List Nat):(l.map fun n=>(gK ((n:Nat):Int):Key)).map kV=eX l:=by
 rw[bx]
 rfl
theorem jE.key {H:Hp}{a:aj}{c:bM}(h:jE H a c):lD H a (kc c):=by
 obtain ⟨b,e,f⟩:=h
 refine ⟨_,e,.cons rfl (.cons ⟨b,rfl,?_⟩ .nil)⟩
 rw[IL]
 exact f
theorem jE.Mw {H:Hp}{a:aj}{c:bM}(h:lD H a (kc c)):jE H a c:=by
 obtain ⟨vs,e,q⟩:=h
 unfold kc at q
 cases q with
 | cons q1 q2 =>
  cases q2 with
  | cons q2 q3 =>
   cases q3
   obtain ⟨b,eb,f⟩:=q2
   rw[IL] at f
   have q1:_=V.int (c.env:Int):=q1
   subst q1 eb
   exact ⟨b,e,f⟩
def jK (t:List (bM×Nat)):List (List eF×V):=t.map fun kv=>(kc kv.1,iv kv.2)
theorem Ot (t:List (bM×Nat))(c:bM):kg (jK t) (kc c)=(t.find? fun kv=>decide (kv.1=c)).map fun kv=>iv kv.2:=by
 induction t with
 | nil=>rfl
 | cons kv t ih =>
  by_cases e:kv.1=c
  ·rw[cJ,decide_eq_true e]
   exact iD (p:=(kc kv.1,iv kv.2)) (by rw[e])
  ·rw[cJ,decide_eq_false e]
   exact (iE (p:=(kc kv.1,iv kv.2)) fun z=>e (F0 z)).trans ih
theorem Ov (t:List (bM×Nat))(c:bM):((jK t).any fun kv=>decide (kv.1=kc c))=t.any fun kv=>decide (kv.1=c):=by
 unfold jK
 rw[mM]
 refine congrArg (fun f=>t.any f) (funext fun kv=>?_)
 exact decide_eq_decide.mpr ⟨fun z=>F0 z,fun z=>congrArg kc (show kv.1=c from z)⟩
theorem Gn (l:List bM)(c:bM):((gO l).find? fun kv=>decide (kv.1=c))=if c∈l then some (c,(l.filter fun x=>x==c).length) else none:=by
 unfold gO
 by_cases h:c∈l
 ·rw[if_pos h]
  have m:=(ig c l).mpr h
  generalize l.eraseDups=d at m
  induction d with
  | nil=>simp at m
  | cons x d ih =>
   rw[bq,cJ]
   by_cases e:x=c
   ·subst e;simp
   ·rw[show decide ((x,(l.filter fun y=>y==x).length).1=c)=false from decide_eq_false e]
    exact ih (by rcases aI.mp m with z | z;exact absurd z.symm e;exact z)
 ·rw[if_neg h,nI]
  intro kv hkv
  obtain ⟨x,hx,rfl⟩:=aX.mp hkv
  have:=(ig x l).mp hx
  simp only[decide_eq_true_eq]
  rintro rfl
  exact h this
theorem JX (l:List bM)(c:bM):putK (jK (gO l)) (kc c) (iv ((l.filter fun x=>x==c).length+1))=jK (gO (l++[c])):=by
 rw[Gm]
 unfold putK bump
 rw[Ov]
 by_cases h:((gO l).any fun kv=>decide (kv.1=c))=true
 ·rw[if_pos h,if_pos h]
  unfold jK
  rw[bx,bx]
  refine dt fun kv hkv=>?_
  obtain ⟨x,_,rfl⟩:=aX.mp hkv
  show (if kc x=kc c then (kc x,iv ((l.filter fun y=>y==c).length+1)) else (kc x,iv (l.filter fun y=>y==x).length))=_
  show _=(fun kv:bM×Nat=>(kc kv.1,iv kv.2)) (if x=c then (x,(l.filter fun y=>y==x).length+1) else (x,(l.filter fun y=>y==x).length))
  by_cases e:x=c
  ·subst e;rw[if_pos rfl,if_pos rfl]
  ·rw[if_neg (fun z=>e (F0 z)),if_neg e]
 ·rw[if_neg h,if_neg h]
  have z:l.filter (fun x=>x==c)=[]:=by
   rw[kF]
   intro x hx q
   have e:x=c:=by simpa using q
   subst e
   refine h (qe.mpr ⟨(x,_),aX.mpr ⟨x,(ig x l).mpr hx,rfl⟩,by simp⟩)
  rw[z]
  unfold jK
  rw[ba]
  rfl
theorem Au (l:List bM):(jK (gO l)).length≤l.length:=by
 unfold jK gO
 rw[ae,ae]
 exact IX l
theorem JY (l:List bM)(c:bM):(kg (jK (gO l)) (kc c)).getD (V.int 0)=iv (l.filter fun x=>x==c).length:=by
 rw[Ot,Gn]
 by_cases h:c∈l
 ·rw[if_pos h];rfl
 ·rw[if_neg h]
  have z:l.filter (fun x=>x==c)=[]:=by
   rw[kF]
   intro x hx q
   have e:x=c:=by simpa using q
   exact h (e▸hx)
  rw[z];rfl
theorem cZ {α β:Type}{R:α→β→Prop}:∀ {l:List α} {m:List β} {i:Nat} {a:α},Paired R l m→l[i]?=some a→∃ b,m[i]?=some b∧R a b
 | _,_,i,_,.nil,h=>by simp at h
 | _,_,0,_,.cons r _,h=>by
  cases aH h
  exact aJ rfl r
 | _,_,i+1,_,.cons _ t,h=>cZ (i:=i) t h
theorem fq {rs:List aj}{i:Nat}{x:V}(h:(rs.map V.ref)[i]?=some x):∃ r,rs[i]?=some r∧x=V.ref r:=by
 rw[aO] at h
 cases e:rs[i]? with
 | none=>rw[e] at h;cases h
 | some r=>rw[e] at h;exact ⟨r,rfl,(aH h).symm⟩
def pA:Sp:=fun vs H Q _=>∃ (p:aj) (ws:List eJ),vs=[.ref p]∧lU H p ws∧ws.flatten.length≤1000∧∀ H' t,aM H H'→H t=none→H' t=some (.dT (jK (gO ws.flatten)))→Q (.ref t) H'
section
variable {P:aV}{w:bK}{K:ai}{mg:bZ→Option ag}{base:bW}
theorem xG:bX ["words","counts","places","place"] ["words"] (bB BL):=kG
theorem NY {f:aj}{fd:bH}(F:jb K "count_places" "count_places" BL f fd):cP P w K mg base fG 1 f fd ["words"] pA:=by
 refine F.ok xG (fun vs H Q E h=>?_) (fun gq A outer s H vs Q E hr h=>?_)
 ·obtain ⟨p,ws,rfl,_⟩:=h
  rfl
 ·obtain ⟨p,ws,rfl,⟨qs,hp,pw⟩,hlen,k⟩:=h
  have hu:=wB hr
  refine ⟨_,aE (cy (i:=1) xG.nd rfl (bp rfl) yN)
   (aE (gz bL rfl (eh (pv 0)) (cK (i:=2) xG.nd rfl (bp rfl))
    (aR (gz bL rfl (eh (pv 2)) (cK (i:=3) xG.nd rfl (bp rfl))
     (aR (xV hu (pv 1) (pv 3) (d4 eO (DY hu (pv 1) (pv 3) aZ ⟨rfl,rfl,rfl,rfl⟩) aZ) rfl)))))
   (aR (bO (pv 1)))),?_⟩
  refine cQ fun d hd=>?_
  have s0:aM H (upd H d (.dT [])):=aM.new hd
  refine ⟨_,rfl,p,rfl,⟨_,cI.of (s0 _ _ hp)⟩,iF (K:=K) (a:=p) (xs:=qs.map V.ref) (fun i σ H'=>∃ v2 v3:Option V,σ=[some (.ref p),some (.ref d),v2,v3]∧aM H H'∧H' d=some (.dT (jK (gO (ws.take i).flatten))))
   ⟨none,none,rfl,s0,aw⟩ (fun i σ H' _ ⟨_,_,_,s1,_⟩=>cI.of (s1 _ _ hp)) ?_ ?_⟩
  ·rintro i y σ H1 hi ⟨v2,v3,rfl,s1,e1⟩
   obtain ⟨q,hq,rfl⟩:=fq hi
   obtain ⟨wd,hw,rs,hrs,pc⟩:=cZ pw hq
   refine ⟨_,rfl,q,rfl,⟨_,cI.of (s1 _ _ hrs)⟩,iF (K:=K) (a:=q) (xs:=rs.map V.ref) (fun j σ H'=>∃ v3:Option V,σ=[some (.ref p),some (.ref d),some (.ref q),v3]∧aM H H'∧H' d=some (.dT (jK (gO ((ws.take i).flatten++wd.take j)))))
    ⟨v3,rfl,s1,by rw[List.take_zero,bY];exact e1⟩ (fun j σ H' _ ⟨_,_,s2,_⟩=>cI.of (s2 _ _ hrs)) ?_ ?_⟩
   ·rintro j y σ H2 hj ⟨v3,rfl,s2,e2⟩
    obtain ⟨r,dU,rfl⟩:=fq hj
    obtain ⟨c,hc,ca⟩:=cZ pc dU
    have ck:=(ca.same s2).key
    have sz:(jK (gO ((ws.take i).flatten++wd.take j))).length<aP:=by
     refine aF (aB (Au _) (aB ?_ hlen)) (by decide)
     have t1:=take_snoc hw
     have t2:(ws.take i).flatten.length+wd.length≤ws.flatten.length:=by
      have z:ws.flatten=(ws.take (i+1)).flatten++(ws.drop (i+1)).flatten:=by rw[← jt,k7]
      rw[z,t1,jt,aK,aK]
      simp
     rw[aK,bP]
     omega
    refine aJ rfl ⟨d,rfl,.inr ⟨_,.inl e2⟩,aJ rfl ⟨_,ux.t e2 ck,(((((ws.take i).flatten++wd.take j).filter fun x=>x==c).length:Nat):Int),1,JY _ _,rfl,aJ rfl (aJ rfl ⟨d,aJ rfl ⟨zY.t e2 ck sz,aJ rfl ⟨s2.upd hd,?_⟩⟩⟩)⟩⟩
    ·rw[aw,take_snoc hc,← dE]
     exact congrArg (fun z=>some (HO.dT z)) (JX ((ws.take i).flatten++wd.take j) c)
   ·rintro σ H2 ⟨v3,rfl,s2,e2⟩
    refine ⟨_,aJ rfl ⟨s2,?_⟩⟩
    have t:(rs.map V.ref).length=wd.length:=by rw[ae,bC pc]
    rw[t,bI] at e2
    rw[e2,take_snoc hw,jt,kD,List.flatten_nil,bY]
  ·rintro σ H1 ⟨v2,v3,rfl,s1,e1⟩
   refine aJ rfl (k H1 d s1 hd ?_)
   rw[e1,ae,bC pw,bI]
end
theorem Of {K:ai}{a b:aj}{xs ys:List V}{g:TG}{tb:TS}{D:Ends}{σ:L2.St}{H:Hp}(Pv:Nat→L2.St→Hp→Prop)(h0:Pv 0 σ H)(hl:∀ i σ H,Pv i σ H→fR K H a xs∧fR K H b ys)
  (hs:∀ i x y σ H T,xs[i]?=some x→ys[i]?=some y→Pv i σ H→H T=none→g (.ref T) σ (upd H T (.tup [x,y])) fun σ2 H2=>tb {D with nx:=Pv (i+1),ct:=Pv (i+1),bk:=D.nx} σ2 H2)(hd:∀ σ H,Pv (min xs.length ys.length) σ H→D.nx σ H) :
  ∃ W:Nat→Nat→L2.St→Hp→Prop,(∃ m,W 0 m σ H)∧∀ i m σ H,W i m σ H →
   ((LV K a b).stop i H∧D.nx σ H)∨((LV K a b).go i H∧∃ N:L2.St→Hp→Prop,(∀ σ' H',N σ' H'→∃ m',m'<m∧W (i+1) m' σ' H')∧∀ x H',(LV K a b).zO i H x H'→g x σ H' fun σ2 H2=>tb {D with nx:=N,ct:=N,bk:=D.nx} σ2 H2):=by
 refine ⟨fun i m σ H=>m=min xs.length ys.length - i∧i≤min xs.length ys.length∧Pv i σ H,⟨_,rfl,aS _,h0⟩,?_⟩
 rintro i m σ H ⟨rfl,hi,p⟩
 obtain ⟨q1,q2⟩:=hl i σ H p
 by_cases lt:i<min xs.length ys.length
 ·have e1:xs[i]?=some (xs[i]'(by omega)):=aD (by omega)
  have e2:ys[i]?=some (ys[i]'(by omega)):=aD (by omega)
  refine .inr ⟨⟨xs,ys,_,_,q1,q2,e1,e2⟩,Pv (i+1),fun σ' H' p'=>⟨_,by omega,rfl,by omega,p'⟩,fun x H' y=>?_⟩
  obtain ⟨T,u,v,rfl,hT,rfl,f1,f2⟩:=y
  exact hs i u v σ H T (f1 xs q1) (f2 ys q2) p hT
 ·have e:i=min xs.length ys.length:=by omega
  exact .inl ⟨⟨xs,ys,q1,q2,by omega⟩,hd σ H (e▸p)⟩
theorem IT {K:ai}{a b:aj}{xs ys:List V}{g:TG}{tb:TS}{D:Ends}{σ:L2.St}{H:Hp}(Pv:Nat→L2.St→Hp→Prop)(h0:Pv 0 σ H)(hl:∀ i σ H,Pv i σ H→cI K H a xs∧cI K H b ys)
  (hs:∀ i x y σ H T,xs[i]?=some x→ys[i]?=some y→Pv i σ H→H T=none→g (.ref T) σ (upd H T (.tup [x,y])) fun σ2 H2=>tb {D with nx:=Pv (i+1),ct:=Pv (i+1),bk:=D.nx} σ2 H2)(hd:∀ σ H,Pv (min xs.length ys.length) σ H→D.nx σ H) :
  ∃ W:Nat→Nat→L2.St→Hp→Prop,(∃ m,W 0 m σ H)∧∀ i m σ H,W i m σ H →
   ((R5 K a b).stop i H∧D.nx σ H)∨((R5 K a b).go i H∧∃ N:L2.St→Hp→Prop,(∀ σ' H',N σ' H'→∃ m',m'<m∧W (i+1) m' σ' H')∧∀ x H',(R5 K a b).zO i H x H'→g x σ H' fun σ2 H2=>tb {D with nx:=N,ct:=N,bk:=D.nx} σ2 H2):=by
 refine ⟨fun i m σ H=>m=min xs.length ys.length - i∧i≤min xs.length ys.length∧Pv i σ H,⟨_,rfl,aS _,h0⟩,?_⟩
 rintro i m σ H ⟨rfl,hi,p⟩
 obtain ⟨q1,q2⟩:=hl i σ H p
 by_cases lt:i<min xs.length ys.length
 ·have e1:xs[i]?=some (xs[i]'(by omega)):=aD (by omega)
  have e2:ys[i]?=some (ys[i]'(by omega)):=aD (by omega)
  refine .inr ⟨⟨xs,ys,_,_,q1,q2,e1,e2⟩,Pv (i+1),fun σ' H' p'=>⟨_,by omega,rfl,by omega,p'⟩,fun x H' y=>?_⟩
  obtain ⟨T,u,v,rfl,hT,rfl,f1,f2⟩:=y
  exact hs i u v σ H T (f1 xs q1) (f2 ys q2) p hT
 ·have e:i=min xs.length ys.length:=by omega
  exact .inl ⟨⟨xs,ys,q1,q2,by omega⟩,hd σ H (e▸p)⟩
theorem qV {x:List Nat}{i:Nat}{v:V}(h:(eX x)[i]?=some v):∃ n,x[i]?=some n∧v=iv n:=by
 rw[aO] at h
 cases e:x[i]? with
 | none=>rw[e] at h;cases h
 | some n=>rw[e] at h;exact ⟨n,rfl,(aH h).symm⟩
theorem qN {m n:Nat}:(!decide (iv m=V.int (n:Int)))=true↔m≠n:=by
 rw[O8,decide_eq_false_iff_not]
 exact ⟨fun h z=>h (by rw[z]),fun h z=>h (by injection z with z;omega)⟩
theorem wC {m n:Nat}:decide (iv m=V.int (n:Int))=true↔m=n:=by
 rw[decide_eq_true_iff]
 exact ⟨fun h=>by injection h with h;omega,fun h=>by rw[h]⟩
def Pb (x:Nat×Nat):Bool:=x.1==0||(x.2==0||x.1==x.2)
theorem TV {m n:Nat}(h1:m≠0)(h2:n≠0)(h3:m≠n):Pb (m,n)=false:=by simp[Pb,h1,h2,h3]
theorem zip_get {x y:List Nat}{i m n:Nat}(h1:x[i]?=some m)(h2:y[i]?=some n):(x.zip y)[i]?=some (m,n):=by
 rw[CU]
 exact ⟨h1,h2⟩
structure LU (K:ai)(mg:bZ→Option ag):Prop where
 UQ:∃ t,mg "UNKNOWN"=some (.int 0 t)
 zip:mg "zip"=none
 len:mg "len"=none
def Sb:Sp:=fun vs H Q _=>∃ (a b:aj) (c d:bM),vs=[.ref a,.ref b]∧jE H a c∧jE H b d∧∀ H',aM H H'→Q (.bl (lh c d)) H'
section
variable {P:aV}{w:bK}{K:ai}{mg:bZ→Option ag}{base:bW}
theorem L3:bX ["pattern","other","one","another"] ["pattern","other"] (bB PF):=kG
theorem TK {f:aj}{fd:bH}(F:jb K "may_be_one" "may_be_one" PF f fd)(T:LU K mg):cP P w K mg base fG 1 f fd ["pattern","other"] Sb:=by
 obtain ⟨tu,hun⟩:=T.UQ
 refine F.ok L3 (fun vs H Q E h=>?_) (fun gq A outer s H vs Q E hr h=>?_)
 ·obtain ⟨a,b,c,d,rfl,_⟩:=h
  rfl
 ·obtain ⟨a,b,c,d,rfl,⟨pa,a1,a2⟩,⟨pb,b1,b2⟩,k⟩:=h
  refine ⟨_,aE (eG (bU wy (cA dR (pv 0) aZ (fun _ _=>rfl)) (cA dR (pv 1) aZ (fun _ _=>rfl)) (cq _)) (aR (bO Ah)) cX)
   (aE (gz bL rfl (Ql rfl T.zip (ah (cA dR (pv 0) aZ (fun _ _=>rfl)) (ah (cA dR (pv 1) aZ (fun _ _=>rfl)) aA)))
    (yE rfl (jo (cK (i:=2) L3.nd rfl (bp rfl)) (jo (cK (i:=3) L3.nd rfl (bp rfl)) uE)))
    (aR (eG (pj (bU wy (pv 2) (cg (v:=.int 0) (by rfl) hun ⟨_,rfl⟩) (cq _)) (pj (bU wy (pv 3) (cg (v:=.int 0) (by rfl) hun ⟨_,rfl⟩) (cq _)) (pC (bU wy (pv 2) (pv 3) (cq _))))).pt
     (aR (bO Ah)) cX)))
   (aR (bO Ah))),?_⟩
  refine aJ rfl (iJ a 0 _ (fR.of a1) (cp (j:=0) rfl) (aJ rfl (iJ b 0 _ (fR.of b1) (cp (j:=0) rfl) ⟨rfl,aJ rfl ?_⟩)))
  refine gI (fun h=>?_) fun h=>?_
  ·have e:=qN.mp h
   have:=k H (aM.refl _)
   rw[show lh c d=true by simp[lh,e]] at this
   exact this
  have he:c.env=d.env:=dW fun z=>h (qN.mpr z)
  refine aJ rfl (iJ a 1 _ (fR.of a1) (cp (j:=1) rfl) (aJ rfl (iJ b 1 _ (fR.of b1) (cp (j:=1) rfl) ⟨pa,pb,_,aJ rfl ⟨fR.of a2,fR.of b2,?_⟩⟩)))
  have sh:lh c d=(c.sounds.zip d.sounds).all Pb:=by
   unfold lh
   rw[he,bne_self_eq_false,Bool.false_or]
   rfl
  refine Of (K:=K) (xs:=eX c.sounds) (ys:=eX d.sounds) (fun i σ H'=>∃ v2 v3:Option V,σ=[some (.ref a),some (.ref b),v2,v3]∧aM H H'∧((c.sounds.zip d.sounds).take i).all Pb=true)
   ⟨none,none,rfl,aM.refl _,rfl⟩ (fun i σ H' ⟨_,_,_,s1,_⟩=>⟨fR.of (s1 _ _ a2),fR.of (s1 _ _ b2)⟩) ?_ ?_
  ·rintro i x y σ H1 T hx hy ⟨v2,v3,rfl,s1,al⟩ hT
   obtain ⟨m,hm,rfl⟩:=qV hx
   obtain ⟨n,hn,rfl⟩:=qV hy
   have s2:aM H (upd H1 T (.tup [iv m,iv n])):=s1.trans (aM.new hT)
   have hz:=zip_get hm hn
   refine ⟨T,aJ rfl ⟨fR.of aw,rfl,_,aJ rfl ⟨_,aJ rfl ⟨rfl,?_⟩⟩⟩⟩
   have next:Pb (m,n)=true→∃ v2 v3:Option V,[some (V.ref a),some (V.ref b),some (iv m),some (iv n)]=[some (.ref a),some (.ref b),v2,v3]∧aM H (upd H1 T (.tup [iv m,iv n]))∧((c.sounds.zip d.sounds).take (i+1)).all Pb=true:=fun q =>
    ⟨_,_,rfl,s2,by rw[take_snoc hz,RU,al];simp[q]⟩
   refine aJ rfl ⟨rfl,aJ rfl ?_⟩
   refine gI (fun h1=>?_) fun h1=>?_
   ·have h1:=qN.mp h1
    refine aJ rfl ⟨rfl,aJ rfl ?_⟩
    refine gI (fun h2=>?_) fun h2=>?_
    ·have h2:=qN.mp h2
     refine aJ rfl (aJ rfl ⟨rfl,aJ rfl ?_⟩)
     refine gI (fun h3=>?_) fun h3=>?_
     ·have h3:=qN.mp h3
      have:=k _ s2
      rw[sh,show (c.sounds.zip d.sounds).all Pb=false from O7.mpr ⟨(m,n),aY hz,by rw[TV h1 h2 h3];decide⟩] at this
      exact this
     ·have h3:m=n:=dW fun z=>h3 (qN.mpr z)
      exact next (by simp[Pb,h3])
    ·have h2:n=0:=dW fun z=>h2 (qN.mpr z)
     exact nN (next (by simp[Pb,h2]))
   ·have h1:m=0:=dW fun z=>h1 (qN.mpr z)
    exact nN (next (by simp[Pb,h1]))
  ·rintro σ H1 ⟨v2,v3,rfl,s1,al⟩
   have:=k H1 s1
   rw[ae,ae,← rM,bI] at al
   rw[sh,al] at this
   exact this
end
def R0 (c:bM)(n:Nat)(x:bM×Nat):Bool:=x.2 != n||lh x.1 c
def Ml:Sp:=fun vs H Q _=>∃ (p g:aj) (cs:List bM) (gs:List Nat) (n:Nat) (c:bM),vs=[.ref p,.ref g,iv n]∧gJ H p cs∧H g=some (.lst (eX gs))∧cs[gs.length]?=some c∧∀ H',aM H H'→Q (.bl (yx (cs.zip gs) c n)) H'
section
variable {P:aV}{w:bK}{K:ai}{mg:bZ→Option ag}{base:bW}
theorem Bw:bX ["patterns","given","number","following","pattern","taken"] ["patterns","given","number"] (bB HF):=kG
theorem QA {f fm:aj}{fd fdm:bH}(F:jb K "fits" "fits" HF f fd)(T:LU K mg)(G:cP P w K mg base fG 1 fm fdm ["pattern","other"] Sb)(mm:mg "may_be_one"=some (.ref fm))(km:aQ K (.ref fm)=true)(bm:Binds K fdm ["pattern","other"] []) :
  cP P w K mg base fG 2 f fd ["patterns","given","number"] Ml:=by
 refine F.ok Bw (fun vs H Q E h=>?_) (fun gq A outer s H vs Q E hr h=>?_)
 ·obtain ⟨p,g,cs,gs,n,c,rfl,_⟩:=h
  rfl
 ·obtain ⟨p,g,cs,gs,n,c,rfl,⟨rs,hp,pc⟩,hg,hc,k⟩:=h
  refine ⟨_,aE (cy (i:=3) Bw.nd rfl (bp rfl) (cA cM (pv 0) (bR bG (by rfl) T.len bj (ah (pv 1) aA)) (fun _ _=>rfl)))
   (aE (gz bL rfl (FT rfl T.zip (ah (pv 0) (ah (pv 1) aA))) (yE rfl (jo (cK (i:=4) Bw.nd rfl (bp rfl)) (jo (cK (i:=5) Bw.nd rfl (bp rfl)) uE)))
    (aR (eG (pj (bU gC (pv 5) (pv 2) (cq _)) (pC (tO (pk (cj G hr (by rfl) mm km bm .nil cU (ah (pv 4) (ah (pv 3) aA))))))).pt (aR (bO Ah)) cX)))
   (aR (bO Ah))),?_⟩
  obtain ⟨r,qF,ca⟩:=kL pc hc
  refine cQ (aJ rfl (aJ rfl ⟨g,aJ rfl ⟨.inl (cI.of hg),p,_,_,V.ref r,rfl,rfl,cI.of hp,?_,?_⟩⟩))
  ·rw[ae]
   exact cp (by rw[aO,qF];rfl)
  refine aJ rfl (aJ rfl ⟨p,g,_,aJ rfl ⟨cI.of hp,cI.of hg,?_⟩⟩)
  have fk:yx (cs.zip gs) c n=(cs.zip gs).all (R0 c n):=rfl
  refine IT (K:=K) (xs:=rs.map V.ref) (ys:=eX gs) (fun i σ H'=>∃ v4 v5:Option V,σ=[some (.ref p),some (.ref g),some (iv n),some (.ref r),v4,v5]∧aM H H'∧((cs.zip gs).take i).all (R0 c n)=true)
   ⟨none,none,rfl,aM.refl _,rfl⟩ (fun i σ H' ⟨_,_,_,s1,_⟩=>⟨cI.of (s1 _ _ hp),cI.of (s1 _ _ hg)⟩) ?_ ?_
  ·rintro i x y σ H1 T hx hy ⟨v4,v5,rfl,s1,al⟩ hT
   obtain ⟨a,ha,rfl⟩:=fq hx
   obtain ⟨m,hm,rfl⟩:=qV hy
   obtain ⟨d,hd,da⟩:=cZ pc ha
   have s2:aM H (upd H1 T (.tup [V.ref a,iv m])):=s1.trans (aM.new hT)
   have hz:(cs.zip gs)[i]?=some (d,m):=CU.mpr ⟨hd,hm⟩
   refine ⟨T,aJ rfl ⟨fR.of aw,rfl,_,aJ rfl ⟨_,aJ rfl ⟨rfl,?_⟩⟩⟩⟩
   have next:∀ H2,aM H H2→R0 c n (d,m)=true→∃ v4 v5:Option V,[some (V.ref p),some (V.ref g),some (iv n),some (V.ref r),some (V.ref a),some (iv m)]=[some (.ref p),some (.ref g),some (iv n),some (.ref r),v4,v5]∧aM H H2∧((cs.zip gs).take (i+1)).all (R0 c n)=true:=fun H2 s3 q =>
    ⟨_,_,rfl,s3,by rw[take_snoc hz,RU,al];simp[q]⟩
   refine aJ rfl (aJ rfl ⟨rfl,aJ rfl ?_⟩)
   refine gI (fun h1=>?_) fun h1=>?_
   ·have h1:m=n:=wC.mp h1
    refine aJ rfl (aJ rfl ⟨a,r,d,c,rfl,da.same s2,ca.same s2,fun H3 s3=>⟨_,rfl,?_⟩⟩)
    refine gI (fun h2=>?_) fun h2=>?_
    ·have h2:lh d c=false:=by simpa using h2
     have:=k _ (s2.trans s3)
     rw[fk,show (cs.zip gs).all (R0 c n)=false from O7.mpr ⟨(d,m),aY hz,by simp[R0,h1,h2]⟩] at this
     exact this
    ·have h2:lh d c=true:=by simpa using h2
     exact next _ (s2.trans s3) (by simp[R0,h2])
   ·have h1:¬ m=n:=fun z=>h1 (wC.mpr z)
    exact nN (next _ s2 (by simp[R0,h1]))
  ·rintro σ H1 ⟨v4,v5,rfl,s1,al⟩
   have:=k H1 s1
   rw[ae,ae,bC pc,← rM,bI] at al
   rw[fk,al] at this
   exact this
end
theorem wb:∀ (gs:List Nat) (m:Nat),ow (some (m:Int)) (gs.map fun n=>((n:Nat):Int))=some ((max (m+1) (bb gs):Nat) - 1:Int)
 | [],m=>by
  show some (m:Int)=_
  congr 1
  simp[bb]
 | a::gs,m=>by
  rw[bq,ow,lY]
  by_cases h:(a:Int) > (m:Int)
  ·rw[if_pos h,wb gs a]
   congr 2
   have:m<a:=by omega
   omega
  ·rw[if_neg h,wb gs m]
   congr 2
   have:¬ m<a:=by omega
   omega
theorem sI (gs:List Nat):HQ (V.int (-1)) (ow none (gs.map fun n=>((n:Nat):Int)))=V.int ((bb gs:Int) - 1):=by
 cases gs with
 | nil=>rfl
 | cons a gs =>
  rw[bq,ow,wb,lY]
  rfl
def PU (H:Hp)(v:V):Option (List Nat)→Prop
 | some l=>∃ t,v=.ref t∧H t=some (.lst (eX l))
 | none=>v=.hU
def Dj (m:Nat):Sp:=fun vs H Q _=>∃ (p g:aj) (cs:List bM) (gs:List Nat) (lim:Nat),vs=[.ref p,iv lim,.ref g]∧gJ H p cs∧H g=some (.lst (eX gs))∧gs.length≤cs.length∧cs.length<gs.length+m∧cs.length≤1000∧lim≤5000000000∧bb gs≤gs.length ∧
 ∀ H' v,aM H H'→PU H' v ((gj lim (cs.zip gs) (bb gs) (cs.drop gs.length)).map (gs++·))→Q v H'
theorem Kg (gs:List Nat)(k:Nat)(h:k≤bb gs):bb (gs++[k])=if k=bb gs then bb gs+1 else bb gs:=by
 have:bb (gs++[k])=max (bb gs) (k+1):=by
  unfold bb
  rw[List.foldl_append]
  rfl
 rw[this]
 split<;>omega
theorem Du {α β:Type}:∀ {l:List α} {m:List β} {c:α} {k:β},l[m.length]?=some c→l.zip (m++[k])=l.zip m++[(c,k)]
 | a::l,[],c,k,h=>by
  cases aH h
  simp
 | [],[],c,k,h=>by simp at h
 | [],b::m,c,k,h=>by simp at h
 | a::l,b::m,c,k,h=>by
  rw[qd,jS,jS,qd,Du (l:=l) (m:=m) h]
def LY (lim:Nat)(had:List (bM×Nat))(n:Nat)(c:bM)(l:List bM)(k:Nat):Option (List Nat) :=
 if yx had c k=true then (gj lim (had++[(c,k)]) (if k=n then n+1 else n) l).map fun r=>k::r else none
theorem Nc (lim:Nat)(had:List (bM×Nat))(n:Nat)(c:bM)(l:List bM):gj lim had n (c::l)=(br (min lim (n+1))).findSome? (LY lim had n c l):=rfl
theorem zy {α:Type}(f:Nat→Option α):∀ (n k:Nat) (v:α),k<n→(∀ j<k,f j=none)→f k=some v→(br n).findSome? f=some v
 | 0,k,v,h,_,_=>by omega
 | n+1,k,v,h,h1,h2=>by
  rw[RP,sO]
  by_cases e:k=n
  ·subst e
   rw[iK fun a ha=>h1 a (dN.mp ha)]
   simp[h2]
  ·rw[zy f n k v (by omega) h1 h2]
   rfl
theorem xq {α:Type}(f:Nat→Option α)(n:Nat)(h:∀ j<n,f j=none):(br n).findSome? f=none:=iK fun a ha=>h a (dN.mp ha)
section
variable {P:aV}{w:bK}{K:ai}{mg:bZ→Option ag}{base:bW}
theorem L1:bX ["patterns","limit","given","number","way"] ["patterns","limit","given"] (bB PD):=kG
theorem Mv {f ff:aj}{fd fdf:bH}(F:jb K "first_way" "first_way" PD f fd)(T:LU K mg)(hmin:mg "min"=none)(hmax:mg "max"=none)(hrg:mg "range"=none)
  (G:cP P w K mg base fG 2 ff fdf ["patterns","given","number"] Ml)(mf:mg "fits"=some (.ref ff))(kf:aQ K (.ref ff)=true)(bf:Binds K fdf ["patterns","given","number"] [])
  (mw:mg "first_way"=some (.ref f))(kw:aQ K (.ref f)=true)(bw:Binds K fd ["patterns","limit","given"] []) :
  ∀ m,cP P w K mg base fG (m+2) f fd ["patterns","limit","given"] (Dj m)
 | 0=>by
  have no:∀ vs H Q E,¬ Dj 0 vs H Q E:=fun vs H Q E h=>by
   obtain ⟨p,g,cs,gs,lim,rfl,_,_,h1,h2,_⟩:=h
   omega
  exact ⟨fun vs H Q E h=>(no _ _ _ _ h).elim,fun A outer s H args us vs Q E _ _ _ _ h=>(no _ _ _ _ h).elim⟩
 | m+1=>by
  have R:=Mv F T hmin hmax hrg G mf kf bf mw kw bw m
  refine F.ok (k:=m+2) L1 (fun vs H Q E h=>?_) (fun gq A outer s H vs Q E hr h=>?_)
  ·obtain ⟨p,g,cs,gs,lim,rfl,_⟩:=h
   rfl
  ·obtain ⟨p,g,cs,gs,lim,rfl,hp,hg,l1,l2,l3,l4,l5,k⟩:=h
   obtain ⟨rs,hp1,pc⟩:=id hp
   have hr2:fS 2 _:=hr.mono (by omega)
   refine ⟨_,aE (eG (bU gC (bR bG (by rfl) T.len bj (ah (pv 2) aA)) (bR bG (by rfl) T.len bj (ah (pv 0) aA)) (cq _)) (aR (bO (pv 2))) cX)
    (aE (gz bL rfl (oP rfl hrg (ah (bR (K3 rfl) (by rfl) hmin Fv (ah (pv 1) (ah (d4 eO (xW rfl (by rfl) hmax (ah (pv 2) aA) (qM mj aZ)) aZ) aA))) aA)) (cK (i:=3) L1.nd rfl (bp rfl))
     (aR (eG (pk (cj G hr2 (by rfl) mf kf bf .nil cU (ah (pv 0) (ah (pv 2) (ah (pv 3) aA)))))
      (aE (cy (i:=4) L1.nd rfl (bp rfl) (cj R hr (by rfl) mw kw bw .nil cU (ah (pv 0) (ah (pv 1) (ah (d4 jx (pv 2) (cS (ah (pv 3) aA))) aA)))))
       (aR (eG (bU xY (pv 4) nR (cq _)) (aR (bO (pv 4))) cX)))
      cX)))
    (aR (bO nR))),?_⟩
   have hln:(rs.map V.ref).length=cs.length:=by rw[ae,bC pc]
   have hgl:(eX gs).length=gs.length:=ae ..
   refine aJ rfl ⟨g,aJ rfl ⟨.inl (cI.of hg),aJ rfl ⟨p,aJ rfl ⟨.inl (cI.of hp1),rfl,aJ rfl ?_⟩⟩⟩⟩
   rw[hln,hgl]
   refine gI (fun h1=>?_) fun h1=>?_
   ·have e:gs.length=cs.length:=by
     have:=of_decide_eq_true h1
     injection this with this
     omega
    refine aJ rfl (k H _ (aM.refl _) ?_)
    rw[e,qc]
    exact ⟨g,rfl,by show H g=some (.lst (eX (gs++[])));rw[bY];exact hg⟩
   have ne:gs.length<cs.length:=OZ l1 fun z=>h1 (decide_eq_true (by rw[z]))
   have hc:cs[gs.length]?=some cs[gs.length]:=aD ne
   have hdrop:cs.drop gs.length=cs[gs.length]::cs.drop (gs.length+1):=dz ne
   rw[hdrop,Nc] at k
   have hgi:eX gs=(gs.map fun n=>((n:Nat):Int)).map V.int:=by rw[bx];rfl
   refine aJ rfl (aJ rfl (aJ rfl ⟨g,aJ rfl ⟨cI.of (hgi▸hg),_,2,sI gs,rfl,(lim:Int),(bb gs:Int) - 1+2,rfl,((min lim (bb gs+1):Nat):Int),?_,?_,?_,?_⟩⟩))
   ·congr 2
    have:((bb gs:Int) - 1+2<(lim:Int))↔bb gs+1<lim:=by omega
    by_cases q:bb gs+1<lim
    ·rw[if_pos (this.mpr q)];omega
    ·rw[if_neg fun z=>q (this.mp z)];omega
   ·omega
   ·omega
   rw[bT]
   refine oQ (fun i σ H'=>∃ v3 v4:Option V,σ=[some (.ref p),some (iv lim),some (.ref g),v3,v4]∧aM H H'∧∀ j<i,LY lim (cs.zip gs) (bb gs) cs[gs.length] (cs.drop (gs.length+1)) j=none)
    ⟨none,none,rfl,aM.refl _,fun j h=>by omega⟩ ?_ ?_
   ·rintro i σ H1 hi ⟨v3,v4,rfl,s1,al⟩
    have ei:(0:Int)+(i:Int)=(i:Int):=Gf _
    rw[ei]
    refine aJ rfl (aJ rfl (aJ rfl ⟨p,g,cs,gs,i,aJ rfl ⟨hp.same s1,s1 _ _ hg,hc,fun H2 s2=>⟨_,rfl,?_⟩⟩⟩))
    have s12:=s1.trans s2
    refine gI (fun h2=>?_) fun h2=>?_
    ·
     refine cQ (aJ rfl (aJ rfl (aJ rfl (aJ rfl ⟨oj,fun q hq=>?_⟩))))
     have s3:=aM.new (o:=.lst [iv i]) hq
     refine ⟨g,q,_,aJ rfl ⟨rfl,s3 _ _ (s12 _ _ hg),aw,?_,fun q2 hq2=>?_⟩⟩
     ·rw[hgl]
      exact aB (show gs.length+1≤1001 by omega) (by decide)
     have s4:=aM.new (o:=.lst (eX gs++[iv i])) hq2
     have s14:=(s12.trans s3).trans s4
     have ol:=Kg gs i (by omega)
     have ga:eX gs++[iv i]=eX (gs++[i]):=(ba (f:=iv) (l₁:=gs) (l₂:=[i])).symm
     refine ⟨p,q2,cs,gs++[i],lim,rfl,hp.same s14,by rw[aw,ga],?_,?_,l3,l4,?_,fun H5 v s5 hv=>?_⟩
     ·rw[aK];exact ne
     ·rw[aK,gU];omega
     ·rw[ol,aK,gU]
      split<;>omega
     rw[Du hc,ol,aK,gU] at hv
     have tw:LY lim (cs.zip gs) (bb gs) cs[gs.length] (cs.drop (gs.length+1)) i=(gj lim (cs.zip gs++[(cs[gs.length],i)]) (if i=bb gs then bb gs+1 else bb gs) (cs.drop (gs.length+1))).map fun r=>i::r:=if_pos h2
     have s15:=s14.trans s5
     generalize gj lim (cs.zip gs++[(cs[gs.length],i)]) (if i=bb gs then bb gs+1 else bb gs) (cs.drop (gs.length+1))=res at hv tw
     refine aJ rfl ⟨rfl,aJ rfl ?_⟩
     cases res with
     | none =>
      have hv:v=.hU:=hv
      subst hv
      exact nN ⟨_,_,rfl,s15,fun j hj=>by
       by_cases z:j=i
       ·rw[z];exact tw
       ·exact al j (by omega)⟩
     | some r =>
      obtain ⟨t,rfl,ht⟩:=hv
      refine pd (aJ rfl (k H5 _ s15 ?_))
      rw[zy _ _ i (i::r) hi al tw]
      exact ⟨t,rfl,by rw[ht];simp⟩
    ·refine ⟨_,aJ rfl ⟨s12,fun j hj=>?_⟩⟩
     by_cases z:j=i
     ·rw[z];exact if_neg h2
     ·exact al j (by omega)
   ·rintro σ H1 ⟨v3,v4,rfl,s1,al⟩
    refine k H1 _ s1 ?_
    rw[xq _ _ al]
    rfl
end
def FD:Sp:=fun vs H Q _=>∃ (p:aj) (cs:List bM),vs=[.ref p]∧gJ H p cs∧cs.length≤8∧∀ H' t,aM H H'→H' t=some (.lst (eX (bF cs)))→Q (.ref t) H'
def L0:Sp:=fun vs H Q _=>∃ (p:aj) (cs:List bM) (e i:Nat),vs=[.ref p,iv e,iv i]∧gJ H p cs∧(∀ c∈cs,i<c.sounds.length)∧∀ H',aM H H'→Q (iv (j3 cs e i)) H'
theorem A3 {α β:Type}(f:α→Option β):∀ (l:List α) (k:Nat) (a:α) (v:β),l[k]?=some a→(∀ j b,j<k→l[j]?=some b→f b=none)→f a=some v→l.findSome? f=some v
 | [],k,a,v,h,_,_=>by simp at h
 | b::l,0,a,v,h,_,h2=>by
  cases aH h
  rw[eB,h2]
 | b::l,k+1,a,v,h,h1,h2=>by
  rw[eB,h1 0 b (by omega) rfl]
  exact A3 f l k a v h (fun j c hj hc=>h1 (j+1) c (by omega) hc) h2
section
variable {P:aV}{w:bK}{K:ai}{mg:bZ→Option ag}{base:bW}
theorem yC:bX ["patterns","limit","way"] ["patterns"] (bB HD):=kG
theorem Qy {f fw:aj}{fd fdw:bH}(F:jb K "give_old_sounds" "give_old_sounds" HD f fd)(G:cP P w K mg base fG 11 fw fdw ["patterns","limit","given"] (Dj 9))(mw:mg "first_way"=some (.ref fw))(kw:aQ K (.ref fw)=true)(bw:Binds K fdw ["patterns","limit","given"] []) :
  cP P w K mg base fG 12 f fd ["patterns"] FD:=by
 refine F.ok yC (fun vs H Q E h=>?_) (fun gq A outer s H vs Q E hr h=>?_)
 ·obtain ⟨p,cs,rfl,_⟩:=h
  rfl
 ·obtain ⟨p,cs,rfl,hp,hl,k⟩:=h
  have olf:=wZ cs
  refine ⟨_,aE (cy (i:=1) yC.nd rfl (bp rfl) aZ)
   (aE (cy (i:=2) yC.nd rfl (bp rfl) (cj G hr rfl mw kw bw .nil cU (ah (pv 0) (ah (pv 1) (ah (cS aA) aA)))))
   (aE (my bL (bU FW (pv 2) nR (cq _))
    (aE (cy (i:=1) yC.nd rfl (bp rfl) (d4 eO (pv 1) aZ))
    (aR (cy (i:=2) yC.nd rfl (bp rfl) (cj G hr rfl mw kw bw .nil cU (ah (pv 0) (ah (pv 1) (ah (cS aA) aA))))))))
   (aR (bO (pv 2))))),?_⟩
  have ask:∀ (H1:Hp) (q:aj) (lim:Nat) (R:V→Hp→Prop),aM H H1→H1 q=none→lim≤8→(∀ H2 v,aM H H2→PU H2 v (gj lim [] 0 cs)→R v H2)→Dj 9 ([.ref p,iv lim,.ref q]++[]) (upd H1 q (.lst [])) R E0:=fun H1 q lim R s1 hq hlim fin=>by
   refine ⟨p,q,cs,[],lim,rfl,hp.same (s1.trans (aM.new hq)),aw,aS _,by simp;omega,by omega,by omega,aS _,fun H2 v s2 hv=>?_⟩
   refine fin H2 v ((s1.trans (aM.new hq)).trans s2) ?_
   have z:gj lim (cs.zip []) (bb []) (cs.drop ([]:List Nat).length)=gj lim [] 0 cs:=by
    rw[vp]
    rfl
   rw[z] at hv
   generalize gj lim [] 0 cs=res at hv ⊢
   cases res with
   | none=>exact hv
   | some r=>exact hv
  refine cQ (cQ (aJ rfl (aJ rfl ⟨aS _,fun q hq=>ask H q 0 _ (aM.refl _) hq (by omega) fun H2 v s2 hv=>?_⟩)))
  refine iP (fun σ H'=>∃ t,σ=[some (.ref p),some (iv (bb (bF cs))),some (.ref t)]∧aM H H'∧H' t=some (.lst (eX (bF cs)))) (fun _ go=>?_) ?_
  ·refine ⟨fun m σ H'=>∃ (lim:Nat) (v:V),σ=[some (.ref p),some (iv lim),some v]∧m+lim=bb (bF cs)∧aM H H'∧PU H' v (gj lim [] 0 cs),⟨_,0,v,rfl,rfl,s2,hv⟩,?_⟩
   rintro m σ H3 ⟨lim,v,rfl,hm,s3,hv⟩
   refine aJ rfl ⟨rfl,aJ rfl ?_⟩
   by_cases e:m=0
   ·have el:lim=bb (bF cs):=by omega
    rw[el,S7] at hv
    obtain ⟨t,rfl,ht⟩:=hv
    refine nN (go _ _ ⟨t,by rw[el],s3,ht⟩)
   ·rw[Ap cs lim (by omega)] at hv
    have hv:v=.hU:=hv
    subst hv
    refine pd ⟨fun σ H'=>∃ v,σ=[some (.ref p),some (iv (lim+1)),some v]∧aM H H'∧PU H' v (gj (lim+1) [] 0 cs),fun σ' H' ⟨v,e1,e2,e3⟩=>⟨m - 1,by omega,lim+1,v,e1,by omega,e2,e3⟩,?_⟩
    refine cQ (aJ rfl ⟨_,aJ rfl ⟨rfl,⟨_,rfl,_,rfl,aS _,fun q hq=>ask H3 q (lim+1) _ s3 hq (by omega) fun H4 v s4 hv=>⟨v,rfl,s4,hv⟩⟩⟩⟩)
  ·rintro σ H3 ⟨t,rfl,s3,ht⟩
   exact aJ rfl (k H3 t s3 ht)
theorem Se:bX ["patterns","surroundings","language","pattern"] ["patterns","surroundings","language"] (bB PK):=kG
theorem TR {f:aj}{fd:bH}(F:jb K "becomes" "becomes" PK f fd)(T:LU K mg):cP P w K mg base fG 1 f fd ["patterns","surroundings","language"] L0:=by
 obtain ⟨tu,hun⟩:=T.UQ
 refine F.ok Se (fun vs H Q E h=>?_) (fun gq A outer s H vs Q E hr h=>?_)
 ·obtain ⟨p,cs,e,i,rfl,_⟩:=h
  rfl
 ·obtain ⟨p,cs,e,i,rfl,⟨rs,hp,pc⟩,hi,k⟩:=h
  refine ⟨_,aE (gz bL rfl (eh (pv 0)) (cK (i:=3) Se.nd rfl (bp rfl))
    (aR (eG (pj (bU gC (cA dR (pv 3) aZ (fun _ _=>rfl)) (pv 1) (cq _)) (pC (bU wy (cA dR (cA dR (pv 3) aZ (fun _ _=>rfl)) (pv 2) (fun _ _=>rfl)) (cg (v:=.int 0) (by rfl) hun ⟨_,rfl⟩) (cq _)))).pt
     (aR (bO (cA dR (cA dR (pv 3) aZ (fun _ _=>rfl)) (pv 2) (fun _ _=>rfl)))) cX)))
   (aR (bO (cg (v:=.int 0) (by rfl) hun ⟨_,rfl⟩))),?_⟩
  refine ⟨_,rfl,p,rfl,⟨_,cI.of hp⟩,iF (K:=K) (a:=p) (xs:=rs.map V.ref) (fun j σ H'=>∃ v3:Option V,σ=[some (.ref p),some (iv e),some (iv i),v3]∧H'=H∧∀ m c,m<j→cs[m]?=some c→uz e i c=none)
   ⟨none,rfl,rfl,fun m c h=>by omega⟩ (fun j σ H' _ ⟨_,_,e1,_⟩=>e1▸cI.of hp) ?_ ?_⟩
  ·rintro j y σ H1 hj ⟨v3,rfl,rfl,al⟩
   obtain ⟨a,ha,rfl⟩:=fq hj
   obtain ⟨c,hc,b,c1,c2⟩:=cZ pc ha
   have hil:=hi c (aY hc)
   have hs:c.sounds[i]?=some c.sounds[i]:=aD hil
   have next:uz e i c=none→∃ v3:Option V,[some (V.ref p),some (iv e),some (iv i),some (V.ref a)]=[some (.ref p),some (iv e),some (iv i),v3]∧H1=H1∧∀ m d,m<j+1→cs[m]?=some d→uz e i d=none:=fun q =>
    ⟨_,rfl,rfl,fun m d hm hd=>by
     by_cases z:m=j
     ·subst z;rw[hc] at hd;cases hd;exact q
     ·exact al m d (by omega) hd⟩
   refine aJ rfl (iJ a 0 _ (fR.of c1) (cp (j:=0) rfl) (aJ rfl ⟨rfl,aJ rfl ?_⟩))
   refine gI (fun h1=>?_) fun h1=>?_
   ·have h1:=wC.mp h1
    refine aJ rfl (iJ a 1 _ (fR.of c1) (cp (j:=1) rfl) (aJ rfl ⟨b,_,_,aJ rfl ⟨rfl,fR.of c2,cp (tS hil),rfl,aJ rfl ?_⟩⟩))
    refine gI (fun h2=>?_) fun h2=>?_
    ·have h2:=qN.mp h2
     refine aJ rfl (iJ a 1 _ (fR.of c1) (cp (j:=1) rfl) (aJ rfl ⟨b,_,_,aJ rfl ⟨rfl,fR.of c2,cp (tS hil),?_⟩⟩))
     have:=k _ (aM.refl _)
     rw[show j3 cs e i=c.sounds[i] by
      unfold j3
      rw[A3 (uz e i) cs j c c.sounds[i] hc al (by unfold uz xE;rw[if_pos h1,hs];exact if_neg h2)]
      rfl] at this
     exact this
    ·have h2:c.sounds[i]=0:=dW fun z=>h2 (qN.mpr z)
     refine next ?_
     unfold uz xE
     rw[if_pos h1,hs,h2]
     rfl
   ·exact nN (next (if_neg fun z=>h1 (wC.mpr z)))
  ·rintro σ H1 ⟨v3,rfl,rfl,al⟩
   have:=k _ (aM.refl _)
   rw[show j3 cs e i=0 by
    unfold j3
    rw[iK fun c hc=>by
     obtain ⟨m,hm⟩:=k8.mp hc
     refine al m c ?_ hm
     rw[ae,bC pc]
     exact (bV.mp hm).1]
    rfl] at this
   exact this
end
end Sk
namespace UX
open PySem
def lL (t:SetTable):Prop:=t.place.toList.Pairwise (·<·)∧t.dummies=#[]
theorem yT (xs:Array Nat)(j:Nat)(hr:xs.toList.Pairwise (·<·)):∀ (f lo hi:Nat),hi - lo≤f→lo≤hi→hi≤xs.size→(∀ i (h:i<xs.size),i<lo→xs[i]<j)→(∀ i (h:i<xs.size),hi≤i→j≤xs[i]) →
  SetTable.below.go xs j f lo hi≤xs.size∧(∀ i (h:i<xs.size),i<SetTable.below.go xs j f lo hi→xs[i]<j)∧(∀ i (h:i<xs.size),SetTable.below.go xs j f lo hi≤i→j≤xs[i])
 | 0,lo,hi,hf,hle,hs,h1,h2=>by
  have e:lo=hi:=by omega
  unfold SetTable.below.go
  exact ⟨by omega,h1,fun i h q=>h2 i h (by omega)⟩
 | f+1,lo,hi,hf,hle,hs,h1,h2=>by
  have mono:∀ i k (hi:i<xs.size) (hk:k<xs.size),i<k→xs[i]<xs[k]:=fun i k hi hk q=>by
   have:=hG.mp hr i k (by simpa using hi) (by simpa using hk) q
   simpa using this
  unfold SetTable.below.go
  by_cases c:lo<hi
  ·rw[if_pos c]
   have hm:(lo+hi) / 2<xs.size:=by omega
   have g:xs.getD ((lo+hi) / 2) j=xs[(lo+hi) / 2]:=by simp[JQ,hm]
   dsimp only
   rw[g]
   by_cases q:xs[(lo+hi) / 2]<j
   ·rw[if_pos q]
    refine yT xs j hr f _ hi (by omega) (by omega) hs (fun i h z=>?_) h2
    by_cases e:i=(lo+hi) / 2
    ·subst e;exact q
    ·exact kQ (mono i _ h hm (by omega)) q
   ·rw[if_neg q]
    refine yT xs j hr f lo _ (by omega) (by omega) (by omega) h1 (fun i h z=>?_)
    by_cases e:i=(lo+hi) / 2
    ·subst e;omega
    ·exact aB (by omega) (kR (mono _ i hm h (by omega)))
  ·rw[if_neg c]
   exact ⟨by omega,h1,fun i h z=>h2 i h (by omega)⟩
theorem ug (xs:Array Nat)(j:Nat)(hr:xs.toList.Pairwise (·<·)):SetTable.below xs j≤xs.size∧(∀ i (h:i<xs.size),i<SetTable.below xs j→xs[i]<j)∧(∀ i (h:i<xs.size),SetTable.below xs j≤i→j≤xs[i]) :=
 yT xs j hr _ 0 xs.size (by omega) (by omega) (aL _) (fun i _ h=>by omega) (fun i h q=>by omega)
theorem J2 {t:SetTable}{j:Nat}(hr:lL t)(h:t.slot j=.empty):∀ x∈t.place.toList,x≠j:=by
 intro x hx e
 subst e
 obtain ⟨i,hi,rfl⟩:=uv hx
 have hi':i<t.place.size:=by simpa using hi
 obtain ⟨b1,b2,b3⟩:=ug t.place t.place.toList[i] hr.1
 have e:SetTable.below t.place t.place.toList[i]=i:=by
  by_cases q:i<SetTable.below t.place t.place.toList[i]
  ·have:=b2 i hi' q
   simp at this
  ·by_cases q2:SetTable.below t.place t.place.toList[i]<i
   ·have hb:SetTable.below t.place t.place.toList[i]<t.place.size:=by omega
    have h1:=b3 _ hb (aL _)
    have h2:=hG.mp hr.1 _ i (by simpa using hb) hi q2
    simp at h1 h2
    omega
   ·omega
 unfold SetTable.slot at h
 dsimp only at h
 rw[e] at h
 have:t.place[i]?=some t.place.toList[i]:=by
  rw[cz hi']
  simp
 rw[this] at h
 simp at h
theorem D1 {t:SetTable}(hr:lL t)(j:Nat):SetTable.has t.dummies j=false:=by rw[hr.2];simp[SetTable.has]
theorem Gr {t:SetTable}(hr:lL t)(j:Nat):t.slot j≠.dummy:=by
 intro h
 unfold SetTable.slot at h
 dsimp only at h
 rw[D1 hr] at h
 split at h
 ·cases h
 ·simp at h
theorem DU {t:SetTable}(hr:lL t)(f:Nat→Int)(h:Int):∀ (n:Nat) (p:SetTable.Probe) (j:Nat) (d:Option Nat),p.dummy=none→SetTable.probe.go t f h n p=some (.empty j d)→d=none∧t.slot j=.empty
 | 0,p,j,d,_,e=>by simp[SetTable.probe.go] at e
 | n+1,p,j,d,hp,e=>by
  unfold SetTable.probe.go at e
  cases q:t.slot p.j with
  | empty =>
   rw[q] at e
   simp at e
   obtain ⟨rfl,rfl⟩:=e
   exact ⟨hp,q⟩
  | dummy=>exact absurd q (Gr hr _)
  | live i =>
   rw[q] at e
   dsimp only at e
   split at e
   ·cases e
   ·refine DU hr f h n _ j d ?_ e
    unfold SetTable.advance
    split
    ·exact hp
    ·exact hp
theorem KQ {t:SetTable}(hr:lL t){h:Int}{j:Nat}{wd:Bool}(e:t.freeSlot h=some (j,wd)):wd=false∧∀ x∈t.place.toList,x≠j:=by
 unfold SetTable.freeSlot at e
 split at e
 ·rename_i a b q
  obtain ⟨z,hs⟩:=DU hr _ h _ _ a b rfl q
  subst z
  simp at e
  obtain ⟨rfl,rfl⟩:=e
  exact ⟨rfl,J2 hr hs⟩
 ·cases e
theorem EM {xs:Array Nat}{j:Nat}(hr:xs.toList.Pairwise (·<·))(hn:∀ x∈xs.toList,x≠j):(SetTable.insertAt xs (SetTable.below xs j) j).toList.Pairwise (·<·):=by
 obtain ⟨b1,b2,b3⟩:=ug xs j hr
 rw[SetTable.toList_insertAt]
 have e:xs.toList=xs.toList.take (SetTable.below xs j)++xs.toList.drop (SetTable.below xs j):=(k7 _ _).symm
 have dU:=hr
 rw[e,tI] at dU
 obtain ⟨r1,r2,r3⟩:=dU
 have lo:∀ x∈xs.toList.take (SetTable.below xs j),x<j:=fun x hx=>by
  obtain ⟨i,hi,rfl⟩:=uv hx
  rw[bP] at hi
  have:=b2 i (by simp at hi;omega) (by omega)
  simpa using this
 have up:∀ x∈xs.toList.drop (SetTable.below xs j),j<x:=fun x hx=>by
  have ne:=hn x (Jv hx)
  obtain ⟨i,hi,rfl⟩:=uv hx
  rw[cv] at hi
  have:=b3 (SetTable.below xs j+i) (by simp at hi;omega) (by omega)
  simp at this ne ⊢
  omega
 simp only[tI,dH,bu,aI,bE,dE,List.singleton_append]
 refine ⟨r1,⟨fun x hx=>up x hx,r2⟩,fun a ha b hb=>?_⟩
 rcases hb with rfl | hb
 ·exact lo a ha
 ·exact kQ (lo a ha) (up b hb)
theorem Gy (n:Nat):(Array.range n).toList.Pairwise (·<·):=by
 rw[Array.toList_range]
 exact qD
theorem lV (t:SetTable)(n:Nat):lL (t.standIn n):=⟨Gy n,rfl⟩
theorem EL {t:SetTable}(hr:lL t)(es:Array (Int×ag))(h:Int)(x:ag):lL (layNew t es h x).2.1∧(layNew t es h x).2.1.led=t.led:=by
 unfold layNew
 cases e:t.freeSlot h with
 | none=>exact ⟨lV _ _,rfl⟩
 | some p =>
  obtain ⟨j,wd⟩:=p
  obtain ⟨_,hn⟩:=KQ hr e
  have r:lL (t.put j).1:=by
   unfold SetTable.put
   refine ⟨EM hr.1 hn,?_⟩
   show (if SetTable.has t.dummies j=true then _ else t.dummies)=#[]
   rw[D1 hr]
   exact hr.2
  dsimp only
  unfold SetTable.orStandIn
  split
  ·exact ⟨r,rfl⟩
  ·exact ⟨lV _ _,rfl⟩
theorem Q2 {f:Nat→Option (Nat×Nat)}(hf:∀ j p,f j=some p→p.1=j):∀ {l:List Nat},l.Pairwise (·<·)→((l.filterMap f).map (·.1)).Pairwise (·<·):=by
 intro l h
 rw[gm,List.pairwise_filterMap]
 refine h.imp fun {a b} q p hp r hr=>?_
 rw[hf a p hp,hf b r hr]
 exact q
theorem Gw {t:SetTable}(es:Array (Int×ag))(n:Nat):lL (relayAll t es n).2.1∧(relayAll t es n).2.1.led=t.led:=by
 unfold relayAll
 cases e:t.relaid (es.map (·.1)) n with
 | none=>exact ⟨lV _ _,rfl⟩
 | some p =>
  obtain ⟨t',order⟩:=p
  dsimp only
  split
  ·unfold SetTable.relaid SetTable.laid at e
   cases q:SetTable.layClean (SetTable.sizeAbove n - 1) (es.map (·.1)) with
   | none=>rw[q] at e;cases e
   | some owner =>
    rw[q] at e
    simp at e
    obtain ⟨rfl,_⟩:=e
    refine ⟨⟨?_,rfl⟩,rfl⟩
    refine Q2 (fun j p hp=>?_) qD
    simp at hp
    obtain ⟨w,_,rfl⟩:=hp
    rfl
  ·exact ⟨lV _ _,rfl⟩
def JC (e:Int×ag):Int:=match e.2 with
 | .int n _=>n
 | _=>0
def lJ (es:Array (Int×ag)):List Int:=es.toList.map JC
def Di (l:List (Int×ag)):Prop:=∀ e∈l,∃ n u,e=(hashInt n,ag.int n u)
def d8 (es:Array (Int×ag))(ep:Nat)(t:SetTable):fD:={cls:=.type "set",dict:=none,data:=.set es ep t,slots:=#[]}
def mo (h:bW)(a:aj)(ns:List Int)(led:Bool):Prop :=
 ∃ es ep t,h.get? a=some (d8 es ep t)∧Di es.toList∧(lJ es).Nodup∧(∀ k,k∈lJ es↔k∈ns)∧es.size≤ns.length∧t.fits es.size=true∧lL t∧t.led=led
theorem Di.elems {l:List (Int×ag)}(h:Di l)(prog:aV)(w:bK):ElemsOf (intKind prog w) l:=fun e he=>by
 obtain ⟨n,u,rfl⟩:=h e he
 exact ⟨⟨n,by simp[intKind,ag.isInt],rfl⟩,rfl⟩
theorem Di.perm {l m:List (Int×ag)}(h:Di l)(p:m.Perm l):Di m:=fun e he=>h e (p.mem_iff.mp he)
section
variable {prog:aV}{w:bK}{A:cC}{E:ag→au→Prop}{s:au}
theorem IS {b:Bool}{s₁:au}{Q:Unit→au→Prop}(h:Q () s₁):wpAny (model prog w) A (match b with | true=>rule "set.scan.the-table-gave-way" | false=>pure ()) Q E s₁:=by
 cases b
 ·exact ak h
 ·exact jz h
theorem IB {h:bW}{a:aj}{es es':Array (Int×ag)}{ep:Nat}{t t':SetTable}(ho:h.get? a=some (d8 es ep t)):(h.update a (fD.putSet es' t')).get? a=some (d8 es' (ep+1) t'):=cT (fD.putSet es' t') ho rfl
theorem Eo {g:Bool→o9 Unit}(hg:∀ (b:Bool) (s₁:au) (Q':Unit→au→Prop),Q' () s₁→wpAny (model prog w) A (g b) Q' E s₁){a:aj}{es:Array (Int×ag)}{ep:Nat}{t:SetTable}(ho:s.heap.get? a=some (d8 es ep t))
  {es1:Array (Int×ag)}{t2:SetTable}{ns:List Int}{led:Bool}(h1:Di es1.toList)(h2:(lJ es1).Nodup)(h3:∀ k,k∈lJ es1↔k∈ns)(h4:es1.size≤ns.length)(h5:es1.size<sS)(h6:t2.fits es1.size=true)(h7:lL t2)(h8:t2.led=led)
  {wd:Bool}{R:Option Bool→au→Prop}(h:∀ h',eE a s.heap h'→mo h' a ns led→R (some true) {s with heap:=h'}) :
  wpAny (model prog w) A (do
   storeSet a es1 t2
   if (!wd&&t2.tooFull)=true then do
    g (relayAll t2 es1 (SetTable.grown es1.size)).2.2
    storeSet a (relayAll t2 es1 (SetTable.grown es1.size)).1 (relayAll t2 es1 (SetTable.grown es1.size)).2.1
    pure (some true)
   else pure (some true)) R E s:=by
 refine aa (wpAny_storeSet_of (o:=d8 es ep t) ho rfl ?_ (fits_of_scanBound h5))
 have g1:=IB (es':=es1) (t':=t2) ho
 have sb1:=c9 s.heap a (fD.putSet es1 t2)
 split
 ·refine aa (hg _ _ _ ?_)
  have p:=relayAll_perm t2 es1 (SetTable.grown es1.size)
  have f:=relayAll_fits t2 es1 (SetTable.grown es1.size)
  obtain ⟨r,l⟩:=Gw (t:=t2) es1 (SetTable.grown es1.size)
  generalize relayAll t2 es1 (SetTable.grown es1.size)=Z at p f r l ⊢
  have z:Z.1.size=es1.size:=by rw[← cO,p.length_eq,cO]
  have pv:(lJ Z.1).Perm (lJ es1):=p.map _
  refine aa (wpAny_storeSet_of (o:=d8 es1 (ep+1) t2) g1 rfl ?_ (by rw[z];exact fits_of_scanBound h5))
  refine ak (h _ (sb1.trans (c9 _ a _)) ⟨Z.1,_,Z.2.1,IB g1,h1.perm p,pv.nodup_iff.mpr h2,fun k=>(pv.mem_iff).trans (h3 k),by rw[z];exact h4,f,r,l.trans h8⟩)
 ·exact ak (h _ sb1 ⟨es1,_,t2,g1,h1,h2,h3,h4,h6,h7,h8⟩)
theorem add_int {a:aj}{ns:List Int}{led:Bool}{k:Int}{u:Tok}{Q:Bool→au→Prop}(hS:mo s.heap a ns led)(room:ns.length+1<sS)
  (h:∀ b h',eE a s.heap h'→mo h' a (ns++[k]) led→Q b {s with heap:=h'}):wpAny (model prog w) A (setAddHashed a (.int k u) (hashInt k)) Q E s:=by
 obtain ⟨es,ep,t,ho,hI,hn,hm,hl,hf,hr,hd⟩:=hS
 have el:=hI.elems prog w
 have hb:es.size<sS:=by omega
 unfold setAddHashed setAddHashedIn
 refine dn (aa (jl (o:=d8 es ep t) ho rfl hf ?_))
 dsimp only
 rw[byScan_of (knd:=intKind prog w) (x:=ag.int k u) rfl hb el]
 simp only[↓reduceIte]
 unfold setAddByScan
 refine aa (aa (jz (aa (wpAny_setScan_of (knd:=intKind prog w) (k:=k) (x:=ag.int k u) (show ag.isInt k (ag.int k u)=true by simp[ag.isInt]) (o:=d8 es ep t) ho rfl hf el ?_))))
 have old:k∈lJ es→mo s.heap a (ns++[k]) led:=fun hk=>⟨es,ep,t,ho,hI,hn,fun x=>by
  rw[bu,bE,← hm x]
  exact ⟨.inl,fun q=>q.elim id fun e=>e▸hk⟩,by rw[aK];omega,hf,hr,hd⟩
 cases hx:es.toList.findIdx? (fun e=>(intKind prog w).is k e.2) with
 | some j =>
  dsimp only
  obtain ⟨hj,hp,_⟩:=List.findIdx?_eq_some_iff_getElem.mp hx
  have hk:k∈lJ es:=by
   refine aX.mpr ⟨_,lA hj,?_⟩
   obtain ⟨v,e⟩:=ag.isInt_shape hp
   unfold JC
   rw[e]
  refine ak (ak ?_)
  have:=h false s.heap (eE.refl a s.heap) (old hk)
  cases s
  exact this
 | none =>
  dsimp only
  have hk:¬ k∈lJ es:=fun q=>by
   obtain ⟨e,he,z⟩:=aX.mp q
   obtain ⟨n,v,rfl⟩:=hI e he
   have z:n=k:=z
   have:=List.findIdx?_eq_none_iff.mp hx _ he
   simp[intKind,ag.isInt,z] at this
  have p:=layNew_perm t es (hashInt k) (.int k u)
  have f:=layNew_fits t es (hashInt k) (.int k u)
  obtain ⟨r,l⟩:=EL hr es (hashInt k) (.int k u)
  generalize layNew t es (hashInt k) (.int k u)=Z at p f r l ⊢
  obtain ⟨es1,t1,wd,gv⟩:=Z
  dsimp only at p f r l ⊢
  rw[wt] at p
  have i1:Di es1.toList:=fun e he=>by
   rcases bu.mp (p.mem_iff.mp he) with q | q
   ·exact hI e q
   ·exact ⟨k,u,bE.mp q⟩
  have pv:(lJ es1).Perm (lJ es++[k]):=by
   have:=p.map JC
   rw[ba] at this
   exact this
  have n1:(lJ es1).Nodup:=by
   refine pv.nodup_iff.mpr (O3.mpr ⟨hn,by simp,fun x qx y qy e=>hk ?_⟩)
   rw[bE] at qy
   rw[← qy,← e]
   exact qx
  have m1:∀ x,x∈lJ es1↔x∈ns++[k]:=fun x=>by rw[pv.mem_iff,bu,bu,hm x]
  have z1:es1.size=es.size+1:=by rw[← cO,p.length_eq,aK,cO];rfl
  have z2:es1.size≤(ns++[k]).length:=by rw[aK,z1,gU];omega
  have z3:es1.size<sS:=by omega
  refine aa (IS ?_)
  have gg:∀ (b:Bool) (s₁:au) (Q':Unit→au→Prop),Q' () s₁→wpAny (model prog w) A (match b with | true=>rule "set.scan.the-table-gave-way" | false=>pure ()) Q' E s₁:=fun b s₁ Q' hq=>IS hq
  split
  ·refine aa ?_
   rw[hashByValue_scannable 8 (x:=ag.int k u) rfl]
   refine ak ?_
   exact Eo gg ho i1 n1 m1 z2 z3 f r (l.trans hd) fun h' sb S'=>ak (h true h' sb S')
  ·refine aa (ak ?_)
   simp only[↓reduceIte]
   exact Eo gg ho i1 n1 m1 z2 z3 f r (l.trans hd) fun h' sb S'=>ak (h true h' sb S')
end
end UX
namespace UX
open PySem PyProof.Rows
section
variable {prog:aV}{w:bK}{A:cC}{E:ag→au→Prop}{s:au}
def mO (w:bK):Bool:=!(w.params.followText "set-order")
theorem QI (a:ag){Q₁:ag→au→Prop}(h:Q₁ (.ref s.heap.objs.size) {s with heap:=s.heap.push (d8 #[] 0 (.fresh 0 0 (mO w)))}) :
  codeAny (model prog w) A (.call (.builtin "set.__new__") ⟨[.type "set",a],[]⟩) (wants Q₁ E) s:=by
 refine RK F.plain_set_new F.entry_set_new (jA (F.newCall_set_1 a) ?_)
 have sub:=sub_set_self
 obtain ⟨hp,gs,dr,tk,os⟩:=s
 unfold Builtin.«set.__new__» RZ
 dsimp only
 wp_walk
 refine CA (ak ?_)
 simp only[newObj]
 exact aa (wpAny_alloc (ak (ak h)))
theorem D8 {l I S:aj}{its:Array ag}{ns:List Int}{led:Bool}(hh:A.handled=none)(hv:∀ (i:Nat) (n:Int),ns[i]?=some n→∃ t,its[i]?=some (ag.int n t))(hsz:its.size=ns.length)(nIS:I≠S)(nlI:l≠I)(nlS:l≠S)(hb:ns.length+1<sS){R:qS→au→Prop} :
  ∀ (rest:List Int) (i:Nat) (s:au),ns.drop i=rest→i≤ns.length→s.heap.IsListIter I l i→s.heap.IsList l its→mo s.heap S (ns.take i) led →
   (∀ h' tk,(∀ c o,c≠I→c≠S→s.heap.get? c=some o→h'.get? c=some o)→mo h' S ns led→R (.ok (.ret .none)) {s with heap:=h',toks:=tk}) →
   codeAny (model prog w) A (.builtin "set.update.loop" ⟨[.ref S,.ref I],[]⟩) R s
 | [],i,s,hd,hi,hit,hl,hS,hR=>by
  have e:i=ns.length:=by
   have:=congrArg dJ hd
   rw[cv,eL] at this
   omega
  have hx:its[i]?=none:=by rw[mW];omega
  refine eC Jx ?_
  rw[dk rS _]
  refine aa (m:=pyNext (.ref I)) (gi (by simp[hh]) hit hl hx fun h' ex=>?_)
  rw[e,bI] at hS
  refine ak (hR h' s.toks (fun c o n1 _ q=>ex c o n1 q) ?_)
  obtain ⟨es,ep,t,ho,r⟩:=hS
  exact ⟨es,ep,t,ex _ _ nIS.symm ho,r⟩
 | x::r,i,s,hd,hi,hit,hl,hS,hR=>by
  have lt:i<ns.length:=by
   have:=congrArg dJ hd
   rw[cv,aU] at this
   omega
  have hx0:ns[i]?=some x:=by rw[← rN,hd];rfl
  have hd':ns.drop (i+1)=r:=by rw[← tf,hd];rfl
  obtain ⟨tx,hx⟩:=hv i x hx0
  refine eC Jx ?_
  rw[dk rS _]
  refine aa (m:=pyNext (.ref I)) (fP hit hl hx fun h' hit' sb=>?_)
  have hS':mo h' S (ns.take i) led:=by
   obtain ⟨es,ep,t,ho,q⟩:=hS
   exact ⟨es,ep,t,sb.extBut _ _ nIS.symm ho,q⟩
  refine aa (m:=holding [ag.int x tx] (setAdd S (ag.int x tx))) (dn ?_)
  unfold setAdd
  refine dn (aa (wpAny_pyHash_int ?_))
  refine add_int (s:={s with heap:=h',toks:=s.toks+1}) hS' (by rw[bP];omega) fun b h2 sb2 S2=>?_
  rw[show ns.take i++[x]=ns.take (i+1) by rw[oZ,hx0];rfl] at S2
  have up:∀ c o,c≠S→h'.get? c=some o→h2.get? c=some o:=fun c o n q=>(sb2.2 c n).trans q
  refine ak ⟨dA rS _,D8 hh hv hsz nIS nlI nlS hb r (i+1) _ hd' lt (let ⟨o,q,z⟩:=hit';⟨o,up _ _ nIS q,z⟩) (let ⟨o,q,z⟩:=hl;⟨o,up _ _ nlS (sb.extBut _ _ nlI q),z⟩) S2 fun h3 tk q S3=>?_⟩
  exact hR h3 tk (fun c o n1 n2 z=>q c o n1 n2 (up c o n2 (sb.extBut _ _ n1 z))) S3
end
section
variable {prog:aV}{w:bK}{A:cC}{E:ag→au→Prop}{s:au}
theorem K2 {l:aj}{its:Array ag}{ns:List Int}{Q:ag→au→Prop}(hh:A.handled=none)(hl:s.heap.IsList l its)(hv:∀ (i:Nat) (n:Int),ns[i]?=some n→∃ t,its[i]?=some (ag.int n t))(hsz:its.size=ns.length)(hb:ns.length+1<sS)
  (h:∀ h' tk,mo h' s.heap.objs.size ns (mO w)→(∀ b o,s.heap.get? b=some o→h'.get? b=some o)→Q (.ref s.heap.objs.size) {s with heap:=h',toks:=tk}):wpAny (model prog w) A (call (.type "set") [.ref l]) Q E s:=by
 obtain ⟨c0,t0,m0⟩:=jC.mro
 have m1:=jC.made
 have m2:=jC.sub
 have m3:=jC.notType
 have m4:=jC.canCreate
 have m5:=F.typeCall_set_1 (.ref l)
 refine wpAny_call (codeAny_of_tree ?_)
 show wpAny _ _ (callAny (.type "set") ⟨[.ref l],[]⟩) _ _ _
 refine ak ⟨Code.quiet_builtin _ (by decide +kernel),eC F.entry_type_call ?_⟩
 rw[cC.under_plain (weight_type_call_type "set" [.ref l] []) rfl]
 repeat (any_goals first | assumption | wp_step)
 refine jN (QI (.ref l) (E:=E) (Q₁:=fun v s₁=>v=.ref s.heap.objs.size∧s₁={s with heap:=s.heap.push (d8 #[] 0 (.fresh 0 0 (mO w)))}) ⟨rfl,rfl⟩) fun r s₁ hr=>?_
 cases r with
 | error e=>exact hr
 | ok fl =>
  cases fl with
  | ret v =>
   obtain ⟨rfl,rfl⟩:=hr
   have hS:(s.heap.push (d8 #[] 0 (.fresh 0 0 (mO w)))).get? s.heap.objs.size=some (d8 #[] 0 (.fresh 0 0 (mO w))):=aG _ rfl
   have hT:Bd {s with heap:=s.heap.push (d8 #[] 0 (.fresh 0 0 (mO w)))} (.ref s.heap.objs.size) "set":=⟨_,hS,rfl⟩
   have n1:=jC.init.lookup
   have n2:=jC.init.bind (.ref s.heap.objs.size)
   repeat (any_goals first | assumption | wp_step)
   refine jN (RK (R:=wants (fun r s₂=>r=.none∧∃ h' tk,s₂={s with heap:=h',toks:=tk}∧mo h' s.heap.objs.size ns (mO w)∧∀ b o,s.heap.get? b=some o→h'.get? b=some o) E) jC.init.plain F.entry_set_init (check_set_init_1 hT ?_)) fun r₂ s₂ hr₂=>?_
   ·obtain ⟨ol,hol,hcl,nl,hdl⟩:=hl
    obtain ⟨oc,od,oo,os⟩:=ol
    simp only at hcl hdl
    subst hcl hdl
    have hol':(s.heap.push (d8 #[] 0 (.fresh 0 0 (mO w)))).get? l=some {cls:=.type "list",dict:=od,data:=.seq its nl,slots:=os}:=ay _ hol
    have q1:=F.sub_list_set
    have q2:=F.sub_list_frozenset
    have q3:(ag.type "list"==ag.type "dict")=false:=by decide
    have hl1:(s.heap.push (d8 #[] 0 (.fresh 0 0 (mO w)))).IsList l its:=⟨_,hol',rfl,nl,rfl⟩
    have hS':(s.heap.push (d8 #[] 0 (.fresh 0 0 (mO w)))).get? s.heap.objs.size=some {cls:=.type "set",dict:=none,data:=.set #[] 0 (.fresh 0 0 (mO w)),slots:=#[]}:=hS
    have lS:l<s.heap.objs.size:=aN hol
    have z1:(s.heap.push (d8 #[] 0 (.fresh 0 0 (mO w)))).objs.size=s.heap.objs.size+1:=cR ..
    unfold Builtin.«set.__init__» noKeywords RX
    generalize eI:pyIter=PI
    wp_walk
    subst eI
    refine ip hl1 (aa (wpAny_runValue ?_))
    refine D8 (ns:=ns) (l:=l) (its:=its) (led:=mO w) (by simp[hh]) hv hsz (by rw[z1];exact RM _) (by rw[z1];exact bg (dG lS)) (bg lS) hb ns 0 _ rfl (aS _) ⟨_,aG _ rfl,rfl,rfl⟩ (hl1.push _) ⟨#[],0,_,ay _ hS,fun e he=>by simp at he,by simp[lJ],fun k=>by simp[lJ],aS _,by rfl,⟨by simp[SetTable.fresh],rfl⟩,rfl⟩ fun h' tk kp S'=>?_
    refine ak (ak ⟨rfl,h',tk,rfl,S',fun b o e=>?_⟩)
    have hb':=aN e
    exact kp b o (by rw[z1];exact bg (dG hb')) (bg hb') (ay _ (ay _ e))
   ·cases r₂ with
    | error e=>exact hr₂
    | ok f2 =>
     cases f2 with
     | ret r =>
      obtain ⟨rfl,h',tk,rfl,S',kp⟩:=hr₂
      repeat (any_goals first | assumption | wp_step)
      exact h _ _ S' kp
     | _=>exact hr₂.elim
  | _=>exact hr.elim
end
theorem DO:Manifest.owners.lookup (String.ofList "rotareti_tes".toList.reverse)=some Manifest.sig_set_iterator:=by kernel_rfl
theorem pB:Slot "set_iterator" "__next__" "set_iterator.__next__":=.of (owner:="set_iterator") (n:="__next__") (by rw[typeLookup_type,Pj];kernel_rfl) (by decide +kernel) (by decide +kernel) (by decide +kernel) (by first | exact .inl (by decide +kernel) | exact .inr (by decide +kernel)) (by rw[wm];kernel_rfl)
theorem DP:entryFor table "set_iterator.__next__"=some Builtin.«set_iterator.__next__»:=entryFor_of_tree (by kernel_rfl)
theorem Iq (a:ag):argsOk "set_iterator.__next__" ⟨[a],[]⟩:=by
 unfold argsOk
 rw[signature?_of (id:="set_iterator.__next__") (n:="__txen__".toList) (o:="rotareti_tes".toList) (by kernel_rfl) DO]
 kernel_rfl
theorem Nk:entryFor table "set.__iter__"=some Builtin.«frozenset.__iter__»:=entryFor_alias (id':="frozenset.__iter__") (by kernel_rfl) rfl (by decide +kernel) (by kernel_rfl)
def qO (first:ag)(i:Nat)(S:aj)(n ep:Nat):fD:={cls:=.type "set_iterator",dict:=none,data:=.fields #[first,.int (i:Int) 0,.ref S,.int (n:Int) 0,.int (ep:Int) 0],slots:=#[]}
section
variable {prog:aV}{w:bK}{A:cC}{E:ag→au→Prop}{s:au}{I S:aj}{i n ep:Nat}{es:Array (Int×ag)}{t:SetTable}
theorem x4 {first:ag}(h:s.heap.get? I=some (qO first i S n ep)):s.TypeIs (.ref I) "set_iterator":=⟨_,h,rfl⟩
theorem D5 {slot:Nat}{r:Option (ag×Nat)}{Q:Option ag→au→Prop}(hh:A.handled=none)(hit:s.heap.get? I=some (qO (.int (slot:Int) 0) i S n ep))(hS:s.heap.get? S=some (d8 es ep t))(hf:t.fits es.size=true)(hn:n=es.size)
  (hx:∀ (A:cC) (E:ag→au→Prop) (Q:Option (ag×Nat)→au→Prop),Q r s→wpAny (model prog w) A (setNext S slot i ep) Q E s)
  (h1:∀ x nx,r=some (x,nx)→∀ h',h'.get? I=some (qO (.int (nx:Int) 0) (i+1) S n ep)→eE I s.heap h'→Q (some x) {s with heap:=h'})
  (h2:r=none→∀ h',oY I s.heap h'→Q none {s with heap:=h'}):wpAny (model prog w) A (pyNext (.ref I)) Q E s:=by
 have hT:=x4 hit
 unfold pyNext
 refine aa (iB (dg (name:=dM "__next__") hT pB (c8 pB hT DP ?_ (Iq _))))
 show wpAny _ _ (fieldsOf (.ref I) >>= _) _ _ s
 refine aa (lG hit rfl ?_)
 show wpAny _ _ (setEntries S >>= _) _ _ s
 refine aa (xm (o:=d8 es ep t) hS rfl hf ?_)
 dsimp only
 rw[if_neg (by rw[hn];simp)]
 show wpAny _ _ (setNext S ((slot:Int).toNat) ((i:Int).toNat) ((ep:Int).toNat) >>= _) _ _ s
 rw[bT,bT,bT]
 refine aa (hx _ _ _ ?_)
 cases r with
 | none =>
  dsimp only
  refine aa (fO hit rfl (by simp) ?_)
  show wpAny _ _ (newExc (.type "StopIteration") [] >>= _) _ _ _
  refine aa ?_
  simp only[newExc,newTuple]
  refine aa (cw ?_ (by size_fits))
  refine aa (m:=firstArgMember _ _) (jA (a:=ag.none) (by first | rfl | (simp only[firstArgMember];rfl)) ?_)
  refine cw ?_ (by size_fits)
  simp only[raiseNew]
  refine aa (rg ?_)
  rw[show A.in1.handled=none from hh]
  refine aa (ak (vG ?_))
  refine aa (iN (T:="StopIteration") (b:=true) ⟨_,aG _ rfl,rfl⟩ pS ?_)
  exact ak (h2 rfl _ (((c9 ..).extBut.push _).push _))
 | some p =>
  obtain ⟨x,nx⟩:=p
  dsimp only
  refine aa (fO hit rfl (by simp) ?_)
  have g1:(s.heap.update I (fD.mapFields (·.setIfInBounds 0 (gu (nx:Int))))).get? I=some (qO (.int (nx:Int) 0) i S n ep):=cT _ hit rfl
  refine aa (fO g1 rfl (by simp) ?_)
  have g2:((s.heap.update I (fD.mapFields (·.setIfInBounds 0 (gu (nx:Int))))).update I (fD.mapFields (·.setIfInBounds 1 (gu ((i:Int)+1))))).get? I=some (qO (.int (nx:Int) 0) (i+1) S n ep):=cT _ g1 rfl
  exact ak ⟨_,rfl,ak (h1 x nx rfl _ g2 ((c9 ..).trans (c9 ..)))⟩
theorem D4 {T:aj}{its:Array ag}{c:Nat}{oT:fD}{r:Option Nat}{Q:Option ag→au→Prop}(hh:A.handled=none)(hit:s.heap.get? I=some (qO (.ref T) i S n ep))(hS:s.heap.get? S=some (d8 es ep t))(hf:t.fits es.size=true)(hn:n=es.size)
  (hT':s.heap.get? T=some oT)(hTd:oT.data=.seq its c)(hx:its[i]?=r.map fun j=>ag.int (j:Int) 0)
  (h1:∀ j,r=some j→∃ e,es[j]?=some e∧∀ h',h'.get? I=some (qO (.ref T) (i+1) S n ep)→eE I s.heap h'→Q (some e.2) {s with heap:=h'})
  (h2:r=none→∀ h',oY I s.heap h'→Q none {s with heap:=h'}):wpAny (model prog w) A (pyNext (.ref I)) Q E s:=by
 have hT:=x4 hit
 unfold pyNext
 refine aa (iB (dg (name:=dM "__next__") hT pB (c8 pB hT DP ?_ (Iq _))))
 show wpAny _ _ (fieldsOf (.ref I) >>= _) _ _ s
 refine aa (lG hit rfl ?_)
 show wpAny _ _ (setEntries S >>= _) _ _ s
 refine aa (xm (o:=d8 es ep t) hS rfl hf ?_)
 dsimp only
 rw[if_neg (by rw[hn];simp)]
 show wpAny _ _ (seqItems? (.ref T) >>= _) _ _ s
 refine aa (dc hT' hTd ?_)
 dsimp only
 rw[bT,hx]
 cases r with
 | none =>
  show wpAny _ _ (setField (.ref I) 0 (gu 0) >>= _) _ _ s
  refine aa (fO hit rfl (by simp) ?_)
  have g1:(s.heap.update I (fD.mapFields (·.setIfInBounds 0 (gu 0)))).get? I=some (qO (.int 0 0) i S n ep):=cT _ hit rfl
  refine aa (fO g1 rfl (by simp) ?_)
  show wpAny _ _ (newExc (.type "StopIteration") [] >>= _) _ _ _
  refine aa ?_
  simp only[newExc,newTuple]
  refine aa (cw ?_ (by size_fits))
  refine aa (m:=firstArgMember _ _) (jA (a:=ag.none) (by first | rfl | (simp only[firstArgMember];rfl)) ?_)
  refine cw ?_ (by size_fits)
  simp only[raiseNew]
  refine aa (rg ?_)
  rw[show A.in1.handled=none from hh]
  refine aa (ak (vG ?_))
  refine aa (iN (T:="StopIteration") (b:=true) ⟨_,aG _ rfl,rfl⟩ pS ?_)
  exact ak (h2 rfl _ ((((c9 ..).trans (c9 ..)).extBut.push _).push _))
 | some j =>
  obtain ⟨e,he,h1⟩:=h1 j rfl
  show wpAny _ _ (setNextDrawn S ((j:Int).toNat) ((ep:Int).toNat) >>= _) _ _ s
  rw[bT,bT]
  unfold setNextDrawn
  refine aa (aa (jl (o:=d8 es ep t) hS rfl hf ?_))
  dsimp only
  rw[if_neg (by simp),he]
  refine aa (ak ?_)
  refine ak ?_
  refine aa (fO hit rfl (by simp) ?_)
  have g1:(s.heap.update I (fD.mapFields (·.setIfInBounds 1 (gu ((i:Int)+1))))).get? I=some (qO (.ref T) (i+1) S n ep):=cT _ hit rfl
  exact ak ⟨_,rfl,ak (h1 _ g1 (c9 ..))⟩
end
theorem ue {α:Type}:∀ {l:List α} {i:Nat} {x:α},l[i]?=some x→(x::l.eraseIdx i).Perm l
 | [],i,x,h=>by simp at h
 | a::l,0,x,h=>by
  cases aH h
  exact jP _
 | a::l,i+1,x,h=>(xo a x _).trans ((ue (l:=l) (i:=i) h).cons a)
theorem IE {α:Type}(f:Nat→Nat):∀ (n k:Nat) (l:List α) (out:Array α),l.length=n→(pickOrder.go f n k l out).toList.Perm (out.toList++l)
 | 0,k,l,out,h=>by
  rw[df.mp h]
  simp[pickOrder.go]
 | n+1,k,l,out,h=>by
  have lt:f k % l.length<l.length:=Nat.mod_lt _ (by omega)
  have e:l[f k % l.length]?=some l[f k % l.length]:=aD lt
  unfold pickOrder.go
  rw[e]
  refine (IE f n (k+1) _ _ (by rw[Bi lt];omega)).trans ?_
  rw[wt,dE]
  exact (ue e).append_left _
theorem Kb {α:Type}(f:Nat→Nat)(xs:Array α):(pickOrder f xs).toList.Perm xs.toList:=by
 have:=IE f xs.size 0 xs.toList #[] (by simp)
 rw[RQ] at this
 exact this
section
variable {prog:aV}{w:bK}{A:cC}{E:ag→au→Prop}{s:au}
theorem KZ {src:Source}{n:Nat}{Q:Nat→au→Prop}(hn:n≠0)(h:∀ k d,k<n→Q k {s with drawn:=d}):wpAny (model prog w) A (choose src n) Q E s:=fun Γ p _=>by
 unfold choose
 rw[o9.wp_choose]
 refine ⟨hn,?_⟩
 exact h _ _ (Nat.mod_lt _ (by omega))
theorem IY {α:Type}:∀ (n:Nat) (xs:List α) (s:au) {Q:List α→au→Prop},xs.length=n→(∀ ys d,ys.Perm xs→Q ys {s with drawn:=d})→wpAny (model prog w) A (drawOrder n xs) Q E s
 | 0,xs,s,Q,hl,h=>by
  have:xs=[]:=df.mp hl
  subst this
  exact ak (h [] s.drawn (jP _))
 | n+1,[],s,Q,hl,h=>by simp at hl
 | n+1,x::xs,s,Q,hl,h=>by
  unfold drawOrder
  refine aa (KZ (by simp) fun k d hk=>?_)
  have e:(x::xs)[k]?=some (x::xs)[k]:=aD hk
  rw[e]
  refine aa (IY n _ _ (by rw[Bi hk];omega) fun ys d' p=>?_)
  exact ak (h _ d' ((p.cons _).trans (ue e)))
theorem xC {Q:Bool→au→Prop}(h:Q (!mO w) s):wpAny (model prog w) A setsByText Q E s:=by
 unfold setsByText
 refine aa (CA (ak ?_))
 unfold mO at h
 rw[Bool.not_not] at h
 exact h
def rV (es:Array (Int×ag))(t:SetTable)(slot:Nat):Option (ag×Nat) :=
 match es[SetTable.below t.place slot]?,t.place[SetTable.below t.place slot]? with
 | some (_,x),some j=>some (x,j+1)
 | _,_=>none
def slotAt (t:SetTable)(i:Nat):Nat:=match i with
 | 0=>0
 | i+1=>t.place.getD i 0+1
theorem below_at {t:SetTable}(hr:lL t){i:Nat}(hi:i≤t.place.size):SetTable.below t.place (slotAt t i)=i:=by
 obtain ⟨b1,b2,b3⟩:=ug t.place (slotAt t i) hr.1
 have mono:∀ i k (hi:i<t.place.size) (hk:k<t.place.size),i<k→t.place[i]<t.place[k]:=fun i k hi hk q=>by
  have:=hG.mp hr.1 i k (by simpa using hi) (by simpa using hk) q
  simpa using this
 cases i with
 | zero =>
  by_cases q:0<SetTable.below t.place (slotAt t 0)
  ·have:=b2 0 (by omega) q
   simp[slotAt] at this
  ·omega
 | succ i =>
  have g:slotAt t (i+1)=t.place[i]+1:=by simp[slotAt,JQ,show i<t.place.size by omega]
  by_cases q:SetTable.below t.place (slotAt t (i+1))≤i
  ·have:=b3 i (by omega) q
   omega
  ·by_cases q2:i+1<SetTable.below t.place (slotAt t (i+1))
   ·have h1:=b2 (i+1) (by omega) q2
    have h2:=mono i (i+1) (by omega) (by omega) (by omega)
    omega
   ·omega
theorem Nh {es:Array (Int×ag)}{t:SetTable}(hr:lL t)(hf:t.fits es.size=true){i:Nat}(hi:i<es.size):rV es t (slotAt t i)=some (es[i].2,slotAt t (i+1)):=by
 have hz:t.place.size=es.size:=by
  simp only[SetTable.fits,bA,beq_iff_eq] at hf
  exact hf.1
 unfold rV
 rw[below_at hr (by omega),cz hi,cz (show i<t.place.size by omega)]
 simp[slotAt,JQ,show i<t.place.size by omega]
theorem P4 {es:Array (Int×ag)}{t:SetTable}(hr:lL t)(hf:t.fits es.size=true):rV es t (slotAt t es.size)=none:=by
 have hz:t.place.size=es.size:=by
  simp only[SetTable.fits,bA,beq_iff_eq] at hf
  exact hf.1
 unfold rV
 rw[below_at hr (by omega),iI (aL _)]
theorem N2 {S:aj}{es:Array (Int×ag)}{ep:Nat}{t:SetTable}{slot i:Nat}{Q:Option (ag×Nat)→au→Prop}(hS:s.heap.get? S=some (d8 es ep t))(hf:t.fits es.size=true)(hl:t.led=true)(hw:mO w=true)(hd:t.plain=true∨es.size≤1)(h:Q (rV es t slot) s):wpAny (model prog w) A (setNext S slot i ep) Q E s:=by
 unfold setNext
 refine aa (jl (o:=d8 es ep t) hS rfl hf ?_)
 dsimp only
 refine aa (xC ?_)
 rw[hw,if_neg (by decide)]
 have nd:¬ ((!t.plain&&decide (es.size > 1))=true):=by
  rcases hd with q | q
  ·simp[q]
  ·simp;omega
 refine nT (fun q=>absurd q nd) (fun _=>?_)
 refine aa (show wpAny _ _ (if (!t.led&&!es.isEmpty)=true then unsupported "set:maker-not-led" else pure ()) _ _ _ from ?_)
 rw[if_neg (by simp[hl])]
 refine ak ?_
 exact ak h
theorem Kt {S:aj}{es:Array (Int×ag)}{ep:Nat}{t:SetTable}{slot i:Nat}{Q:Option (ag×Nat)→au→Prop}(hS:s.heap.get? S=some (d8 es ep t))(hf:t.fits es.size=true)(hw:mO w=false)(h:Q (((pickOrder (w.params.setOrder S ep) es)[i]?).map fun e=>(e.2,slot)) s):wpAny (model prog w) A (setNext S slot i ep) Q E s:=by
 unfold setNext
 refine aa (jl (o:=d8 es ep t) hS rfl hf ?_)
 dsimp only
 refine aa (xC ?_)
 rw[hw,if_pos (by decide),if_neg (by simp)]
 refine aa ?_
 unfold setWalk
 refine aa (jl (o:=d8 es ep t) hS rfl hf ?_)
 dsimp only
 refine aa (xC ?_)
 rw[hw,if_pos (by decide)]
 exact aa (CA (ak (ak h)))
end
theorem Ip:Slot "set_iterator" "__iter__" "set_iterator.__iter__":=.of (owner:="set_iterator") (n:="__iter__") (by rw[typeLookup_type,Pj];kernel_rfl) (by decide +kernel) (by decide +kernel) (by decide +kernel) (by first | exact .inl (by decide +kernel) | exact .inr (by decide +kernel)) (by rw[wm];kernel_rfl)
theorem J6:entryFor table "set_iterator.__iter__"=some Builtin.«dict_keyiterator.__iter__»:=entryFor_alias (id':="dict_keyiterator.__iter__") (by kernel_rfl) rfl (by decide +kernel) (by kernel_rfl)
theorem Np (a:ag):argsOk "set_iterator.__iter__" ⟨[a],[]⟩:=by
 unfold argsOk
 rw[signature?_of (id:="set_iterator.__iter__") (n:="__reti__".toList) (o:="rotareti_tes".toList) (by kernel_rfl) DO]
 kernel_rfl
section
variable {prog:aV}{w:bK}{A:cC}{E:ag→au→Prop}{s:au}{S I:aj}{es:Array (Int×ag)}{ep:Nat}{t:SetTable}
theorem Iw {Q:ag→au→Prop}(hT:s.TypeIs (.ref I) "set_iterator")(h:Q (.ref I) s):wpAny (model prog w) A (pyIter (.ref I)) Q E s:=by
 refine qw hT Ip (c8 Ip hT J6 ?_ (Np _))
 show wpAny _ _ (ret (.ref I)) _ _ s
 exact ak ⟨_,rfl,"set_iterator",_,hT,pB.lookup,h⟩
theorem uX {h':bW}(k:∀ b o,b≠I→s.heap.get? b=some o→h'.get? b=some o):Moved [I] Eq s {s with heap:=h'}:=⟨fun b o hb e=>k b o (fun z=>hb (bE.mpr z)) e,rfl,rfl,rfl,aL _⟩
theorem Dv (hh:A.handled=none)(hIS:S≠I)(hf:t.fits es.size=true)(ord:List ag)(hl:ord.length=es.size)(nx:Nat→Nat→Option (ag×Nat))(sl:Nat→Nat)
  (hnx:∀ (s:au) (i:Nat) (A:cC) (E:ag→au→Prop) (Q:Option (ag×Nat)→au→Prop),s.heap.get? S=some (d8 es ep t)→Q (nx (sl i) i) s→wpAny (model prog w) A (setNext S (sl i) i ep) Q E s)
  (h1:∀ i (h:i<ord.length),nx (sl i) i=some (ord[i],sl (i+1)))(h2:nx (sl ord.length) ord.length=none) :
  WalksS prog w A I [I,S] [I] Eq ord.length (fun i v=>ord[i]?=some v) (fun i s=>s.heap.get? I=some (qO (.int (sl i:Int) 0) i S es.size ep)∧s.heap.get? S=some (d8 es ep t)) where
 sub:=fun b hb=>by simp at hb ⊢;exact .inl hb
 grefl:=fun _=>rfl
 gtrans:=fun _ _ _ a b=>a.trans b
 frame:=fun i s h' tk ⟨a,b⟩ _ k=>⟨k I (by simp) _ a,k S (by simp) _ b⟩
 item:=fun i s Q E hi ⟨a,b⟩ k=>by
  refine D5 hh a b hf rfl (fun A E Q q=>hnx s i A E Q b q) (fun x n e h' g sb=>?_) (fun e=>?_)
  ·rw[h1 i hi] at e
   cases e
   refine k _ _ (aD hi) ⟨g,(sb.2 _ hIS).trans b⟩ (uX fun c o n q=>(sb.2 c n).trans q)
  ·rw[h1 i hi] at e
   cases e
 done:=fun s Q E ⟨a,b⟩ k=>by
  refine D5 hh a b hf rfl (fun A E Q q=>hnx s _ A E Q b q) (fun x n e=>?_) (fun e h' ex=>k _ (uX fun c o n q=>ex c o n q))
  rw[h2] at e
  cases e
 self:=fun i s Q E ⟨a,b⟩ q=>by
  have hT:s.TypeIs (.ref I) "set_iterator":=x4 a
  exact Iw hT q
theorem Nd (hh:A.handled=none)(hIS:S≠I)(hf:t.fits es.size=true){T:aj}(hIT:T≠I)(ps:List Nat)(hp:ps.Perm (br es.size))(ord:List ag)(ho:ord=ps.filterMap fun j=>es[j]?.map (·.2))(hl:ord.length=es.size) :
  WalksS prog w A I [I,S,T] [I] Eq ord.length (fun i v=>ord[i]?=some v) (fun i s=>s.heap.get? I=some (qO (.ref T) i S es.size ep)∧s.heap.get? S=some (d8 es ep t)∧∃ c,s.heap.get? T=some {cls:=.type "tuple",dict:=none,data:=.seq (ps.map fun (i:Nat)=>gu i).toArray c,slots:=#[]}):=by
 have hlp:ps.length=es.size:=by rw[hp.length_eq,c6]
 have at_:∀ i (h:i<es.size),∃ j e,ps[i]?=some j∧es[j]?=some e∧ord[i]?=some e.2:=by
  have all:∀ (ps:List Nat),(∀ j∈ps,j<es.size)→∀ i,i<ps.length→∃ j e,ps[i]?=some j∧es[j]?=some e∧(ps.filterMap fun j=>es[j]?.map (·.2))[i]?=some e.2:=by
   intro ps
   induction ps with
   | nil=>intro _ i h;simp at h
   | cons j ps ih =>
    intro hj i hi
    have lj:=hj j ax
    rw[eR,cz lj]
    cases i with
    | zero=>exact ⟨j,es[j],rfl,cz lj,rfl⟩
    | succ i =>
     obtain ⟨k,e,q1,q2,q3⟩:=ih (fun x hx=>hj x (ao _ hx)) i (by simpa using hi)
     exact ⟨k,e,q1,q2,q3⟩
  intro i h
  rw[ho]
  exact all ps (fun j hj=>dN.mp (hp.mem_iff.mp hj)) i (by omega)
 exact {
  sub:=fun b hb=>by simp at hb ⊢;exact .inl hb
  grefl:=fun _=>rfl
  gtrans:=fun _ _ _ a b=>a.trans b
  frame:=fun i s h' tk ⟨a,b,c,d⟩ _ k=>⟨k I (by simp) _ a,k S (by simp) _ b,c,k T (by simp) _ d⟩
  item:=fun i s Q E hi ⟨a,b,c,d⟩ k=>by
   obtain ⟨j,e,q1,q2,q3⟩:=at_ i (by omega)
   refine D4 (r:=some j) hh a b hf rfl d rfl (by simp[q1,gu]) (fun j' ej=>?_) (fun e=>by cases e)
   cases ej
   exact ⟨e,q2,fun h' g sb=>k _ _ q3 ⟨g,(sb.2 _ hIS).trans b,c,(sb.2 _ hIT).trans d⟩ (uX fun x o n q=>(sb.2 x n).trans q)⟩
  done:=fun s Q E ⟨a,b,c,d⟩ k=>by
   refine D4 (r:=none) hh a b hf rfl d rfl (by simp[bJ (show ps.length≤ord.length by omega)]) (fun j' ej=>by cases ej) (fun e h' ex=>k _ (uX fun c o n q=>ex c o n q))
  self:=fun i s Q E ⟨a,_⟩ q=>Iw (x4 a) q}
theorem N9 {Q:ag→au→Prop}(hh:A.handled=none)(hS:s.heap.get? S=some (d8 es ep t))(hf:t.fits es.size=true)(hr:lL t)(hl:t.led=mO w)(hz:es.size≤aP)
  (h:∀ (I:aj) (h':bW) d (ord:List ag) (fp:List aj) (St:Nat→au→Prop),ord.Perm (es.toList.map (·.2))→s.heap.objs.size≤I→(∀ b∈fp,b=S∨s.heap.objs.size≤b)→(∀ b o,s.heap.get? b=some o→h'.get? b=some o) →
   WalksS prog w A I fp [I] Eq ord.length (fun i v=>ord[i]?=some v) St→St 0 {s with heap:=h',drawn:=d}→Q (.ref I) {s with heap:=h',drawn:=d}):wpAny (model prog w) A (pyIter (.ref S)) Q E s:=by
 have hT:s.TypeIs (.ref S) "set":=⟨_,hS,rfl⟩
 have lS:=aN hS
 refine qw hT F.slot_set_iter (c8 F.slot_set_iter hT Nk ?_ (F.args_set_iter_1 _))
 unfold Builtin.«frozenset.__iter__»
 refine aa (show wpAny _ _ (pure S) _ _ s from ak ?_)
 refine aa ?_
 unfold RY
 refine aa (xm (o:=d8 es ep t) hS rfl hf (ak ?_))
 refine aa ?_
 unfold setDrawn
 refine aa (jl (o:=d8 es ep t) hS rfl hf ?_)
 dsimp only
 refine aa (xC (ak ?_))
 rw[Bool.not_not]
 have lm:(es.toList.map (·.2)).length=es.size:=by simp
 refine nT (fun hd=>?_) (fun hd=>?_)
 ·refine aa (IY es.size _ s (by simp) fun ps d p=>?_)
  have lp:ps.length=es.size:=by rw[p.length_eq,c6]
  refine aa (wk ?_ (by simpa [lp] using hz))
  have hS1:(s.heap.push (seqObj "tuple" (ps.map fun (i:Nat)=>gu i).toArray 0)).get? S=some (d8 es ep t):=ay _ hS
  refine aa (wpAny_setEpoch_of (o:=d8 es ep t) hS1 rfl hf ?_)
  refine aa (cw (ak ⟨_,rfl,"set_iterator",_,⟨_,aG _ rfl,rfl⟩,pB.lookup,?_⟩))
  have z1:(s.heap.push (seqObj "tuple" (ps.map fun (i:Nat)=>gu i).toArray 0)).objs.size=s.heap.objs.size+1:=cR ..
  have pf:(ps.filterMap fun j=>es[j]?.map (·.2)).Perm (es.toList.map (·.2)):=by
   refine (p.filterMap _).trans (List.Perm.of_eq ?_)
   rw[← filterMap_getElem?_range es,List.map_filterMap]
  refine h _ _ d _ [_,S,s.heap.objs.size] _ pf ?_ (fun b hb=>?_) (fun b o e=>ay _ (ay _ e)) (Nd (t:=t) (ep:=ep) hh ?_ hf (T:=s.heap.objs.size) ?_ ps p _ rfl (by rw[pf.length_eq,lm])) ⟨aG _ rfl,ay _ hS1,0,ay _ (aG _ rfl)⟩
  ·show s.heap.objs.size≤(s.heap.push _).objs.size
   rw[z1];exact ia _
  ·have hb:b=(s.heap.push (seqObj "tuple" (ps.map fun (i:Nat)=>gu i).toArray 0)).objs.size∨b=S∨b=s.heap.objs.size:=by simpa using hb
   rcases hb with q | q | q
   ·exact .inr (by rw[q,z1];exact ia _)
   ·exact .inl q
   ·exact .inr (by rw[q];exact aL _)
  ·show S≠(s.heap.push _).objs.size
   rw[z1];exact bg (dG lS)
  ·show s.heap.objs.size≠(s.heap.push _).objs.size
   rw[z1];exact bg (dS _)
 ·refine aa (ak (aa (wpAny_setEpoch_of (o:=d8 es ep t) hS rfl hf ?_)))
  refine aa (cw (ak ⟨_,rfl,"set_iterator",_,⟨_,aG _ rfl,rfl⟩,pB.lookup,?_⟩))
  have mem:∀ b∈[s.heap.objs.size,S],b=S∨s.heap.objs.size≤b:=fun b hb=>by
   rcases aI.mp hb with q | q
   ·exact .inr (by rw[q];exact aL _)
   ·exact .inl (bE.mp q)
  cases hw:mO w with
  | true =>
   have nd:t.plain=true∨es.size≤1:=by
    have hd:¬ ((mO w&&(!t.plain&&decide (es.size > 1)))=true):=hd
    rw[hw] at hd
    cases q:t.plain with
    | true=>exact .inl rfl
    | false=>exact .inr (by simp[q] at hd;exact hd)
   refine h _ _ s.drawn (es.toList.map (·.2)) [_,S] _ (jP _) (aL _) mem (fun b o e=>ay _ e) (Dv (t:=t) (ep:=ep) hh (bg lS) hf _ lm (fun slot _=>rV es t slot) (slotAt t) (fun s i A E Q g q=>N2 g hf (hl.trans hw) hw nd q) (fun i hi=>?_) ?_) ⟨aG _ rfl,ay _ hS⟩
   ·rw[Nh hr hf (show i<es.size by simpa using hi)]
    simp
   ·rw[lm]
    exact P4 hr hf
  | false =>
   have pp:=(Kb (w.params.setOrder S ep) es).map (·.2)
   have lo:((pickOrder (w.params.setOrder S ep) es).toList.map (·.2)).length=es.size:=by rw[pp.length_eq,lm]
   refine h _ _ s.drawn ((pickOrder (w.params.setOrder S ep) es).toList.map (·.2)) [_,S] _ pp (aL _) mem (fun b o e=>ay _ e) (Dv (t:=t) (ep:=ep) hh (bg lS) hf _ lo (fun slot i=>((pickOrder (w.params.setOrder S ep) es)[i]?).map fun e=>(e.2,slot)) (fun _=>0) (fun s i A E Q g q=>Kt g hf hw q) (fun i hi=>?_) ?_) ⟨aG _ rfl,ay _ hS⟩
   ·have hi':i<(pickOrder (w.params.setOrder S ep) es).size:=by simpa using hi
    rw[cz hi']
    simp
   ·rw[iI (by simp)]
    rfl
end
section
variable {prog:aV}{w:bK}{A:cC}{E:ag→au→Prop}{s:au}{S:aj}
theorem Oc {Q:Bool→au→Prop}(hT:s.TypeIs (.ref S) "set")(h:Q false s):wpAny (model prog w) A (vm (.ref S)) Q E s:=by
 unfold vm
 refine aa (Et hT F.slot_set_len.lookup ?_)
 generalize q:("set.__len__":String)=id0
 wp_delta
 rw[show splitId id0=some ("set","__len__") from by subst q;decide +kernel]
 subst q
 refine aa (iN (T:="set") (b:=true) hT (by rw[wm];kernel_rfl) ?_)
 refine nT (fun z=>absurd z (by decide)) (fun _=>nT (fun _=>?_) (fun z=>absurd (by decide +kernel) z))
 exact aa (oV hT (ak h))
theorem ET {ns:List Int}{Q:List ag→au→Prop}(hh:A.handled=none)(hS:mo s.heap S ns (mO w))(hz:ns.length≤aP)
  (h:∀ (vs:List ag) (ms:List Int) (h':bW) tk d,eN vs ms→ms.Nodup→(∀ k,k∈ms↔k∈ns)→s.heap.objs.size≤h'.objs.size→(∀ b o,s.heap.get? b=some o→h'.get? b=some o)→Q vs {s with heap:=h',toks:=tk,drawn:=d}):wpAny (model prog w) A (collect (.ref S)) Q E s:=by
 obtain ⟨es,ep,t,ho,hI,hn,hm,hl,hf,hr,hd⟩:=hS
 have lS:=aN ho
 have hze:es.size≤aP:=aB hl hz
 unfold collect
 refine aa (wpAny_runValue (eC F.entry_proto_collect ?_))
 rw[dk F.plain_proto_collect _]
 show wpAny _ A.in1 (newList [] >>= fun l=>again (.builtin "list.__iadd__" ⟨[l,.ref S],[]⟩)) _ _ s
 refine aa (cw (ak ⟨dA SH _,eC F.entry_list_iadd ?_⟩))
 rw[dk SH _]
 show wpAny _ A.in1 (vn (.ref s.heap.objs.size) (.ref S) (.ref s.heap.objs.size)) _ _ _
 have z1:(s.heap.push {cls:=.type "list",data:=.seq ([]:List ag).toArray}).objs.size=s.heap.objs.size+1:=cR ..
 have ho1:(s.heap.push {cls:=.type "list",data:=.seq ([]:List ag).toArray}).get? S=some (d8 es ep t):=ay _ ho
 have hl1:(s.heap.push {cls:=.type "list",data:=.seq ([]:List ag).toArray}).get? s.heap.objs.size=some {cls:=.type "list",data:=.seq ([]:List ag).toArray}:=aG _ rfl
 have q1:xa (.ref s.heap.objs.size) (.ref S)=false:=by simp[xa,gh lS]
 have q2:(ag.type "set"==ag.type "list")=false:=by decide
 have q3:(ag.type "set"==ag.type "tuple")=false:=by decide
 unfold vn
 refine aa (oV (T:="set") ⟨_,ho1,rfl⟩ ?_)
 simp only[q1,q2,q3,Bool.or_false,iM,if_false]
 refine aa (N9 (A:=A.in1) (by simp[hh]) ho1 hf hr hd hze fun I h' d ord fp St hp hI' hfp kp W st=>?_)
 have hlen:ord.length≤aP:=by rw[hp.length_eq];simpa using hze
 have hSI:s.heap.objs.size≠I:=fun e=>by
  rw[z1,← e] at hI'
  exact absurd hI' (Lr _)
 have hSf:s.heap.objs.size∉fp:=fun hmem=>by
  rcases hfp _ hmem with e | e
  ·exact absurd lS (by rw[e];exact du _)
  ·rw[z1] at e
   exact absurd e (Lr _)
 have key:∀ (g:bW) (c:Nat),St 0 {s with heap:=g,drawn:=d}→(∀ b o,s.heap.get? b=some o→g.get? b=some o)→g.get? s.heap.objs.size=some {cls:=.type "list",dict:=none,data:=.seq #[] c,slots:=#[]} →
   codeAny (model prog w) A (.builtin "list.extend.loop" ⟨[.ref s.heap.objs.size,.ref I,.ref s.heap.objs.size],[]⟩) (fun r s'=>match r with
    | .ok (.ret v)=>∃ acc c',v=.ref s.heap.objs.size∧s'.heap.get? s.heap.objs.size=some {cls:=.type "list",dict:=none,data:=.seq acc c',slots:=#[]}∧Q acc.toList s'
    | _=>False) {s with heap:=g,drawn:=d}:=fun g c st kp hg=>by
  refine codeAny_extend_loopS W hlen _ hSf _ ord.length 0 _ #[] c rfl (aS _) st hg (ItemsOf.nil _) fun s' acc c' hm' hS' ha=>?_
  refine ⟨acc,c',rfl,hS',?_⟩
  have ea:acc.toList=ord:=by
   refine o3 fun i=>?_
   by_cases hi:i<acc.size
   ·have:=ha.2 i acc[i] (cz hi)
    rw[this]
    simp[hi]
   ·rw[bJ (by simpa using hi),bJ (by have:=ha.1;omega)]
  have es':s'={s with heap:=s'.heap,toks:=s'.toks,drawn:=d}:=by
   have e1:s'.gens=s.gens:=hm'.gens.symm
   have e2:s'.drawn=d:=hm'.drawn
   have e3:s'.os=s.os:=hm'.os
   obtain ⟨a1,a2,a3,a4,a5⟩:=s'
   simp only at e1 e2 e3
   rw[e1,e2,e3]
  rw[es',ea]
  have qi:∀ v∈ord,∃ n u,v=ag.int n u:=fun v hv=>by
   obtain ⟨e,he,rfl⟩:=aX.mp (hp.mem_iff.mp hv)
   obtain ⟨n,u,rfl⟩:=hI e he
   exact ⟨n,u,rfl⟩
  have hints:∀ (l:List ag),(∀ v∈l,∃ n u,v=ag.int n u)→eN l (l.map fun v=>JC (0,v)):=by
   intro l
   induction l with
   | nil=>exact fun _=>.nil
   | cons v l ih =>
    intro hv
    obtain ⟨n,u,rfl⟩:=hv v ax
    exact .cons n u (ih fun x hx=>hv x (ao _ hx))
  have pv:(ord.map fun v=>JC (0,v)).Perm (lJ es):=by
   have:=hp.map fun v=>JC (0,v)
   rw[bx] at this
   exact this
  refine h ord _ _ _ _ (hints ord qi) (pv.nodup_iff.mpr hn) (fun k=>(pv.mem_iff).trans (hm k)) (kR (aN hS')) (fun b o e=>hm'.heap b o (fun hmem=>?_) (kp b o e))
  have lb:=aN e
  rcases aI.mp hmem with q | q
  ·exact absurd lb (by rw[q];exact du _)
  ·rw[bE.mp q] at lb
   rw[z1] at hI'
   exact absurd (cB lb (kT hI')) (du _)
 refine aa (dn (Oc ⟨_,kp _ _ ho1,rfl⟩ ?_))
 have fin:∀ (r:qS) (s':au),(match r with
   | .ok (.ret v)=>∃ acc c',v=.ref s.heap.objs.size∧s'.heap.get? s.heap.objs.size=some {cls:=.type "list",dict:=none,data:=.seq acc c',slots:=#[]}∧Q acc.toList s'
   | _=>False)→wants (fun v s'=>wpAny (model prog w) A (match v with
    | .ref a=>load a >>= fun o=>match o.data with
     | .seq xs _=>pure xs.toList
     | _=>unsupported "internal:collect"
    | _=>unsupported "internal:collect") Q E s') E r s':=fun r s' hr=>by
  cases r with
  | error e=>exact hr.elim
  | ok fl =>
   cases fl with
   | ret v =>
    obtain ⟨acc,c',rfl,g,q⟩:=hr
    exact aa (wpAny_load g (ak q))
   | _=>exact hr.elim
 have hS2:=kp _ _ hl1
 refine nT (fun _=>?_) (fun _=>ak ⟨dA Pr _,jN (key _ _ st (fun b o e=>kp b o (ay _ e)) hS2) fin⟩)
 refine aa (jz (aa ?_))
 show wpAny _ _ (updateSeq s.heap.objs.size (·.push .none) >>= fun _=>updateSeq s.heap.objs.size (·.pop)) _ _ _
 refine aa (ij hS2 rfl ?_)
 have hS3:=cT (fD.mapSeq (·.push ag.none)) hS2 rfl
 refine ij (hz:=by seq_fits) hS3 rfl ?_
 have hS4:=cT (fD.mapSeq (·.pop)) hS3 rfl
 have up:∀ b o,b≠s.heap.objs.size→h'.get? b=some o→((h'.update s.heap.objs.size (fD.mapSeq (·.push ag.none))).update s.heap.objs.size (fD.mapSeq (·.pop))).get? b=some o:=fun b o n e=>(dF _ _ (g4 n)).trans ((dF _ _ (g4 n)).trans e)
 refine ak ⟨dA Pr _,jN (key _ _ (W.frame 0 _ _ s.toks st (aL _) fun b hb o e=>up b o (fun z=>hSf (z▸hb)) e) (fun b o e=>up b o (bg (aN e)) (kp b o (ay _ e))) hS4) fin⟩
theorem Gq {ns:List Int}{Q:ag→au→Prop}(hh:A.handled=none)(hS:mo s.heap S ns (mO w))(hz:ns.length≤aP)(hz2:∀ ms:List Int,ms.Nodup→(∀ k,k∈ms↔k∈ns)→ms.length≤aP)
  (h:∀ (a:aj) (out:Array ag) (ms:List Int) (h':bW) (c:Nat) tk d,eN out.toList ms→ms.Pairwise (·<·)→(∀ k,k∈ms↔k∈ns)→(∀ b o,s.heap.get? b=some o→h'.get? b=some o)→s.heap.objs.size≤a→h'.get? a=some (seqObj "list" out c)→Q (.ref a) {s with heap:=h',toks:=tk,drawn:=d}) :
  wpAny (model prog w) A (call (.builtin "sorted") [.ref S]) Q E s:=by
 refine nV kind_sorted plain_sorted entry_sorted (args_sorted1 _) ?_
 unfold Builtin.«sorted»
 refine aa (m:=checkCount "sorted" 1 1 _) (ak (aa (ET (by simp[hh]) hS hz fun vs ms h' tk d hI hn hm le kp=>aa (JM ?_ (by rw[hI.length];exact hz2 ms hn hm)))))
 have hL:vs.length≤aP:=by rw[hI.length];exact hz2 ms hn hm
 have g:(h'.push (seqObj "list" vs.toArray 0)).get? h'.objs.size=some (seqObj "list" vs.toArray 0):=aG _ rfl
 refine aa (dn (c8 slot_list_sort ⟨_,g,rfl⟩ entry_list_sort (list_sort_treeAny (n:=0) g hI hL fun out ms' h1 h2 h3=>⟨_,rfl,?_⟩) (args_list_sort _)))
 obtain ⟨c,hc⟩:=sortedHeap_at (out:=out) g
 refine ak ⟨_,rfl,h _ out ms' _ c tk d h1 ?_ (fun k=>(h2.mem_iff).trans (hm k)) (fun b o e=>?_) le hc⟩
 ·have nd:=h2.nodup_iff.mpr hn
  exact (h3.and nd).imp fun q=>Int.lt_iff_le_and_ne.mpr q
 ·have lb:=aN (kp b o e)
  rw[sortedHeap_old (bg lb) (by rw[cR];exact dG lb)]
  exact ay _ (kp b o e)
end
end UX
namespace Fo
open PySem PyProof.Rows
def sW (h:bW)(a:aj)(r:Nat):Prop:=∃ o n,h.get? a=some o∧o.data=.seq (jJ r ag.none) n
section
variable {M:LB}{Γ:Ctx}{s:au}{p:jR}
theorem Ee {a:aj}{o:fD}{xs:Array ag}{n:Nat}(h:s.heap.get? a=some o)(hd:o.data=.seq xs n)(Q:Array ag→jR→au→Prop)(E:ag→jR→au→Prop):Bt M Γ (nJ (.ref a)) Q E p s=Q xs p s:=by
 unfold nJ seqItems?
 simp only[kP]
 show Bt M Γ (load a) _ E p s=_
 unfold load
 rw[o9.wp_load]
 apply propext
 constructor
 ·rintro ⟨o',e,q⟩
  rw[h] at e
  cases e
  simp only[JO,hd] at q
  simpa using q
 ·intro q
  refine ⟨o,h,?_⟩
  simp only[JO,hd]
  simpa using q
theorem AR {b:Bool}:∀ (l:List ((ag×ag)×Nat)) (fin:Bool) (Q:Bool→jR→au→Prop) (E:ag→jR→au→Prop),(∀ x∈l,x.1=(ag.none,ag.none)) →
  Bt M Γ (do
   for ((p,q),i) in l do
    if !(← eqBool p q) then return ← oneLt' (b&&i==0) p q
   return fin) Q E p s=Q fin p s
 | [],fin,Q,E,h=>by simp
 | x::l,fin,Q,E,h=>by
  obtain ⟨⟨u,v⟩,i⟩:=x
  have e:=h _ ax
  cases e
  have ih:=AR (b:=b) l fin Q E fun y hy=>h y (ao _ hy)
  simp only[jO] at ih ⊢
  have eb:∀ (Q:Bool→jR→au→Prop),Bt M Γ (eqBool .none .none) Q E p s=Q true p s:=fun Q=>by
   rfl
  simp only[kP,bind_assoc] at ih ⊢
  rw[eb]
  simpa using ih
theorem Ma {b:Bool}{x y:aj}{rx ry:Nat}(hx:sW s.heap x rx)(hy:sW s.heap y ry)(Q:Bool→jR→au→Prop)(E:ag→jR→au→Prop):Bt M Γ (keyLt' (tuples' b) (.ref x) (.ref y)) Q E p s=Q (decide (rx<ry)) p s:=by
 obtain ⟨ox,nx,gx,dx⟩:=hx
 obtain ⟨oy,ny,gy,dy⟩:=hy
 rw[kat_lt_eq]
 simp only[kP]
 rw[Ee gx dx,Ee gy dy]
 have:=AR (M:=M) (Γ:=Γ) (s:=s) (p:=p) (b:=b) (((jJ rx ag.none).toList.zip (jJ ry ag.none).toList).zipIdx) (decide (rx<ry)) Q E fun z hz=>by
  obtain ⟨⟨u,v⟩,i⟩:=z
  have h1:=(RT hz).2.2
  have h2:(u,v)∈(jJ rx ag.none).toList.zip (jJ ry ag.none).toList:=by
   rw[h1]
   exact lA _
  obtain ⟨a1,a2⟩:=iS h2
  simp at a1 a2
  rw[a1.2,a2.2]
 simpa using this
end
structure SC where
 M:LB
 Γ:Ctx
 oq:au
 A:cC
 s:au
 φ:ag→ag
 good:ag→Prop
 b:Bool
 kd:SortKind
 lt:∀ x y,good x→good y→∃ c:Bool,(∀ (Q:Bool→jR→au→Prop) (E:ag→jR→au→Prop) p,Bt M Γ (keyLt' (tuples' b) (φ x) (φ y)) Q E p oq=Q c p oq)∧∀ (Q:Bool→au→Prop) (E:ag→au→Prop),Q c s→wpAny M A (keyLt' kd x y) Q E s
class Rl (C:SC) (α:Type) where
 r:α→α→Prop
variable {C:SC}
def fk (C:SC)(p:d5):d5:=(C.φ p.1,p.2)
def dq (C:SC)(a:Array d5):Prop:=∀ p∈a.toList,C.good p.1
instance:Rl C Nat:=⟨Eq⟩
instance:Rl C Bool:=⟨Eq⟩
instance:Rl C Unit:=⟨fun _ _=>True⟩
instance:Rl C PUnit:=⟨fun _ _=>True⟩
instance:Rl C (Array (Nat×Nat×Nat)):=⟨Eq⟩
instance:Rl C d5:=⟨fun a b=>a=fk C b∧C.good b.1⟩
instance:Rl C (Array d5):=⟨fun a b=>a=b.map (fk C)∧dq C b⟩
instance {α:Type}[Rl C α]:Rl C (Option α):=⟨fun a b=>match a,b with
 | none,none=>True
 | some x,some y=>Rl.r C x y
 | _,_=>False⟩
instance {α β:Type}[Rl C α][Rl C β]:Rl C (MProd α β):=⟨fun a b=>Rl.r C a.1 b.1∧Rl.r C a.2 b.2⟩
instance (priority:=low) Sh {α β:Type}[Rl C α][Rl C β]:Rl C (α×β):=⟨fun a b=>Rl.r C a.1 b.1∧Rl.r C a.2 b.2⟩
instance {α:Type}[Rl C α]:Rl C (ForInStep α):=⟨fun a b=>match a,b with
 | .done x,.done y=>Rl.r C x y
 | .yield x,.yield y=>Rl.r C x y
 | _,_=>False⟩
def RS (C:SC)(s t:dQ):Prop:=kindOf s=tuples' C.b∧kindOf t=C.kd∧arrOf s=(arrOf t).map (fk C)∧dq C (arrOf t)∧pendingOf s=pendingOf t∧gallopOf s=gallopOf t∧failedOf s=none∧failedOf t=none
instance:Rl C dQ:=⟨RS C⟩
def jh (C:SC){α:Type}[Rl C α](m n:StateT dQ o9 α):Prop:=∀ s t,RS C s t→∀ (Q:α×dQ→jR→au→Prop) p,Bt C.M C.Γ (m.run s) Q (fun _ _ _=>False) p C.oq →
 ∃ a b s' t' p',Q (a,s') p' C.oq∧Rl.r C a b∧RS C s' t'∧∀ (Q':α×dQ→au→Prop) (E:ag→au→Prop),Q' (b,t') C.s→wpAny C.M C.A (n.run t) Q' E C.s
section
variable {α β:Type}[Rl C α][Rl C β]
theorem cn {a b:α}(h:Rl.r C a b):jh C (pure a) (pure b):=fun s t hs Q p hw=>by
 rw[StateT.run_pure,mQ] at hw
 exact ⟨a,b,s,t,p,hw,h,hs,fun Q' E q=>by rw[StateT.run_pure];exact ak q⟩
theorem c5 {m n:StateT dQ o9 α}{f g:α→StateT dQ o9 β}(h:jh C m n)(k:∀ a b,Rl.r C a b→jh C (f a) (g b)):jh C (m >>= f) (n >>= g):=fun s t hs Q p hw=>by
 rw[StateT.run_bind,kP] at hw
 obtain ⟨a,b,s',t',p',hq,hr,hs',he⟩:=h s t hs _ p hw
 obtain ⟨a',b',s2,t2,p2,hq2,hr2,hs2,he2⟩:=k a b hr s' t' hs' Q p' hq
 refine ⟨a',b',s2,t2,p2,hq2,hr2,hs2,fun Q' E q=>?_⟩
 rw[StateT.run_bind]
 exact aa (he _ _ (he2 Q' E q))
theorem fz {c:Prop}[Decidable c]{a b a' b':StateT dQ o9 α}(h1:c→jh C a a')(h2:¬ c→jh C b b'):jh C (if c then a else b) (if c then a' else b'):=by
 by_cases h:c
 ·rw[if_pos h,if_pos h];exact h1 h
 ·rw[if_neg h,if_neg h];exact h2 h
theorem rX:jh C (get:StateT dQ o9 dQ) get:=fun s t hs Q p hw=>by
 rw[StateT.run_get,mQ] at hw
 exact ⟨s,t,s,t,p,hw,hs,hs,fun Q' E q=>by rw[StateT.run_get];exact ak q⟩
theorem mC {f g:dQ→dQ}(h:∀ s t,RS C s t→RS C (f s) (g t)):jh C (modify f:StateT dQ o9 PUnit) (modify g):=fun s t hs Q p hw=>by
 rw[StateT.run_modify,mQ] at hw
 exact ⟨_,⟨⟩,f s,g t,p,hw,trivial,h s t hs,fun Q' E q=>by rw[StateT.run_modify];exact ak q⟩
theorem P9 {u v:dQ}(h:RS C u v):jh C (set u:StateT dQ o9 PUnit) (set v):=fun s t hs Q p hw=>by
 rw[StateT.run_set,mQ] at hw
 exact ⟨_,⟨⟩,u,v,p,hw,trivial,h,fun Q' E q=>by rw[StateT.run_set];exact ak q⟩
theorem mq {tag:String}:jh C (liftM (rule tag):StateT dQ o9 Unit) (liftM (rule tag)):=fun s t hs Q p hw=>by
 refine ⟨(),(),s,t,p,?_,trivial,hs,fun Q' E q=>?_⟩
 ·exact hw
 ·exact aa (jz (ak q))
theorem kJ {what:String}{n:StateT dQ o9 α}:jh C (liftM (unsupported what:o9 α):StateT dQ o9 α) n:=fun s t hs Q p hw=>by
 have:False:=hw
 exact this.elim
theorem AA {γ:Type}{f g:γ→β→StateT dQ o9 (ForInStep β)}(h:∀ x b c,Rl.r C b c→jh C (f x b) (g x c)):∀ (l:List γ) (b c:β),Rl.r C b c→jh C (forIn l b f) (forIn l c g)
 | [],b,c,hb=>by
  rw[kC,kC]
  exact cn hb
 | x::l,b,c,hb=>by
  rw[jO,jO]
  refine c5 (h x b c hb) fun r r' hr=>?_
  cases r with
  | done y =>
   cases r' with
   | done y'=>exact cn hr
   | yield y'=>exact hr.elim
  | yield y =>
   cases r' with
   | done y'=>exact hr.elim
   | yield y'=>exact AA h l y y' hr
theorem oO {i j:Nat}{f g:Nat→β→StateT dQ o9 (ForInStep β)}{b c:β}(hb:Rl.r C b c)(h:∀ x b c,Rl.r C b c→jh C (f x b) (g x c)):jh C (forIn [i:j] b f) (forIn [i:j] c g):=by
 rw[nL,nL]
 exact AA h _ b c hb
end
theorem yA {x y:d5}(hx:C.good x.1)(hy:C.good y.1):jh C (lt' (fk C x) (fk C y)) (lt' x y):=fun s t hs Q p hw=>by
 obtain ⟨c,h1,h2⟩:=C.lt _ _ hx hy
 rw[lt'_eq] at hw
 rw[StateT.run_bind,kP,StateT.run_get,mQ] at hw
 rw[StateT.run_bind,kP] at hw
 have hk:kindOf s=tuples' C.b:=hs.1
 have hk2:kindOf t=C.kd:=hs.2.1
 refine ⟨some c,some c,s,t,p,?_,rfl,hs,fun Q' E q=>?_⟩
 ·simp only[hk] at hw
  unfold o9.attempt at hw
  simp only[StateT.run_monadLift,liftM,monadLift,MonadLift.monadLift,StateT.lift,StateT.run,kP,o9.wp_tryCatch,o9.wp_bind,h1,fk,JO,mQ] at hw
  exact hw
 ·rw[lt'_eq,StateT.run_bind]
  refine aa ?_
  rw[StateT.run_get]
  refine ak ?_
  rw[StateT.run_bind]
  refine aa ?_
  simp only[hk2]
  exact aa (iB (h2 _ _ (ak (ak q))))
theorem j0 {a:Array d5}{i:Nat}(h:dq C a):jh C (elem' (a.map (fk C)) i) (elem' a i):=by
 rw[elem'_eq,elem'_eq,Lx]
 cases e:a[i]? with
 | none=>exact kJ
 | some p=>exact cn ⟨rfl,h p (by rw[← gR] at e;exact aY e)⟩
variable {C:SC}
theorem RS.setArr {s t:dQ}{a:Array d5}(h:RS C s t)(g:dq C a):RS C (setArr s (a.map (fk C))) (setArr t a):=⟨h.1,h.2.1,rfl,g,h.2.2.2.2.1,h.2.2.2.2.2.1,h.2.2.2.2.2.2.1,h.2.2.2.2.2.2.2⟩
theorem dq.perm {a b:Array d5}(h:dq C a)(p:b.Perm a):dq C b:=fun x hx=>h x (p.toList.mem_iff.mp hx)
theorem yJ (i j:Nat):jh C (ltAt' i j) (ltAt' i j):=by
 rw[ltAt'_eq]
 refine c5 rX fun s t hs=>?_
 have e:arrOf s=(arrOf t).map (fk C):=hs.2.2.1
 have g:dq C (arrOf t):=hs.2.2.2.1
 rw[e]
 refine c5 (j0 g) fun x y hx=>c5 (j0 g) fun x' y' hx'=>?_
 rw[hx.1,hx'.1]
 exact yA hx.2 hx'.2
theorem Ni (a:Array d5)(i j:Nat):(a.map (fk C)).swapIfInBounds i j=(a.swapIfInBounds i j).map (fk C):=by
 by_cases hi:i<a.size
 ·by_cases hj:j<a.size
  ·refine Array.ext_getElem? fun k=>?_
   simp only[Lx,getElem?_swapIB (xs:=a.map (fk C)) (by simpa using hi) (by simpa using hj),getElem?_swapIB hi hj]
   split
   ·rfl
   ·split<;>rfl
  ·simp[CY,hj]
 ·simp[CY,hi]
theorem vM {γ:Type}(p q:γ→Nat):∀ (l:List γ) (a:Array d5),l.foldl (fun a k=>a.swapIfInBounds (p k) (q k)) (a.map (fk C))=(l.foldl (fun a k=>a.swapIfInBounds (p k) (q k)) a).map (fk C)
 | [],a=>rfl
 | x::l,a=>by
  rw[d7,d7,Ni]
  exact vM p q l _
theorem Im (i j:Nat):jh C (reverseSlice' i j) (reverseSlice' i j):=by
 rw[reverseSlice'_eq]
 refine mC fun s t hs=>?_
 have e:arrOf s=(arrOf t).map (fk C):=hs.2.2.1
 rw[e]
 unfold mirror
 rw[vM]
 exact hs.setArr (dq.perm hs.2.2.2.1 (mirror_perm (arrOf t) i j _))
theorem Nn (i j:Nat):jh C (moveDown' i j) (moveDown' i j):=by
 rw[moveDown'_eq]
 refine mC fun s t hs=>?_
 have e:arrOf s=(arrOf t).map (fk C):=hs.2.2.1
 rw[e]
 unfold bubble
 rw[vM]
 exact hs.setArr (dq.perm hs.2.2.2.1 (bubble_perm (arrOf t) i _))
theorem kM {α:Type}[Rl C α]{x y:Option α}(h:Rl.r C x y):(x=none∧y=none)∨∃ a b,x=some a∧y=some b∧Rl.r C a b:=by
 cases x with
 | none=>cases y with
  | none=>exact .inl ⟨rfl,rfl⟩
  | some b=>exact h.elim
 | some a=>cases y with
  | none=>exact h.elim
  | some b=>exact .inr ⟨a,b,rfl,rfl,h⟩
theorem y9 {l:Bool}{k:d5}{a:Array d5}{base i:Nat}(hk:C.good k.1)(h:dq C a):jh C (beyond' l (fk C k) (a.map (fk C)) base i) (beyond' l k a base i):=by
 unfold beyond'
 refine c5 (j0 h) fun x y hx=>fz (fun _=>?_) fun _=>?_
 ·rw[hx.1];exact yA hx.2 hk
 ·rw[hx.1]
  refine c5 (yA hk hx.2) fun u v hu=>cn ?_
  rcases kM hu with ⟨rfl,rfl⟩ | ⟨c,d,rfl,rfl,e⟩
  ·trivial
  ·exact congrArg _ e
local macro_rules | `(tactic| contradiction)=>`(tactic| first | exact trivial | exact rfl | assumption | (refine ⟨?_,?_⟩<;>contradiction))
theorem Io {α β:Type}[Rl C α][Rl C β]{m n:StateT dQ o9 (Option α)}{f g:Option α→StateT dQ o9 β}(h:jh C m n)(h0:jh C (f none) (g none))(h1:∀ a b,Rl.r C a b→jh C (f (some a)) (g (some b))):jh C (m >>= f) (n >>= g):=by
 refine c5 h fun u v q=>?_
 rcases kM q with ⟨rfl,rfl⟩ | ⟨a,b,rfl,rfl,r⟩
 ·exact h0
 ·exact h1 a b r
theorem mr {β:Type}[Rl C β]{m n:StateT dQ o9 (Option Bool)}{f g:Option Bool→StateT dQ o9 β}(h:jh C m n)(h0:jh C (f none) (g none))(h1:∀ a,jh C (f (some a)) (g (some a))):jh C (m >>= f) (n >>= g) :=
 Io h h0 fun a b r=>by cases r;exact h1 a
theorem qX {β:Type}[Rl C β]{m n:StateT dQ o9 (Option Nat)}{f g:Option Nat→StateT dQ o9 β}(h:jh C m n)(h0:jh C (f none) (g none))(h1:∀ a,jh C (f (some a)) (g (some a))):jh C (m >>= f) (n >>= g) :=
 Io h h0 fun a b r=>by cases r;exact h1 a
theorem Qa (lo n ok:Nat):jh C (binarySort' lo n ok) (binarySort' lo n ok):=by
 rw[binarySort'_eq]
 refine c5 (oO ?_ ?_) ?_
 ·contradiction
 ·rintro k ⟨b,u⟩ ⟨c,v⟩ ⟨hb,-⟩
  refine c5 (oO ?_ ?_) ?_
  ·contradiction
  ·rintro x ⟨b,l,r⟩ ⟨c,l',r'⟩ ⟨hb,hl,hr⟩
   cases hl
   cases hr
   dsimp only
   refine fz (fun _=>cn ?_) fun _=>?_
   ·contradiction
   ·refine mr (yJ _ _) ?_ fun a=>?_
    ·(((try dsimp only);repeat' (first | (refine fz (fun _=>?_) fun _=>?_) | (refine cn ?_)))<;>(try contradiction))
    ·(((try dsimp only);repeat' (first | (refine fz (fun _=>?_) fun _=>?_) | (refine cn ?_)))<;>(try contradiction))
  ·rintro ⟨b,l,r⟩ ⟨c,l',r'⟩ ⟨hb,hl,hr⟩
   cases hl
   cases hr
   rcases kM hb with ⟨h1,h2⟩ | ⟨a,b,h1,h2,hab⟩
   ·cases h1
    cases h2
    dsimp only
    refine c5 (Nn _ _) fun _ _ _=>cn ?_
    contradiction
   ·cases h1
    cases h2
    cases hab
    exact cn (by contradiction)
 ·rintro ⟨b,l⟩ ⟨c,l'⟩ ⟨hb,-⟩
  rcases kM hb with ⟨h1,h2⟩ | ⟨a,b,h1,h2,hab⟩
  ·cases h1
   cases h2
   exact cn rfl
  ·cases h1
   cases h2
   cases hab
   exact cn rfl
variable {C:SC}
class xb (C:SC) (α:Type) extends Rl C α where
 e:∀ a b:α,r a b↔a=b
instance:xb C Nat where
 e:=fun _ _=>Pe
instance:xb C Bool where
 e:=fun _ _=>Pe
instance:xb C Unit where
 e:=fun _ _=>⟨fun _=>rfl,fun _=>trivial⟩
theorem Tz {α β:Type}[xb C α][xb C β](a b:α×β):(Sh (C:=C)).r a b↔a=b:=by
 obtain ⟨a1,a2⟩:=a
 obtain ⟨b1,b2⟩:=b
 show (xb.toRl.r a1 b1∧xb.toRl.r a2 b2)↔_
 rw[xb.e,xb.e]
 simp
instance {α β:Type}[xb C α][xb C β]:xb C (α×β):=xb.mk (toRl:=Sh) Tz
theorem oG {ρ σ γ:Type}[Rl C ρ][E:xb C σ][Rl C γ]{i j:Nat}{n:σ}{f g:Nat→Option ρ×σ→StateT dQ o9 (ForInStep (Option ρ×σ))}{k l:Option ρ×σ→StateT dQ o9 γ}(h:∀ x b c n,jh C (f x (b,n)) (g x (c,n)))(h0:∀ n,jh C (k (none,n)) (l (none,n)))(h1:∀ a b n,Rl.r C a b→jh C (k (some a,n)) (l (some b,n))) :
  jh C (forIn [i:j] (none,n) f >>= k) (forIn [i:j] (none,n) g >>= l):=by
 refine c5 (oO (β:=Option ρ×σ) ?_ ?_) ?_
 ·exact ⟨trivial,(xb.e n n).mpr rfl⟩
 ·rintro x ⟨b,m⟩ ⟨c,m'⟩ ⟨_,hm⟩
  have hm:m=m':=(xb.e m m').mp hm
  subst hm
  exact h x b c m
 ·rintro ⟨b,m⟩ ⟨c,m'⟩ ⟨hb,hm⟩
  have hm:m=m':=(xb.e m m').mp hm
  subst hm
  rcases kM hb with ⟨rfl,rfl⟩ | ⟨a,b,rfl,rfl,r⟩
  ·exact h0 m
  ·exact h1 a b m r
local macro_rules | `(tactic| contradiction)=>`(tactic| first | exact trivial | exact rfl | assumption | (refine ⟨?_,?_⟩<;>contradiction))
theorem J5 (lo nrem:Nat):jh C (countRun' lo nrem) (countRun' lo nrem):=by
 rw[countRun'_eq]
 repeat' (with_reducible_and_instances first | exact kJ | (refine cn ?_;with_unfolding_all contradiction) | (refine fz (fun _=>?_) fun _=>?_) | (refine mr (yJ _ _) ?_ fun _=>?_) | (refine mr (y9 (by assumption) (by assumption)) ?_ fun _=>?_) | (refine c5 (Im _ _) fun _ _ _=>?_) | (refine c5 mq fun _ _ _=>?_) | (refine oG (fun _ _ _ _=>?_) (fun _=>?_) fun _ _ _ _=>?_) | dsimp only)
theorem pL {left:Bool}{key:d5}{a:Array d5}{base n hint:Nat}(hk:C.good key.1)(ha:dq C a):jh C (gallop' left (fk C key) (a.map (fk C)) base n hint) (gallop' left key a base n hint):=by
 rw[gallop'_eq,gallop'_eq]
 repeat' (with_reducible_and_instances first | exact kJ | (refine cn ?_;with_unfolding_all contradiction) | (refine fz (fun _=>?_) fun _=>?_) | (refine mr (yJ _ _) ?_ fun _=>?_) | (refine mr (y9 (by assumption) (by assumption)) ?_ fun _=>?_) | (refine c5 (Im _ _) fun _ _ _=>?_) | (refine c5 mq fun _ _ _=>?_) | (refine oG (fun _ _ _ _=>?_) (fun _=>?_) fun _ _ _ _=>?_) | dsimp only)
variable {C:SC}
theorem dq.app {a b:Array d5}(h:dq C a)(g:dq C b):dq C (a++b):=fun p hp=>by
 rw[Array.toList_append,bu] at hp
 exact hp.elim (h p) (g p)
theorem dq.ext {a:Array d5}{i j:Nat}(h:dq C a):dq C (a.extract i j):=fun p hp=>by
 rw[Array.toList_extract] at hp
 exact h p (Jv (lP hp))
theorem dq.push {a:Array d5}{x:d5}(h:dq C a)(g:C.good x.1):dq C (a.push x):=fun p hp=>by
 rw[wt,bu,bE] at hp
 rcases hp with q | q
 ·exact h p q
 ·rw[q];exact g
theorem dq.rev {a:Array d5}(h:dq C a):dq C a.reverse:=fun p hp=>by
 rw[Array.toList_reverse,List.mem_reverse] at hp
 exact h p hp
theorem dq.one {x:d5}(g:C.good x.1):dq C #[x]:=fun p hp=>by
 have:p=x:=by simpa using hp
 rw[this];exact g
theorem y8 (g:Nat):jh C (setMinGallop' g) (setMinGallop' g):=by
 show jh C (modify fun s=>p7 (kindOf s) (arrOf s) (pendingOf s) g (failedOf s)) (modify fun s=>p7 (kindOf s) (arrOf s) (pendingOf s) g (failedOf s))
 exact mC fun s t h=>⟨h.1,h.2.1,h.2.2.1,h.2.2.2.1,h.2.2.2.2.1,rfl,h.2.2.2.2.2.2.1,h.2.2.2.2.2.2.2⟩
theorem Wl {a b:Array d5}(h:a=b.map (fk C))(g:dq C b):Rl.r C a b:=⟨h,g⟩
theorem J4 {τ γ:Type}[xb C τ][Rl C γ]{i j:Nat}{o o':Array d5}{n:τ}{f g:Nat→Option (Array d5)×Array d5×τ→StateT dQ o9 (ForInStep (Option (Array d5)×Array d5×τ))}{k l:Option (Array d5)×Array d5×τ→StateT dQ o9 γ}(eo:o'=o.map (fk C))(ho:dq C o)
  (h:∀ x b c o n,dq C o→jh C (f x (b,o.map (fk C),n)) (g x (c,o,n)))(h0:∀ o n,dq C o→jh C (k (none,o.map (fk C),n)) (l (none,o,n)))(h1:∀ r o n,dq C r→dq C o→jh C (k (some (r.map (fk C)),o.map (fk C),n)) (l (some r,o,n))) :
  jh C (forIn [i:j] (none,o',n) f >>= k) (forIn [i:j] (none,o,n) g >>= l):=by
 subst eo
 refine c5 (oO (β:=Option (Array d5)×Array d5×τ) ?_ ?_) ?_
 ·exact ⟨trivial,⟨rfl,ho⟩,(xb.e n n).mpr rfl⟩
 ·rintro x ⟨b,o,m⟩ ⟨c,o',m'⟩ ⟨_,⟨eo,go⟩,hm⟩
  have hm:m=m':=(xb.e m m').mp hm
  subst hm
  have eo:o=o'.map (fk C):=eo
  subst eo
  exact h x b c o' m go
 ·rintro ⟨b,o,m⟩ ⟨c,o',m'⟩ ⟨hb,⟨eo,go⟩,hm⟩
  have hm:m=m':=(xb.e m m').mp hm
  subst hm
  have eo:o=o'.map (fk C):=eo
  subst eo
  rcases kM hb with ⟨h2,h3⟩ | ⟨a,d,h2,h3,r⟩
  ·have h2:b=none:=h2
   have h3:c=none:=h3
   subst h2 h3
   exact h0 o' m go
  ·have r1:a=d.map (fk C):=r.1
   have h2:b=some a:=h2
   have h3:c=some d:=h3
   subst h2 h3 r1
   exact h1 d o' m r.2 go
local macro_rules | `(tactic| ac_rfl)=>`(tactic| first | assumption | (apply dq.app<;>ac_rfl) | (apply dq.ext;ac_rfl) | (apply dq.push<;>ac_rfl) | (apply dq.rev;ac_rfl) | (apply dq.one;ac_rfl))
theorem Wk {n:Nat}:Rl.r C n n:=rfl
theorem Wj {a b:Unit}:Rl.r C a b:=trivial
theorem FR {α:Type}[Rl C α]:Rl.r C (none:Option α) none:=trivial
theorem FP {α:Type}[Rl C α]{a b:α}(h:Rl.r C a b):Rl.r C (some a) (some b):=h
theorem FQ {α β:Type}[Rl C α][Rl C β]{a b:α}{c d:β}(h:Rl.r C a b)(g:Rl.r C c d):Rl.r C (a,c) (b,d):=⟨h,g⟩
local macro_rules | `(tactic| infer_instance)=>`(tactic| with_reducible_and_instances first | exact Wk | exact WY | exact Wj | exact FR | (refine FP ?_;infer_instance) | (refine Mr ?_;infer_instance) | (refine Iy ?_;infer_instance) | (refine FQ ?_ ?_<;>infer_instance) | exact Wl (by first | (with_reducible rfl) | (simp only[k6,iV,mV,kj,lu,bq,fH])) (by ac_rfl))
theorem oE {β:Type}[Rl C β]{m n:StateT dQ o9 d5}{f g:d5→StateT dQ o9 β}(h:jh C m n)(k:∀ a,C.good a.1→jh C (f (fk C a)) (g a)):jh C (m >>= f) (n >>= g) :=
 c5 h fun a b r=>by
  have r1:a=fk C b:=r.1
  subst r1
  exact k b r.2
theorem Tq {a b:Array d5}(ha:dq C a)(hb:dq C b):jh C (mergeLo' (a.map (fk C)) (b.map (fk C))) (mergeLo' a b):=by
 rw[mergeLo'_eq,mergeLo'_eq]
 have ea:(a.map (fk C)).size=a.size:=i7
 have eb:(b.map (fk C)).size=b.size:=i7
 rw[ea,eb]
 refine c5 mq fun _ _ _=>?_
 refine oE (j0 hb) fun y gy=>?_
 refine fz (fun _=>cn (by infer_instance)) fun _=>fz (fun _=>cn (by infer_instance)) fun _=>?_
 refine c5 rX fun s t hs=>?_
 have eg:gallopOf s=gallopOf t:=hs.2.2.2.2.2.1
 rw[eg]
 repeat' (with_reducible_and_instances first | exact kJ | (refine cn ?_;infer_instance) | (refine fz (fun _=>?_) fun _=>?_) | (refine oE (j0 (by assumption)) fun _ _=>?_) | (refine mr (yA (by assumption) (by assumption)) ?_ fun _=>?_) | (refine qX (pL (by assumption) (by assumption)) ?_ fun _=>?_) | (refine c5 (y8 _) fun _ _ _=>?_) | (refine c5 mq fun _ _ _=>?_) | (refine J4 (by first | (with_reducible rfl) | (simp only[k6,iV,mV,kj,lu,bq,fH])) (by ac_rfl) (fun _ _ _ _ _ _=>?_) (fun _ _ _=>?_) fun _ _ _ _ _=>?_) | dsimp only)
variable {C:SC}
theorem J3 {τ γ:Type}[xb C τ][Rl C γ]{i j u v:Nat}{o o':Array d5}{n:τ}{f g:Nat→Option (Array d5)×Nat×Nat×Array d5×τ→StateT dQ o9 (ForInStep (Option (Array d5)×Nat×Nat×Array d5×τ))}{k l:Option (Array d5)×Nat×Nat×Array d5×τ→StateT dQ o9 γ}(eo:o'=o.map (fk C))(ho:dq C o)
  (h:∀ x b c u v o n,dq C o→jh C (f x (b,u,v,o.map (fk C),n)) (g x (c,u,v,o,n)))(h0:∀ u v o n,dq C o→jh C (k (none,u,v,o.map (fk C),n)) (l (none,u,v,o,n)))(h1:∀ r u v o n,dq C r→dq C o→jh C (k (some (r.map (fk C)),u,v,o.map (fk C),n)) (l (some r,u,v,o,n))) :
  jh C (forIn [i:j] (none,u,v,o',n) f >>= k) (forIn [i:j] (none,u,v,o,n) g >>= l):=by
 subst eo
 refine c5 (oO (β:=Option (Array d5)×Nat×Nat×Array d5×τ) ?_ ?_) ?_
 ·exact ⟨trivial,rfl,rfl,⟨rfl,ho⟩,(xb.e n n).mpr rfl⟩
 ·rintro x ⟨b,u,v,o,m⟩ ⟨c,u',v',o',m'⟩ ⟨_,hu,hv,⟨eo,go⟩,hm⟩
  have e1:m=m':=(xb.e m m').mp hm
  have e2:u=u':=hu
  have e3:v=v':=hv
  have e4:o=o'.map (fk C):=eo
  subst e1 e2 e3 e4
  exact h x b c u v o' m go
 ·rintro ⟨b,u,v,o,m⟩ ⟨c,u',v',o',m'⟩ ⟨hb,hu,hv,⟨eo,go⟩,hm⟩
  have e1:m=m':=(xb.e m m').mp hm
  have e2:u=u':=hu
  have e3:v=v':=hv
  have e4:o=o'.map (fk C):=eo
  subst e1 e2 e3 e4
  rcases kM hb with ⟨h2,h3⟩ | ⟨a,d,h2,h3,r⟩
  ·have h2:b=none:=h2
   have h3:c=none:=h3
   subst h2 h3
   exact h0 u v o' m go
  ·have r1:a=d.map (fk C):=r.1
   have h2:b=some a:=h2
   have h3:c=some d:=h3
   subst h2 h3 r1
   exact h1 d u v o' m r.2 go
local macro_rules | `(tactic| ac_rfl)=>`(tactic| first | assumption | (apply dq.app<;>ac_rfl) | (apply dq.ext;ac_rfl) | (apply dq.push<;>ac_rfl) | (apply dq.rev;ac_rfl) | (apply dq.one;ac_rfl))
local macro_rules | `(tactic| infer_instance)=>`(tactic| with_reducible_and_instances first | exact Wk | exact WY | exact Wj | exact FR | (refine FP ?_;infer_instance) | (refine Mr ?_;infer_instance) | (refine Iy ?_;infer_instance) | (refine FQ ?_ ?_<;>infer_instance) | exact Wl (by first | (with_reducible rfl) | (simp only[k6,iV,mV,kj,lu,bq,fH])) (by ac_rfl))
theorem Tr {a b:Array d5}(ha:dq C a)(hb:dq C b):jh C (mergeHi' (a.map (fk C)) (b.map (fk C))) (mergeHi' a b):=by
 rw[mergeHi'_eq,mergeHi'_eq]
 have ea:(a.map (fk C)).size=a.size:=i7
 have eb:(b.map (fk C)).size=b.size:=i7
 rw[ea,eb]
 refine c5 mq fun _ _ _=>?_
 refine oE (j0 ha) fun y gy=>?_
 refine fz (fun _=>cn (by infer_instance)) fun _=>fz (fun _=>cn (by infer_instance)) fun _=>?_
 refine c5 rX fun s t hs=>?_
 have eg:gallopOf s=gallopOf t:=hs.2.2.2.2.2.1
 rw[eg]
 repeat' (with_reducible_and_instances first | exact kJ | (refine cn ?_;infer_instance) | (refine fz (fun _=>?_) fun _=>?_) | (refine oE (j0 (by assumption)) fun _ _=>?_) | (refine mr (yA (by assumption) (by assumption)) ?_ fun _=>?_) | (refine qX (pL (by assumption) (by assumption)) ?_ fun _=>?_) | (refine c5 (y8 _) fun _ _ _=>?_) | (refine c5 mq fun _ _ _=>?_) | (refine J3 (by first | (with_reducible rfl) | (simp only[k6,iV,mV,kj,lu,bq,fH])) (by ac_rfl) (fun _ _ _ _ _ _ _ _=>?_) (fun _ _ _ _ _=>?_) fun _ _ _ _ _ _ _=>?_) | dsimp only)
theorem fold_map:∀ (l:List (d5×Nat)) (a:Array d5) (sa:Nat),(l.map fun p=>(fk C p.1,p.2)).foldl (fun a (p:d5×Nat)=>a.setIfInBounds (sa+p.2) p.1) (a.map (fk C))=(l.foldl (fun a (p:d5×Nat)=>a.setIfInBounds (sa+p.2) p.1) a).map (fk C)
 | [],a,sa=>rfl
 | x::l,a,sa=>by
  rw[bq,d7,d7,← Array.map_setIfInBounds]
  exact fold_map l _ sa
theorem A1:∀ (l:List (d5×Nat)) (a:Array d5) (sa:Nat),(∀ p∈l,C.good p.1.1)→dq C a→dq C (l.foldl (fun a (p:d5×Nat)=>a.setIfInBounds (sa+p.2) p.1) a)
 | [],a,sa,_,h=>h
 | x::l,a,sa,hl,h=>by
  rw[d7]
  refine A1 l _ sa (fun p hp=>hl p (ao _ hp)) fun p hp=>?_
  rw[Array.toList_setIfInBounds] at hp
  rcases List.mem_or_eq_of_mem_set hp with q | q
  ·exact h p q
  ·rw[q];exact hl x ax
theorem FE (i:Nat):jh C (mergeAt' i) (mergeAt' i):=by
 rw[mergeAt'_eq]
 refine c5 rX fun s t hs=>?_
 have e1:arrOf s=(arrOf t).map (fk C):=hs.2.2.1
 have g1:dq C (arrOf t):=hs.2.2.2.1
 have e2:pendingOf s=pendingOf t:=hs.2.2.2.2.1
 rw[e1,e2]
 cases q1:(pendingOf t)[i]? with
 | none=>exact kJ
 | some p1 =>
  cases q2:(pendingOf t)[i+1]? with
  | none=>exact kJ
  | some p2 =>
   obtain ⟨sa,na,pw⟩:=p1
   obtain ⟨sb,nb,pw2⟩:=p2
   dsimp only
   refine c5 (P9 ⟨hs.1,hs.2.1,e1,g1,by rfl,hs.2.2.2.2.2.1,hs.2.2.2.2.2.2.1,hs.2.2.2.2.2.2.2⟩) fun _ _ _=>?_
   refine oE (j0 g1) fun y gy=>qX (pL gy g1) (cn rfl) fun k=>?_
   dsimp only
   refine fz (fun _=>cn rfl) fun _=>?_
   refine oE (j0 g1) fun y gy=>qX (pL gy g1) (cn rfl) fun k2=>?_
   dsimp only
   refine fz (fun _=>cn rfl) fun _=>?_
   have fin:∀ (u v:Array d5),Rl.r C u v→jh C (do
     modify fun s=>setArr s (u.toList.zipIdx.foldl (fun a (x:d5×Nat)=>match x with | (p,j)=>a.setIfInBounds (sa+k+j) p) (arrOf s))
     let s' ← get
     pure (failedOf s').isNone) (do
     modify fun s=>setArr s (v.toList.zipIdx.foldl (fun a (x:d5×Nat)=>match x with | (p,j)=>a.setIfInBounds (sa+k+j) p) (arrOf s))
     let s' ← get
     pure (failedOf s').isNone):=fun u v huv=>by
    obtain ⟨rfl,gv⟩:=huv
    refine c5 (mC fun s t h=>?_) fun _ _ _=>c5 rX fun s t h=>cn ?_
    ·have e3:arrOf s=(arrOf t).map (fk C):=h.2.2.1
     have ez:(v.map (fk C)).toList.zipIdx=v.toList.zipIdx.map fun p=>(fk C p.1,p.2):=by
      rw[jd,List.zipIdx_map]
      rfl
     have:=fold_map (C:=C) v.toList.zipIdx (arrOf t) (sa+k)
     rw[e3,ez]
     show RS C (setArr s ((v.toList.zipIdx.map fun p=>(fk C p.1,p.2)).foldl (fun a (p:d5×Nat)=>a.setIfInBounds (sa+k+p.2) p.1) ((arrOf t).map (fk C)))) _
     rw[this]
     refine h.setArr (A1 _ _ _ (fun p hp=>gv p.1 ?_) h.2.2.2.1)
     obtain ⟨p1,p2⟩:=p
     have:=(RT hp).2.2
     rw[this]
     exact lA _
    ·have f1:failedOf s=none:=h.2.2.2.2.2.2.1
     have f2:failedOf t=none:=h.2.2.2.2.2.2.2
     show (failedOf s).isNone=(failedOf t).isNone
     rw[f1,f2]
   have ex:∀ i j,((arrOf t).map (fk C)).extract i j=((arrOf t).extract i j).map (fk C):=fun i j=>by rw[iV]
   rw[ex,ex]
   refine fz (fun _=>c5 (Tq g1.ext g1.ext) fin) fun _=>c5 (Tr g1.ext g1.ext) fin
variable {C:SC}
local macro_rules | `(tactic| ac_rfl)=>`(tactic| first | assumption | (apply dq.app<;>ac_rfl) | (apply dq.ext;ac_rfl) | (apply dq.push<;>ac_rfl) | (apply dq.rev;ac_rfl) | (apply dq.one;ac_rfl))
local macro_rules | `(tactic| infer_instance)=>`(tactic| with_reducible_and_instances first | exact Wk | exact WY | exact Wj | exact FR | (refine FP ?_;infer_instance) | (refine Mr ?_;infer_instance) | (refine Iy ?_;infer_instance) | (refine FQ ?_ ?_<;>infer_instance) | exact Wl (by first | (with_reducible rfl) | (simp only[k6,iV,mV,kj,lu,bq,fH])) (by ac_rfl))
theorem RS.pend {s t:dQ}{p:Array (Nat×Nat×Nat)}(h:RS C s t):RS C (setPending s p) (setPending t p):=⟨h.1,h.2.1,h.2.2.1,h.2.2.2.1,rfl,h.2.2.2.2.2.1,h.2.2.2.2.2.2.1,h.2.2.2.2.2.2.2⟩
theorem uO {β:Type}[Rl C β]{m n:StateT dQ o9 Bool}{f g:Bool→StateT dQ o9 β}(h:jh C m n)(k:∀ a,jh C (f a) (g a)):jh C (m >>= f) (n >>= g) :=
 c5 h fun a b r=>by cases r;exact k a
theorem oH {β:Type}[Rl C β]{f g:dQ→StateT dQ o9 β}(k:∀ s t,pendingOf s=pendingOf t→(arrOf s).size=(arrOf t).size→jh C (f s) (g t)):jh C (get >>= f) (get >>= g) :=
 c5 rX fun s t h=>k s t h.2.2.2.2.1 (by
  have:arrOf s=(arrOf t).map (fk C):=h.2.2.1
  rw[this,i7])
theorem oF {β:Type}[Rl C β]{f:dQ→Array (Nat×Nat×Nat)}{m n:PUnit→StateT dQ o9 β}(hf:∀ s t,pendingOf s=pendingOf t→f s=f t)(k:jh C (m ⟨⟩) (n ⟨⟩)):jh C ((modify fun s=>setPending s (f s)) >>= m) ((modify fun s=>setPending s (f s)) >>= n) :=
 c5 (mC fun s t h=>by
  rw[hf s t h.2.2.2.2.1]
  exact h.pend) fun _ _ _=>k
theorem Nm:jh C sortRuns' sortRuns':=by
 rw[sortRuns'_eq]
 refine oH fun s t _ hz=>?_
 rw[hz]
 refine oG (fun x b c lo=>?_) (fun lo=>?_) fun a b lo hab=>?_
 ·dsimp only
  refine fz (fun _=>cn (by infer_instance)) fun _=>?_
  refine qX (J5 _ _) (cn (by infer_instance)) fun n=>?_
  dsimp only
  refine fz (fun _=>?_) fun _=>?_
  ·refine c5 mq fun _ _ _=>?_
   refine uO (Qa _ _ _) fun d=>?_
   refine fz (fun _=>cn (by infer_instance)) fun _=>?_
   refine oH fun s2 t2 hp _=>?_
   rw[hp]
   generalize (pendingOf t2).back?=q
   cases q with
   | none=>exact oF (fun s t h=>by rw[h]) (cn (by infer_instance))
   | some p =>
    obtain ⟨s1,n1,pw⟩:=p
    dsimp only
    refine oG (fun x b c u=>?_) (fun u=>?_) fun a b u hab=>?_
    ·refine oH fun s3 t3 hp3 _=>?_
     rw[hp3]
     generalize (if (pendingOf t3).size > 1 then (pendingOf t3)[(pendingOf t3).size - 2]? else none)=o
     cases o with
     | none=>exact cn (by infer_instance)
     | some p3 =>
      obtain ⟨a1,a2,older⟩:=p3
      dsimp only
      refine fz (fun _=>cn (by infer_instance)) fun _=>?_
      refine uO (FE _) fun d=>fz (fun _=>cn (by infer_instance)) fun _=>cn (by infer_instance)
    ·dsimp only
     refine oF (fun s t h=>by rw[h]) (oF (fun s t h=>by rw[h]) (cn (by infer_instance)))
    ·exact cn (by infer_instance)
  ·refine oH fun s2 t2 hp _=>?_
   rw[hp]
   generalize (pendingOf t2).back?=q
   cases q with
   | none=>exact oF (fun s t h=>by rw[h]) (cn (by infer_instance))
   | some p =>
    obtain ⟨s1,n1,pw⟩:=p
    dsimp only
    refine oG (fun x b c u=>?_) (fun u=>?_) fun a b u hab=>?_
    ·refine oH fun s3 t3 hp3 _=>?_
     rw[hp3]
     generalize (if (pendingOf t3).size > 1 then (pendingOf t3)[(pendingOf t3).size - 2]? else none)=o
     cases o with
     | none=>exact cn (by infer_instance)
     | some p3 =>
      obtain ⟨a1,a2,older⟩:=p3
      dsimp only
      refine fz (fun _=>cn (by infer_instance)) fun _=>?_
      refine uO (FE _) fun d=>fz (fun _=>cn (by infer_instance)) fun _=>cn (by infer_instance)
    ·dsimp only
     refine oF (fun s t h=>by rw[h]) (oF (fun s t h=>by rw[h]) (cn (by infer_instance)))
    ·exact cn (by infer_instance)
 ·dsimp only
  refine oG (fun x b c u=>?_) (fun u=>?_) fun a b u hab=>?_
  ·refine oH fun s3 t3 hp3 _=>?_
   rw[hp3]
   refine fz (fun _=>cn (by infer_instance)) fun _=>?_
   refine uO (FE _) fun d=>fz (fun _=>cn (by infer_instance)) fun _=>cn (by infer_instance)
  ·exact cn trivial
  ·exact cn trivial
 ·exact cn trivial
end Fo
namespace Fo
open PySem PyProof.Rows L2
def tQ (xs:Array ag)(n:Nat):fD:={cls:=.type "list",dict:=none,data:=.seq xs n,slots:=#[]}
section
open PySem.AutoSeq1 (wpAny_loadPart')
open PySem.MeetsSeq PySem.MeetsSeq3
theorem N4 (l b:aj)(xs ys:Array ag)(n m:Nat):∀ (k i:Nat) (ns ms:List Int),xs.size - i=k→eN (xs.toList.drop i) ns→eN (ys.toList.drop i) ms→i≤xs.size→i≤ys.size →
  Meets (Builtin.«list.__eq__.loop» ⟨[.ref l,.ref b,gu i,gu 0],[]⟩) (fun _ R s=>s.heap.get? l=some (tQ xs n)∧s.heap.get? b=some (tQ ys m)∧R (.ok (.ret (.bool (HT.lexLt ns ms)))) s):=by
 intro k
 induction k with
 | zero =>
  intro i ns ms hk hx hy h1 h2 prog w A R s h
  obtain ⟨hp,g,d,tk,os⟩:=s
  obtain ⟨hl,hb,h⟩:=h
  wp_walk using dY hl,dY hb
  have e1:xs[((i:Nat):Int).toNat]?=none:=by simp;omega
  rw[e1]
  wp_walk using dY hl,dY hb
  have z:xs.toList.drop i=[]:=by simp;omega
  rw[z] at hx
  cases hx
  show R (.ok (.ret (.bool (decide (xs.size<ys.size))))) _
  have hv:HT.lexLt [] ms=decide (xs.size<ys.size):=by
   have hl:=hy.length
   rw[cv,cO] at hl
   cases ms with
   | nil=>rw[HT.tz];exact (decide_eq_false (by simp at hl;omega)).symm
   | cons a r=>rw[HT.mJ];exact (decide_eq_true (by simp at hl;omega)).symm
  rw[hv] at h
  exact h
 | succ k ih =>
  intro i ns ms hk hx hy h1 h2 prog w A R s h
  obtain ⟨hp,g,d,tk,os⟩:=s
  obtain ⟨hl,hb,h⟩:=h
  wp_walk using dY hl,dY hb
  have lt1:i<xs.size:=by omega
  have e1:xs[((i:Nat):Int).toNat]?=some xs[i]:=by simp[lt1]
  have d1:xs.toList.drop i=xs[i]::xs.toList.drop (i+1):=by rw[dz (by simpa using lt1)];simp
  rw[d1] at hx
  rw[e1]
  by_cases lt2:i<ys.size
  ·have e2:ys[((i:Nat):Int).toNat]?=some ys[i]:=by simp[lt2]
   have d2:ys.toList.drop i=ys[i]::ys.toList.drop (i+1):=by rw[dz (by simpa using lt2)];simp
   rw[d2] at hy
   rw[e2]
   generalize ex:xs[i]=vx at hx
   generalize ey:ys[i]=vy at hy
   cases hx with
   | cons a t hx' =>
    cases hy with
    | cons c u hy' =>
     rw[HT.hX] at h
     have hc:((i:Int)+1)=((i+1:Nat):Int):=by push_cast;rfl
     refine aa (wpAny_eqBool_int ?_)
     by_cases q:a=c
     ·rw[if_pos q] at h
      rw[show (a==c)=true by simpa using q]
      wp_walk
      rw[hc]
      refine ⟨dA plain_eq_loop _,eC entry_eq_loop ?_⟩
      rw[dk plain_eq_loop _]
      exact ih (i+1) _ _ (by omega) hx' hy' (by omega) (by omega) prog w A R _ ⟨hl,hb,h⟩
     ·rw[if_neg q] at h
      rw[show (a==c)=false by simpa using q]
      wp_walk using dY hl,dY hb
      rw[e1,e2,ex,ey]
      have hri:=HT.yL A.in1 ⟨hp,g,d,tk,os⟩ a t c u prog w
      wp_walk using hri
      exact h
  ·have e2:ys[((i:Nat):Int).toNat]?=none:=by simp;omega
   have z:ys.toList.drop i=[]:=by simp;omega
   rw[z] at hy
   cases hy
   rw[e2]
   wp_walk using dY hl,dY hb
   generalize xs[i]=vx at hx
   cases hx with
   | cons a t hx' =>
    rw[HT.rP] at h
    show R (.ok (.ret (.bool (decide (xs.size<ys.size))))) _
    rw[decide_eq_false (show ¬ xs.size<ys.size by omega)]
    exact h
theorem QQ (l b:aj)(xs ys:Array ag)(n m:Nat)(ns ms:List Int)(hx:eN xs.toList ns)(hy:eN ys.toList ms) :
  Meets (Builtin.«list.__lt__» ⟨[.ref l,.ref b],[]⟩) (fun _ R s=>s.heap.get? l=some (tQ xs n)∧s.heap.get? b=some (tQ ys m)∧R (.ok (.ret (.bool (HT.lexLt ns ms)))) s):=by
 intro prog w A R s h
 obtain ⟨hp,g,d,tk,os⟩:=s
 obtain ⟨hl,hb,h⟩:=h
 have f2:isSubtype (.type "list") (.type "list")=pure true:=by rw[wm];kernel_rfl
 have hl':hp.get? l=some {cls:=.type "list",dict:=none,data:=.seq xs n,slots:=#[]}:=hl
 have hb':hp.get? b=some {cls:=.type "list",dict:=none,data:=.seq ys m,slots:=#[]}:=hb
 wp_walk
 refine ⟨dA plain_eq_loop _,eC entry_eq_loop ?_⟩
 rw[dk plain_eq_loop _]
 exact N4 l b xs ys n m _ 0 ns ms rfl hx hy (aS _) (aS _) prog w A R _ ⟨hl,hb,h⟩
end
section
variable {prog:aV}{w:bK}{A:cC}{E:ag→au→Prop}{s:au}
theorem T6 {l b:aj}{xs ys:Array ag}{n m:Nat}{ns ms:List Int}{Q:Bool→au→Prop}(hu:A.units<cLine)(hl:s.heap.get? l=some (tQ xs n))(hb:s.heap.get? b=some (tQ ys m))(hx:eN xs.toList ns)(hy:eN ys.toList ms)(h:Q (HT.lexLt ns ms) s) :
  wpAny (model prog w) A (keyLt' oneType' (.ref l) (.ref b)) Q E s:=by
 rw[keyLt'_oneType,oneLt'_eq]
 simp only[if_true]
 have hT:s.TypeIs (.ref l) "list":=⟨_,hl,rfl⟩
 refine aa (wpAny_cRoomFor hu (aa (wpAny_callSpecialIfBound?_slot (name:=dM "__lt__") hT E7 ?_)))
 refine Gb E7 hT PySem.F.entry_list_lt (PySem.F.args_list_lt_2 _ _) (QQ l b xs ys n m ns ms hx hy) ⟨hl,hb,?_⟩
 exact fo h
end
end Fo
namespace Fo
open PySem PyProof.Rows PyProof.Rows.G L2
theorem Ck:∀ a:List Int,HT.lexLt a a=false
 | []=>rfl
 | x::a=>by rw[HT.hX,if_pos rfl];exact Ck a
theorem FZ:∀ a b c:List Int,HT.lexLt a b=true→HT.lexLt b c=true→HT.lexLt a c=true
 | [],[],_,h,_=>by simp[HT.lexLt] at h
 | [],_::_,[],_,h=>by simp[HT.lexLt] at h
 | [],_::_,_::_,_,_=>rfl
 | _::_,[],_,h,_=>by simp[HT.lexLt] at h
 | _::_,_::_,[],_,h=>by simp[HT.lexLt] at h
 | x::a,y::b,z::c,h1,h2=>by
  rw[HT.hX] at *
  by_cases e1:x=y
  ·subst e1
   rw[if_pos rfl] at h1
   by_cases e2:x=z
   ·rw[if_pos e2] at h2 ⊢;exact FZ a b c h1 h2
   ·rw[if_neg e2] at h2 ⊢;exact h2
  ·rw[if_neg e1] at h1
   have h1:=of_decide_eq_true h1
   by_cases e2:y=z
   ·subst e2;rw[if_neg e1];exact decide_eq_true h1
   ·rw[if_neg e2] at h2
    have h2:=of_decide_eq_true h2
    rw[if_neg (by omega)];exact decide_eq_true (by omega)
theorem Cj:∀ a b c:List Int,HT.lexLt a c=true→HT.lexLt a b=true∨HT.lexLt b c=true
 | [],[],c,h=>.inr h
 | [],_::_,c,_=>.inl rfl
 | _::_,b,[],h=>by simp[HT.lexLt] at h
 | x::a,[],_::_,_=>.inr rfl
 | x::a,y::b,z::c,h=>by
  rw[HT.hX] at h
  rw[HT.hX,HT.hX]
  by_cases e1:x=y
  ·subst e1
   by_cases e2:x=z
   ·subst e2
    rw[if_pos rfl] at h ⊢
    rw[if_pos rfl];exact Cj a b c h
   ·rw[if_neg e2] at h ⊢;exact .inr h
  ·rw[if_neg e1]
   by_cases q:x<y
   ·exact .inl (decide_eq_true q)
   ·refine .inr ?_
    by_cases e2:x=z
    ·rw[if_neg (by omega)];exact decide_eq_true (by omega)
    ·rw[if_neg e2] at h
     have:=of_decide_eq_true h
     rw[if_neg (by omega)];exact decide_eq_true (by omega)
def rank (L:List (List Int))(a:List Int):Nat:=(L.filter fun b=>HT.lexLt b a).length
theorem tF {α:Type}{p q:α→Bool}:∀ {l:List α} {x:α},(∀ y∈l,p y=true→q y=true)→x∈l→p x=false→q x=true→(l.filter p).length<(l.filter q).length
 | [],x,_,h,_,_=>by simp at h
 | y::l,x,hs,h,h1,h2=>by
  have le:∀ (l:List α),(∀ y∈l,p y=true→q y=true)→(l.filter p).length≤(l.filter q).length:=by
   intro l
   induction l with
   | nil=>intro _;simp
   | cons z l ih =>
    intro hz
    have:=ih fun y hy=>hz y (ao _ hy)
    rw[cG,cG]
    cases e:p z with
    | true=>rw[hz z ax e,if_pos rfl,if_pos rfl];simpa using this
    | false =>
     rw[if_neg (by decide)]
     split
     ·simp;omega
     ·exact this
  have tail:=fun z hz=>hs z (ao _ hz)
  rw[cG,cG]
  rcases aI.mp h with e | h
  ·subst e
   rw[h1,h2,if_neg (by decide),if_pos rfl]
   have:=le l tail
   simp;omega
  ·have ih:=tF tail h h1 h2
   cases e:p y with
   | true=>rw[hs y ax e,if_pos rfl,if_pos rfl];simpa using ih
   | false =>
    rw[if_neg (by decide)]
    split
    ·simp;omega
    ·exact ih
theorem tG {α:Type}{p q:α→Bool}:∀ {l:List α},(∀ y∈l,p y=true→q y=true)→(l.filter p).length≤(l.filter q).length
 | [],_=>by simp
 | z::l,hz=>by
  have:=tG (l:=l) (p:=p) (q:=q) fun y hy=>hz y (ao _ hy)
  rw[cG,cG]
  cases e:p z with
  | true=>rw[hz z ax e,if_pos rfl,if_pos rfl];simpa using this
  | false =>
   rw[if_neg (by decide)]
   split
   ·simp;omega
   ·exact this
theorem Iz {L:List (List Int)}{a b:List Int}(ha:a∈L):HT.lexLt a b=decide (rank L a<rank L b):=by
 cases h:HT.lexLt a b with
 | true=>exact (decide_eq_true (tF (fun y _ q=>FZ y a b q h) ha (Ck a) h)).symm
 | false =>
  refine (decide_eq_false (Nat.not_lt.mpr (tG fun y _ q=>?_))).symm
  rcases Cj y a b q with z | z
  ·exact z
  ·rw[h] at z;cases z
theorem xU (L:List (List Int))(a:List Int):rank L a≤L.length:=c4 _ _
theorem U6 (h:bW):∀ n:Nat,∃ (g:bW) (f:Nat→aj),∀ r<n,sW g (f r) r
 | 0=>⟨h,fun _=>0,fun r hr=>by omega⟩
 | n+1=>by
  obtain ⟨g,f,hf⟩:=U6 h n
  refine ⟨g.push (seqObj "tuple" (jJ n ag.none) 0),fun r=>if r<n then f r else g.objs.size,fun r hr=>?_⟩
  dsimp only
  by_cases q:r<n
  ·rw[if_pos q]
   obtain ⟨o,c,e,d⟩:=hf r q
   exact ⟨o,c,ay _ e,d⟩
  ·have e:r=n:=by omega
   subst e
   rw[if_neg q]
   exact ⟨_,0,aG _ rfl,rfl⟩
theorem sW.uniq {h:bW}{a:aj}{r q:Nat}(x:sW h a r)(y:sW h a q):r=q:=by
 obtain ⟨o,n,e,d⟩:=x
 obtain ⟨o',n',e',d'⟩:=y
 rw[e] at e'
 cases e'
 rw[d] at d'
 injection d' with z _
 have:=congrArg Array.size z
 simpa using this
open Classical in
noncomputable def vA (h:bW)(v:ag):Option Nat:=if q:∃ r a,v=.ref a∧sW h a r then some q.choose else none
theorem Av {h:bW}{a:aj}{r:Nat}(x:sW h a r):vA h (.ref a)=some r:=by
 have q:∃ r b,ag.ref a=.ref b∧sW h b r:=⟨r,a,rfl,x⟩
 unfold vA
 rw[dif_pos q]
 obtain ⟨b,e,y⟩:=q.choose_spec
 cases e
 rw[x.uniq y]
theorem wJ {h:bW}{v:ag}{r:Nat}(x:vA h v=some r):∃ a,v=.ref a∧sW h a r:=by
 unfold vA at x
 split at x
 ·rename_i q
  cases x
  exact q.choose_spec
 ·cases x
noncomputable def xD (h:bW):PyProof.Rows.KeyKind where
 α:=Nat
 blt:=fun a b=>decide (a<b)
 irrefl:=fun a=>decide_eq_false (du a)
 trans:=fun a b c h1 h2=>decide_eq_true (kQ (of_decide_eq_true h1) (of_decide_eq_true h2))
 negTrans:=fun a b c h=>by
  have h:=of_decide_eq_true h
  by_cases q:a<b
  ·exact .inl (decide_eq_true q)
  ·exact .inr (decide_eq_true (by omega))
 total:=fun a b h1 h2=>by
  have h1:=of_decide_eq_false h1
  have h2:=of_decide_eq_false h2
  omega
 keyOf:=vA h
 dflt:=0
theorem Nj {prog:aV}{w:bK}{s:au}{b:Bool}:LtAt prog w s (xD s.heap) (tuples' b):=fun A E x y r q Q hx hy h Γ p _=>by
 obtain ⟨a,rfl,ha⟩:=wJ hx
 obtain ⟨c,rfl,hc⟩:=wJ hy
 rw[Ma ha hc]
 exact h
def kZ (h:bW)(a:aj)(row:List Int):Prop:=∃ xs n,h.get? a=some (tQ xs n)∧eN xs.toList row
theorem vW:∀ {vs:List ag} {ns ms:List Int},eN vs ns→eN vs ms→ns=ms
 | _,_,_,.nil,.nil=>rfl
 | _,_,_,.cons n t h,g=>by
  cases g with
  | cons _ _ g=>rw[vW h g]
theorem kZ.uniq {h:bW}{a:aj}{r q:List Int}(x:kZ h a r)(y:kZ h a q):r=q:=by
 obtain ⟨xs,n,e,i⟩:=x
 obtain ⟨ys,m,e',j⟩:=y
 rw[e] at e'
 injection e' with e'
 have:xs=ys:=by
  have:=congrArg (fun o:fD=>o.data) e'
  injection this
 subst this
 exact vW i j
open Classical in
noncomputable def rowOf (h:bW)(v:ag):List Int:=if q:∃ r a,v=.ref a∧kZ h a r then q.choose else []
theorem iZ {h:bW}{a:aj}{r:List Int}(x:kZ h a r):rowOf h (.ref a)=r:=by
 have q:∃ r b,ag.ref a=.ref b∧kZ h b r:=⟨r,a,rfl,x⟩
 unfold rowOf
 rw[dif_pos q]
 obtain ⟨b,e,y⟩:=q.choose_spec
 cases e
 exact y.uniq x
section
variable {prog:aV}{w:bK}{A:cC}{E:ag→au→Prop}{s:au}
theorem J9 {vs:List ag}{L:List (List Int)}{Q:Unit×dQ→au→Prop}(hu:A.units<cLine)(hv:∀ v∈vs,∃ a r,v=.ref a∧kZ s.heap a r∧r∈L)(h2:2≤vs.length)
  (h:∀ st:dQ,failedOf st=none→((arrOf st).map (·.2)).toList.Perm vs→((arrOf st).map (·.2)).toList.Pairwise (fun u v=>HT.lexLt (rowOf s.heap v) (rowOf s.heap u)=false)→Q ((),st) s) :
  wpAny (model prog w) A (sortRuns'.run (p7 oneType' (pairsOf vs) #[] 7 none)) Q E s:=fun Γ p hΓ=>by
 obtain ⟨h₀,f,hf⟩:=U6 s.heap (L.length+1)
 let C:SC:={
  M:=model prog w
  Γ:=Γ
  oq:={s with heap:=h₀}
  A:=A
  s:=s
  φ:=fun v=>.ref (f (rank L (rowOf s.heap v)))
  good:=fun v=>∃ a r,v=.ref a∧kZ s.heap a r∧r∈L
  b:=true
  kd:=oneType'
  lt:=fun x y hx hy=>by
   obtain ⟨a,r,rfl,ha,hr⟩:=hx
   obtain ⟨c,q,rfl,hc,hq⟩:=hy
   refine ⟨HT.lexLt r q,fun Q E p=>?_,fun Q E h=>?_⟩
   ·have l1:=xU L r
    have l2:=xU L q
    rw[iZ ha,iZ hc,Ma (hf _ (by omega)) (hf _ (by omega)),Iz hr]
   ·obtain ⟨xs,n,e1,i1⟩:=ha
    obtain ⟨ys,m,e2,i2⟩:=hc
    exact T6 hu e1 e2 i1 i2 h}
 have good:dq C (pairsOf vs):=fun p hp=>by
  have:p∈vs.zip vs:=by simpa [pairsOf] using hp
  exact hv p.1 (iS this).1
 have rs:RS C (p7 (tuples' true) ((pairsOf vs).map (fk C)) #[] 7 none) (p7 oneType' (pairsOf vs) #[] 7 none):=⟨rfl,rfl,rfl,good,rfl,rfl,rfl,rfl⟩
 have hsz:((pairsOf vs).map (fk C)).size=vs.length:=by rw[i7,pairsOf_size]
 have elem:∀ p∈((pairsOf vs).map (fk C)).toList,∃ a r,p=(.ref (f (rank L r)),.ref a)∧kZ s.heap a r∧r∈L:=fun p hp=>by
  rw[jd,aX] at hp
  obtain ⟨q,hq,rfl⟩:=hp
  have hz:q∈vs.zip vs:=by simpa [pairsOf] using hq
  obtain ⟨a,r,e,ha,hr⟩:=hv q.1 (iS hz).1
  have same:∀ (l:List ag) (x y:ag),(x,y)∈l.zip l→x=y:=by
   intro l
   induction l with
   | nil=>intro x y h;simp at h
   | cons z l ih =>
    intro x y h
    rw[jS] at h
    rcases aI.mp h with e | h
    ·cases e;rfl
    ·exact ih x y h
  obtain ⟨q1,q2⟩:=q
  have e2:=same vs q1 q2 hz
  have e:q1=.ref a:=e
  subst e2 e
  refine ⟨a,r,?_,ha,hr⟩
  show (ag.ref (f (rank L (rowOf s.heap (.ref a)))),ag.ref a)=_
  rw[iZ ha]
 have lib:=wpS_sortRunsSt (prog:=prog) (w:=w) (A:=A) (E:=fun _ _=>False) (s:={s with heap:=h₀}) (κ:=xD h₀) (kd:=tuples' true) (a₀:=(pairsOf vs).map (fk C))
  (st:=p7 (tuples' true) ((pairsOf vs).map (fk C)) #[] 7 none) (Q:=fun _ st=>failedOf st=none∧(arrOf st).Perm ((pairsOf vs).map (fk C))∧SortedToK (xD h₀) (arrOf st) ((pairsOf vs).map (fk C)).size)
  Nj (fun p hp=>by
   obtain ⟨a,r,rfl,ha,hr⟩:=elem p hp
   exact ⟨_,Av (hf (rank L r) (by have:=xU L r;omega))⟩) ⟨Array.Perm.refl _,rfl,rfl⟩ rfl (Stable.refl _) (by rw[hsz];exact h2) (fun st a1 a2 a3 _=>⟨a2,a1,a3⟩)
 obtain ⟨u,v,st1,st2,p',⟨_,f1,pm,so⟩,_,rs',fin⟩:=Nm (C:=C) _ _ rs _ p (lib Γ p hΓ)
 refine fin Q E ?_ Γ p hΓ
 have ea:arrOf st1=(arrOf st2).map (fk C):=rs'.2.2.1
 have e2:(arrOf st2).map (·.2)=(arrOf st1).map (·.2):=by
  rw[ea,Array.map_map]
  rfl
 refine h st2 rs'.2.2.2.2.2.2.2 ?_ ?_
 ·rw[e2,jd]
  refine (pm.toList.map _).trans ?_
  rw[jd,bx]
  have:(pairsOf vs).toList.map ((fun x=>x.2)∘fk C)=vs:=by
   show (vs.toArray.zip vs.toArray).toList.map (fun p=>p.2)=vs
   rw[O9,Pp (aL _)]
  rw[this]
 ·rw[e2,jd,gm,hG]
  intro i j hi hj hij
  have hzz:(arrOf st1).size=vs.length:=by rw[pm.size_eq,hsz]
  have key:∀ k (hk:k<(arrOf st1).toList.length),∃ a r,(arrOf st1).toList[k]=(.ref (f (rank L r)),.ref a)∧kZ s.heap a r∧r∈L∧KK (xD h₀) (arrOf st1) k=rank L r:=fun k hk=>by
   obtain ⟨a,r,e,ha,hr⟩:=elem _ (pm.toList.mem_iff.mp (lA hk))
   refine ⟨a,r,e,ha,hr,?_⟩
   unfold KK
   have:(arrOf st1)[k]?=some (.ref (f (rank L r)),.ref a):=by
    rw[← gR,aD hk,e]
   rw[this]
   show ((vA h₀ _).getD 0)=_
   rw[Av (hf (rank L r) (by have:=xU L r;omega))]
   rfl
  obtain ⟨a,r,e,ha,hr,kr⟩:=key i hi
  obtain ⟨c,q,e',hc,hq,kq⟩:=key j hj
  have le:=so i j (kR hij) (by rw[hsz,← hzz];simpa using hj)
  rw[kr,kq] at le
  have le:decide (rank L q<rank L r)=false:=le
  rw[e,e']
  show HT.lexLt (rowOf s.heap (.ref c)) (rowOf s.heap (.ref a))=false
  rw[iZ hc,iZ ha,Iz hq]
  exact le
end
section
variable {prog:aV}{w:bK}{A:cC}{E:ag→au→Prop}{s:au}
theorem vf:∀ (vs:List ag) {Q:List (Option ag)→au→Prop},(∀ v∈vs,s.TypeIs v "list")→Q (vs.map fun _=>none) s→wpAny (model prog w) A (vs.mapM firstOfTuple') Q E s
 | [],Q,_,h=>by rw[List.mapM_nil];exact ak h
 | v::vs,Q,ht,h=>by
  rw[SF]
  have e:firstOfTuple' v=(do
   let t ← typeOf v
   if (t != .type "tuple")=true then return none
   return (← nJ v)[0]?):=rfl
  rw[e]
  refine aa (aa (oV (ht v ax) ?_))
  rw[if_pos (by decide)]
  exact ak (aa (vf vs (fun x hx=>ht x (ao _ hx)) (ak h)))
theorem wH:∀ (vs:List ag) {Q:List ag→au→Prop},(∀ v∈vs,s.TypeIs v "list")→Q (vs.map fun _=>.type "list") s→wpAny (model prog w) A (vs.mapM typeOf) Q E s
 | [],Q,_,h=>by rw[List.mapM_nil];exact ak h
 | v::vs,Q,ht,h=>by
  rw[SF]
  exact aa (oV (ht v ax) (aa (wH vs (fun x hx=>ht x (ao _ hx)) (ak h))))
theorem GL {vs:List ag}{Q:SortKind→au→Prop}(ht:∀ v∈vs,s.TypeIs v "list")(h2:2≤vs.length)(h:Q oneType' s):wpAny (model prog w) A (keyKind' vs.toArray) Q E s:=by
 rw[kat_kind_eq,O4]
 refine aa ?_
 rw[map_eq_pure_bind]
 refine aa (vf vs ht (ak ?_))
 obtain ⟨v,r,rfl⟩:∃ v r,vs=v::r:=by
  cases vs with
  | nil=>simp at h2
  | cons v r=>exact ⟨v,r,rfl⟩
 rw[if_neg (by simp),if_neg (by simp)]
 refine aa ?_
 rw[oneTypeOnly'_eq,O4]
 refine aa ?_
 rw[map_eq_pure_bind]
 refine aa (wH (v::r) ht (ak ?_))
 have z:((v::r).map fun _=>ag.type "list").toArray[0]?=some (ag.type "list"):=by simp
 have al:(((v::r).map fun _=>ag.type "list").toArray.all fun x=>x==ag.type "list")=true:=by
  rw[List.all_toArray,dO]
  intro x hx
  obtain ⟨_,_,rfl⟩:=aX.mp hx
  decide
 rw[z]
 dsimp only
 rw[if_pos al]
 exact ak (ak h)
theorem J1 {a:aj}{vs:List ag}{n:Nat}{L:List (List Int)}{P:PySem.Fin→au→Prop}(ho:s.heap.get? a=some (seqObj "list" vs.toArray n))(hu:A.units<cLine)
  (hv:∀ v∈vs,∃ b r,v=.ref b∧b≠a∧kZ s.heap b r∧r∈L)(hL:vs.length≤aP)
  (h:∀ out:Array ag,out.toList.Perm vs→out.toList.Pairwise (fun u v=>HT.lexLt (rowOf s.heap v) (rowOf s.heap u)=false)→P (.done (.ret .none)) {s with heap:=sortedHeap s.heap a vs out}) :
  wpAny (model prog w) A (Builtin.«list.sort» ⟨[.ref a],[]⟩) P E s:=by
 rw[list_sort_plain]
 have ha:a<s.heap.objs.size:=aN ho
 refine aa (listItems_at ho rfl (aa (JN ho rfl ?_)))
 obtain ⟨e1,ho1⟩:∃ e1,(s.heap.update a (fD.mapSeq fun _=>#[])).get? a=some (seqObj "list" #[] e1):=⟨_,get?_update_seq ho (fun _=>#[])⟩
 refine aa (PY ho1 rfl (aa (wk (aa (JM (dn ?_))))))
 have ho6:(sortHeap6 s.heap a vs).get? a=some (seqObj "list" #[] e1):=ay _ (ay _ ho1)
 show wpAny (model prog w) A _ P E {s with heap:=sortHeap6 s.heap a vs}
 have old:∀ b r,b≠a→kZ s.heap b r→kZ (sortHeap6 s.heap a vs) b r:=fun b r nb ⟨xs,k,e,i⟩=>by
  refine ⟨xs,k,ay _ (ay _ ?_),i⟩
  rw[Lv _ _ _ _ nb]
  exact e
 dsimp only
 by_cases h2:vs.toArray.size<2
 ·rw[if_pos h2,if_pos h2]
  refine aa (ak ?_)
  rw[StateT.run_pure]
  refine aa (ak ?_)
  dsimp only
  refine aa (PY ho6 rfl ?_)
  refine aa (JN ho6 rfl ?_ (hsz2:=by rw[i7];show (pairsOf vs).size≤_;rw[pairsOf_size,kX];rw[kX] at hL;omega))
  simp only[bne_self_eq_false,iM,if_false]
  have e:((vs.toArray.zip vs.toArray).map (·.2)).toList=vs:=by
   rw[jd,O9,Pp (aL _)]
  refine ak (h _ (by rw[e]) ?_)
  rw[e]
  cases vs with
  | nil=>exact .nil
  | cons v r =>
   cases r with
   | nil=>exact List.pairwise_singleton _ _
   | cons v2 r=>exact absurd h2 (by simp)
 ·rw[if_neg h2,if_neg h2]
  have h2':2≤vs.length:=by simpa using h2
  refine aa (GL (fun v hv'=>?_) h2' ?_)
  ·obtain ⟨b,r,rfl,nb,hb,_⟩:=hv v hv'
   obtain ⟨xs,k,e,_⟩:=old b r nb hb
   exact ⟨_,e,rfl⟩
  have same:∀ v∈vs,rowOf (sortHeap6 s.heap a vs) v=rowOf s.heap v:=fun v hv'=>by
   obtain ⟨b,r,rfl,nb,hb,_⟩:=hv v hv'
   rw[iZ hb,iZ (old b r nb hb)]
  refine aa (J9 (L:=L) (s:={s with heap:=sortHeap6 s.heap a vs}) hu (fun v hv'=>?_) h2' fun st hf hp hs=>?_)
  ·obtain ⟨b,r,e,nb,hb,hr⟩:=hv v hv'
   exact ⟨b,r,e,old b r nb hb,hr⟩
  dsimp only
  refine aa (PY ho6 rfl ?_)
  have hz:((arrOf st).map (·.2)).size=vs.length:=by rw[← cO,hp.length_eq]
  refine aa (JN ho6 rfl ?_ (hsz2:=by refine aB (mS hz) ?_;rw[kX];rw[kX] at hL;omega))
  rw[hf]
  simp only[bne_self_eq_false,iM,if_false]
  refine ak (h _ hp ?_)
  refine wx (fun {x y} hx hy q=>?_) hs
  rw[same x (hp.mem_iff.mp hx),same y (hp.mem_iff.mp hy)] at q
  exact q
theorem EB {l:aj}{vs:List ag}{L:List (List Int)}{Q:ag→au→Prop}(hl:s.heap.IsList l vs.toArray)(hu:A.units+8<cLine)(hv:∀ v∈vs,∃ b r,v=.ref b∧kZ s.heap b r∧r∈L)(hL:vs.length≤aP)
  (h:∀ out:Array ag,out.toList.Perm vs→out.toList.Pairwise (fun u v=>HT.lexLt (rowOf s.heap v) (rowOf s.heap u)=false)→Q (.ref (s.heap.objs.size+1)) {s with heap:=sortedAll s.heap vs out}) :
  wpAny (model prog w) A (call (.builtin "sorted") [.ref l]) Q E s:=by
 refine nV kind_sorted plain_sorted entry_sorted (args_sorted1 _) ?_
 unfold Builtin.«sorted»
 refine aa (m:=checkCount "sorted" 1 1 _) (ak (aa (collect_list hl (aa (JM ?_)))))
 have hsz:((s.heap.push (seqObj "list" #[] 0)).update s.heap.objs.size (fD.mapSeq (·++vs.toArray))).objs.size=s.heap.objs.size+1:=by rw[bW.size_update,size_push']
 have hoL:(((s.heap.push (seqObj "list" #[] 0)).update s.heap.objs.size (fD.mapSeq (·++vs.toArray))).push (seqObj "list" vs.toArray 0)).get? (s.heap.objs.size+1)=some (seqObj "list" vs.toArray 0):=by
  rw[← hsz]
  exact aG _ rfl
 have old:∀ b r,kZ s.heap b r→kZ (((s.heap.push (seqObj "list" #[] 0)).update s.heap.objs.size (fD.mapSeq (·++vs.toArray))).push (seqObj "list" vs.toArray 0)) b r:=fun b r ⟨xs,k,e,i⟩=>by
  refine ⟨xs,k,ay _ ?_,i⟩
  rw[Lv _ _ _ _ (bg (aN e))]
  exact ay _ e
 show wpAny _ _ _ _ _ {s with heap:=((s.heap.push (seqObj "list" #[] 0)).update s.heap.objs.size (fD.mapSeq (·++vs.toArray))).push (seqObj "list" vs.toArray 0)}
 rw[hsz]
 have hu1:A.in1.in1.units<cLine:=aF (show A.units+1+1≤A.units+8 by omega) hu
 refine aa (dn (c8 slot_list_sort ⟨_,hoL,rfl⟩ entry_list_sort (J1 (L:=L) hoL hu1 (fun v hv'=>?_) hL fun out hp hs=>⟨_,rfl,?_⟩) (args_list_sort _)))
 ·obtain ⟨b,r,e,hb,hr⟩:=hv v hv'
  obtain ⟨xs,k,e',i⟩:=id hb
  exact ⟨b,r,e,bg (dG (aN e')),old b r hb,hr⟩
 ·refine ak ⟨_,rfl,h out hp (wx (fun {x y} hx hy q=>?_) hs)⟩
  have same:∀ v∈vs,rowOf (((s.heap.push (seqObj "list" #[] 0)).update s.heap.objs.size (fD.mapSeq (·++vs.toArray))).push (seqObj "list" vs.toArray 0)) v=rowOf s.heap v:=fun v hv'=>by
   obtain ⟨b,r,rfl,hb,_⟩:=hv v hv'
   rw[iZ hb,iZ (old b r hb)]
  have q:HT.lexLt (rowOf _ y) (rowOf _ x)=false:=q
  rw[same x (hp.mem_iff.mp hx),same y (hp.mem_iff.mp hy)] at q
  exact q
end
end Fo
namespace L2
open PySem PySem.Spec PyProof.Rows
theorem Inv.drew {X:Cx}{pins:List (aj×fD)}{σ:L2.St}{H:Hp}{s:au}(I:Inv X pins σ H s)(d:Drawn):Inv X pins σ H {s with drawn:=d}:=⟨I.ok,I.os,I.bare,I.base,I.loc,I.cell,I.free,I.mZ,I.pin,I.fu,I.len⟩
def Gp (K:ai)(te:TE):TE:=fun σ H Q=>te σ H fun x H1=>∃ (a:aj) (ns:List Int),[x]=[V.ref a]∧cI K H1 a (ns.map V.int)∧ns.length≤1000∧∀ (ms:List Int) (p:aj),ms.Pairwise (·<·)→(∀ k,k∈ms↔k∈ns)→H1 p=none→Q (.ref p) (upd H1 p (.lst (ms.map V.int)))
theorem vQ:∀ {ms ns:List Int},ms.Nodup→(∀ k,k∈ms→k∈ns)→ms.length≤ns.length
 | [],_,_,_=>aS _
 | m::ms,ns,hn,hs=>by
  obtain ⟨n1,n2⟩:=fj.mp hn
  have hm:=hs m ax
  have:=vQ (ms:=ms) (ns:=ns.erase m) n2 fun k hk=>by
   have:k≠m:=fun e=>n1 (e▸hk)
   exact (tJ this).mpr (hs k (ao _ hk))
  rw[o7 hm] at this
  have pos:0<ns.length:=Fm hm
  rw[aU]
  omega
theorem ve {X:Cx}{e:Expr}{te:TE}{p pos p2 pos2:jR}(hc:X.calm=true)(hg:Gl X "sorted")(hm:X.mg "sorted"=none)(hg2:Gl X "set")(hm2:X.mg "set"=none)(ha:PE X e te)
  (hs2:bS [e] X.env=(false,eval e X.env)::bS [] X.env:=by rfl)
  (hs:bS [.Call (.Name "set" p2) [e] [] pos2] X.env=(false,eval (.Call (.Name "set" p2) [e] [] pos2) X.env)::bS [] X.env:=by rfl) :
  PE X (.Call (.Name "sorted" p) [.Call (.Name "set" p2) [e] [] pos2] [] pos) (Gp X.K te):=by
 intro pins s σ H Q I h
 refine ee (jy I hg hm PZ ?_)
 refine tL ?_ hs rfl
 rw[hs]
 show wpAny _ _ (spliced ((false,eval (.Call (.Name "set" p2) [e] [] pos2) X.env)::backTo pos (bS [] X.env))) _ _ s
 refine iH ?_
 refine ee (jy I hg2 hm2 boot_set ?_)
 refine cN (gN (ah (t:=LO) ha aA hs2 pos2 pins s σ H (fun vs H1=>∃ (a:aj) (ns:List Int),vs=[V.ref a]∧cI X.K H1 a (ns.map V.int)∧ns.length≤1000∧∀ (ms:List Int) (p:aj),ms.Pairwise (·<·)→(∀ k,k∈ms↔k∈ns)→H1 p=none→Q (.ref p) (upd H1 p (.lst (ms.map V.int)))) I h) fun us s1 ⟨vs,H1,I1,r1,q1⟩=>?_) hs2 rfl
 obtain ⟨a,ns,ev,hs1,hlen,q⟩:=q1
 subst ev
 obtain ⟨its,rv,hl,_⟩:=I1.list hs1
 rw[di.xc r1]
 have hln:=rv.length
 have hi:=rv.ints
 have hlen':ns.length+1<sS:=aF (eA hlen) (by decide)
 refine UX.K2 (ns:=ns) (I1.ok.hd hc) hl.isList (fun i n hi=>?_) (by rw[bD,← hln,ae]) hlen' fun h' tk S' kp=>?_
 ·obtain ⟨u,hu,t',e⟩:=rv.get (i:=i) (x:=V.int n) (by rw[aO,hi];rfl)
  subst e
  exact ⟨t',by simpa using hu⟩
 ·have I2:Inv X pins σ H1 {s1 with heap:=h',toks:=tk}:=I1.kept kp
  refine ki ?_
  have sz:ns.length≤aP:=aB hlen (by decide)
  refine UX.Gq (s:={s1 with heap:=h',toks:=tk}) (I2.ok.hd hc) S' sz (fun ms hn hm=>aB (vQ hn fun k hk=>(hm k).mp hk) sz) fun b out ms h2 c tk2 d hI j7 hm kp2 hle hg=>?_
  have hz:(ms.map V.int).length≤aP:=by
   rw[ae]
   exact aB (vQ (j7.imp fun q=>Int.ne_of_lt q) fun k hk=>(hm k).mp hk) sz
  have I3:Inv X pins σ (upd H1 b (.lst (ms.map V.int))) {s1 with heap:=h2,toks:=tk2}:=I2.laid (t':=tk2) kp2 hle ⟨hz,out.toList,c,pU hI,by rw[i9];exact hg⟩
  exact ⟨.ref b,_,I3.drew d,rfl,q ms b j7 hm (I2.fu.fresh hle)⟩
section
variable {X:Cx}
def NF (K:ai):List V→Hp→VK→Prop:=fun vs H Q=>∃ (a:aj) (ns:List Int),vs=[V.ref a]∧cI K H a (ns.map V.int)∧∀ (ms:List Int) (p:aj),ms.Perm ns→ms.Pairwise (·≤·)→H p=none→Q (.ref p) (upd H p (.lst (ms.map V.int)))
theorem GV:lM X (.builtin "sorted") (NF X.K):=by
 intro pins s σ H vs us Q I r h
 obtain ⟨a,ns,rfl,hs,q⟩:=h
 obtain ⟨its,rv,hl,hz⟩:=I.list hs
 rw[di.xc r]
 have hi:=rv.ints
 have zl:its.length≤aP:=by rw[← rv.length];exact hz
 refine PyProof.Rows.sorted_intsAny hl.isList hi zl fun out ms h1 h2 h3=>?_
 obtain ⟨c,hc⟩:=wu s.heap its out
 have hlen:(ms.map V.int).length≤aP:=by rw[ae,h2.length_eq,← hi.length];exact zl
 exact ⟨.ref _,_,I.laid (o:=.lst (ms.map V.int)) (t':=s.toks) (fun _ _=>vv) (ia _) ⟨hlen,out.toList,c,pU h1,hc⟩,rfl,q ms _ h2 h3 (I.fu.fresh (ia _))⟩
def ND (K:ai):List V→Hp→VK→Prop:=fun vs H Q=>∃ (a:aj) (rs:List aj) (rows:List (List Int)),vs=[V.ref a]∧cI K H a (rs.map V.ref)∧Paired (fun r row=>H r=some (.lst (row.map V.int))) rs rows ∧
 ∀ (qs:List aj) (out:List (List Int)) (p:aj),out.Perm rows→Paired (fun r row=>H r=some (.lst (row.map V.int))) qs out→out.Pairwise (fun u v=>HT.lexLt v u=false)→H p=none→Q (.ref p) (upd H p (.lst (qs.map V.ref)))
theorem Cg:∀ {rs:List aj} {us:List ag},di (rs.map V.ref) us→us=rs.map ag.ref
 | [],us,h=>by cases h;rfl
 | r::rs,us,h=>by
  cases h with
  | cons a t =>
   cases a
   rw[Cg t]
   rfl
theorem vJ:∀ (rs:List aj),di (rs.map V.ref) (rs.map ag.ref)
 | []=>.nil
 | r::rs=>.cons rfl (vJ rs)
theorem rC {α β:Type}{R:α→β→Prop}:∀ {l:List α} {m:List β} {a:α},Paired R l m→a∈l→∃ b∈m,R a b
 | _,_,_,.nil,h=>by simp at h
 | _,_,_,.cons r t,h=>by
  rcases aI.mp h with e | h
  ·subst e;exact ⟨_,ax,r⟩
  ·obtain ⟨b,hb,q⟩:=rC t h
   exact ⟨b,ao _ hb,q⟩
theorem GU (hu:X.A.units+8<cLine):lM X (.builtin "sorted") (ND X.K):=by
 intro pins s σ H vs us Q I r h
 obtain ⟨a,rs,rows,rfl,hs,pr,q⟩:=h
 obtain ⟨its,rv,hl,hz⟩:=I.list hs
 have ei:=Cg rv
 subst ei
 rw[di.xc r]
 have row:∀ r row,H r=some (.lst (row.map V.int))→Fo.kZ s.heap r row:=fun r row e=>by
  obtain ⟨_,its,n,rv,g⟩:=(show fQ X.prog X.w H s.heap r (.lst (row.map V.int)) from I.fu r _ e)
  exact ⟨its.toArray,n,g,by simpa using rv.ints⟩
 refine Fo.EB (L:=rows) hl.isList hu (fun v hv=>?_) (by rw[ae];rw[ae] at hz;exact hz) fun out hp hs=>?_
 ·obtain ⟨r,hr,rfl⟩:=aX.mp hv
  obtain ⟨w,hw,e⟩:=rC pr hr
  exact ⟨r,w,rfl,row r w e,hw⟩
 obtain ⟨c,hc⟩:=wu s.heap (rs.map ag.ref) out
 have back:∀ (l:List ag) (rs:List aj) (rows:List (List Int)),l.Perm (rs.map ag.ref)→Paired (fun r row=>H r=some (.lst (row.map V.int))) rs rows→∃ (qs:List aj) (out:List (List Int)),l=qs.map ag.ref∧out.Perm rows∧Paired (fun r row=>H r=some (.lst (row.map V.int))) qs out:=by
  intro l
  induction l with
  | nil =>
   intro rs rows p pr
   have e:rs=[]:=by simpa using p.symm.eq_nil
   subst e
   cases pr
   exact ⟨[],[],rfl,jP _,.nil⟩
  | cons v l ih =>
   intro rs rows p pr
   obtain ⟨r,hr,ev⟩:=aX.mp (p.mem_iff.mp ax)
   subst ev
   have split:∀ {rs:List aj} {rows:List (List Int)},Paired (fun r row=>H r=some (.lst (row.map V.int))) rs rows→r∈rs→∃ rs' w rows',rs.Perm (r::rs')∧rows.Perm (w::rows')∧H r=some (.lst (w.map V.int))∧Paired (fun r row=>H r=some (.lst (row.map V.int))) rs' rows':=by
    intro rs rows pr
    induction pr with
    | nil=>intro h;simp at h
    | cons a t ih =>
     rename_i r0 w0 rs0 rows0
     intro h
     by_cases e:r=r0
     ·subst e;exact ⟨_,_,_,jP _,jP _,a,t⟩
     ·obtain ⟨rs',w,rows',p1,p2,hw,t'⟩:=ih ((aI.mp h).resolve_left e)
      exact ⟨r0::rs',w,w0::rows',(p1.cons r0).trans (xo r r0 _),(p2.cons w0).trans (xo w w0 _),hw,.cons a t'⟩
   obtain ⟨rs',w,rows',p1,p2,hw,pr'⟩:=split pr hr
   have p3:(ag.ref r::l).Perm (ag.ref r::rs'.map ag.ref):=p.trans (p1.map ag.ref)
   obtain ⟨qs,out,e,po,pq⟩:=ih rs' rows' ((Bf _).mp p3) pr'
   exact ⟨r::qs,w::out,by rw[e];rfl,(po.cons w).trans p2.symm,.cons hw pq⟩
 obtain ⟨qs,rows',eo,po,pq⟩:=back out.toList rs rows hp pr
 have hlen:(qs.map V.ref).length≤aP:=by
  rw[ae]
  have:=congrArg dJ eo
  rw[hp.length_eq,ae,ae] at this
  rw[← this]
  rw[ae] at hz
  exact hz
 have hc':(PyProof.Rows.sortedAll s.heap (rs.map ag.ref) out).get? (s.heap.objs.size+1)=some {cls:=.type "list",dict:=none,data:=.seq (qs.map ag.ref).toArray c,slots:=#[]}:=by
  rw[hc,← eo,i9]
 refine ⟨.ref _,_,I.laid (o:=.lst (qs.map V.ref)) (t':=s.toks) (fun _ _=>vv) (ia _) ⟨hlen,qs.map ag.ref,c,vJ qs,hc'⟩,rfl,q qs rows' _ po pq ?_ (I.fu.fresh (ia _))⟩
 rw[eo] at hs
 have all:∀ {qs:List aj} {out:List (List Int)},Paired (fun r row=>H r=some (.lst (row.map V.int))) qs out→(qs.map ag.ref).Pairwise (fun u v=>HT.lexLt (Fo.rowOf s.heap v) (Fo.rowOf s.heap u)=false)→out.Pairwise (fun u v=>HT.lexLt v u=false):=by
  intro qs out pq
  induction pq with
  | nil=>intro _;exact .nil
  | cons a t ih =>
   rename_i r0 w0 rs0 rows0
   intro h
   obtain ⟨h1,h2⟩:=dH.mp h
   refine dH.mpr ⟨fun w hw=>?_,ih h2⟩
   obtain ⟨r,hr,e⟩:∃ r∈rs0,H r=some (.lst (w.map V.int)):=by
    clear h h1 h2 ih
    induction t with
    | nil=>simp at hw
    | cons a t ih =>
     rcases aI.mp hw with e | hw
     ·subst e;exact ⟨_,ax,a⟩
     ·obtain ⟨r,hr,q⟩:=ih hw
      exact ⟨r,ao _ hr,q⟩
   have:=h1 (ag.ref r) (aX.mpr ⟨r,hr,rfl⟩)
   rw[Fo.iZ (row _ _ e),Fo.iZ (row _ _ a)] at this
   exact this
 exact all pq hs
end
def jc (lt:ag→ag→Bool):Option ag→List ag→Option ag
 | b,[]=>b
 | none,x::r=>jc lt (some x) r
 | some m,x::r=>jc lt (some (if lt x m=true then x else m)) r
def LstAt (h:bW)(S:aj):Option ag→Prop
 | none=>∃ c,h.get? S=some {cls:=.type "list",dict:=none,data:=.seq #[] c,slots:=#[]}
 | some m=>∃ c,h.get? S=some {cls:=.type "list",dict:=none,data:=.seq #[m,m] c,slots:=#[]}
def dflt (d:Option ag):List (bZ×ag):=match d with
 | some v=>[("default",v)]
 | none=>[]
section
variable {prog:aV}{w:bK}{A:cC}{s:au}
def Cy (R:qS→au→Prop)(d:Option ag)(s:au):Option ag→Prop
 | some m=>R (.ok (.ret m)) s
 | none=>∃ v,d=some v∧R (.ok (.ret v)) s
theorem sE {l I S:aj}{its:Array ag}(d:Option ag)(lt:ag→ag→Bool)(hh:A.handled=none)(nIS:I≠S)(nlI:l≠I)(nlS:l≠S){R:qS→au→Prop}(OK:bW→Prop)
  (keep:∀ h h':bW,OK h→(∀ c o,c≠I→c≠S→h.get? c=some o→h'.get? c=some o)→OK h')
  (cmp:∀ (s:au) (x y:ag) (Q:ag→au→Prop) (E:ag→au→Prop),OK s.heap→x∈its.toList→y∈its.toList→Q (.bool (lt x y)) s→wpAny (model prog w) A.in1 (richCompare .Lt x y) Q E s) :
  ∀ (rest:List ag) (i:Nat) (s:au) (b:Option ag),its.toList.drop i=rest→i≤its.size→s.heap.IsListIter I l i→s.heap.IsList l its→LstAt s.heap S b→OK s.heap→(∀ m,b=some m→m∈its.toList) →
   (∀ h' tk,(∀ c o,c≠I→c≠S→s.heap.get? c=some o→h'.get? c=some o)→Cy R d {s with heap:=h',toks:=tk} (jc lt b rest)) →
   codeAny (model prog w) A (.builtin "min.loop" ⟨[.ref I,.none,.ref S],dflt d⟩) R s
 | [],i,s,b,hd,hi,hit,hl,hb,ok,hm,hR=>by
  have e:i=its.size:=by
   have:=congrArg dJ hd
   rw[cv,eL,cO] at this
   omega
  have hx:its[i]?=none:=by rw[mW];omega
  refine eC F.entry_min_loop ?_
  rw[dk iG _]
  cases b with
  | none =>
   obtain ⟨c,hS⟩:=hb
   refine aa (m:=seqItems? (.ref S)) (dc hS rfl (aa (m:=tryCatch (pyNext (.ref I)) _) (fN (gi hh hit hl hx fun h' ex=>?_))))
   obtain ⟨v,ev,q⟩:=hR h' s.toks fun c o n1 _ q=>ex c o n1 q
   subst ev
   exact aa (jz (ak q))
  | some m =>
   obtain ⟨c,hS⟩:=hb
   refine aa (m:=seqItems? (.ref S)) (dc hS rfl (aa (m:=tryCatch (pyNext (.ref I)) _) (fN (gi hh hit hl hx fun h' ex=>?_))))
   have hS':=ex S _ nIS.symm hS
   refine aa (m:=updateSeq S fun _=>#[]) ?_
   refine ij hS' rfl (aa (gB (ak ?_)))
   exact hR _ s.toks (fun c o n1 n2 q=>(dF _ _ (g4 n2)).trans (ex c o n1 q))
 | x::r,i,s,b,hd,hi,hit,hl,hb,ok,hm,hR=>by
  have lt1:i<its.size:=by
   have:=congrArg dJ hd
   rw[cv,aU,cO] at this
   omega
  have hx0:its.toList[i]?=some x:=by rw[← rN,hd];rfl
  have hx:its[i]?=some x:=by rw[← gR];exact hx0
  have mx:x∈its.toList:=aY hx0
  have hd':its.toList.drop (i+1)=r:=by rw[← tf,hd];rfl
  have nm:(toString "min"++toString ".loop":String)="min.loop":=by decide
  refine eC F.entry_min_loop ?_
  rw[dk iG _]
  cases b with
  | none =>
   obtain ⟨c,hS⟩:=hb
   refine aa (m:=seqItems? (.ref S)) (dc hS rfl (aa (m:=tryCatch (pyNext (.ref I)) _) (fN (fP hit hl hx fun h' hit' sb=>?_))))
   have hS':=sb.extBut S _ nIS.symm hS
   refine aa (m:=updateSeq S fun _=>#[x,x]) ?_
   refine ij hS' rfl ?_
   rw[nm]
   have up:∀ c o,c≠S→h'.get? c=some o→(h'.update S (fD.mapSeq fun _=>#[x,x])).get? c=some o:=fun c o n q=>(dF _ _ (g4 n)).trans q
   have all:∀ c o,c≠I→c≠S→s.heap.get? c=some o→(h'.update S (fD.mapSeq fun _=>#[x,x])).get? c=some o:=fun c o n1 n2 z=>up c o n2 (sb.extBut _ _ n1 z)
   refine ak ⟨dA iG _,sE d lt hh nIS nlI nlS OK keep cmp r (i+1) _ (some x) hd' lt1 (let ⟨o,q,z⟩:=hit';⟨o,up _ _ nIS q,z⟩) (let ⟨o,q,z⟩:=hl;⟨o,up _ _ nlS (sb.extBut _ _ nlI q),z⟩) ⟨_,cT _ hS' rfl⟩ (keep _ _ ok all) (fun m e=>by cases e;exact mx) fun h2 tk q=>?_⟩
   exact hR h2 tk fun c o n1 n2 z=>q c o n1 n2 (all c o n1 n2 z)
  | some m =>
   obtain ⟨c,hS⟩:=hb
   have mm:=hm m rfl
   refine aa (m:=seqItems? (.ref S)) (dc hS rfl (aa (m:=tryCatch (pyNext (.ref I)) _) (fN (fP hit hl hx fun h' hit' sb=>?_))))
   have hS':=sb.extBut S _ nIS.symm hS
   have ok':OK h':=keep _ _ ok fun c o n1 _ q=>sb.extBut _ _ n1 q
   refine aa (m:=tryCatch (holding [x,x] (richCompare .Lt x m >>= _)) _) (fN (dn (aa (cmp {s with heap:=h'} x m _ _ ok' mx mm (aa (dn (fo (aa (gB (ak ?_))))))))))
   by_cases g:lt x m=true
   ·rw[if_pos g]
    refine aa (m:=updateSeq S fun _=>#[x,x]) ?_
    refine ij hS' rfl (aa (gB ?_))
    rw[nm]
    have up:∀ c o,c≠S→h'.get? c=some o→(h'.update S (fD.mapSeq fun _=>#[x,x])).get? c=some o:=fun c o n q=>(dF _ _ (g4 n)).trans q
    have all:∀ c o,c≠I→c≠S→s.heap.get? c=some o→(h'.update S (fD.mapSeq fun _=>#[x,x])).get? c=some o:=fun c o n1 n2 z=>up c o n2 (sb.extBut _ _ n1 z)
    refine ak ⟨dA iG _,sE d lt hh nIS nlI nlS OK keep cmp r (i+1) _ (some x) hd' lt1 (let ⟨o,q,z⟩:=hit';⟨o,up _ _ nIS q,z⟩) (let ⟨o,q,z⟩:=hl;⟨o,up _ _ nlS (sb.extBut _ _ nlI q),z⟩) ⟨_,cT _ hS' rfl⟩ (keep _ _ ok all) (fun m e=>by cases e;exact mx) fun h2 tk q=>?_⟩
    have:=hR h2 tk fun c o n1 n2 z=>q c o n1 n2 (all c o n1 n2 z)
    rw[jc,if_pos g] at this
    exact this
   ·rw[if_neg g]
    refine aa (gB ?_)
    rw[nm]
    refine ak ⟨dA iG _,sE d lt hh nIS nlI nlS OK keep cmp r (i+1) _ (some m) hd' lt1 hit' (hl.extBut sb.extBut nlI) ⟨c,hS'⟩ ok' hm fun h2 tk q=>?_⟩
    have:=hR h2 tk fun c o n1 n2 z=>q c o n1 n2 (sb.extBut _ _ n1 z)
    rw[jc,if_neg g] at this
    exact this
end
section
variable {prog:aV}{w:bK}{A:cC}{s:au}{E:ag→au→Prop}
theorem Le (a v:ag):argsOk "min" ⟨[a],[(dM "default",v)]⟩:=by unfold argsOk;kernel_rfl
theorem args_min1 (a:ag):argsOk "min" ⟨[a],[]⟩:=by unfold argsOk;kernel_rfl
theorem A5 {l:aj}{its:Array ag}(d:Option ag)(lt:ag→ag→Bool)(OK:bW→Prop){Q:ag→au→Prop}(hh:A.handled=none)(hl:s.heap.IsList l its)(ok:OK s.heap)
  (keep:∀ h h':bW,OK h→(∀ c o,c<s.heap.objs.size→h.get? c=some o→h'.get? c=some o)→OK h')
  (cmp:∀ (s:au) (x y:ag) (Q:ag→au→Prop) (E:ag→au→Prop),OK s.heap→x∈its.toList→y∈its.toList→Q (.bool (lt x y)) s→wpAny (model prog w) A.in1 (richCompare .Lt x y) Q E s)
  (h:∀ h' tk,(∀ c o,s.heap.get? c=some o→h'.get? c=some o)→match jc lt none its.toList with
   | some m=>Q m {s with heap:=h',toks:=tk}
   | none=>∃ v,d=some v∧Q v {s with heap:=h',toks:=tk}):wpAny (model prog w) A (call (.builtin "min") [.ref l] (dflt d)) Q E s:=by
 have nm:(toString "min"++toString ".loop":String)="min.loop":=by decide
 have ll:l<s.heap.objs.size:=let ⟨_,q,_⟩:=hl;aN q
 have z1:(s.heap.push {cls:=.type "list_iterator",data:=.fields #[.ref l,.int 0 0]}).objs.size=s.heap.objs.size+1:=cR ..
 have old:∀ {g:bW} {o u:fD} {c:aj},g.get? c=some u→(g.push o).get? c=some u:=fun q=>ay _ q
 have keep':∀ h h':bW,OK h→(∀ c o,c≠s.heap.objs.size→c≠(s.heap.push {cls:=.type "list_iterator",data:=.fields #[.ref l,.int 0 0]}).objs.size→h.get? c=some o→h'.get? c=some o)→OK h':=fun h h' o k=>keep h h' o fun c u hc q=>k c u (bg hc) (by rw[z1];exact bg (dG hc)) q
 have go:∀ R:qS→au→Prop,(∀ h' tk,(∀ c o,s.heap.get? c=some o→h'.get? c=some o)→Cy R d {s with heap:=h',toks:=tk} (jc lt none its.toList)) →
   codeAny (model prog w) A (.builtin "min.loop" ⟨[.ref s.heap.objs.size,.none,.ref (s.heap.push {cls:=.type "list_iterator",data:=.fields #[.ref l,.int 0 0]}).objs.size],dflt d⟩) R {s with heap:=(s.heap.push {cls:=.type "list_iterator",data:=.fields #[.ref l,.int 0 0]}).push {cls:=.type "list",data:=.seq ([]:List ag).toArray}}:=fun R hR=>by
  refine sE (l:=l) (its:=its) d lt hh (bg (by rw[z1];exact dS _)) (bg ll) (bg (by rw[z1];exact dG ll)) OK keep' cmp its.toList 0 _ none rfl (aS _) ⟨_,old (aG _ rfl),rfl,rfl⟩ (let ⟨o,q,z⟩:=hl;⟨o,old (old q),z⟩) ⟨0,aG _ rfl⟩ (keep s.heap ((s.heap.push {cls:=.type "list_iterator",data:=.fields #[.ref l,.int 0 0]}).push {cls:=.type "list",data:=.seq ([]:List ag).toArray}) ok fun c o _ q=>old (old q)) (fun m e=>by cases e) fun h' tk kp=>?_
  refine hR h' tk fun c o q=>kp c o (bg (aN q)) (by rw[z1];exact bg (dG (aN q))) (old (old q))
 have fin:∀ h' tk,(∀ c o,s.heap.get? c=some o→h'.get? c=some o)→Cy (wants Q E) d {s with heap:=h',toks:=tk} (jc lt none its.toList):=fun h' tk kp=>by
  have:=h h' tk kp
  revert this
  cases jc lt none its.toList with
  | none=>exact fun z=>z
  | some m=>exact fun z=>z
 cases d with
 | some v =>
  refine oa F.kind_min F.plain_min F.entry_min (Le _ _) ?_
  refine aa (m:=ka "min" ["key","default"] 0 ⟨[],[(dM "default",v)]⟩) (jA (a:=[none,some v]) rfl (aa (ak (aa (ip hl (aa (cw ?_)))))))
  rw[nm]
  exact ak ⟨dA iG _,go _ fin⟩
 | none =>
  refine oa F.kind_min F.plain_min F.entry_min (args_min1 _) ?_
  refine aa (m:=ka "min" ["key","default"] 0 ⟨[],[]⟩) (jA (a:=[none,none]) rfl (aa (ak (aa (ip hl (aa (cw ?_)))))))
  rw[nm]
  exact ak ⟨dA iG _,go _ fin⟩
end
def lE:Option Int→List Int→Option Int
 | b,[]=>b
 | none,x::r=>lE (some x) r
 | some m,x::r=>lE (some (if x<m then x else m)) r
theorem AX:∀ (l:List Int) (m:Int),∃ v,lE (some m) l=some v∧(v=m∨v∈l)∧v≤m∧∀ x∈l,v≤x
 | [],m=>⟨m,rfl,.inl rfl,Int.le_refl _,fun x h=>by simp at h⟩
 | x::l,m=>by
  rw[lE]
  obtain ⟨v,e,h1,h2,h3⟩:=AX l (if x<m then x else m)
  refine ⟨v,e,?_,?_,fun y hy=>?_⟩
  ·rcases h1 with q | q
   ·split at q
    ·exact .inr (by rw[q];exact ax)
    ·exact .inl q
   ·exact .inr (ao _ q)
  ·split at h2<;>omega
  ·rcases aI.mp hy with q | q
   ·subst q;split at h2<;>omega
   ·exact h3 y q
def Vv (K:ai)(t:TA)(te:TE):TE:=fun σ H Q=>t σ H fun vs H1=>te σ H1 fun d H2=>∃ (a:aj) (ns:List Int),vs=[V.ref a]∧cI K H2 a (ns.map V.int)∧Q (HQ d (lE none ns)) H2
def ltI (x y:ag):Bool:=match x,y with
 | .int a _,.int b _=>decide (a<b)
 | _,_=>false
theorem rF:∀ {us:List ag} {ns:List Int},eN us ns→∀ (b:Option ag) (c:Option Int),(match b,c with | none,none=>True | some v,some n=>∃ t,v=ag.int n t | _,_=>False)→match jc ltI b us,lE c ns with | none,none=>True | some v,some n=>∃ t,v=ag.int n t | _,_=>False
 | _,_,.nil,b,c,h=>by unfold jc lE;exact h
 | _,_,.cons n t r,none,none,h=>rF r (some _) (some _) ⟨t,rfl⟩
 | _,_,.cons n t r,none,some _,h=>h.elim
 | _,_,.cons n t r,some _,none,h=>h.elim
 | _,_,.cons n t r,some v,some m,h=>by
  obtain ⟨u,rfl⟩:=h
  rw[jc,lE]
  refine rF r _ _ ?_
  show match some (if decide (n<m)=true then ag.int n t else ag.int m u),some (if n<m then n else m) with | none,none=>True | some v,some n=>∃ t,v=ag.int n t | _,_=>False
  by_cases q:n<m
  ·rw[if_pos (decide_eq_true q),if_pos q];exact ⟨t,rfl⟩
  ·rw[if_neg (by rw[decide_eq_false q];decide),if_neg q];exact ⟨u,rfl⟩
theorem Qn {X:Cx}{e1 e2:Expr}{t:TA}{te:TE}{p pos kp:jR}(hc:X.calm=true)(hg:Gl X "min")(hm:X.mg "min"=none)(ha:PA X [e1] t)(hk:PE X e2 te)
  (he:backTo pos (bS [e1] X.env)=(false,eval e1 X.env)::backTo pos (bS [] X.env):=by rfl)(hpl:(backTo pos (bS [e1] X.env)).any (·.1)=false:=by rfl) :
  PE X (.Call (.Name "min" p) [e1] [⟨some "default",e2,kp⟩] pos) (Vv X.K t te):=by
 intro pins s σ H Q I h
 refine ee (jy I hg hm Fv ?_)
 refine callWith_kw (gN (ha pos pins s σ H _ I h) fun us s1 ⟨vs,H1,I1,r,q⟩=>kws_cons (gN (hk pins s1 σ H1 _ I1 q) fun dv s2 ⟨d,H2,I2,rd,a,ns,ev,hs,q2⟩=>kws_nil ?_)) he hpl
 subst ev
 obtain ⟨its,rv,hl,_⟩:=I2.list hs
 rw[di.xc r]
 have hi:=rv.ints
 refine A5 (its:=its.toArray) (some dv) ltI (fun _=>True) (I2.ok.hd hc) hl.isList trivial (fun _ _ _ _=>trivial) (fun s x y Q E _ hx hy q=>?_) fun h' tk kp=>?_
 ·have ex:∀ {us:List ag} {ns:List Int},eN us ns→∀ v∈us,∃ n t,v=ag.int n t:=by
   intro us ns h
   induction h with
   | nil=>intro v hv;simp at hv
   | cons n t _ ih =>
    intro v hv
    rcases aI.mp hv with e | hv
    ·exact ⟨n,t,e⟩
    ·exact ih v hv
  obtain ⟨n,t,rfl⟩:=ex hi x (by simpa using hx)
  obtain ⟨m,u,rfl⟩:=ex hi y (by simpa using hy)
  exact HT.yL _ _ n t m u _ _ _ _ q
 ·have I3:Inv X pins σ H2 {s2 with heap:=h',toks:=tk}:=I2.kept kp
  have:=rF hi none none trivial
  revert this q2
  simp only[List.toList_toArray]
  cases jc ltI none its with
  | none =>
   cases lE none ns with
   | none=>exact fun q2 _=>⟨dv,rfl,d,H2,I3,rd,q2⟩
   | some n=>exact fun _ z=>z.elim
  | some v =>
   cases lE none ns with
   | none=>exact fun _ z=>z.elim
   | some n =>
    intro q2 z
    exact ⟨.int n,H2,I3,z,q2⟩
def VG (K:ai):List V→Hp→VK→Prop:=fun vs H Q=>∃ (a:aj) (rs:List aj) (rows:List (List Int)),vs=[V.ref a]∧cI K H a (rs.map V.ref)∧Paired (fun r row=>fR K H r (row.map V.int)) rs rows∧rs≠[] ∧
 ∀ (i:Nat) (q:aj) (row:List Int),rs[i]?=some q→rows[i]?=some row→(∀ w∈rows,HT.lexLt w row=false)→Q (.ref q) H
theorem vT (f:ag→List Int):∀ (l:List ag) (m:ag),∃ v,jc (fun x y=>HT.lexLt (f x) (f y)) (some m) l=some v∧v∈m::l∧∀ x∈m::l,HT.lexLt (f x) (f v)=false
 | [],m=>⟨m,rfl,ax,fun x hx=>by
  rw[bE.mp hx]
  exact Fo.Ck _⟩
 | x::l,m=>by
  rw[jc]
  by_cases q:HT.lexLt (f x) (f m)=true
  ·rw[if_pos q]
   obtain ⟨v,e,h1,h2⟩:=vT f l x
   refine ⟨v,e,ao _ h1,fun y hy=>?_⟩
   rcases aI.mp hy with e' | hy
   ·subst e'
    have hx:=h2 x ax
    cases z:HT.lexLt (f y) (f v) with
    | false=>rfl
    | true =>
     have:=Fo.FZ _ _ _ q z
     rw[hx] at this
     cases this
   ·exact h2 y hy
  ·rw[if_neg q]
   obtain ⟨v,e,h1,h2⟩:=vT f l m
   have hm:=h2 m ax
   refine ⟨v,e,?_,fun y hy=>?_⟩
   ·rcases aI.mp h1 with e' | h1
    ·rw[e'];exact ax
    ·exact ao _ (ao _ h1)
   ·rcases aI.mp hy with e' | hy
    ·rw[e'];exact hm
    ·rcases aI.mp hy with e' | hy
     ·subst e'
      cases z:HT.lexLt (f y) (f v) with
      | false=>rfl
      | true =>
       rcases Fo.Cj _ (f m) _ z with w | w
       ·exact absurd w q
       ·rw[hm] at w;cases w
     ·exact h2 y (ao _ hy)
theorem wQ {α β:Type}{R:α→β→Prop}:∀ {l:List α} {m:List β} {b:β},Paired R l m→b∈m→∃ a∈l,R a b
 | _,_,_,.nil,h=>by simp at h
 | _,_,_,.cons r t,h=>by
  rcases aI.mp h with e | h
  ·subst e;exact ⟨_,ax,r⟩
  ·obtain ⟨b,hb,q⟩:=wQ t h
   exact ⟨b,ao _ hb,q⟩
theorem wO {α β:Type}{R:α→β→Prop}:∀ {l:List α} {m:List β} {a:α},Paired R l m→a∈l→∃ (i:Nat) (b:β),l[i]?=some a∧m[i]?=some b∧R a b
 | _,_,_,.nil,h=>by simp at h
 | _,_,_,.cons r t,h=>by
  rcases aI.mp h with e | h
  ·subst e;exact ⟨0,_,rfl,rfl,r⟩
  ·obtain ⟨i,b,h1,h2,q⟩:=wO t h
   exact ⟨i+1,b,h1,h2,q⟩
open Classical in
noncomputable def Fp (h:bW)(v:ag):List Int:=if q:∃ (row:List Int) (a:aj) (its:Array ag),v=.ref a∧qr h a its∧eN its.toList row then q.choose else []
theorem GO {h:bW}{a:aj}{xs ys:Array ag}(x:qr h a xs)(y:qr h a ys):xs=ys:=by
 obtain ⟨o,e,_,n,d⟩:=x
 obtain ⟨o',e',_,n',d'⟩:=y
 rw[e] at e'
 cases e'
 rw[d] at d'
 injection d'
theorem xT {h:bW}{a:aj}{its:Array ag}{row:List Int}(x:qr h a its)(i:eN its.toList row):Fp h (.ref a)=row:=by
 have q:∃ (row:List Int) (b:aj) (its:Array ag),ag.ref a=.ref b∧qr h b its∧eN its.toList row:=⟨row,a,its,rfl,x,i⟩
 unfold Fp
 rw[dif_pos q]
 obtain ⟨b,its',e,y,j⟩:=q.choose_spec
 cases e
 have:=GO x y
 subst this
 exact Fo.vW j i
theorem Q5 {X:Cx}(hc:X.calm=true)(hu:X.A.units+8<cLine):lM X (.builtin "min") (VG X.K):=by
 intro pins s σ H vs us Q I r h
 obtain ⟨a,rs,rows,rfl,hs,pr,hne,q⟩:=h
 obtain ⟨its,rv,hl,hz⟩:=I.list hs
 have ei:=Cg rv
 subst ei
 rw[di.xc r]
 have row:∀ r row,fR X.K H r (row.map V.int)→∃ its:Array ag,qr s.heap r its∧eN its.toList row:=fun r row e=>by
  obtain ⟨its,r1,p1,_⟩:=I.tuple e
  exact ⟨its.toArray,p1,intsAre_of r1⟩
 refine A5 (its:=(rs.map ag.ref).toArray) none (fun x y=>HT.lexLt (Fp s.heap x) (Fp s.heap y)) (fun h=>∀ r∈rs,∃ (row:List Int) (its:Array ag),qr s.heap r its∧qr h r its∧eN its.toList row) (I.ok.hd hc) hl.isList (fun r hr=>?_) (fun h h' ok kp r hr=>?_) (fun s2 x y Q E ok hx hy qq=>?_) fun h' tk kp=>?_
 ·obtain ⟨w,hw,e⟩:=rC pr hr
  obtain ⟨its,p,i⟩:=row r w e
  exact ⟨w,its,p,p,i⟩
 ·obtain ⟨w,its,p,p2,i⟩:=ok r hr
  obtain ⟨o,e,z⟩:=p
  obtain ⟨o2,e2,z2⟩:=p2
  exact ⟨w,its,⟨o,e,z⟩,⟨o2,kp r o2 (aN e) e2,z2⟩,i⟩
 ·obtain ⟨r1,h1,rfl⟩:=aX.mp (show x∈rs.map ag.ref by simpa using hx)
  obtain ⟨r2,h2,rfl⟩:=aX.mp (show y∈rs.map ag.ref by simpa using hy)
  obtain ⟨w1,i1,p1,p1',j1⟩:=ok r1 h1
  obtain ⟨w2,i2,p2,p2',j2⟩:=ok r2 h2
  rw[xT p1 j1,xT p2 j2] at qq
  exact HT.GJ p1' p2' j1 j2 (aF (show X.A.units+1≤X.A.units+8 by omega) hu) qq
 ·obtain ⟨r0,rt,e0⟩:∃ r0 rt,rs=r0::rt:=by
   cases rs with
   | nil=>exact absurd rfl hne
   | cons r0 rt=>exact ⟨r0,rt,rfl⟩
  obtain ⟨v,ev,hv,hm⟩:=vT (Fp s.heap) (rt.map ag.ref) (ag.ref r0)
  have el:jc (fun x y=>HT.lexLt (Fp s.heap x) (Fp s.heap y)) none (rs.map ag.ref).toArray.toList=some v:=by
   rw[e0]
   exact ev
  rw[el]
  have hv':v∈rs.map ag.ref:=by rw[e0];exact hv
  obtain ⟨c,hcm,rfl⟩:=aX.mp hv'
  obtain ⟨ix,w,hix,hw,hwc⟩:=wO pr hcm
  have I3:Inv X pins σ H {s with heap:=h',toks:=tk}:=I.kept kp
  refine ⟨.ref c,H,I3,rfl,q ix c w hix hw fun w' hw'=>?_⟩
  obtain ⟨r',dU,e'⟩:=wQ pr hw'
  have:=hm (ag.ref r') (by
   have:ag.ref r'∈rs.map ag.ref:=aX.mpr ⟨r',dU,rfl⟩
   rw[e0] at this
   exact this)
  obtain ⟨j1,p1,k1⟩:=row r' w' e'
  obtain ⟨j2,p2,k2⟩:=row c w hwc
  rw[xT p1 k1,xT p2 k2] at this
  exact this
section
variable {X:Cx}{pins:List (aj×fD)}{σ:L2.St}{H:Hp}{s:au}{d:aj}
theorem Inv.Si {kvs:List (List eF×V)}(I:Inv X pins σ H s)(h:H d=some (.dT kvs)) :
  (d==eZ)=false∧kvs.length≤aP∧∃ (o:fD) (es:Array fA) (ep:Nat),s.heap.get? d=some o∧o.ExactDict∧o.data=.dict es ep∧es.size=kvs.length ∧
   ∀ (i:Nat) (k:List eF) (v:V),kvs[i]?=some (k,v)→∃ (en:fA) (q:aj),es[i]?=some en∧en.key=.ref q∧RelV v en.val∧lD H q k:=by
 obtain ⟨z,hs,xs,pr,o,es,ep,ho,hx,hdt,he,_⟩:=(show fQ X.prog X.w H s.heap d (.dT kvs) from I.fu d _ h)
 refine ⟨hs,z,o,es,ep,ho,hx,hdt,?_,fun i k v e=>?_⟩
 ·have l1:es.size=xs.length:=size_of_entries he
  have l2:kvs.length=xs.length:=Paired.length pr
  omega
 ·obtain ⟨b,hb,e1,e2,e3⟩:=zj pr e
  have q:=entry_at he i
  rw[hb] at q
  exact ⟨_,b.2.1,q,rfl,e3,e2⟩
end
section
variable {prog:aV}{w:bK}
theorem WL {d:aj}{es:Array fA}{ep:Nat}(lo:(d==eZ)=false):PySem.W.KdlSrc prog w "dict" d d es.size (fun i v=>∃ en,es[i]?=some en∧v=en.key) (fun h=>∃ o,h.get? d=some o∧o.ExactDict∧o.data=.dict es ep) where
 type:=fun _ ⟨o,e,x,_⟩=>⟨o,e,x.1⟩
 there:=fun _ ⟨o,e,_⟩=>⟨aN e,aN e⟩
 keep:=fun _ _ ⟨o,e,z⟩ k=>⟨o,k d (.inl rfl) o e,z⟩
 notList:=by decide
 notTuple:=by decide
 hint:=fun _ _ _ _ ⟨o,e,x,_⟩ q=>PySem.W.kdl_hint_dict ⟨o,e,x.1⟩ q
 iter:=fun A s hh ⟨o,e,x,dd⟩=>by
  refine ⟨_,fun i h=>h.IsKeyIter s.heap.objs.size d i es.size ep∧∃ o,h.get? d=some o∧o.ExactDict∧o.data=.dict es ep,(fun E Q q=>KE lo e x dd q),?_,⟨_,aG _ rfl,rfl,rfl⟩,o,ay _ e,x,dd⟩
  have nd:d≠s.heap.objs.size:=bg (aN e)
  exact {
   sub:=fun b hb=>by simp at hb ⊢;exact .inl hb
   frame:=fun i h h' ⟨⟨oi,e1,z1⟩,o,e2,z2⟩ k=>⟨⟨oi,k _ (by simp) _ e1,z1⟩,o,k _ (by simp) _ e2,z2⟩
   item:=fun i s' Q E hi ⟨st,o,e2,x2,d2⟩ k=>by
    refine z8 st e2 d2 rfl (cz hi) fun h' st' sb=>?_
    exact k _ h' s'.toks ⟨_,cz hi,rfl⟩ ⟨st',o,(sb.2 _ nd).trans e2,x2,d2⟩ fun b u hb q=>(sb.2 b (fun z=>hb (by simp[z]))).trans q
   done:=fun s' Q E ⟨st,o,e2,x2,d2⟩ k=>CG hh st e2 d2 rfl (aL _) fun h' eb=>k h' s'.toks fun b u hb q=>eb b u (fun z=>hb (by simp[z])) q
   self:=fun i s' Q E ⟨st,_⟩ q=>wpAny_pyIter_keyiter st q}
end
theorem zq {P:Nat→ag→Prop}{acc:Array ag}{n:Nat}{xs:List V}(h:ItemsOf P acc n)(hl:xs.length=n)(hp:∀ (i:Nat) v x,P i v→xs[i]?=some x→RelV x v):di xs acc.toList:=by
 have go:∀ (us:List ag) (xs:List V) (k:Nat),us.length=xs.length→(∀ (i:Nat) v x,us[i]?=some v→xs[i]?=some x→RelV x v)→di xs us:=by
  intro us
  induction us with
  | nil =>
   intro xs k hl _
   have:xs=[]:=df.mp (by simpa using hl.symm)
   subst this
   exact .nil
  | cons u us ih =>
   intro xs k hl hr
   cases xs with
   | nil=>simp at hl
   | cons x xs=>exact .cons (hr 0 u x rfl rfl) (ih xs k (by simpa using hl) fun i v y e1 e2=>hr (i+1) v y e1 e2)
 refine go acc.toList xs 0 (by rw[cO,h.1,hl]) fun i v x e1 e2=>hp i v x (h.2 i v ?_) e2
 rw[← gR]
 exact e1
section
variable {X:Cx}
theorem pQ (hc:X.calm=true):lM X (.type "list") (fun xs H Q=>∃ (d:aj) (kvs:List (List eF×V)),xs=[.ref d]∧H d=some (.dT kvs)∧∀ (qs:List aj) (p:aj),Paired (fun q kv=>lD H q kv.1) qs kvs→H p=none→Q (.ref p) (upd H p (.lst (qs.map V.ref)))):=by
 intro pins s σ H xs us Q I r h
 obtain ⟨d,kvs,rfl,hd,q⟩:=h
 rw[di.xc r]
 obtain ⟨lo,hz,o,es,ep,ho,hx,hdt,hsz,ent⟩:=I.Si hd
 refine Ln (WL (es:=es) (ep:=ep) lo) (I.ok.hd hc) ⟨o,ho,hx,hdt⟩ (by rw[hsz];exact hz) fun h' tk acc c kp hg hi=>?_
 have pick:∀ (kvs:List (List eF×V)) (es:List fA),es.length=kvs.length→(∀ (i:Nat) (k:List eF) (v:V),kvs[i]?=some (k,v)→∃ (en:fA) (q:aj),es[i]?=some en∧en.key=.ref q∧lD H q k)→∃ qs:List aj,es.map (·.key)=qs.map ag.ref∧Paired (fun q kv=>lD H q kv.1) qs kvs:=by
  intro kvs
  induction kvs with
  | nil =>
   intro es hl _
   have:es=[]:=df.mp (by simpa using hl)
   subst this
   exact ⟨[],rfl,.nil⟩
  | cons kv kvs ih =>
   intro es hl he
   cases es with
   | nil=>simp at hl
   | cons e es =>
    obtain ⟨en,q0,e1,e2,e3⟩:=he 0 kv.1 kv.2 rfl
    cases aH e1
    obtain ⟨qs,e4,e5⟩:=ih es (by simpa using hl) fun i k v z=>he (i+1) k v z
    exact ⟨q0::qs,by simp[e2,e4],.cons e3 e5⟩
 obtain ⟨qs,e1,e2⟩:=pick kvs es.toList (by simpa using hsz) fun i k v z=>by
  obtain ⟨en,q0,a1,a2,_,a3⟩:=ent i k v z
  exact ⟨en,q0,by simpa using a1,a2,a3⟩
 have ea:acc.toList=qs.map ag.ref:=by
  rw[← e1]
  refine o3 fun i=>?_
  by_cases j7:i<acc.size
  ·obtain ⟨en,a1,a2⟩:=hi.2 i acc[i] (cz j7)
   rw[aO,gR,gR,a1,cz j7,a2]
   rfl
  ·rw[bJ (by simpa using j7),bJ (by have:=hi.1;simp;omega)]
 have hlen:(qs.map V.ref).length≤aP:=by rw[ae,Paired.length e2];exact hz
 have hg':h'.get? s.heap.objs.size=some {cls:=.type "list",dict:=none,data:=.seq (qs.map ag.ref).toArray c,slots:=#[]}:=by rw[hg,← ea,i9]
 exact ⟨.ref _,_,I.laid (o:=.lst (qs.map V.ref)) (t':=tk) kp (aL _) ⟨hlen,qs.map ag.ref,c,vJ qs,hg'⟩,rfl,q qs _ e2 (I.fu.fresh (aL _))⟩
theorem A6:lM X (.builtin "len") (fun xs H Q=>∃ (d:aj) (kvs:List (List eF×V)),xs=[V.ref d]∧H d=some (.dT kvs)∧Q (.int kvs.length) H):=by
 intro pins s σ H xs us Q I r h
 obtain ⟨d,kvs,rfl,hd,q⟩:=h
 rw[di.xc r]
 obtain ⟨lo,hz,o,es,ep,ho,hx,hdt,hsz,ent⟩:=I.Si hd
 have hT:s.TypeIs (.ref d) "dict":=⟨o,ho,hx.1⟩
 have hz':es.size≤16777216:=by rw[hsz];rw[kX] at hz;exact hz
 refine nV kind_len plain_len entry_len (args_len1 _) ?_
 unfold Builtin.«len»
 refine aa (m:=oneArg "len" _) (ak ?_)
 refine aa (m:=callSpecial? (.ref d) (dM "__len__")) (dg (name:=dM "__len__") hT F.slot_dict_len (c8 F.slot_dict_len hT F.entry_dict_len ?_ (F.args_dict_len_1 _)))
 show wpAny _ _ (dictSize d >>= _) _ _ s
 unfold dictSize
 refine aa (aa (iq ho hdt (ak ?_)))
 show wpAny _ _ (Builtin.Dict.pendingCount d >>= _) _ _ s
 refine aa (wpAny_pendingCount_other lo ?_)
 show wpAny _ _ (retInt _) _ _ s
 unfold retInt
 refine aa (PV (ak ⟨_,rfl,?_⟩))
 refine aa (dn (ak (aa (gB ?_))))
 show wpAny _ _ (if ((es.size:Int)+((0:Nat):Int))<0 then _ else _) _ _ _
 rw[if_neg (by omega)]
 show wpAny _ _ (if ((es.size:Int)+((0:Nat):Int))≥2 ^ 63 then _ else _) _ _ _
 rw[if_neg (by omega)]
 show wpAny _ _ (mkInt ((es.size:Int)+((0:Nat):Int)) >>= _) _ _ _
 refine aa (PV (ak ⟨_,rfl,.int kvs.length,H,(I.tok _).tok _,⟨s.toks+1,?_⟩,q⟩))
 rw[hsz]
 simp
def Tf (te:TE):TE:=fun σ H Q=>te σ H fun x H1=>∃ (d:aj) (kvs:List (Key×V)),x=.ref d∧H1 d=some (.dK kvs)∧∀ p,H1 p=none→Q (.ref p) (upd H1 p (.lst (kvs.map (·.2))))
theorem z7 {e:Expr}{te:TE}{p pos apos jL:jR}(hc:X.calm=true)(hg:Gl X "list")(hm:X.mg "list"=none)(he:PE X e te)(hbase:ja e "values" X.env (eval e X.env)=eval e X.env:=by rfl)(hline:(apos.endLine==jL.line)=true:=by rfl)
  (hs:bS [.Call (.Attribute e "values" apos) [] [] jL] X.env=(false,eval (.Call (.Attribute e "values" apos) [] [] jL) X.env)::bS [] X.env:=by rfl) :
  PE X (.Call (.Name "list" p) [.Call (.Attribute e "values" apos) [] [] jL] [] pos) (Tf te):=by
 intro pins s σ H Q I h
 refine ee (jy I hg hm sT ?_)
 refine cN ?_ hs rfl
 rw[hs]
 show wpAny _ _ (spliced ((false,eval (.Call (.Attribute e "values" apos) [] [] jL) X.env)::backTo pos (bS [] X.env))) _ _ s
 refine iH ?_
 refine qz (T:="dict") (id:="dict.values") hbase rfl hline zK RV F.type_dict_values (gN (he pins s σ H _ I h) fun u s1 ⟨x,H1,I1,rx,d,kvs,ex,hd,q⟩=>?_)
 subst ex
 obtain rfl:u=ag.ref d:=rx
 obtain ⟨z,lo,vs,rel,dd⟩:=Aj I1.fu (.inl hd)
 obtain ⟨ep,hm'⟩:=dd.dictAt
 refine ⟨dd.typeIs,dd.mapOf.noDict,?_⟩
 have I2:Inv X pins σ H1 {s1 with heap:=s1.heap.push {cls:=.type "dict_values",data:=.fields #[.ref d]}}:=I1.kept (t':=s1.toks) fun b ob q=>ay _ q
 have fin:wpAny (model X.prog X.w) X.A (spliced (backTo pos (bS [] X.env))) (fun us s2=>wpAny (model X.prog X.w) X.A (call (.type "list") (.ref s1.heap.objs.size::us)) (EP X pins σ Q) X.xe s2) X.xe {s1 with heap:=s1.heap.push {cls:=.type "dict_values",data:=.fields #[.ref d]}}:=by
  refine ki ?_
  refine Ln (PySem.W.kdl_values (knd:=dZ X.prog X.w) (kvs:=vs) (ep:=ep) (r:=s1.heap.objs.size) (d:=d)) (I1.ok.hd hc) ⟨⟨_,aG _ rfl,rfl,rfl⟩,hm'.push _⟩ (by rw[← rel.length];exact z) fun h' tk acc c kp hg' hi=>?_
  have hv:di (kvs.map (·.2)) acc.toList:=zq hi (by rw[ae,rel.length]) fun i v x ⟨k,e1⟩ e2=>by
   rw[aO] at e2
   cases e3:kvs[i]? with
   | none=>rw[e3] at e2;cases e2
   | some kv =>
    rw[e3] at e2
    obtain ⟨k1,v1⟩:=kv
    obtain ⟨u,hu,ru⟩:=My rel e3
    rw[hu] at e1
    cases e1
    cases e2
    exact ru
  have hlen:(kvs.map (·.2)).length≤aP:=by rw[ae];exact z
  exact ⟨.ref _,_,I2.laid (o:=.lst (kvs.map (·.2))) (t':=tk) kp (aL _) ⟨hlen,acc.toList,c,hv,by rw[i9];exact hg'⟩,rfl,q _ ((I2.fu.fresh (aL _)))⟩
 show wpAny _ _ (Fu jL (.builtin "dict.values") [.ref d] [] []) _ X.xe s1
 exact Ge RV F.entry_dict_values rfl (um ⟨rfl,dd.typeIs,F.args_dict_values_1 _,_,meets_dict_values (dZ X.prog X.w) d lo,⟨vs,dd⟩,fin⟩)
def Th (te:TE):TE:=fun σ H Q=>te σ H fun x H1=>∃ n:Nat,[x]=[V.int (n:Int)]∧n≤1000∧∀ p,H1 p=none→Q (.ref p) (upd H1 p (.lst ((br n).map fun (i:Nat)=>V.int (i:Int))))
theorem CD {e:Expr}{te:TE}{p pos p2 pos2:jR}(hc:X.calm=true)(hg:Gl X "list")(hm:X.mg "list"=none)(hg2:Gl X "range")(hm2:X.mg "range"=none)(he:PE X e te)
  (hs2:bS [e] X.env=(false,eval e X.env)::bS [] X.env:=by rfl)
  (hs:bS [.Call (.Name "range" p2) [e] [] pos2] X.env=(false,eval (.Call (.Name "range" p2) [e] [] pos2) X.env)::bS [] X.env:=by rfl) :
  PE X (.Call (.Name "list" p) [.Call (.Name "range" p2) [e] [] pos2] [] pos) (Th te):=by
 intro pins s σ H Q I h
 refine ee (jy I hg hm sT ?_)
 refine cN ?_ hs rfl
 rw[hs]
 show wpAny _ _ (spliced ((false,eval (.Call (.Name "range" p2) [e] [] pos2) X.env)::backTo pos (bS [] X.env))) _ _ s
 refine iH ?_
 refine ee (jy I hg2 hm2 Gc ?_)
 refine cN (gN (ah (t:=LO) he aA hs2 pos2 pins s σ H (fun vs H1=>∃ n:Nat,vs=[V.int (n:Int)]∧n≤1000∧∀ p,H1 p=none→Q (.ref p) (upd H1 p (.lst ((br n).map fun (i:Nat)=>V.int (i:Int))))) I h) fun us s1 ⟨vs,H1,I1,r1,q1⟩=>?_) hs2 rfl
 obtain ⟨n,ev,hn,q⟩:=q1
 subst ev
 cases r1 with
 | cons r rr =>
  cases rr
  obtain ⟨t,rfl⟩:=r
  refine call_range_1 ?_
  refine ki ?_
  have I2:Inv X pins σ H1 {s1 with heap:=s1.heap.push {cls:=.type "range",data:=.fields #[.int 0 s1.toks,.int (n:Int) t,.int 1 (s1.toks+1)]},toks:=s1.toks+1+1}:=I1.kept fun b o e=>ay _ e
  have z:g8 0 (n:Int) 1=(n:Int):=by
   rw[rangeSize_one]
   split<;>omega
  refine call_list_range (n:=n) (I2.ok.hd hc) (Ew ..) (small_one (by omega) (by omega) (by omega) (by omega)) z (by omega) fun h' tk acc c kp hg' hi=>?_
  have hv:di ((br n).map fun (i:Nat)=>V.int (i:Int)) acc.toList:=zq hi (by simp) fun i v x ⟨t,e1⟩ e2=>by
   rw[aO] at e2
   by_cases j7:i<n
   ·rw[js j7] at e2
    cases e2
    subst e1
    exact ⟨t,by simp⟩
   ·rw[bJ (by simpa using j7)] at e2
    cases e2
  have hlen:((br n).map fun (i:Nat)=>V.int (i:Int)).length≤aP:=by
   rw[ae,c6]
   exact aB hn (by decide)
  exact ⟨.ref _,_,I2.laid (o:=.lst _) (t':=tk) kp (aL _) ⟨hlen,acc.toList,c,hv,by rw[i9];exact hg'⟩,rfl,q _ (I2.fu.fresh (aL _))⟩
end
end L2
namespace Sk
open PySem PySem.Spec PyProof.Rows L2
abbrev vI (l:List Int):List V:=l.map V.int
theorem tR {l:List Int}{i:Nat}{x:Int}(h:l[i]?=some x):(vI l)[i]?=some (V.int x):=by rw[aO,h];rfl
theorem Fx (a b:List Int):vI (a++b)=vI a++vI b:=ba
theorem HX (a:List Int)(x:Int):vI (a++[x])=vI a++[V.int x]:=ba
structure Df (mg:bZ→Option ag):Prop where
 j:∃ t,mg "JOINT"=some (.int (-1) t)
 wl:∃ t,mg "WRITTEN_LANGUAGE"=some (.int 0 t)
 wj:∃ t,mg "WRITTEN_JOINT"=some (.int 1 t)
 len:mg "len"=none
 range:mg "range"=none
 list:mg "list"=none
 sorted:mg "sorted"=none
def Mf (K:ai):Sp:=fun vs H Q _=>∃ (p:aj) (t:cF),vs=[.ref p]∧cI K H p (eX t.out)∧size t≤1000∧∀ H' q,aM H H'→H q=none→H' q=some (.lst (vI (gZ t)))→Q (.ref q) H'
theorem uF {r:List Nat}{at' k:Nat}{x:Nat}{rest:List Nat}(h:r.drop at'=rest)(e:rest[k]?=some x):(eX r)[at'+k]?=some (iv x):=by
 rw[aO]
 have:r[at'+k]?=some x:=by rw[← nH,h];exact e
 rw[this]
 rfl
theorem pz {a b:Int}:decide (V.int a=V.int b)=true↔a=b:=by
 rw[decide_eq_true_iff]
 exact ⟨fun h=>by injection h,fun h=>by rw[h]⟩
theorem MF {a b:Int}:(!decide (V.int a=V.int b))=true↔a≠b:=by
 rw[O8,decide_eq_false_iff_not]
 exact ⟨fun h e=>h (by rw[e]),fun h e=>h (by injection e)⟩
section
variable {P:aV}{w:bK}{K:ai}{mg:bZ→Option ag}{base:bW}
theorem yB:bX ["row","tree","at"] ["row"] (bB Hz):=kG
theorem Qu {f:aj}{fd:bH}(F:jb K "read_tree" "read_tree" Hz f fd)(T:Df mg):cP P w K mg base fG 1 f fd ["row"] (Mf K):=by
 obtain ⟨tj,hj⟩:=T.j
 obtain ⟨tw,hw⟩:=T.wj
 refine F.ok yB (fun vs H Q E h=>?_) (fun gq A outer s H vs Q E hr h=>?_)
 ·obtain ⟨p,t,rfl,_⟩:=h
  rfl
 ·obtain ⟨p,t,rfl,hp,hz,k⟩:=h
  refine ⟨_,aE (cy (i:=1) yB.nd rfl (bp rfl) (cS aA))
   (aE (cy (i:=2) yB.nd rfl (bp rfl) aZ)
   (aE (my bL (bU wz (pv 2) (bR bG (by rfl) T.len bj (ah (pv 0) aA)) (cq _))
    (aR (eG (bU gC (cA cM (pv 0) (pv 2) (fun _ _=>rfl)) (cg (v:=.int 1) (by rfl) hw ⟨_,rfl⟩) (cq _))
     (aE (fT (jU bN cE cD gG (pv 1) (ah (cg (v:=.int (-1)) (by rfl) hj ⟨_,rfl⟩) aA)))
      (aR (cy (i:=2) yB.nd rfl (bp rfl) (d4 eO (pv 2) aZ))))
     (aE (fT (jU bN cE cD gG (pv 1) (ah (cA cM (pv 0) (d4 eO (pv 2) aZ) (fun _ _=>rfl)) aA)))
      (aR (cy (i:=2) yB.nd rfl (bp rfl) (d4 eO (pv 2) aZ)))))))
   (aR (bO (pv 1))))),?_⟩
  refine cQ ⟨aS _,fun q hq=>cQ ?_⟩
  have s0:aM H (upd H q (.lst [])):=aM.new hq
  let Inv:Nat→L2.St→Hp→Prop:=fun m σ H'=>∃ (ts:List cF) (acc:List Int) (a:Nat),σ=[some (.ref p),some (.ref q),some (iv a)]∧m=(outs ts).length∧t.out.drop a=outs ts∧a≤t.out.length∧acc++mi ts=gZ t∧aM H H'∧H' q=some (.lst (vI acc))
  refine iP (fun σ H'=>∃ a,σ=[some (.ref p),some (.ref q),some (iv a)]∧aM H H'∧H' q=some (.lst (vI (gZ t)))) (fun _ go=>?_) ?_
  ·refine ⟨Inv,⟨_,[t],[],0,rfl,rfl,by rw[NL];rfl,aS _,by rw[yR];rfl,s0,aw⟩,?_⟩
   rintro m σ H1 ⟨ts,acc,a,rfl,rfl,hd,ha,hn,s1,e1⟩
   have lz:acc.length+(mi ts).length=size t:=by rw[← fU,← hn,aK]
   refine aJ rfl (aJ rfl ⟨p,aJ rfl ⟨.inl (s1.seq hp),_,aJ rfl ⟨rfl,aJ rfl ?_⟩⟩⟩)
   have hl:((eX t.out).length:Int)=(t.out.length:Int):=by rw[ae]
   rw[hl]
   cases ts with
   | nil =>
    have:a=t.out.length:=by
     have:=congrArg dJ hd
     rw[cv] at this
     have z:(outs []).length=0:=rfl
     omega
    rw[decide_eq_false (by omega)]
    refine nN (go _ _ ⟨a,rfl,s1,?_⟩)
    rw[e1,← hn,N1,bY]
   | cons u ts =>
    have pos:0<(outs (u::ts)).length:=by
     rw[Kf,aK]
     cases u<;>simp[mU]<;>omega
    have lt:a<t.out.length:=by
     have:=congrArg dJ hd
     rw[cv] at this
     omega
    rw[decide_eq_true (by omega)]
    have room:(vI acc).length<aP:=by
     rw[ae]
     exact aF (show acc.length≤1000 by omega) (by decide)
    refine pd ⟨fun σ' H'=>∃ m',m'<(outs (u::ts)).length∧Inv m' σ' H',fun σ' H' h=>h,?_⟩
    cases u with
    | leaf l =>
     rw[AQ] at hd
     rw[AV] at hn
     refine aJ rfl (aJ rfl (iJ p a _ (s1.seq hp) (cp (uF (k:=0) hd rfl)) ⟨rfl,aJ rfl ?_⟩))
     refine nN ?_
     refine iP (fun σ' H'=>σ'=[some (.ref p),some (.ref q),some (iv a)]∧aM H H'∧H' q=some (.lst (vI (acc++[(l:Int)])))) (fun _ go2=>?_) ?_
     ·refine aJ rfl ⟨.inl ⟨rfl,_,cI.of e1⟩,aJ rfl (aJ rfl ⟨_,aJ rfl ⟨rfl,iJ p (a+1) _ (s1.seq hp) (cp (uF (k:=1) hd rfl)) ⟨q,_,aJ rfl ⟨rfl,e1,room,?_⟩⟩⟩⟩)⟩
      exact go2 _ _ ⟨rfl,s1.upd hq,by rw[aw,HX]⟩
     ·rintro σ' H2 ⟨rfl,s2,e2⟩
      refine aJ rfl ⟨_,aJ rfl ⟨rfl,?_⟩⟩
      refine ⟨(outs ts).length,by rw[AQ];simp;omega,ts,acc++[(l:Int)],a+2,rfl,rfl,?_,?_,?_,s2,e2⟩
      ·have:=congrArg (jk 2) hd
       rw[fI] at this
       exact this
      ·have:=congrArg dJ hd
       rw[cv] at this
       simp at this
       omega
      ·rw[dE];exact hn
    | node x y =>
     rw[AO] at hd
     rw[AU] at hn
     refine aJ rfl (aJ rfl (iJ p a _ (s1.seq hp) (cp (uF (k:=0) hd rfl)) ⟨rfl,aJ rfl ?_⟩))
     refine pd ?_
     refine iP (fun σ' H'=>σ'=[some (.ref p),some (.ref q),some (iv a)]∧aM H H'∧H' q=some (.lst (vI (acc++[-1])))) (fun _ go2=>?_) ?_
     ·refine aJ rfl ⟨.inl ⟨rfl,_,cI.of e1⟩,q,_,aJ rfl ⟨rfl,e1,room,?_⟩⟩
      exact go2 _ _ ⟨rfl,s1.upd hq,by rw[aw,HX]⟩
     ·rintro σ' H2 ⟨rfl,s2,e2⟩
      refine aJ rfl ⟨_,aJ rfl ⟨rfl,?_⟩⟩
      refine ⟨(outs (x::y::ts)).length,by rw[AO];simp,x::y::ts,acc++[-1],a+1,rfl,rfl,?_,?_,?_,s2,e2⟩
      ·have:=congrArg (jk 1) hd
       rw[fI] at this
       exact this
      ·omega
      ·rw[dE];exact hn
  ·rintro σ H1 ⟨a,rfl,s1,e1⟩
   exact aJ rfl (k H1 q s1 hq e1)
def Ib (K:ai):Sp:=fun vs H Q _=>∃ (p:aj) (t:cF),vs=[.ref p]∧cI K H p (vI (gZ t))∧size t≤1000∧∀ H' q,aM H H'→H q=none→H' q=some (.lst (eX t.out))→Q (.ref q) H'
theorem Cc:bX ["tree","row","node"] ["tree"] (bB By):=kG
theorem L9:∀ l:List Int,(l.flatMap wr).length≤2*l.length
 | []=>by simp
 | x::l=>by
  have:=L9 l
  rw[bQ,aK,aU]
  have:(wr x).length≤2:=by unfold wr;split<;>simp
  omega
theorem NM {f:aj}{fd:bH}(F:jb K "write_tree" "write_tree" By f fd)(T:Df mg):cP P w K mg base fG 1 f fd ["tree"] (Ib K):=by
 obtain ⟨tj,hj⟩:=T.j
 obtain ⟨tw,hw⟩:=T.wj
 obtain ⟨tl,hwl⟩:=T.wl
 refine F.ok Cc (fun vs H Q E h=>?_) (fun gq A outer s H vs Q E hr h=>?_)
 ·obtain ⟨p,t,rfl,_⟩:=h
  rfl
 ·obtain ⟨p,t,rfl,hp,hz,k⟩:=h
  refine ⟨_,aE (cy (i:=1) Cc.nd rfl (bp rfl) (cS aA))
   (aE (gz bL rfl (eh (pv 0)) (cK (i:=2) Cc.nd rfl (bp rfl))
    (aR (fT (jU bN fX fW lZ (pv 1) (ah (yM (bU gC (pv 2) (cg (v:=.int (-1)) (by rfl) hj ⟨_,rfl⟩) (cq _)) (cS (ah (cg (v:=.int 1) (by rfl) hw ⟨_,rfl⟩) aA)) (cS (ah (cg (v:=.int 0) (by rfl) hwl ⟨_,rfl⟩) (ah (pv 2) aA)))) aA)))))
   (aR (bO (pv 1)))),?_⟩
  refine cQ ⟨aS _,fun q hq=>?_⟩
  have s0:aM H (upd H q (.lst [])):=aM.new hq
  refine ⟨_,rfl,p,rfl,⟨_,s0.seq hp⟩,iF (K:=K) (a:=p) (xs:=vI (gZ t)) (fun i σ H'=>∃ v2:Option V,σ=[some (.ref p),some (.ref q),v2]∧aM H H'∧H' q=some (.lst (vI (((gZ t).take i).flatMap wr))))
   ⟨none,rfl,s0,aw⟩ (fun i σ H' _ ⟨_,_,s1,_⟩=>s1.seq hp) ?_ ?_⟩
  ·rintro i y σ H1 hi ⟨v2,rfl,s1,e1⟩
   obtain ⟨x,hx,rfl⟩:∃ x,(gZ t)[i]?=some x∧y=V.int x:=by
    rw[aO] at hi
    cases e:(gZ t)[i]? with
    | none=>rw[e] at hi;cases hi
    | some x=>rw[e] at hi;exact ⟨x,rfl,(aH hi).symm⟩
   have room:(vI (((gZ t).take i).flatMap wr)).length+2≤aP:=by
    rw[ae]
    have h1:=L9 ((gZ t).take i)
    have h2:((gZ t).take i).length≤size t:=by rw[← fU,bP];omega
    exact aB (show _≤2002 by omega) (by decide)
   refine aJ rfl ⟨.inl ⟨rfl,_,cI.of e1⟩,aJ rfl ⟨rfl,aJ rfl ?_⟩⟩
   have step:((gZ t).take (i+1)).flatMap wr=((gZ t).take i).flatMap wr++wr x:=by rw[take_snoc hx,gF];simp
   refine gI (fun h1=>?_) fun h1=>?_
   ·have h1:=pz.mp h1
    refine ⟨oj,fun r dU=>?_⟩
    have s2:=aM.new (o:=.lst [V.int 1]) dU
    refine ⟨q,r,_,aJ rfl ⟨rfl,s2 _ _ e1,aw,by show _+1≤aP;omega,aJ rfl ⟨(s1.trans s2).upd hq,?_⟩⟩⟩
    rw[aw,step,Fx]
    congr 3
    unfold wr
    rw[if_pos h1]
    rfl
   ·have h1:x≠-1:=fun e=>h1 (pz.mpr e)
    refine aJ rfl ⟨Bm,fun r dU=>?_⟩
    have s2:=aM.new (o:=.lst [V.int 0,V.int x]) dU
    refine ⟨q,r,_,aJ rfl ⟨rfl,s2 _ _ e1,aw,by show _+2≤aP;omega,aJ rfl ⟨(s1.trans s2).upd hq,?_⟩⟩⟩
    rw[aw,step,Fx]
    congr 3
    unfold wr
    rw[if_neg h1]
    rfl
  ·rintro σ H1 ⟨v2,rfl,s1,e1⟩
   refine aJ rfl (k H1 q s1 hq ?_)
   rw[e1,ae,bI,Fw]
   show some (HO.lst (vI (Si35.ints t.out)))=_
   unfold Si35.ints vI eX
   rw[bx]
   rfl
def LZ (K:ai):Sp:=fun vs H Q _=>∃ (p:aj) (ns:List Int) (a:Nat) (u:cF) (suf:List Int),vs=[.ref p,iv a]∧cI K H p (vI ns)∧ns.drop a=gZ u++suf∧∀ H',aM H H'→Q (iv (a+size u)) H'
theorem Ht:bX ["tree","at","missing"] ["tree","at"] (bB PJ):=kG
theorem TQ {f:aj}{fd:bH}(F:jb K "end_of" "end_of" PJ f fd)(T:Df mg):cP P w K mg base fG 1 f fd ["tree","at"] (LZ K):=by
 obtain ⟨tj,hj⟩:=T.j
 refine F.ok Ht (fun vs H Q E h=>?_) (fun gq A outer s H vs Q E hr h=>?_)
 ·obtain ⟨p,ns,a,u,suf,rfl,_⟩:=h
  rfl
 ·obtain ⟨p,ns,a,u,suf,rfl,hp,hd,k⟩:=h
  refine ⟨_,aE (cy (i:=2) Ht.nd rfl (bp rfl) aZ)
   (aE (my bL (bU Dk (pv 2) aZ (cq _))
    (aE (cy (i:=2) Ht.nd rfl (bp rfl) (d4 eO (pv 2) (yM (bU gC (cA cM (pv 0) (pv 1) (fun _ _=>rfl)) (cg (v:=.int (-1)) (by rfl) hj ⟨_,rfl⟩) (cq _)) aZ (qM mj aZ))))
     (aR (cy (i:=1) Ht.nd rfl (bp rfl) (d4 eO (pv 1) aZ)))))
   (aR (bO (pv 1)))),?_⟩
  refine cQ ?_
  refine iP (fun σ H'=>∃ v,σ=[some (.ref p),some (iv (a+size u)),v]∧aM H H') (fun _ go=>?_) ?_
  ·refine ⟨fun m σ H'=>∃ (ts:List cF) (b:Nat),σ=[some (.ref p),some (iv b),some (iv ts.length)]∧m=(mi ts).length∧ns.drop b=mi ts++suf∧b+(mi ts).length=a+size u∧H'=H,⟨_,[u],a,rfl,rfl,by rw[yR];exact hd,by rw[yR,fU],rfl⟩,?_⟩
   rintro m σ H1 ⟨ts,b,rfl,rfl,hb,hz,rfl⟩
   refine aJ rfl ⟨_,aJ rfl ⟨rfl,aJ rfl ?_⟩⟩
   cases ts with
   | nil =>
    have hbb:b=a+size u:=by
     have z:(mi []).length=0:=rfl
     omega
    subst hbb
    exact nN (go _ _ (aJ rfl (aM.refl _)))
   | cons t ts =>
    rw[show decide (((t::ts).length:Int) > 0)=true from decide_eq_true (by simp)]
    refine pd ⟨fun σ' H'=>∃ m',m'<(mi (t::ts)).length∧∃ (ts':List cF) (b:Nat),σ'=[some (.ref p),some (iv b),some (iv ts'.length)]∧m'=(mi ts').length∧ns.drop b=mi ts'++suf∧b+(mi ts').length=a+size u∧H'=H1,fun σ' H' h=>h,?_⟩
    have at0:∀ x r,mi (t::ts)=x::r→ns[b]?=some x:=fun x r e=>by
     have:(ns.drop b)[0]?=some x:=by rw[hb,e];rfl
     rw[nH] at this
     exact this
    have next:∀ x r,mi (t::ts)=x::r→ns.drop (b+1)=r++suf:=fun x r e=>by
     have:=congrArg (jk 1) hb
     rw[fI,e] at this
     exact this
    cases t with
    | leaf l =>
     have en:=AV l ts
     refine cQ (aJ rfl (aJ rfl (aJ rfl ⟨p,_,b,aJ rfl ⟨rfl,hp,cp (tR (at0 _ _ en)),rfl,aJ rfl ?_⟩⟩)))
     rw[show decide (V.int (l:Int)=V.int (-1))=false from decide_eq_false fun e=>by injection e with e;omega]
     refine nN (aJ rfl ⟨_,aJ rfl ⟨rfl,?_⟩⟩)
     refine aJ rfl ⟨_,aJ rfl ⟨rfl,(mi ts).length,by rw[en];simp,ts,b+1,?_,rfl,next _ _ en,?_,rfl⟩⟩
     ·have:(((cF.leaf l::ts).length:Nat):Int)+-1=((ts.length:Nat):Int):=by simp;omega
      show [_,_,some (V.int _)]=_
      rw[this]
      rfl
     ·rw[en] at hz
      simp at hz
      omega
    | node x y =>
     have en:=AU x y ts
     refine cQ (aJ rfl (aJ rfl (aJ rfl ⟨p,_,b,aJ rfl ⟨rfl,hp,cp (tR (at0 _ _ en)),rfl,aJ rfl ?_⟩⟩)))
     refine pd ⟨_,aJ rfl ⟨rfl,?_⟩⟩
     refine aJ rfl ⟨_,aJ rfl ⟨rfl,(mi (x::y::ts)).length,by rw[en];simp,x::y::ts,b+1,?_,rfl,next _ _ en,?_,rfl⟩⟩
     ·have:(((cF.node x y::ts).length:Nat):Int)+1=(((x::y::ts).length:Nat):Int):=by simp
      show [_,_,some (V.int _)]=_
      rw[this]
      rfl
     ·rw[en] at hz
      simp at hz ⊢
      omega
  ·rintro σ H1 ⟨v,rfl,s1⟩
   exact aJ rfl (k H1 s1)
def Ca (K:ai):Sp:=fun vs H Q _=>∃ (p:aj) (t:cF) (a:Nat),vs=[.ref p,iv a]∧cI K H p (vI (gZ t))∧a<size t∧∀ H' q,aM H H'→H q=none→H' q=some (.lst (eX (g5 t a)))→Q (.ref q) H'
theorem Qh:bX ["tree","at"] ["tree","at"] (bB BE):=kG
theorem NS {f fe:aj}{fd fde:bH}(F:jb K "parts_of" "parts_of" BE f fd)(T:Df mg)(G:cP P w K mg base fG 1 fe fde ["tree","at"] (LZ K))(me:mg "end_of"=some (.ref fe))(ke:aQ K (.ref fe)=true)(be:Binds K fde ["tree","at"] []) :
  cP P w K mg base fG 2 f fd ["tree","at"] (Ca K):=by
 obtain ⟨tj,hj⟩:=T.j
 refine F.ok Qh (fun vs H Q E h=>?_) (fun gq A outer s H vs Q E hr h=>?_)
 ·obtain ⟨p,t,a,rfl,_⟩:=h
  rfl
 ·obtain ⟨p,t,a,rfl,hp,ha,k⟩:=h
  refine ⟨_,aE (eG (bU wy (cA cM (pv 0) (pv 1) (fun _ _=>rfl)) (cg (v:=.int (-1)) (by rfl) hj ⟨_,rfl⟩) (cq _)) (aR (bO (cS aA))) cX)
   (aR (bO (cS (ah (d4 eO (pv 1) aZ) (ah (cj G hr rfl me ke be .nil cU (ah (pv 0) (ah (d4 eO (pv 1) aZ) aA))) aA))))),?_⟩
  have hat:=Mx t a ha
  unfold g5 at k
  refine aJ rfl (aJ rfl ⟨p,_,a,aJ rfl ⟨rfl,hp,cp (tR hat),rfl,aJ rfl ?_⟩⟩)
  cases e:subAt t a with
  | leaf l =>
   rw[e] at k
   show if (!decide (V.int (l:Int)=V.int (-1)))=true then _ else _
   rw[show (!decide (V.int (l:Int)=V.int (-1)))=true from MF.mpr (by omega)]
   refine pd ⟨aS _,fun q hq=>k _ q (aM.new hq) hq aw⟩
  | node x y =>
   rw[e] at k
   show if (!decide (V.int (-1)=V.int (-1)))=true then _ else _
   rw[show (!decide (V.int (-1)=V.int (-1)))=false from by simp]
   refine nN ?_
   obtain ⟨g1,g2,g3⟩:=oC t a x y ha e
   obtain ⟨pre,suf,h1,h2,_⟩:=lX t (a+1) (by have:=size_pos x;omega)
   have hd:(gZ t).drop (a+1)=gZ x++suf:=by
    rw[h2,g2,← h1,iu]
   refine aJ rfl ⟨_,aJ rfl ⟨rfl,aJ rfl (aJ rfl ⟨_,aJ rfl ⟨rfl,p,gZ t,a+1,x,suf,rfl,hp,hd,fun H1 s1=>⟨Bm,fun q hq=>k _ q (s1.trans (aM.new hq)) (s1.free hq) ?_⟩⟩⟩)⟩⟩
   rw[aw]
   rfl
end
def dI (l:List Int):yu:=.list (l.map .int)
theorem w4:∀ a b:List Int,uj (a.map .int) (b.map .int)=decide (a=b)
 | [],[]=>rfl
 | [],_::_=>by simp[uj]
 | _::_,[]=>by simp[uj]
 | x::a,y::b=>by
  rw[bq,bq,uj,w4 a b]
  show (x==y&&decide (a=b))=_
  rw[eM]
  simp
theorem Oj (a b:List Int):Jq (dI a) (dI b)=decide (a=b):=by
 unfold dI
 rw[Jq]
 exact w4 a b
theorem shaped_ints (a:List Int):wo (dI a)=true:=by
 have d0:∀ l:List Int,OY (l.map .int)=0:=by
  intro l
  induction l with
  | nil=>rfl
  | cons x l ih=>rw[bq,OY,ih];rfl
 unfold wo dI
 rw[bA]
 refine ⟨?_,?_⟩
 ·rw[yu.canLay0];exact canLayAll_ints a
 ·rw[yu.depth,d0];decide
theorem IZ {K:ai}{H:Hp}{a:aj}{l:List Int}(h:cI K H a (vI l)):Dp K H (.ref a) (dI l):=by
 have go:∀ l:List Int,yy K H (vI l) (l.map .int):=by
  intro l
  induction l with
  | nil=>exact .nil
  | cons x l ih=>exact .cons (.int x) ih
 exact .lst h (go l)
def Mm (K:ai):Sp:=fun vs H Q _=>∃ (p:aj) (t:cF) (n:Nat),vs=[.ref p,iv n]∧cI K H p (vI (gZ t))∧size t≤1000∧n≤1000∧∀ H',aM H H'→Q (.bl (sY n t)) H'
theorem uW:∀ (ms:List Int),(∀ x∈ms,0≤x)→∃ l:List Nat,ms=l.map fun (n:Nat)=>(n:Int)
 | [],_=>⟨[],rfl⟩
 | x::ms,h=>by
  obtain ⟨l,e⟩:=uW ms fun y hy=>h y (ao _ hy)
  have:=h x ax
  exact ⟨x.toNat::l,by rw[bq,← e];congr 1;omega⟩
theorem wU:∀ {l m:List Nat},(l.map fun (n:Nat)=>(n:Int))=m.map (fun (n:Nat)=>(n:Int))→l=m
 | [],[],_=>rfl
 | [],_::_,h=>by simp at h
 | _::_,[],h=>by simp at h
 | a::l,b::m,h=>by
  rw[bq,bq] at h
  injection h with h1 h2
  rw[wU h2,show a=b by omega]
theorem NH:∀ {l m:List Nat},(l.map fun (n:Nat)=>(n:Int)).Perm (m.map fun (n:Nat)=>(n:Int))→l.Perm m:=fun {l m} h=>by
 have:=h.map j9
 rw[bx,bx] at this
 have e:∀ l:List Nat,l.map (j9∘fun (n:Nat)=>(n:Int))=l:=fun l=>by
  rw[dt (g:=id) fun x _=>by simp,Jr]
 rw[e,e] at this
 exact this
section
variable {P:aV}{w:bK}{K:ai}{mg:bZ→Option ag}{base:bW}
theorem FL:bX ["tree","languages","node"] ["tree","languages"] (bB HG):=kG
theorem QB {f:aj}{fd:bH}(F:jb K "has_each_once" "has_each_once" HG f fd)(T:Df mg):cP P w K mg base fG 1 f fd ["tree","languages"] (Mm K):=by
 obtain ⟨tj,hj⟩:=T.j
 refine F.ok FL (fun vs H Q E h=>?_) (fun gq A outer s H vs Q E hr h=>?_)
 ·obtain ⟨p,t,n,rfl,_⟩:=h
  rfl
 ·obtain ⟨p,t,n,rfl,hp,hz,hn,k⟩:=h
  refine ⟨_,aR (bO (pF (TH hr.units)
   (bR GV (by rfl) T.sorted PZ (ah (jm rfl FL.nd (eh (pv 0)) (dX (own:=[("node",2)]) (by rfl)) (fun _ _ _ _ _=>cK (i:=2) FL.nd rfl (bp rfl)) (fun _ _ _ _ _=>pD (bU wy (pv 2) (cg (v:=.int (-1)) (by rfl) hj ⟨_,rfl⟩) (cq _))) (fun _ _ _ _ _=>pv 2)) aA))
   (CD rfl (by rfl) T.list (by rfl) T.range (pv 1)) (cq _))),?_⟩
  have room:(vI (gZ t)).length<aP:=by
   rw[ae,fU]
   exact aF hz (by decide)
  refine aJ rfl ⟨p,rfl,⟨_,hp⟩,fun D hD=>pG (fun x=>!decide (x=V.int (-1))) (fun x=>x) hD hp room (fun x=>rfl) (fun x hx H1 s1 R hR=>?_) (fun x hx _ H1 s1 R hR=>⟨_,rfl,hR _ (aM.refl _)⟩) (fun H1 s1 e1=>?_)⟩
  ·obtain ⟨y,_,rfl⟩:=aX.mp hx
   exact aJ rfl ⟨rfl,aJ rfl (hR _ (aM.refl _))⟩
  have ef:((vI (gZ t)).filter fun x=>!decide (x=V.int (-1))).map (fun x=>x)=vI (t.leaves.map fun (l:Nat)=>(l:Int)):=by
   rw[qv,← tZ,zR]
   congr 1
   refine congrArg (fun p=>oX p (gZ t)) (funext fun x=>?_)
   show (!decide (V.int x=V.int (-1)))=decide (x≠-1)
   rw[eM,MF,decide_eq_true_iff]
  rw[ef] at e1
  refine ⟨D,aJ rfl ⟨cI.of e1,fun ms q hp1 hp2 hq=>?_⟩⟩
  refine aJ rfl ⟨n,rfl,hn,fun r dU=>?_⟩
  have s2:=aM.new (o:=.lst (vI ms)) hq
  have s3:=aM.new (o:=.lst ((br n).map fun (i:Nat)=>V.int (i:Int))) dU
  have er:((br n).map fun (i:Nat)=>V.int (i:Int))=vI ((br n).map fun (i:Nat)=>(i:Int)):=by unfold vI;rw[bx];rfl
  refine ⟨dI ms,dI ((br n).map fun (i:Nat)=>(i:Int)),IZ (cI.of (s3 _ _ aw)),IZ (cI.of (by rw[aw,er])),shaped_ints _,shaped_ints _,?_⟩
  rw[Oj]
  obtain ⟨l,el⟩:=uW ms fun x hx=>by
   obtain ⟨m,_,e⟩:=aX.mp (hp1.mem_iff.mp hx)
   omega
  subst el
  have hs:l.Pairwise (·≤·):=by
   rw[gm] at hp2
   exact hp2.imp fun q=>by omega
  have:=k _ ((s1.trans s2).trans s3)
  rw[P2 n t l (NH hp1) hs] at this
  have ed:decide ((l.map fun (n:Nat)=>(n:Int))=(br n).map fun (i:Nat)=>(i:Int))=decide (l=br n):=decide_eq_decide.mpr ⟨wU,fun e=>by rw[e]⟩
  rw[ed]
  exact this
def ye (H:Hp)(p:aj)(ts:List cF):Prop:=∃ rs:List aj,H p=some (.lst (rs.map V.ref))∧Paired (fun r t=>H r=some (.lst (vI (gZ t)))) rs ts
theorem y1 {H H2:Hp}{g r:aj}{xs ys:List V}{t:cF}(s:aM H H2)(hg:H2 g=some (.lst xs))(hr:H2 r=some (.lst (vI (gZ t))))(ng:r≠g):∀ {rs:List aj} {ts:List cF},Paired (fun r t=>r≠g∧H r=some (.lst (vI (gZ t)))) rs ts→Paired (fun r t=>r≠g∧upd H2 g (.lst ys) r=some (.lst (vI (gZ t)))) (rs++[r]) (ts++[t])
 | _,_,.nil=>.cons ⟨ng,by rw[aW ng];exact hr⟩ .nil
 | _,_,.cons a t=>.cons ⟨a.1,by rw[aW a.1];exact s _ _ a.2⟩ (y1 s hg hr ng t)
theorem F1 (ns:List Int)(lo hi:Option Int):zW (vI ns) lo hi=vI ((ns.drop (HT.Af ns.length 0 lo)).take (HT.Af ns.length ns.length hi - HT.Af ns.length 0 lo)):=by
 unfold zW
 rw[ae,← List.map_drop,← List.map_take]
theorem Uh (ns:List Int){j:Nat}(h:j≤ns.length):zW (vI ns) none (some (j:Int))=vI (ns.take j):=by rw[F1,HT.DS,HT.xN,mI h];rfl
theorem x6 (ns:List Int){i j:Nat}(hi:i≤ns.length)(hj:j≤ns.length):zW (vI ns) (some (i:Int)) (some (j:Int))=vI ((ns.drop i).take (j - i)):=by rw[F1,HT.xN,HT.xN,mI hi,mI hj]
theorem Oy (ns:List Int){j:Nat}(h:j≤ns.length):zW (vI ns) (some (j:Int)) none=vI (ns.drop j):=by
 rw[F1,HT.DS,HT.xN,mI h,Fl (by rw[cv];omega)]
theorem u6 {H:Hp}{a b:aj}{xs zs:List Int}{Q:VK}(ha:H a=some (.lst (vI xs)))(hb:H b=some (.lst (vI zs)))(hz:xs.length+zs.length≤1000)(k:∀ p,H p=none→Q (.ref p) (upd H p (.lst (vI (xs++zs))))):Vb (.ref a) (.ref b) H Q :=
 ⟨a,b,vI xs,vI zs,rfl,rfl,ha,hb,by rw[ae,ae];exact aB hz (by decide),fun p hp=>by rw[← Fx];exact k p hp⟩
def Ic (K:ai):Sp:=fun vs H Q _=>∃ (p:aj) (ts:List cF) (l:Nat),vs=[.ref p,iv l]∧ye H p ts∧(∀ t∈ts,size t≤20)∧ts.length≤105∧∀ H' q,aM H H'→ye H' q (ts.flatMap (kz l))→Q (.ref q) H'
theorem uC:bX ["trees","language","grown","tree","at","end"] ["trees","language"] (bB Bz):=kG
theorem IQ (l:Nat):∀ ts:List cF,(∀ t∈ts,size t≤20)→(ts.flatMap (kz l)).length≤20*ts.length
 | [],_=>by simp
 | t::ts,h=>by
  have h1:=IQ l ts fun u hu=>h u (ao _ hu)
  have h2:=h t ax
  rw[bQ,aK,zu,aU]
  omega
theorem NN {f fe:aj}{fd fde:bH}(F:jb K "with_language" "with_language" Bz f fd)(T:Df mg)(G:cP P w K mg base fG 1 fe fde ["tree","at"] (LZ K))(me:mg "end_of"=some (.ref fe))(ke:aQ K (.ref fe)=true)(be:Binds K fde ["tree","at"] []) :
  cP P w K mg base fG 2 f fd ["trees","language"] (Ic K):=by
 obtain ⟨tj,hj⟩:=T.j
 refine F.ok uC (fun vs H Q E h=>?_) (fun gq A outer s H vs Q E hr h=>?_)
 ·obtain ⟨p,ts,l,rfl,_⟩:=h
  rfl
 ·obtain ⟨p,ts,l,rfl,⟨rs,hp,pr⟩,hz,hn,k⟩:=h
  refine ⟨_,aE (cy (i:=2) uC.nd rfl (bp rfl) (cS aA))
   (aE (gz bL rfl (eh (pv 0)) (cK (i:=3) uC.nd rfl (bp rfl))
    (aR (gz bL rfl (oP rfl T.range (ah (bR bG (by rfl) T.len bj (ah (pv 3) aA)) aA)) (cK (i:=4) uC.nd rfl (bp rfl))
     (aE (cy (i:=5) uC.nd rfl (bp rfl) (cj G hr rfl me ke be .nil cU (ah (pv 3) (ah (pv 4) aA))))
      (aR (fT (jU bN cE cD gG (pv 2) (ah
       (d4 jx (d4 jx (d4 jx (d4 jx (oI rW (pv 3) IC (kW (pv 4))) (cS (ah (cg (v:=.int (-1)) (by rfl) hj ⟨_,rfl⟩) aA))) (oI rW (pv 3) (kW (pv 4)) (kW (pv 5)))) (cS (ah (pv 1) aA))) (oI rW (pv 3) (kW (pv 5)) IC)) aA))))))))
   (aR (bO (pv 2)))),?_⟩
  refine cQ ⟨aS _,fun g hg=>?_⟩
  have s0:aM H (upd H g (.lst [])):=aM.new hg
  let Got:Hp→List cF→Prop:=fun H' us=>aM H H'∧∃ qs:List aj,H' g=some (.lst (qs.map V.ref))∧Paired (fun r t=>r≠g∧H' r=some (.lst (vI (gZ t)))) qs us
  have most:∀ i,((ts.take i).flatMap (kz l)).length≤2100:=fun i=>by
   have h1:=IQ l (ts.take i) fun t ht=>hz t (lP ht)
   have h2:(ts.take i).length≤ts.length:=by rw[bP];omega
   omega
  refine ⟨_,rfl,p,rfl,⟨_,cI.of (s0 _ _ hp)⟩,iF (K:=K) (a:=p) (xs:=rs.map V.ref) (fun i σ H'=>∃ v3 v4 v5:Option V,σ=[some (.ref p),some (iv l),some (.ref g),v3,v4,v5]∧Got H' ((ts.take i).flatMap (kz l)))
   ⟨none,none,none,rfl,s0,[],aw,.nil⟩ (fun i σ H' _ ⟨_,_,_,_,s1,_⟩=>cI.of (s1 _ _ hp)) ?_ ?_⟩
  ·rintro i y σ H1 hi ⟨v3,v4,v5,rfl,s1,qs,e1,p1⟩
   obtain ⟨r,nY,rfl⟩:=fq hi
   obtain ⟨t,ht,hrt⟩:=cZ pr nY
   have hsz:=hz t (aY ht)
   have lv:((vI (gZ t)).length:Int)=(size t:Int):=by rw[ae,fU]
   refine aJ rfl ⟨r,aJ rfl ⟨.inl (cI.of (s1 _ _ hrt)),(size t:Int),by rw[lv],by omega,by omega,?_⟩⟩
   rw[bT]
   refine oQ (fun j σ H'=>∃ v4 v5:Option V,σ=[some (.ref p),some (iv l),some (.ref g),some (.ref r),v4,v5]∧Got H' ((ts.take i).flatMap (kz l)++(br j).map (putAt l t)))
    ⟨v4,v5,rfl,s1,qs,e1,by rw[List.range_zero,fH,bY];exact p1⟩ ?_ ?_
   ·rintro j σ H2 hj' ⟨v4,v5,rfl,s2,qs2,e2,p2⟩
    have ej:(0:Int)+(j:Int)=(j:Int):=Gf _
    rw[ej]
    obtain ⟨pre,suf,q1,q2,q3⟩:=lX t j hj'
    have hd:(gZ t).drop j=gZ (subAt t j)++suf:=by rw[q2,← q1,iu]
    have zt:pre.length+(size (subAt t j)+suf.length)=size t:=by
     have:=congrArg dJ q2
     rw[fU,aK,aK,fU] at this
     exact this.symm
    refine cQ (aJ rfl (aJ rfl ⟨r,gZ t,j,subAt t j,suf,rfl,cI.of (s2 _ _ hrt),hd,fun H3 s3=>?_⟩))
    have s23:=s2.trans s3
    have hrt3:=s23 _ _ hrt
    refine aJ rfl ⟨.inl ⟨rfl,_,cI.of (s3 _ _ e2)⟩,?_⟩
    refine aJ rfl (aJ rfl (aJ rfl ⟨r,aJ rfl ⟨cI.of hrt3,fun a1 ha1=>?_⟩⟩))
    have ln:(gZ t).length=size t:=fU t
    have lj:j≤(gZ t).length:=by omega
    have le:j+size (subAt t j)≤(gZ t).length:=by omega
    rw[Uh (gZ t) lj]
    have c1:(gZ t).take j=pre:=by rw[q2,← q1,nF]
    rw[c1]
    have t1:=aM.new (o:=.lst (vI pre)) ha1
    refine ⟨oj,fun a2 ha2=>?_⟩
    have t2:=aM.new (o:=.lst [V.int (-1)]) ha2
    refine u6 (zs:=[-1]) (t2 _ _ aw) aw (by simp;omega) fun a3 ha3=>?_
    have t3:=aM.new (o:=.lst (vI (pre++[-1]))) ha3
    refine aJ rfl (aJ rfl (aJ rfl (aJ rfl (aJ rfl ⟨r,aJ rfl ⟨cI.of (t3 _ _ (t2 _ _ (t1 _ _ hrt3))),fun a4 ha4=>?_⟩⟩))))
    rw[x6 (gZ t) lj le,hd,gp,show (gZ (subAt t j)++suf).take (size (subAt t j))=gZ (subAt t j) by rw[← fU,nF]]
    have t4:=aM.new (o:=.lst (vI (gZ (subAt t j)))) ha4
    refine u6 (t4 _ _ aw) aw (by simp[fU];omega) fun a5 ha5=>?_
    have t5:=aM.new (o:=.lst (vI (pre++[-1]++gZ (subAt t j)))) ha5
    refine aJ rfl ⟨oj,fun a6 ha6=>?_⟩
    have t6:=aM.new (o:=.lst [iv l]) ha6
    refine u6 (zs:=[(l:Int)]) (t6 _ _ aw) aw (by simp[fU];omega) fun a7 ha7=>?_
    have t7:=aM.new (o:=.lst (vI (pre++[-1]++gZ (subAt t j)++[(l:Int)]))) ha7
    refine aJ rfl (aJ rfl (aJ rfl ⟨r,aJ rfl ⟨cI.of (t7 _ _ (t6 _ _ (t5 _ _ (t4 _ _ (t3 _ _ (t2 _ _ (t1 _ _ hrt3))))))),fun a8 ha8=>?_⟩⟩))
    have cf:(gZ t).drop (j+size (subAt t j))=suf:=by
     have:=congrArg (jk (size (subAt t j))) hd
     rw[fI,← fU,iu] at this
     rw[← fU]
     exact this
    rw[Oy (gZ t) le,cf]
    have t8:=aM.new (o:=.lst (vI suf)) ha8
    refine u6 (t8 _ _ aw) aw (by simp[fU];omega) fun a9 ha9=>?_
    have t9:=aM.new (o:=.lst (vI (pre++[-1]++gZ (subAt t j)++[(l:Int)]++suf))) ha9
    have all:=(((((((t1.trans t2).trans t3).trans t4).trans t5).trans t6).trans t7).trans t8).trans t9
    have en:pre++[-1]++gZ (subAt t j)++[(l:Int)]++suf=gZ (putAt l t j):=by rw[q3 l];simp
    have e9:=(s3.trans all) _ _ e2
    refine ⟨g,_,aJ rfl ⟨rfl,e9,?_,?_⟩⟩
    ·rw[ae,bC p2,aK,ae,c6]
     have:=most i
     exact aF (show _≤2120 by omega) (by decide)
    ·refine ⟨_,aJ rfl ⟨((s23.trans all).upd hg),qs2++[a9],by rw[aw,ba];rfl,?_⟩⟩
     rw[RP,ba,← dE]
     refine y1 (s3.trans all) e9 (by rw[aw,en]) (fun z=>?_) p2
     have old:=(s3.trans (((((((t1.trans t2).trans t3).trans t4).trans t5).trans t6).trans t7).trans t8)) _ _ e2
     rw[z] at ha9
     rw[old] at ha9
     cases ha9
   ·rintro σ H2 ⟨v4,v5,rfl,s2,qs2,e2,p2⟩
    refine ⟨_,_,aJ rfl ⟨s2,qs2,e2,?_⟩⟩
    rw[take_snoc ht,gF,bQ,lB,bY,mF]
    exact p2
  ·rintro σ H1 ⟨v3,v4,v5,rfl,s1,qs,e1,p1⟩
   refine aJ rfl (k H1 g s1 ⟨qs,e1,?_⟩)
   rw[ae,bC pr,bI] at p1
   have drop:∀ {qs:List aj} {us:List cF},Paired (fun r t=>r≠g∧H1 r=some (.lst (vI (gZ t)))) qs us→Paired (fun r t=>H1 r=some (.lst (vI (gZ t)))) qs us:=by
    intro qs us h
    induction h with
    | nil=>exact .nil
    | cons a t ih=>exact .cons a.2 ih
   exact drop p1
end
def Mq:Sp:=fun vs H Q _=>∃ n:Nat,vs=[iv n]∧1≤n∧n≤5∧∀ H' q,aM H H'→ye H' q (eQ n)→Q (.ref q) H'
section
variable {P:aV}{w:bK}{K:ai}{mg:bZ→Option ag}{base:bW}
theorem Bx:bX ["languages","trees","language"] ["languages"] (bB HK):=kG
theorem QF {f fe:aj}{fd fde:bH}(F:jb K "all_trees" "all_trees" HK f fd)(T:Df mg)(G:cP P w K mg base fG 2 fe fde ["trees","language"] (Ic K))(me:mg "with_language"=some (.ref fe))(ke:aQ K (.ref fe)=true)(be:Binds K fde ["trees","language"] []) :
  cP P w K mg base fG 3 f fd ["languages"] Mq:=by
 refine F.ok Bx (fun vs H Q E h=>?_) (fun gq A outer s H vs Q E hr h=>?_)
 ·obtain ⟨n,rfl,_⟩:=h
  rfl
 ·obtain ⟨n,rfl,h1,h5,k⟩:=h
  refine ⟨_,aE (cy (i:=1) Bx.nd rfl (bp rfl) (cS (ah (cS (ah aZ aA)) aA)))
   (aE (gz bL rfl (AK rfl T.range (ah aZ (ah (pv 0) aA))) (cK (i:=2) Bx.nd rfl (bp rfl))
    (aR (cy (i:=1) Bx.nd rfl (bp rfl) (cj G hr rfl me ke be .nil cU (ah (pv 1) (ah (pv 2) aA))))))
   (aR (bO (pv 1)))),?_⟩
  refine cQ ⟨oj,fun a ha=>⟨oj,fun q hq=>?_⟩⟩
  have s1:=aM.new (o:=.lst [V.int 0]) ha
  have s2:=aM.new (o:=.lst [V.ref a]) hq
  have s0:=s1.trans s2
  refine aJ rfl ⟨_,aJ rfl ⟨⟨by omega,by omega,by omega,by omega⟩,?_⟩⟩
  have en:((n:Int) - 1).toNat=n - 1:=by omega
  rw[en]
  refine oQ (fun i σ H'=>∃ (r:aj) (v2:Option V),σ=[some (iv n),some (.ref r),v2]∧aM H H'∧ye H' r (eQ (i+1)))
   ⟨q,none,rfl,s0,[a],aw,.cons (s2 _ _ aw) .nil⟩ ?_ ?_
  ·rintro i σ H1 hi ⟨r,v2,rfl,s3,tr⟩
   have ei:(1:Int)+(i:Int)=((i+1:Nat):Int):=by omega
   rw[ei]
   refine aJ rfl (aJ rfl ⟨r,_,i+1,rfl,tr,fun t ht=>?_,?_,fun H2 r2 s4 tr2=>⟨r2,_,rfl,s3.trans s4,tr2⟩⟩)
   ·have:=pJ i t ht
    omega
   ·exact As (i+1) (by omega)
  ·rintro σ H1 ⟨r,v2,rfl,s3,tr⟩
   refine aJ rfl (k H1 r s3 ?_)
   have:n - 1+1=n:=by omega
   rw[this] at tr
   exact tr
end
theorem x3 {x:Nat}{l:List Nat}:((x:Int)∈l.map fun (n:Nat)=>(n:Int))↔x∈l:=by
 constructor
 ·intro h
  obtain ⟨y,hy,e⟩:=aX.mp h
  have e:y=x:=by omega
  exact e▸hy
 ·exact fun h=>aX.mpr ⟨x,h,rfl⟩
theorem IJ {K:ai}{a:aj}{xs:List V}{j:Nat}{tt:TT}{te:TE}{vs:List Nat}{σ:L2.St}{H1:Hp}{D:aj}{Qd:Hp→Prop}(p:V→Bool)(f:V→V)(hD:H1 D=none)(hl:fR K H1 a xs)(hz:xs.length<aP)
  (hw:∀ x,wipe ((wipe σ vs).set j (some x)) vs=wipe σ vs)
  (hp:∀ x∈xs,∀ H,aM H1 H→∀ R:Bool→Hp→Prop,(∀ H',aM H H'→R (p x) H')→tt ((wipe σ vs).set j (some x)) H R)
  (he:∀ x∈xs,p x=true→∀ H,aM H1 H→∀ R:V→Hp→Prop,(∀ H',aM H H'→R (f x) H')→te ((wipe σ vs).set j (some x)) H R)
  (hd:∀ H',aM H1 H'→H' D=some (.lst ((xs.filter p).map f))→Qd H') :
  ∃ W:Nat→Nat→Hp→Prop,(∃ m,W 0 m (upd H1 D (.lst [])))∧∀ i m H,W i m H →
   ((R6 K a).stop i H∧Qd H)∨((R6 K a).go i H∧∃ Nx:Hp→Prop,(∀ H',Nx H'→∃ m',m'<m∧W (i+1) m' H')∧∀ x H',(R6 K a).zO i H x H'→mY j x (wipe σ vs) H' fun σ2 H2=>wipe σ2 vs=wipe σ vs∧tt σ2 H2 fun b H3 =>
    if b=true then te σ2 H3 fun y H4=>∃ acc,H4 D=some (.lst acc)∧acc.length<aP∧Nx (upd H4 D (.lst (acc++[y]))) else Nx H3):=by
 refine T4 (fun i H=>aM H1 H∧H D=some (.lst (((xs.take i).filter p).map f))) ⟨aM.new hD,aw⟩ (fun i H _ h=>h.1.tup hl) (fun i x H hx h=>?_) (fun H h=>?_)
 ·obtain ⟨s1,e⟩:=h
  have mx:=aY hx
  refine ⟨hw x,hp x mx H s1 _ fun H3 s3=>?_⟩
  have s13:=s1.trans s3
  cases hpx:p x with
  | false =>
   refine nN ⟨s13,?_⟩
   rw[fZ p hx,hpx,if_neg (by decide),bY]
   exact s3 _ _ e
  | true =>
   refine pd (he x mx hpx H3 s13 _ fun H4 s4=>⟨_,s4 _ _ (s3 _ _ e),?_,fun b u q=>?_,?_⟩)
   ·rw[ae]
    exact aF (gY xs i p) hz
   ·rw[aW (dj q hD)]
    exact s4 _ _ (s13 _ _ q)
   ·rw[aw,fZ p hx,hpx,if_pos rfl,ba]
    rfl
 ·obtain ⟨s1,e⟩:=h
  rw[bI] at e
  exact hd H s1 e
theorem _root_.L2.vB {X:Cx}{K:ai}{i j:Nat}{x y:bZ}{px py pos:jR}{k:Nat}(hK:X.K=K)(hc:X.calm=true)(hN:X.N.Nodup)(hi:X.N[i]?=some x)(hx:Loc X.env.scope x)(hj:X.N[j]?=some y)(hy:Loc X.env.scope y)
  (hf:X.fn x=true∨X.env.scope.names.lookup x=some .local:=by first | exact .inl rfl | exact .inr rfl)(hg:X.fn y=true∨X.env.scope.names.lookup y=some .local:=by first | exact .inl rfl | exact .inr rfl) :
  PG X (.Tuple [.Name x px,.Name y py] k pos) (Vg K 2 (L4 (mY i) (L4 (mY j) Vh))):=by
 subst hK
 exact yE hc (jo (cK hN hi hx hf) (jo (cK hN hj hy hg) uE))
theorem Eb {d:aj}{o:fD}{kvs:List (Key×V)}{g:TG}{tt:TT}{te:TE}{vs:List Nat}{σ:L2.St}{H1:Hp}{D:aj}{Qd:Hp→Prop}(Pv:Nat→Hp→Prop)(h0:Pv 0 (upd H1 D (.lst [])))(hl:∀ i H,Pv i H→H d=some (.lT o (.dK kvs)))
  (hs:∀ i k v H T,kvs[i]?=some (k,v)→Pv i H→H T=none→g (.ref T) (wipe σ vs) (upd H T (.tup [kV k,v])) fun σ2 H2=>wipe σ2 vs=wipe σ vs∧tt σ2 H2 fun b H3 =>
   if b=true then te σ2 H3 fun y H4=>∃ acc,H4 D=some (.lst acc)∧acc.length<aP∧Pv (i+1) (upd H4 D (.lst (acc++[y]))) else Pv (i+1) H3)(hd:∀ H,Pv kvs.length H→Qd H) :
  ∃ W:Nat→Nat→Hp→Prop,(∃ m,W 0 m (upd H1 D (.lst [])))∧∀ i m H,W i m H →
   ((U0 d o kvs).stop i H∧Qd H)∨((U0 d o kvs).go i H∧∃ Nx:Hp→Prop,(∀ H',Nx H'→∃ m',m'<m∧W (i+1) m' H')∧∀ x H',(U0 d o kvs).zO i H x H'→g x (wipe σ vs) H' fun σ2 H2=>wipe σ2 vs=wipe σ vs∧tt σ2 H2 fun b H3 =>
    if b=true then te σ2 H3 fun y H4=>∃ acc,H4 D=some (.lst acc)∧acc.length<aP∧Nx (upd H4 D (.lst (acc++[y]))) else Nx H3):=by
 refine ⟨fun i m H=>m=kvs.length - i∧i≤kvs.length∧Pv i H,⟨_,rfl,aS _,h0⟩,?_⟩
 rintro i m H ⟨rfl,hi,p⟩
 by_cases lt:i<kvs.length
 ·refine .inr ⟨⟨hl i H p,lt⟩,Pv (i+1),fun H' p'=>⟨_,by omega,rfl,by omega,p'⟩,?_⟩
  rintro x H' ⟨T,k,v,e,rfl,hT,rfl⟩
  exact hs i k v H T e p hT
 ·have e:i=kvs.length:=by omega
  exact .inl ⟨⟨hl i H p,by omega⟩,hd H (e▸p)⟩
theorem LL {σ:L2.St}{H:Hp}{A B:Hp→Prop}(h:A H):LN σ H (fun b H3=>if b=true then A H3 else B H3):=by
 show if true=true then A H else B H
 rw[if_pos rfl]
 exact h
theorem _root_.L2.aM.unlock {H H':Hp}{d:aj}{od:fD}{u:HO}(hd:H d=some u)(s:aM (upd H d (.lT od u)) H'):aM H (upd H' d u):=fun b v e=>by
 by_cases q:b=d
 ·subst q
  rw[hd] at e
  cases e
  exact aw
 ·rw[aW q]
  exact s _ _ (by rw[aW q];exact e)
theorem _root_.L2.aM.locked {H:Hp}{d b:aj}{od:fD}{u v:HO}(e:H b=some v)(n:b≠d):upd H d (.lT od u) b=some v:=by rw[aW n];exact e
def o4 (m:List (Nat×Nat)):List (Key×V):=m.map fun p=>(gK ((p.1:Nat):Int),iv p.2)
structure Dg (mg:bZ→Option ag):Prop where
 UQ:∃ t,mg "UNKNOWN"=some (.int 0 t)
 j:∃ t,mg "JOINT"=some (.int (-1) t)
 len:mg "len"=none
 range:mg "range"=none
 list:mg "list"=none
 sorted:mg "sorted"=none
 set:mg "set"=none
 min:mg "min"=none
 sum:mg "sum"=none
 dict:mg "dict"=none
def DM (K:ai):Sp:=fun vs H Q _=>∃ (p:aj) (c:bM),vs=[.ref p]∧fR K H p (eX c.sounds)∧c.sounds.length≤1000∧∀ H' q,aM H H'→H' q=some (.lst (eX (dh c)))→Q (.ref q) H'
section
variable {P:aV}{w:bK}{K:ai}{mg:bZ→Option ag}{base:bW}
theorem yK:bX ["sounds","sound"] ["sounds"] (bB xP):=kG
theorem Kn {f:aj}{fd:bH}(F:jb K "choices_of" "choices_of" xP f fd)(T:Dg mg):cP P w K mg base fG 1 f fd ["sounds"] (DM K):=by
 obtain ⟨tu,hun⟩:=T.UQ
 refine F.ok yK (fun vs H Q E h=>?_) (fun gq A outer s H vs Q E hr h=>?_)
 ·obtain ⟨p,c,rfl,_⟩:=h
  rfl
 ·obtain ⟨p,c,rfl,hp,hz,k⟩:=h
  refine ⟨_,aR (bO (ve rfl (by rfl) T.sorted (by rfl) T.set (jm rfl yK.nd (Ms (pv 0)) (dX (own:=[("sound",1)]) (by rfl)) (fun _ _ _ _ _=>cK (i:=1) yK.nd rfl (bp rfl)) (fun _ _ _ _ _=>pD (bU wy (pv 1) (cg (v:=.int 0) (by rfl) hun ⟨_,rfl⟩) (cq _))) (fun _ _ _ _ _=>pv 1)))),?_⟩
  have room:(eX c.sounds).length<aP:=by
   rw[ae]
   exact aF hz (by decide)
  refine aJ rfl ⟨p,rfl,⟨_,hp⟩,fun D hD=>IJ (fun x=>!decide (x=V.int 0)) (fun x=>x) hD hp room (fun x=>rfl) (fun x hx H1 s1 R hR=>?_) (fun x hx _ H1 s1 R hR=>⟨_,rfl,hR _ (aM.refl _)⟩) (fun H1 s1 e1=>?_)⟩
  ·obtain ⟨y,_,rfl⟩:=aX.mp hx
   exact aJ rfl ⟨rfl,aJ rfl (hR _ (aM.refl _))⟩
  let ns:List Nat:=c.sounds.filter fun s=>s != 0
  have ef:((eX c.sounds).filter fun x=>!decide (x=V.int 0)).map (fun x=>x)=(ns.map fun (n:Nat)=>(n:Int)).map V.int:=by
   rw[qv,bx,zR]
   refine congr (congrArg eD rfl) (congrArg (fun p=>oX p c.sounds) (funext fun x=>?_))
   show (!decide (iv x=V.int ((0:Nat):Int)))=(x != 0)
   rw[eM,qN]
   simp
  rw[ef] at e1
  refine ⟨D,ns.map fun (n:Nat)=>(n:Int),rfl,cI.of e1,?_,fun ms q j7 hm hq=>?_⟩
  ·rw[ae]
   exact aB (c4 _ _) hz
  refine k _ q (s1.trans (aM.new hq)) ?_
  rw[aw]
  obtain ⟨l,el⟩:=uW ms fun x hx=>by
   obtain ⟨m,_,e⟩:=aX.mp ((hm x).mp hx)
   omega
  subst el
  have hl:l=dh c:=by
   refine nU ?_ (pO c) fun x=>?_
   ·rw[gm] at j7
    exact j7.imp fun q=>by omega
   ·rw[w6]
    have:=hm (x:Int)
    rw[x3,x3,fL] at this
    rw[this]
    simp
  rw[hl,bx]
  rfl
def FC:Sp:=fun vs H Q _=>∃ (s:Nat) (d c:aj) (m:List (Nat×Nat)) (l:dw),vs=[iv s,.ref d,.ref c]∧H d=some (.dK (o4 m))∧m≠[]∧m.length≤1000∧iR H c l ∧
 ∀ H' q x r,aM H H'→(x,r)∈m→(∀ y r',(y,r')∈m→iU l s x+r<iU l s y+r'∨(iU l s x+r=iU l s y+r'∧x≤y))→H' q=some (.tup [iv (iU l s x+r),iv x])→Q (.ref q) H'
theorem FG:bX ["sound","below","costs","other","rest"] ["sound","below","costs"] (bB Hw):=kG
theorem WJ {a b c d:Int}(h:HT.lexLt [c,d] [a,b]=false):a<c∨(a=c∧b≤d):=by
 rw[HT.hX] at h
 by_cases e:c=a
 ·rw[if_pos e,HT.hX] at h
  by_cases e2:d=b
  ·exact .inr ⟨e.symm,by omega⟩
  ·rw[if_neg e2] at h
   have:=of_decide_eq_false h
   exact .inr ⟨e.symm,by omega⟩
 ·rw[if_neg e] at h
  have:=of_decide_eq_false h
  exact .inl (by omega)
theorem gD {α β:Type}{R S:α→β→Prop}(hRS:∀ a b,R a b→S a b){x:α}{y:β}(h:S x y):∀ {l:List α} {m:List β},Paired R l m→Paired S (l++[x]) (m++[y])
 | _,_,.nil=>.cons h .nil
 | _,_,.cons a t=>.cons (hRS _ _ a) (gD hRS h t)
theorem d9 {α β:Type}{R S:α→β→Prop}(hRS:∀ a b,R a b→S a b):∀ {l:List α} {m:List β},Paired R l m→Paired S l m
 | _,_,.nil=>.nil
 | _,_,.cons a t=>.cons (hRS _ _ a) (d9 hRS t)
theorem rD {α β γ:Type}{R:α→β→Prop}{S:α→γ→Prop}{g:β→γ}(hRS:∀ a b,R a b→S a (g b)):∀ {l:List α} {m:List β},Paired R l m→Paired S l (m.map g)
 | _,_,.nil=>.nil
 | _,_,.cons a t=>.cons (hRS _ _ a) (rD hRS t)
theorem Qr {f fc:aj}{fd fdc:bH}(F:jb K "cheapest_step" "cheapest_step" Hw f fd)(T:Dg mg)(G:cP P w K mg base fG 1 fc fdc ["costs","one","other"] yI)(mc:mg "change_cost"=some (.ref fc))(kc:aQ K (.ref fc)=true)(bc:Binds K fdc ["costs","one","other"] []) :
  cP P w K mg base fG 2 f fd ["sound","below","costs"] FC:=by
 refine F.ok FG (fun vs H Q E h=>?_) (fun gq A outer s H vs Q E hr h=>?_)
 ·obtain ⟨x,d,c,m,l,rfl,_⟩:=h
  rfl
 ·obtain ⟨x,d,c,m,l,rfl,hd,hne,hz,hc,k⟩:=h
  refine ⟨_,aR (bO (IF (bR (Q5 rfl (wB hr)) (by rfl) T.min Fv (ah (jm rfl FG.nd (DW (pv 1)) (dX (own:=[("other",3),("rest",4)]) (by rfl)) (fun _ _ _ _ _=>vB (K:=K) (i:=3) (j:=4) rfl rfl FG.nd rfl (bp rfl) rfl (bp rfl)) (fun _ _ _ _ _=>gA)
   (fun _ _ _ _ _=>jw (ah (d4 eO (cj G hr (by rfl) mc kc bc .nil cU (ah (pv 2) (ah (pv 0) (ah (pv 3) aA)))) (pv 4)) (ah (pv 3) aA)))) aA)))),?_⟩
  have hcd:c≠d:=by
   obtain ⟨kvs,e,_⟩:=hc
   exact ir e hd (by intro z;cases z)
  refine ⟨d,_,hd,trivial,fun od=>?_⟩
  have hc1:iR (upd H d (.lT od (.dK (o4 m)))) c l:=by
   obtain ⟨kvs,e,z⟩:=hc
   exact ⟨kvs,aM.locked e hcd,z⟩
  let rowOf:Nat×Nat→List Int:=fun p=>[((iU l x p.1+p.2:Nat):Int),((p.1:Nat):Int)]
  refine aJ rfl ⟨d,od,aJ rfl ⟨aw,fun D hD=>Eb (fun i H'=>aM (upd H d (.lT od (.dK (o4 m)))) H'∧∃ rs:List aj,H' D=some (.lst (rs.map V.ref))∧Paired (fun r p=>H' r=some (.tup ((rowOf p).map V.int))) rs (m.take i)) ⟨aM.new hD,[],aw,.nil⟩ (fun i H' h=>h.1 _ _ aw) ?_ ?_⟩⟩
  ·rintro i kk v H1 T1 hi ⟨s1,rs,e1,p1⟩ hT
   obtain ⟨p,hp,ek,ev⟩:∃ p,m[i]?=some p∧kk=gK ((p.1:Nat):Int)∧v=iv p.2:=by
    unfold o4 at hi
    rw[aO] at hi
    cases e:m[i]? with
    | none=>rw[e] at hi;cases hi
    | some p=>rw[e] at hi;cases hi;exact ⟨p,rfl,rfl,rfl⟩
   subst ek ev
   have s2:=aM.new (o:=.tup [kV (gK ((p.1:Nat):Int)),iv p.2]) hT
   refine ⟨T1,aJ rfl ⟨fR.of aw,rfl,_,aJ rfl ⟨_,aJ rfl ⟨rfl,rfl,?_⟩⟩⟩⟩
   refine LL ?_
   refine aJ rfl (aJ rfl (aJ rfl ⟨c,x,p.1,l,rfl,hc1.same (s1.trans s2),fun H2 s3=>⟨_,rfl,_,_,rfl,rfl,_,rfl,Bm,fun q hq=>?_⟩⟩))
   have s4:=aM.new (o:=.tup [iv (iU l x p.1+p.2),iv p.1]) hq
   have s14:=(s2.trans s3).trans s4
   refine ⟨_,s14 _ _ e1,?_,(s1.trans s14).upd hD,rs++[q],by rw[aw,ba];rfl,?_⟩
   ·rw[ae,bC p1,bP]
    exact aF (show _≤1000 by omega) (by decide)
   ·rw[take_snoc hp]
    refine gD (fun r p h=>?_) ?_ p1
    ·rw[aW (ir h e1 (by intro z;cases z))]
     exact s14 _ _ h
    ·have e4:=s14 _ _ e1
     rw[aW (fun z=>by rw[z] at hq;rw[(s2.trans s3) _ _ e1] at hq;cases hq),aw]
     rfl
  ·rintro H1 ⟨s1,rs,e1,p1⟩
   have ll:(o4 m).length=m.length:=by unfold o4;rw[ae]
   rw[ll,bI] at p1
   have hrs:rs≠[]:=fun e=>hne (df.mp (by rw[← bC p1,e];rfl))
   have p2:Paired (fun r row=>fR K H1 r (row.map V.int)) rs (m.map rowOf):=by
    exact rD (S:=fun r (row:List Int)=>fR K H1 r (row.map V.int)) (g:=rowOf) (fun r p h=>fR.of h) p1
   refine ⟨D,rs,m.map rowOf,rfl,cI.of e1,p2,hrs,fun ix q row hq hrow hmin=>⟨s1 _ _ aw,?_⟩⟩
   rw[aO] at hrow
   obtain ⟨⟨y,r⟩,hy0,eq1⟩:=cZ p1 hq
   rw[hy0] at hrow
   have erow:rowOf (y,r)=row:=aH hrow
   subst erow
   have hy:=aY hy0
   have nqd:q≠d:=ir eq1 (s1 _ _ aw) (by intro z;cases z)
   refine k _ q y r (aM.unlock hd s1) hy (fun y' r' hy'=>?_) (by rw[aW nqd,eq1];rfl)
   have:=WJ (hmin _ (aX.mpr ⟨_,hy',rfl⟩))
   dsimp only at this
   rcases this with z | z
   ·exact .inl (by omega)
   ·exact .inr (by omega)
end
theorem QP {m:List (Nat×Nat)}{k:Nat}:((o4 m).any fun kv=>decide (kv.1=gK ((k:Nat):Int)))=m.any fun p=>decide (p.1=k):=by
 unfold o4
 rw[mM]
 refine congrArg (fun f=>m.any f) (funext fun p=>?_)
 exact decide_eq_decide.mpr ⟨fun z=>by injection z with z;omega,fun z=>by show (gK _:Key)=_;rw[show p.1=k from z]⟩
theorem IA {m:List (Nat×Nat)}{k v:Nat}(h:∀ p∈m,p.1≠k):putK (o4 m) (gK ((k:Nat):Int)) (iv v)=o4 (m++[(k,v)]):=by
 unfold putK
 rw[QP,if_neg]
 ·unfold o4
  rw[ba]
  rfl
 ·intro q
  obtain ⟨p,hp,e⟩:=qe.mp q
  exact h p hp (of_decide_eq_true e)
theorem AW:∀ (m acc:List (Nat×Nat)),(acc++m).Pairwise (fun p q=>p.1<q.1)→mn (o4 acc) (o4 m)=o4 (acc++m)
 | [],acc,_=>by rw[bY];rfl
 | p::m,acc,h=>by
  have e:mn (o4 acc) (o4 (p::m))=mn (putK (o4 acc) (gK ((p.1:Nat):Int)) (iv p.2)) (o4 m):=rfl
  rw[e,IA,AW m (acc++[(p.1,p.2)]) (by rw[dE];exact h),dE]
  ·rfl
  ·intro q hq z
   have:=(tI.mp h).2.2 q hq p ax
   omega
theorem N8 {K:ai}{a:aj}{xs:List Nat}{j:Nat}{tt:TT}{te:TE}{vs:List Nat}{σ:L2.St}{H1:Hp}{D:aj}{Qd:Hp→Prop}(p:Nat→Bool)(R:Hp→aj→Nat→Prop)(hD:H1 D=none)(hl:cI K H1 a (eX xs))(hz:xs.length≤1000)
  (hR:∀ H r x,R H r x→∀ H',aM H H'→R H' r x)(hRu:∀ H r x ys zs,R H r x→H D=some (.lst ys)→R (upd H D (.lst zs)) r x)
  (hw:∀ x,wipe ((wipe σ vs).set j (some x)) vs=wipe σ vs)
  (hp:∀ x∈xs,∀ H,aM H1 H→∀ Z:Bool→Hp→Prop,(∀ H',aM H H'→Z (p x) H')→tt ((wipe σ vs).set j (some (iv x))) H Z)
  (he:∀ x∈xs,p x=true→∀ H,aM H1 H→∀ Z:V→Hp→Prop,(∀ H' r,aM H H'→H r=none→R H' r x→Z (.ref r) H')→te ((wipe σ vs).set j (some (iv x))) H Z)
  (hd:∀ H' rs,aM H1 H'→H' D=some (.lst (rs.map V.ref))→Paired (R H') rs (xs.filter p)→Qd H') :
  ∃ W:Nat→Nat→Hp→Prop,(∃ m,W 0 m (upd H1 D (.lst [])))∧∀ i m H,W i m H →
   ((Ag K a).stop i H∧Qd H)∨((Ag K a).go i H∧∃ Nx:Hp→Prop,(∀ H',Nx H'→∃ m',m'<m∧W (i+1) m' H')∧∀ x H',(Ag K a).zO i H x H'→mY j x (wipe σ vs) H' fun σ2 H2=>wipe σ2 vs=wipe σ vs∧tt σ2 H2 fun b H3 =>
    if b=true then te σ2 H3 fun y H4=>∃ acc,H4 D=some (.lst acc)∧acc.length<aP∧Nx (upd H4 D (.lst (acc++[y]))) else Nx H3):=by
 refine uI (fun i H=>aM H1 H∧∃ rs:List aj,H D=some (.lst (rs.map V.ref))∧Paired (R H) rs ((xs.take i).filter p)) ⟨aM.new hD,[],aw,.nil⟩ (fun i H _ h=>h.1.seq hl) (fun i y H hy h=>?_) (fun H h=>?_)
 ·obtain ⟨s1,rs,e,pr⟩:=h
  obtain ⟨x,hx,rfl⟩:=qV hy
  have mx:=aY hx
  refine ⟨hw _,hp x mx H s1 _ fun H3 s3=>?_⟩
  have s13:=s1.trans s3
  have pr3:Paired (R H3) rs ((xs.take i).filter p):=d9 (fun r x h=>hR _ _ _ h _ s3) pr
  cases hpx:p x with
  | false =>
   refine nN ⟨s13,rs,s3 _ _ e,?_⟩
   rw[fZ p hx,hpx,if_neg (by decide),bY]
   exact pr3
  | true =>
   refine pd (he x mx hpx H3 s13 _ fun H4 r s4 hr hRr=>⟨_,s4 _ _ (s3 _ _ e),?_,(s13.trans s4).upd hD,rs++[r],by rw[aw,ba];rfl,?_⟩)
   ·rw[ae,bC pr]
    exact aF (aB (gY xs i p) hz) (by decide)
   ·rw[fZ p hx,hpx,if_pos rfl]
    exact gD (R:=R H3) (S:=R (upd H4 D (.lst (rs.map V.ref++[V.ref r])))) (fun r' x' h=>hRu H4 r' x' _ _ (hR H3 r' x' h H4 s4) (s4 _ _ (s3 _ _ e))) (hRu H4 r x _ _ hRr (s4 _ _ (s3 _ _ e))) pr3
 ·obtain ⟨s1,rs,e,pr⟩:=h
  rw[ae,bI] at pr
  exact hd H rs s1 e pr
def Mh (K:ai):Sp:=fun vs H Q _=>∃ (own:Nat) (p:aj) (ch:List Nat),vs=[iv own,.ref p]∧cI K H p (eX ch)∧ch.Pairwise (·<·)∧ch.length≤1000 ∧
 ∀ H' d,aM H H'→H d=none→H' d=some (.dK (o4 ((ch.filter fun s=>decide (own=0∨own=s)).map fun s=>(s,0))))→Q (.ref d) H'
section
variable {P:aV}{w:bK}{K:ai}{mg:bZ→Option ag}{base:bW}
theorem FI:bX ["own","choices","sound"] ["own","choices"] (bB HB):=kG
theorem Qw {f:aj}{fd:bH}(F:jb K "language_may_be" "language_may_be" HB f fd)(T:Dg mg):cP P w K mg base fG 1 f fd ["own","choices"] (Mh K):=by
 obtain ⟨tu,hun⟩:=T.UQ
 refine F.ok FI (fun vs H Q E h=>?_) (fun gq A outer s H vs Q E hr h=>?_)
 ·obtain ⟨own,p,ch,rfl,_⟩:=h
  rfl
 ·obtain ⟨own,p,ch,rfl,hp,j7,hz,k⟩:=h
  refine ⟨_,aR (bO (kK (GX rfl) (by rfl) T.dict boot_dict (ah (jm rfl FI.nd (eh (pv 1)) (dX (own:=[("sound",2)]) (by rfl)) (fun _ _ _ _ _=>cK (i:=2) FI.nd rfl (bp rfl))
   (fun _ _ _ _ _=>pD (HL (bU gC (pv 0) (cg (v:=.int 0) (by rfl) hun ⟨_,rfl⟩) (cq _)) (BN (bU gC (pv 0) (pv 2) (cq _)))).pt) (fun _ _ _ _ _=>jw (ah (pv 2) (ah aZ aA)))) aA))),?_⟩
  refine aJ rfl ⟨p,rfl,⟨_,hp⟩,fun D hD=>N8 (fun s=>decide (own=0∨own=s)) (fun H r x=>H r=some (.tup [iv x,V.int 0])) hD hp hz (fun H r x h H' s=>s _ _ h) (fun H r x ys zs h e=>by rw[aW (ir h e (by intro z;cases z))];exact h) (fun x=>rfl) (fun x hx H1 s1 R hR=>?_) (fun x hx _ H1 s1 R hR=>?_) (fun H1 rs s1 e1 pr=>?_)⟩
  ·have fin:∀ b:Bool,b=decide (own=0∨own=x)→R b H1:=fun b e=>e▸hR _ (aM.refl _)
   refine aJ rfl ⟨rfl,aJ rfl ?_⟩
   refine gI (fun h1=>?_) fun h1=>?_
   ·have h1:own=0:=wC.mp h1
    exact fin _ (by rw[h1];simp)
   ·have h1:own≠0:=fun e=>h1 (wC.mpr e)
    refine aJ rfl (aJ rfl ⟨rfl,aJ rfl (fin _ ?_)⟩)
    show decide (iv own=iv x)=_
    exact decide_eq_decide.mpr ⟨fun z=>.inr (by injection z with z;omega),fun z=>by rcases z with z | z;exact absurd z h1;rw[z]⟩
  ·refine aJ rfl ⟨Bm,fun r dU=>hR _ r (aM.new dU) dU aw⟩
  let m:=(ch.filter fun s=>decide (own=0∨own=s)).map fun s=>(s,0)
  have pr2:Paired (fun q (kv:Key×V)=>fR K H1 q [kV kv.1,kv.2]) rs (o4 m):=by
   show Paired _ rs (eD _ (eD _ _))
   rw[bx]
   exact rD (S:=fun q (kv:Key×V)=>fR K H1 q [kV kv.1,kv.2]) (fun r x h=>fR.of h) pr
  refine ⟨D,rs,o4 m,rfl,cI.of e1,pr2,fun d hd=>?_⟩
  have hm:mn [] (o4 m)=o4 m:=by
   have:=AW m [] (by
    show List.Pairwise _ (eD _ _)
    rw[gm]
    exact (j7.filter _).imp fun q=>q)
   exact this
  rw[hm]
  exact k _ d (s1.trans (aM.new hd)) (s1.free hd) aw
end
def yt (l:dw)(col:bM)(H:Hp)(d:aj)(t:cF):Prop:=H d=some (.dK (o4 (mb l col t)))
theorem FY (l:dw)(col:bM)(t:cF):(mb l col t).length≤(dh col).length:=by
 unfold mb
 exact List.length_filterMap_le _ _
def Ik (K:ai):Sp:=fun vs H Q _=>∃ (p q c:aj) (col:bM) (ds:List aj) (ts:List cF) (l:dw),vs=[.ref p,.ref q,.ref c]∧cI K H p (eX (dh col))∧H q=some (.lst (ds.map V.ref))∧Paired (yt l col H) ds ts∧ts.length≤1000∧(dh col).length≤1000∧iR H c l ∧
 ∀ H' d,aM H H'→H d=none→H' d=some (.dK (o4 ((dh col).map fun s=>(s,(ts.map (lv l col s)).sum))))→Q (.ref d) H'
section
variable {P:aV}{w:bK}{K:ai}{mg:bZ→Option ag}{base:bW}
theorem uD:bX ["choices","parts","costs","may_be","sound","below"] ["choices","parts","costs"] (bB BJ):=kG
theorem NX {f fs:aj}{fd fds:bH}(F:jb K "joint_may_be" "joint_may_be" BJ f fd)(T:Dg mg)(G:cP P w K mg base fG 2 fs fds ["sound","below","costs"] FC)(ms:mg "cheapest_step"=some (.ref fs))(ks:aQ K (.ref fs)=true)(bs:Binds K fds ["sound","below","costs"] []) :
  cP P w K mg base fG 3 f fd ["choices","parts","costs"] (Ik K):=by
 refine F.ok uD (fun vs H Q E h=>?_) (fun gq A outer s H vs Q E hr h=>?_)
 ·obtain ⟨p,q,c,col,ds,ts,l,rfl,_⟩:=h
  rfl
 ·obtain ⟨p,q,c,col,ds,ts,l,rfl,hp,hq,pr,hz,hch,hc,k⟩:=h
  have hu:=wB hr
  refine ⟨_,aE (cy (i:=3) uD.nd rfl (bp rfl) DX)
   (aE (gz bL rfl (eh (pv 0)) (cK (i:=4) uD.nd rfl (p6 rfl))
    (aR (xV hu (pv 3) (pv 4) (bR (yF rfl) (by rfl) T.sum boot_sum (ah (jm rfl uD.nd (eh (pv 1)) (dX (own:=[("below",5)]) (by rfl)) (fun _ _ _ _ _=>cK (i:=5) uD.nd rfl (bp rfl)) (fun _ _ _ _ _=>gA)
     (fun _ _ _ _ _=>cA (r:=Dd K) dR (cj G hr (by rfl) ms ks bs .nil cU (ah (pv 4) (ah (pv 5) (ah (pv 2) aA)))) aZ (fun _ _=>rfl))) aA)) rfl)))
   (aR (bO (pv 3)))),?_⟩
  refine cQ fun d hd=>?_
  have s0:aM H (upd H d (.dK [])):=aM.new hd
  let F2:Nat→Nat×Nat:=fun s=>(s,(ts.map (lv l col s)).sum)
  refine ⟨_,rfl,p,rfl,⟨_,s0.seq hp⟩,iF (K:=K) (a:=p) (xs:=eX (dh col)) (fun i σ H'=>∃ v4 v5:Option V,σ=[some (.ref p),some (.ref q),some (.ref c),some (.ref d),v4,v5]∧aM H H'∧H' d=some (.dK (o4 (((dh col).take i).map F2))))
   ⟨none,none,rfl,s0,aw⟩ (fun i σ H' _ ⟨_,_,_,s1,_⟩=>s1.seq hp) ?_ ?_⟩
  ·rintro i y σ H1 hi ⟨v4,v5,rfl,s1,e1⟩
   obtain ⟨x,hx,rfl⟩:=qV hi
   have hne:dh col≠[]:=iL (aY hx)
   refine aJ rfl ⟨q,rfl,⟨_,cI.of (s1 _ _ hq)⟩,fun D hD=>uI (fun j H'=>aM H1 H'∧H' D=some (.lst (((ts.take j).map fun t=>((lv l col x t:Nat):Int)).map V.int))) ⟨aM.new hD,aw⟩ (fun j H' _ h=>cI.of (h.1 _ _ (s1 _ _ hq))) (fun j z H2 hj h=>?_) (fun H2 h=>?_)⟩
   ·obtain ⟨s2,e2⟩:=h
    obtain ⟨b,hb,rfl⟩:=fq hj
    obtain ⟨t,ht,hbt⟩:=cZ pr hb
    have s12:=s1.trans s2
    refine ⟨rfl,LL ?_⟩
    refine aJ rfl (aJ rfl (aJ rfl ⟨x,b,c,mb l col t,l,rfl,s12 _ _ hbt,yw l col hne t,aB (FY l col t) hch,hc.same s12,fun H3 a y r s3 hy hmin e3=>?_⟩))
    obtain ⟨e4,_⟩:=Ia hy hmin
    have ev:iU l x y+r=lv l col x t:=by unfold lv;rw[e4];rfl
    refine iJ a 0 _ (fR.of e3) (cp (j:=0) rfl) ⟨_,s3 _ _ e2,?_,?_,?_⟩
    ·rw[ae,ae,bP]
     exact aF (show _≤1000 by omega) (by decide)
    ·exact (s2.trans s3).upd hD
    ·rw[aw,take_snoc ht,ba,ba,ev]
     rfl
   ·obtain ⟨s2,e2⟩:=h
    rw[ae,bC pr,bI] at e2
    refine ⟨D,aJ rfl ⟨cI.of e2,?_⟩⟩
    have es:(ts.map fun t=>((lv l col x t:Nat):Int)).sum=(((ts.map (lv l col x)).sum:Nat):Int):=by rw[← oB,bx];rfl
    rw[es]
    have e3:=s2 _ _ e1
    have hlen:(o4 (((dh col).take i).map F2)).length<aP:=by
     unfold o4
     rw[ae,ae,bP]
     exact aF (show _≤1000 by omega) (by decide)
    refine aJ rfl (aJ rfl ⟨d,aJ rfl ⟨zY.k (k:=gK ((x:Nat):Int)) e3 hlen,_,aJ rfl ⟨(s1.trans s2).upd hd,?_⟩⟩⟩)
    rw[aw,IA,take_snoc hx,ba]
    ·rfl
    ·intro pp hpp e
     obtain ⟨y,hy,rfl⟩:=aX.mp hpp
     have e:y=x:=e
     obtain ⟨n,hn⟩:=k8.mp hy
     have hn1:n<i:=by
      have:=(bV.mp hn).1
      rw[bP] at this
      omega
     rw[List.getElem?_take,if_pos hn1] at hn
     obtain ⟨l1,g1⟩:=bV.mp hn
     obtain ⟨l2,g2⟩:=bV.mp hx
     have:=hG.mp (pO col) n i l1 l2 hn1
     rw[g1,g2,e] at this
     exact absurd this (du _)
  ·rintro σ H1 ⟨v4,v5,rfl,s1,e1⟩
   refine aJ rfl (k H1 d s1 hd ?_)
   rw[ae,bI] at e1
   exact e1
end
theorem tX:∀ (t:cF) (i:Nat) (l:Nat),l∈(subAt t i).leaves→l∈t.leaves
 | t,0,l,h=>by cases t<;>simpa [subAt] using h
 | .leaf k,i+1,l,h=>h
 | .node a b,i+1,l,h=>by
  rw[Hh,bu]
  by_cases q:i<size a
  ·simp only[subAt,q,if_true] at h
   exact .inl (tX a i l h)
  ·simp only[subAt,q,if_false] at h
   exact .inr (tX b _ l h)
def Rp (l:dw)(col:bM)(t:cF)(H:Hp)(q:aj):Prop:=∃ ds:List aj,H q=some (.lst (ds.map V.ref))∧ds.length=size t∧∀ i d,ds[i]?=some d→yt l col H d (subAt t i)
def Cb (K:ai):Sp:=fun vs H Q _=>∃ (p a c:aj) (t:cF) (col:bM) (l:dw),vs=[.ref p,.ref a,.ref c]∧cI K H p (vI (gZ t))∧fR K H a (eX col.sounds)∧iR H c l∧size t≤1000∧col.sounds.length≤1000∧(∀ k∈t.leaves,k<col.sounds.length) ∧
 ∀ H' q,aM H H'→Rp l col t H' q→Q (.ref q) H'
theorem nE (c:bM):(dh c).length≤c.sounds.length:=by
 unfold dh
 refine aB (IX _) ?_
 rw[List.length_mergeSort]
 exact c4 _ _
section
variable {P:aV}{w:bK}{K:ai}{mg:bZ→Option ag}{base:bW}
theorem nh:bX ["tree","sounds","costs","choices","nodes","at","node","part"] ["tree","sounds","costs"] (bB BH):=kG
theorem NV {f f1 f2 f3 f4:aj}{fd j8 mL fd3 fd4:bH}(F:jb K "nodes_may_be" "nodes_may_be" BH f fd)(T:Dg mg)
  (G1:cP P w K mg base fG 1 f1 j8 ["sounds"] (DM K))(m1:mg "choices_of"=some (.ref f1))(k1:aQ K (.ref f1)=true)(b1:Binds K j8 ["sounds"] [])
  (G2:cP P w K mg base fG 2 f2 mL ["tree","at"] (Ca K))(m2:mg "parts_of"=some (.ref f2))(k2:aQ K (.ref f2)=true)(b2:Binds K mL ["tree","at"] [])
  (G3:cP P w K mg base fG 3 f3 fd3 ["choices","parts","costs"] (Ik K))(m3:mg "joint_may_be"=some (.ref f3))(k3:aQ K (.ref f3)=true)(b3:Binds K fd3 ["choices","parts","costs"] [])
  (G4:cP P w K mg base fG 1 f4 fd4 ["own","choices"] (Mh K))(m4:mg "language_may_be"=some (.ref f4))(k4:aQ K (.ref f4)=true)(b4:Binds K fd4 ["own","choices"] []) :
  cP P w K mg base fG 4 f fd ["tree","sounds","costs"] (Cb K):=by
 obtain ⟨tj,hj⟩:=T.j
 refine F.ok nh (fun vs H Q E h=>?_) (fun gq A outer s H vs Q E hr h=>?_)
 ·obtain ⟨p,a,c,t,col,l,rfl,_⟩:=h
  rfl
 ·obtain ⟨p,a,c,t,col,l,rfl,hp,ha,hc,hz,hsz,hlv,k⟩:=h
  have nY:fS 1 _:=hr.mono (by decide)
  have hr2:fS 2 _:=hr.mono (by decide)
  refine ⟨_,aE (cy (i:=3) nh.nd rfl (bp rfl) (cj G1 nY rfl m1 k1 b1 .nil cU (ah (pv 1) aA)))
   (aE (cy (i:=4) nh.nd rfl (p6 rfl) (jm rfl nh.nd (eh (pv 0)) (dX (own:=[("node",6)]) (by rfl)) (fun _ _ _ _ _=>cK (i:=6) nh.nd rfl (bp rfl)) (fun _ _ _ _ _=>gA) (fun _ _ _ _ _=>DX)))
   (aE (gz bL rfl (sC rfl T.range (ah (d4 Mu (bR bG (by rfl) T.len bj (ah (pv 0) aA)) aZ) (ah (qM mj aZ) (ah (qM mj aZ) aA)))) (cK (i:=5) nh.nd rfl (bp rfl))
    (aR (eG (bU gC (cA cM (pv 0) (pv 5) (fun _ _=>rfl)) (cg (v:=.int (-1)) (by rfl) hj ⟨_,rfl⟩) (cq _))
     (aR (BO (cj G3 hr rfl m3 k3 b3 .nil cU (ah (pv 3) (ah (jm rfl nh.nd (eh (cj G2 hr2 rfl m2 k2 b2 .nil cU (ah (pv 0) (ah (pv 5) aA)))) (dX (own:=[("part",7)]) (by rfl)) (fun _ _ _ _ _=>cK (i:=7) nh.nd rfl (bp rfl)) (fun _ _ _ _ _=>gA) (fun _ _ _ _ _=>cA (r:=JG K) cM (pv 4) (pv 7) (fun _ _=>rfl))) (ah (pv 2) aA)))) (BP (pv 4) (pv 5) set_list)))
     (aR (BO (cj G4 nY rfl m4 k4 b4 .nil cU (ah (cA dR (pv 1) (cA cM (pv 0) (pv 5) (fun _ _=>rfl)) (fun _ _=>rfl)) (ah (pv 3) aA))) (BP (pv 4) (pv 5) set_list))))))
   (aR (bO (pv 4))))),?_⟩
  have hch:(dh col).length≤1000:=aB (nE col) hsz
  have ln:(vI (gZ t)).length=size t:=by rw[ae,fU]
  refine cQ (aJ rfl ⟨a,col,rfl,ha,hsz,fun H1 pc s1 e1=>?_⟩)
  refine cQ (aJ rfl ⟨p,rfl,⟨_,s1.seq hp⟩,fun D hD=>uI (fun j H'=>aM H1 H'∧∃ ds:List aj,H' D=some (.lst (ds.map V.ref))∧ds.length=j) ⟨aM.new hD,[],aw,rfl⟩ (fun j H' _ h=>h.1.seq (s1.seq hp)) (fun j z H2 hj' h=>?_) (fun H2 h=>?_)⟩)
  ·obtain ⟨s2,ds,e2,n2⟩:=h
   refine ⟨rfl,LL fun d hd=>?_⟩
   have s3:=aM.new (o:=.dK []) hd
   refine ⟨_,s3 _ _ e2,?_,(s2.trans s3).upd hD,ds++[d],by rw[aw,ba];rfl,by rw[aK,n2];rfl⟩
   have:=(bV.mp hj').1
   rw[ln] at this
   rw[ae,n2]
   exact aF (show j≤1000 by omega) (by decide)
  obtain ⟨s2,ds0,e2,n2⟩:=h
  rw[ln] at n2
  have hDn:H D=none:=s1.free hD
  have s12:=s1.trans s2
  refine aJ rfl ⟨p,aJ rfl ⟨.inl (s12.seq hp),_,aJ rfl ⟨rfl,aJ rfl (aJ rfl ⟨(size t:Int) - 1,-1,-1,size t,by rw[ln],?_,?_⟩)⟩⟩⟩
  ·have:=SQ.neg (i:=(size t:Int) - 1) (j:=-1) (by omega) (by omega) (by omega) (by omega)
   have e:(((size t:Int) - 1) - -1).toNat=size t:=by omega
   rw[e] at this
   exact this
  refine uc (fun i σ H'=>∃ v5 v6 v7:Option V,σ=[some (.ref p),some (.ref a),some (.ref c),some (.ref pc),some (.ref D),v5,v6,v7]∧aM H1 H'∧∃ ds:List aj,H' D=some (.lst (ds.map V.ref))∧ds.length=size t∧∀ j d,size t - i≤j→ds[j]?=some d→yt l col H' d (subAt t j))
   ⟨none,none,none,rfl,s2,ds0,e2,n2,fun j d hj hd=>by
    have:=(bV.mp hd).1
    omega⟩ ?_ ?_
  ·rintro i σ H3 hi ⟨v5,v6,v7,rfl,s3,ds,e3,n3,inv⟩
   obtain ⟨b,hb⟩:∃ b,b=size t - 1 - i:=⟨_,rfl⟩
   have eb:((size t:Int) - 1)+(i:Nat)*(-1)=((b:Nat):Int):=by omega
   rw[eb]
   have hbl:b<size t:=by omega
   have s13:=s1.trans s3
   have hat:=Mx t b hbl
   have dl:∀ j,j<size t→ds[j]?=some (ds[j]?.getD 0):=fun j hj=>by rw[aD (by omega)];rfl
   have store:∀ (H4:Hp) (d:aj),aM H3 H4→yt l col H4 d (subAt t b)→∃ v5' v6' v7':Option V,[some (V.ref p),some (V.ref a),some (V.ref c),some (V.ref pc),some (V.ref D),some (iv b),v6,v7]=[some (.ref p),some (.ref a),some (.ref c),some (.ref pc),some (.ref D),v5',v6',v7']∧aM H1 (upd H4 D (.lst ((ds.map V.ref).set b (.ref d))))∧∃ ds':List aj,upd H4 D (.lst ((ds.map V.ref).set b (.ref d))) D=some (.lst (ds'.map V.ref))∧ds'.length=size t∧∀ j d',size t - (i+1)≤j→ds'[j]?=some d'→yt l col (upd H4 D (.lst ((ds.map V.ref).set b (.ref d)))) d' (subAt t j):=fun H4 d s4 hd=>by
    refine ⟨_,_,aJ rfl ⟨(s3.trans s4).upd hD,ds.set b d,by rw[aw,Fg],by rw[l6];exact n3,fun j d' hj hd'=>?_⟩⟩
    have e4:=s4 _ _ e3
    have keep:∀ x u,yt l col H4 x u→yt l col (upd H4 D (.lst ((ds.map V.ref).set b (.ref d)))) x u:=fun x u hx=>by
     show upd _ _ _ x=_
     rw[aW (ir hx e4 (by intro z;cases z))]
     exact hx
    rw[O6] at hd'
    by_cases q:b=j
    ·subst q
     rw[if_pos rfl] at hd'
     split at hd'
     ·cases hd'
      exact keep _ _ hd
     ·cases hd'
    ·rw[if_neg q] at hd'
     exact keep _ _ (s4 _ _ (inv j d' (by omega) hd'))
   have ixb:LI (ds.map V.ref).length ((b:Nat):Int)=some b:=by
    unfold LI
    rw[ae,n3,if_pos (by omega),if_pos (by omega),bT]
   refine aJ rfl (aJ rfl (iJ p b _ (s13.seq hp) (cp (tR hat)) ⟨rfl,aJ rfl ?_⟩))
   cases e:subAt t b with
   | leaf m =>
    rw[e] at hat
    show if decide (V.int ((m:Nat):Int)=V.int (-1))=true then _ else _
    rw[show decide (V.int ((m:Nat):Int)=V.int (-1))=false from decide_eq_false fun z=>by injection z with z;omega]
    refine nN ?_
    have hm:m<col.sounds.length:=hlv m (tX t b m (by rw[e];simp[Hh]))
    refine aJ rfl (aJ rfl (aJ rfl (iJ p b _ (s13.seq hp) (cp (tR hat)) ⟨a,_,m,aJ rfl ⟨rfl,s13.tup ha,cp (tS hm),aJ rfl ⟨col.sounds[m],pc,dh col,rfl,cI.of (s3 _ _ e1),pO col,hch,fun H4 d s4 hd ed=>?_⟩⟩⟩)))
    have hmb:yt l col H4 d (subAt t b):=by
     rw[e]
     show H4 d=some (.dK (o4 (mb l col (.leaf m))))
     rw[ed,QO,show col.sounds.getD m 0=col.sounds[m] by rw[gS,aD hm];rfl]
    exact aJ rfl (aJ rfl ⟨D,_,b,b,rfl,rfl,s4 _ _ e3,ixb,store H4 d s4 hmb⟩)
   | node x y =>
    rw[e] at hat
    refine pd ?_
    obtain ⟨g1,g2,g3⟩:=oC t b x y hbl e
    have px:=size_pos x
    have py:=size_pos y
    have hparts:g5 t b=[b+1,b+1+size x]:=by unfold g5;rw[e]
    refine aJ rfl (aJ rfl (aJ rfl ⟨p,t,b,rfl,s13.seq hp,hbl,fun H4 r s4 hr4 e4=>⟨r,rfl,⟨_,cI.of e4⟩,fun D2 hD2=>pG (fun _=>true) (fun v=>match v with | .int k=>V.ref (ds[k.toNat]?.getD 0) | _=>.hU) hD2 (cI.of e4) (by rw[ae,hparts];show 2<aP;decide) (fun x=>rfl) (fun x _ H5 _ R hR=>hR _ (aM.refl _)) (fun v hv _ H5 s5 R hR=>?_) (fun H5 s5 e5=>?_)⟩⟩))
    ·obtain ⟨j,hj',rfl⟩:=aX.mp hv
     have hjl:j<size t:=(DZ hbl hj').2
     refine aJ rfl (aJ rfl (iJ D j _ (cI.of (s5 _ _ (s4 _ _ e3))) (cp (v:=V.ref (ds[j]?.getD 0)) (by rw[aO,dl j hjl];rfl)) ?_))
     have:=hR _ (aM.refl _)
     simpa using this
    rw[kO,hparts] at e5
    have d1:=inv (b+1) _ (by omega) (dl (b+1) (by omega))
    have d2:=inv (b+1+size x) _ (by omega) (dl (b+1+size x) (by omega))
    rw[g2] at d1
    rw[g3] at d2
    have s45:=s4.trans s5
    refine aJ rfl ⟨pc,D2,c,col,[ds[b+1]?.getD 0,ds[b+1+size x]?.getD 0],[x,y],l,rfl,cI.of (s45 _ _ (s3 _ _ e1)),?_,.cons (s45 _ _ d1) (.cons (s45 _ _ d2) .nil),by simp,hch,hc.same (s13.trans s45),fun H6 d s6 hd ed=>?_⟩
    ·rw[e5]
     show some (HO.lst [V.ref (ds[(((b+1:Nat):Int)).toNat]?.getD 0),V.ref (ds[(((b+1+size x:Nat):Int)).toNat]?.getD 0)])=_
     rw[bT,bT]
     rfl
    have hmb:yt l col H6 d (subAt t b):=by
     rw[e]
     show H6 d=some (.dK (o4 (mb l col (.node x y))))
     rw[ed,QN]
     simp
    exact aJ rfl (aJ rfl ⟨D,_,b,b,rfl,rfl,(s45.trans s6) _ _ e3,ixb,store H6 d (s45.trans s6) hmb⟩)
  ·rintro σ H3 ⟨v5,v6,v7,rfl,s3,ds,e3,n3,inv⟩
   exact aJ rfl (k H3 D (s1.trans s3) ⟨ds,e3,n3,fun i d hd=>inv i d (by omega) hd⟩)
end
def yH:Sp:=fun vs H Q _=>∃ (d:aj) (l:dw) (col:bM) (t:cF),vs=[.ref d]∧yt l col H d t∧(dh col).length≤1000 ∧
 ∀ H' q r,aM H H'→H r=none→H' q=some (.tup [iv (t.score l col),.ref r])→H' r=some (.lst (eX (t.roots l col)))→Q (.ref q) H'
theorem N7 (m:List (Nat×Nat)):∃ v:Nat,HQ (V.int 0) (lE none (m.map fun p=>((p.2:Nat):Int)))=iv v∧((m=[]∧v=0)∨((∃ x,(x,v)∈m)∧∀ p∈m,v≤p.2)):=by
 cases m with
 | nil=>exact ⟨0,rfl,.inl ⟨rfl,rfl⟩⟩
 | cons p m =>
  obtain ⟨v,e,h1,h2,h3⟩:=AX (m.map fun p=>((p.2:Nat):Int)) ((p.2:Nat):Int)
  have e':lE none ((p::m).map fun p=>((p.2:Nat):Int))=some v:=e
  rw[e']
  have ex:∃ x n:Nat,(x,n)∈p::m∧v=(n:Int):=by
   rcases h1 with q | q
   ·exact ⟨p.1,p.2,ax,q⟩
   ·obtain ⟨p',hp',e⟩:=aX.mp q
    exact ⟨p'.1,p'.2,ao _ hp',e.symm⟩
  obtain ⟨x,n,hx,rfl⟩:=ex
  refine ⟨n,rfl,.inr ⟨⟨x,hx⟩,fun p' hp'=>?_⟩⟩
  rcases aI.mp hp' with q | q
  ·subst q;omega
  ·have:=h3 _ (aX.mpr ⟨p',q,rfl⟩)
   omega
section
variable {P:aV}{w:bK}{K:ai}{mg:bZ→Option ag}{base:bW}
theorem uP:bX ["may_be","least","sound","below"] ["may_be"] (bB xQ):=kG
theorem Ko {f:aj}{fd:bH}(F:jb K "cheapest_sounds" "cheapest_sounds" xQ f fd)(T:Dg mg):cP P w K mg base fG 1 f fd ["may_be"] yH:=by
 refine F.ok uP (fun vs H Q E h=>?_) (fun gq A outer s H vs Q E hr h=>?_)
 ·obtain ⟨d,l,col,t,rfl,_⟩:=h
  rfl
 ·obtain ⟨d,l,col,t,rfl,hd,hz,k⟩:=h
  have hd:H d=some (.dK (o4 (mb l col t))):=hd
  have hlen:(mb l col t).length≤1000:=aB (FY l col t) hz
  refine ⟨_,aE (cy (i:=1) uP.nd rfl (p6 rfl) (Qn rfl (by rfl) T.min (ah (z7 rfl (by rfl) T.list (pv 0)) aA) aZ))
   (aR (bO (jw (ah (pv 1) (ah (IF (jm rfl uP.nd (DW (pv 0)) (dX (own:=[("sound",2),("below",3)]) (by rfl)) (fun _ _ _ _ _=>vB (K:=K) (i:=2) (j:=3) rfl rfl uP.nd rfl (bp rfl) rfl (bp rfl)) (fun _ _ _ _ _=>pD (bU gC (pv 3) (pv 1) (cq _))) (fun _ _ _ _ _=>pv 2))) aA))))),?_⟩
  refine cQ (aJ rfl ⟨d,aJ rfl ⟨hd,fun pl hpl=>?_⟩⟩)
  have s1:=aM.new (o:=.lst ((o4 (mb l col t)).map (·.2))) hpl
  have ev:(o4 (mb l col t)).map (·.2)=((mb l col t).map fun p=>((p.2:Nat):Int)).map V.int:=by unfold o4;rw[bx,bx];rfl
  refine ⟨pl,aJ rfl ⟨cI.of (by rw[aw,ev]),?_⟩⟩
  obtain ⟨v,e0,hv⟩:=N7 (mb l col t)
  rw[e0]
  have hsc:=Nq l t col hv
  subst hsc
  refine aJ rfl ⟨d,_,s1 _ _ hd,trivial,fun od=>?_⟩
  refine aJ rfl ⟨d,od,aJ rfl ⟨aw,fun D hD=>Eb (fun i H'=>aM (upd (upd H pl (.lst ((o4 (mb l col t)).map (·.2)))) d (.lT od (.dK (o4 (mb l col t))))) H'∧H' D=some (.lst (eX ((((mb l col t).take i).filter fun p=>decide (p.2=t.score l col)).map (·.1))))) ⟨aM.new hD,aw⟩ (fun i H' h=>h.1 _ _ aw) ?_ ?_⟩⟩
  ·rintro i kk v H1 T1 hi ⟨s2,e1⟩ hT
   obtain ⟨p,hp,ek,evv⟩:∃ p,(mb l col t)[i]?=some p∧kk=gK ((p.1:Nat):Int)∧v=iv p.2:=by
    unfold o4 at hi
    rw[aO] at hi
    cases e:(mb l col t)[i]? with
    | none=>rw[e] at hi;cases hi
    | some p=>rw[e] at hi;cases hi;exact ⟨p,rfl,rfl,rfl⟩
   subst ek evv
   have s3:=aM.new (o:=.tup [kV (gK ((p.1:Nat):Int)),iv p.2]) hT
   refine ⟨T1,aJ rfl ⟨fR.of aw,rfl,_,aJ rfl ⟨_,aJ rfl ⟨rfl,rfl,aJ rfl (aJ rfl ⟨rfl,aJ rfl ?_⟩)⟩⟩⟩⟩
   have el:=s3 _ _ e1
   refine gI (fun h1=>?_) fun h1=>?_
   ·have h1:p.2=t.score l col:=by
     have:=of_decide_eq_true h1
     injection this with this
     omega
    refine aJ rfl ⟨_,el,?_,(s2.trans s3).upd hD,?_⟩
    ·rw[ae,ae]
     exact aF (aB (gY _ _ _) hlen) (by decide)
    ·rw[aw,fZ _ hp,if_pos (decide_eq_true h1),ba]
     show _=some (HO.lst (eD iv (_++[p.1])))
     rw[ba]
     rfl
   ·have h1:¬ p.2=t.score l col:=fun e=>h1 (decide_eq_true (by rw[e]))
    refine ⟨s2.trans s3,?_⟩
    rw[fZ _ hp,if_neg (by simp[h1]),bY]
    exact el
  ·rintro H1 ⟨s2,e1⟩
   have ll:(o4 (mb l col t)).length=(mb l col t).length:=by unfold o4;rw[ae]
   rw[ll,bI,← NA] at e1
   have hDn:H D=none:=by
    have h1:d≠D:=fun z=>by rw[← z,aw] at hD;cases hD
    rw[aW h1.symm] at hD
    exact s1.free hD
   have nDd:D≠d:=ir e1 (s2 _ _ aw) (by intro z;cases z)
   refine ⟨s2 _ _ aw,Bm,fun q hq=>?_⟩
   have s3:aM H (upd H1 d (.dK (o4 (mb l col t)))):=s1.trans (aM.unlock (s1 _ _ hd) s2)
   have s4:=aM.new (o:=.tup [iv (t.score l col),.ref D]) hq
   exact k _ q D (s3.trans s4) hDn aw (s4 _ _ (by rw[aW nDd];exact e1))
def B9 (K:ai):Sp:=fun vs H Q _=>∃ (p a c:aj) (t:cF) (col:bM) (l:dw),vs=[.ref p,.ref a,.ref c]∧cI K H p (vI (gZ t))∧fR K H a (eX col.sounds)∧iR H c l∧size t≤1000∧col.sounds.length≤1000∧(∀ k∈t.leaves,k<col.sounds.length) ∧
 ∀ H' q r,aM H H'→H r=none→H' q=some (.tup [iv (t.score l col),.ref r])→H' r=some (.lst (eX (t.roots l col)))→Q (.ref q) H'
theorem Qg:bX ["tree","sounds","costs"] ["tree","sounds","costs"] (bB BC):=kG
theorem NQ {f f1 f2:aj}{fd j8 mL:bH}(F:jb K "score_and_roots" "score_and_roots" BC f fd)
  (G1:cP P w K mg base fG 4 f1 j8 ["tree","sounds","costs"] (Cb K))(m1:mg "nodes_may_be"=some (.ref f1))(k1:aQ K (.ref f1)=true)(b1:Binds K j8 ["tree","sounds","costs"] [])
  (G2:cP P w K mg base fG 1 f2 mL ["may_be"] yH)(m2:mg "cheapest_sounds"=some (.ref f2))(k2:aQ K (.ref f2)=true)(b2:Binds K mL ["may_be"] []) :
  cP P w K mg base fG 5 f fd ["tree","sounds","costs"] (B9 K):=by
 refine F.ok Qg (fun vs H Q E h=>?_) (fun gq A outer s H vs Q E hr h=>?_)
 ·obtain ⟨p,a,c,t,col,l,rfl,_⟩:=h
  rfl
 ·obtain ⟨p,a,c,t,col,l,rfl,hp,ha,hc,hz,hsz,hlv,k⟩:=h
  have nY:fS 1 _:=hr.mono (by decide)
  refine ⟨_,aR (bO (cj G2 nY rfl m2 k2 b2 .nil cU (ah (cA cM (cj G1 hr rfl m1 k1 b1 .nil cU (ah (pv 0) (ah (pv 1) (ah (pv 2) aA)))) aZ (fun _ _=>rfl)) aA))),?_⟩
  refine aJ rfl (aJ rfl (aJ rfl ⟨p,a,c,t,col,l,rfl,hp,ha,hc,hz,hsz,hlv,fun H1 q s1 ⟨ds,e1,n1,z1⟩=>?_⟩))
  have h0:ds[0]?=some (ds[0]?.getD 0):=by
   have:=size_pos t
   rw[aD (by omega)]
   rfl
  have hm:=z1 0 _ h0
  rw[show subAt t 0=t by cases t<;>rfl] at hm
  refine iJ q 0 _ (cI.of e1) (cp (j:=0) (v:=V.ref (ds[0]?.getD 0)) (by rw[aO,h0];rfl)) ⟨ds[0]?.getD 0,l,col,t,rfl,hm,aB (nE col) hsz,fun H2 q2 r s2 hr2 e2 e3=>k H2 q2 r (s1.trans s2) (s1.free hr2) e2 e3⟩
end
def DG (K:ai):Sp:=fun vs H Q _=>∃ (p a c:aj) (t:cF) (col:bM) (l:dw),vs=[.ref p,.ref a,.ref c]∧cI K H p (vI (gZ t))∧fR K H a (eX col.sounds)∧iR H c l∧size t≤1000∧col.sounds.length≤1000∧(∀ k∈t.leaves,k<col.sounds.length) ∧
 ∀ H' q,aM H H'→H q=none→H' q=some (.lst (eX (t.states l col ((t.roots l col).headD 0))))→Q (.ref q) H'
theorem ME {n k:Nat}(h:k<n):LI n ((k:Nat):Int)=some k:=by
 unfold LI
 rw[if_pos (by omega),if_pos (by omega),bT]
section
variable {P:aV}{w:bK}{K:ai}{mg:bZ→Option ag}{base:bW}
theorem mv:bX ["tree","sounds","costs","nodes","roots","states","at","part","node"] ["tree","sounds","costs"] (bB xH):=kG
theorem Kh {f f1 f2 f3 f4:aj}{fd j8 mL fd3 fd4:bH}(F:jb K "states_on" "states_on" xH f fd)(T:Dg mg)
  (G1:cP P w K mg base fG 4 f1 j8 ["tree","sounds","costs"] (Cb K))(m1:mg "nodes_may_be"=some (.ref f1))(k1:aQ K (.ref f1)=true)(b1:Binds K j8 ["tree","sounds","costs"] [])
  (G2:cP P w K mg base fG 1 f2 mL ["may_be"] yH)(m2:mg "cheapest_sounds"=some (.ref f2))(k2:aQ K (.ref f2)=true)(b2:Binds K mL ["may_be"] [])
  (G3:cP P w K mg base fG 2 f3 fd3 ["tree","at"] (Ca K))(m3:mg "parts_of"=some (.ref f3))(k3:aQ K (.ref f3)=true)(b3:Binds K fd3 ["tree","at"] [])
  (G4:cP P w K mg base fG 2 f4 fd4 ["sound","below","costs"] FC)(m4:mg "cheapest_step"=some (.ref f4))(k4:aQ K (.ref f4)=true)(b4:Binds K fd4 ["sound","below","costs"] []) :
  cP P w K mg base fG 5 f fd ["tree","sounds","costs"] (DG K):=by
 obtain ⟨tu,hun⟩:=T.UQ
 refine F.ok mv (fun vs H Q E h=>?_) (fun gq A outer s H vs Q E hr h=>?_)
 ·obtain ⟨p,a,c,t,col,l,rfl,_⟩:=h
  rfl
 ·obtain ⟨p,a,c,t,col,l,rfl,hp,ha,hc,hz,hsz,hlv,k⟩:=h
  have nY:fS 1 _:=hr.mono (by decide)
  have hr2:fS 2 _:=hr.mono (by decide)
  refine ⟨_,aE (cy (i:=3) mv.nd rfl (bp rfl) (cj G1 hr rfl m1 k1 b1 .nil cU (ah (pv 0) (ah (pv 1) (ah (pv 2) aA)))))
   (aE (cy (i:=4) mv.nd rfl (bp rfl) (cA dR (cj G2 nY rfl m2 k2 b2 .nil cU (ah (cA cM (pv 3) aZ (fun _ _=>rfl)) aA)) aZ (fun _ _=>rfl)))
   (aE (qZ (i:=5) rfl mv.nd rfl rfl (uB rfl rfl rfl rfl) (eh (pv 0)) (dX (own:=[("node",8)]) (by rfl)) (fun _ _ _ _ _=>cK (i:=8) mv.nd rfl (bp rfl)) (fun _ _ _ _ _=>gA) (fun _ _ _ _ _=>cg (v:=.int 0) (by rfl) hun ⟨_,rfl⟩))
   (aE (eG (bU gC (bR bG (by rfl) T.len bj (ah (pv 4) aA)) aZ (cq _)) (aR (bO (pv 5))) cX)
   (aE (BO (cA cM (pv 4) aZ (fun _ _=>rfl)) (BP (pv 5) aZ set_list))
   (aE (gz bL rfl (oP rfl T.range (ah (bR bG (by rfl) T.len bj (ah (pv 0) aA)) aA)) (cK (i:=6) mv.nd rfl (bp rfl))
    (aR (gz bL rfl (eh (cj G3 hr2 rfl m3 k3 b3 .nil cU (ah (pv 0) (ah (pv 6) aA)))) (cK (i:=7) mv.nd rfl (bp rfl))
     (aR (BO (cA dR (cj G4 hr2 rfl m4 k4 b4 .nil cU (ah (cA cM (pv 5) (pv 6) (fun _ _=>rfl)) (ah (cA cM (pv 3) (pv 7) (fun _ _=>rfl)) (ah (pv 2) aA)))) aZ (fun _ _=>rfl)) (BP (pv 5) (pv 7) set_list))))))
   (aR (bO (pv 5)))))))),?_⟩
  have ln:(vI (gZ t)).length=size t:=by rw[ae,fU]
  have pos:=size_pos t
  have hch:(dh col).length≤1000:=aB (nE col) hsz
  refine cQ (aJ rfl (aJ rfl (aJ rfl ⟨p,a,c,t,col,l,rfl,hp,ha,hc,hz,hsz,hlv,fun H1 qn s1 hn=>?_⟩)))
  obtain ⟨ds,e1,n1,z1⟩:=id hn
  have dl:∀ j,j<size t→ds[j]?=some (ds[j]?.getD 0):=fun j hj=>by rw[aD (by omega)];rfl
  have hm:=z1 0 _ (dl 0 pos)
  rw[show subAt t 0=t by cases t<;>rfl] at hm
  refine cQ (aJ rfl (iJ qn 0 _ (cI.of e1) (cp (j:=0) (v:=V.ref (ds[0]?.getD 0)) (by rw[aO,dl 0 pos];rfl)) ⟨ds[0]?.getD 0,l,col,t,rfl,hm,hch,fun H2 q2 r s2 hr2' e2 e3=>?_⟩))
  refine iJ q2 1 _ (fR.of e2) (cp (j:=1) rfl) ?_
  have s12:=s1.trans s2
  refine cQ (aJ rfl ⟨p,rfl,⟨_,s12.seq hp⟩,fun S hS=>pG (fun _=>true) (fun _=>V.int 0) hS (s12.seq hp) (by rw[ln];exact aF hz (by decide)) (fun x=>rfl) (fun x _ H3 _ R hR=>hR _ (aM.refl _)) (fun x hx _ H3 s3 R hR=>hR _ (aM.refl _)) (fun H3 s3 e4=>?_)⟩)
  have hSn:H S=none:=s12.free hS
  have eS:((vI (gZ t)).filter fun _=>true).map (fun _=>V.int 0)=eX (tp (size t) 0):=by
   rw[kO,bx,← fU]
   show (gZ t).map (fun _=>V.int 0)=_
   rw[List.map_const']
   show _=eD iv _
   rw[List.map_replicate]
   rfl
  rw[eS] at e4
  have s13:=s12.trans s3
  have e3':=s3 _ _ e3
  refine iP (fun σ' H'=>σ'=[some (.ref p),some (.ref a),some (.ref c),some (.ref qn),some (.ref r),some (.ref S),none,none,none]∧H'=H3∧t.roots l col≠[]) (fun _ go=>?_) ?_
  ·refine aJ rfl ⟨r,aJ rfl ⟨.inl (cI.of e3'),rfl,aJ rfl ?_⟩⟩
   rw[ae]
   refine gI (fun h1=>?_) fun h1=>?_
   ·have h1:t.roots l col=[]:=df.mp (wC.mp h1)
    have hcn:dh col=[]:=dW fun q=>Nz l t col q h1
    refine aJ rfl (k H3 S s13 hSn ?_)
    rw[e4,h1]
    show _=some (HO.lst (eX (t.states l col 0)))
    rw[rj l col hcn]
   ·exact go _ _ ⟨rfl,rfl,fun e=>h1 (wC.mpr (by rw[e];rfl))⟩
  rintro σ' H' ⟨rfl,rfl,hro⟩
  obtain ⟨r0,rt,er⟩:∃ r0 rt,t.roots l col=r0::rt:=by
   cases e:t.roots l col with
   | nil=>exact absurd e hro
   | cons r0 rt=>exact ⟨r0,rt,rfl⟩
  have hne:dh col≠[]:=fun e=>hro (Gv l t col e)
  rw[er] at e3'
  let fin:=t.states l col r0
  have lf:fin.length=size t:=iA l col t r0
  have kfin:∀ H' q,aM H H'→H q=none→H' q=some (.lst (eX fin))→Q (.ref q) H':=fun H' q s hq e=>k H' q s hq (by rw[e,er];rfl)
  refine iP (fun σ' H'=>σ'=[some (.ref p),some (.ref a),some (.ref c),some (.ref qn),some (.ref r),some (.ref S),none,none,none]∧aM H2 H'∧H' S=some (.lst (eX ((tp (size t) 0).set 0 r0)))) (fun _ go=>?_) ?_
  ·refine aJ rfl (iJ r 0 _ (cI.of e3') (cp (j:=0) rfl) (aJ rfl ⟨S,_,0,0,rfl,rfl,e4,ME (k:=0) (by rw[ae,k9];exact pos),?_⟩))
   refine go _ _ ⟨rfl,s3.upd hS,?_⟩
   rw[aw]
   show _=some (HO.lst (eD iv _))
   rw[Fg]
  rintro σ' H4 ⟨rfl,s4,e5⟩
  have s14:=s12.trans s4
  refine aJ rfl ⟨p,aJ rfl ⟨.inl (s14.seq hp),(size t:Int),by rw[ln],by omega,by omega,?_⟩⟩
  rw[bT]
  let Done:Nat→Nat→Nat→Prop:=fun at' b j=>j=0∨(∃ pp,pp<at'∧j∈g5 t pp)∨j∈(g5 t at').take b
  let Pv:Nat→Nat→Hp→Prop:=fun at' b H'=>aM H2 H'∧∃ st:List Nat,H' S=some (.lst (eX st))∧st.length=size t∧∀ j,j<size t→Done at' b j→st[j]?=fin[j]?
  refine oQ (fun i σ H'=>∃ v6 v7 v8:Option V,σ=[some (.ref p),some (.ref a),some (.ref c),some (.ref qn),some (.ref r),some (.ref S),v6,v7,v8]∧Pv i 0 H')
   ⟨none,none,none,rfl,s4,_,e5,by rw[l6,k9],fun j hj hd=>?_⟩ ?_ ?_
  ·rcases hd with h | ⟨pp,h,_⟩ | h
   ·subst h
    rw[kE (by rw[k9];exact pos)]
    exact (rk l col t r0).symm
   ·omega
   ·simp at h
  ·rintro i σ H5 hi ⟨v6,v7,v8,rfl,s5,st,e6,n6,inv⟩
   have ei:(0:Int)+(i:Int)=(i:Int):=Gf _
   rw[ei]
   refine aJ rfl (aJ rfl ⟨p,t,i,rfl,(s12.trans s5).seq hp,hi,fun H6 rp s6 hrp e7=>⟨rp,rfl,⟨_,cI.of e7⟩,iF (K:=K) (a:=rp) (xs:=eX (g5 t i)) (fun b σ H'=>∃ v7 v8:Option V,σ=[some (.ref p),some (.ref a),some (.ref c),some (.ref qn),some (.ref r),some (.ref S),some (iv i),v7,v8]∧H' rp=some (.lst (eX (g5 t i)))∧Pv i b H') ⟨_,_,rfl,e7,s5.trans s6,st,s6 _ _ e6,n6,inv⟩ (fun b σ H' _ ⟨_,_,_,h,_⟩=>cI.of h) ?_ ?_⟩⟩)
   ·rintro b y σ H7 hb ⟨v7,v8,rfl,e8,s7,st2,e9,n9,inv2⟩
    obtain ⟨j,hj,rfl⟩:=qV hb
    have hjm:=aY hj
    have hjl:=DZ hi hjm
    have own:st2[i]?=fin[i]?:=inv2 i hi (by
     by_cases z:i=0
     ·exact .inl z
     ·obtain ⟨pp,h1,h2⟩:=parent t i (by omega) hi
      exact .inr (.inl ⟨pp,h1,h2⟩))
    obtain ⟨si,hsi⟩:∃ si,fin[i]?=some si:=⟨fin[i]'(by omega),aD (by omega)⟩
    have hsi2:st2[i]?=some si:=own.trans hsi
    have next:fin[j]?=some (Si35.nextOf l col si (subAt t j)):=by
     cases e:subAt t i with
     | leaf m=>unfold g5 at hjm;rw[e] at hjm;simp at hjm
     | node x y =>
      obtain ⟨g1,g2,g3⟩:=oC t i x y hi e
      obtain ⟨s',h1,h2,h3⟩:=JZ l col t r0 i x y hi e
      have es:s'=si:=by
       have:fin[i]?=some s':=h1
       rw[hsi] at this
       exact (aH this).symm
      subst es
      unfold g5 at hjm
      rw[e] at hjm
      rcases aI.mp hjm with q | q
      ·rw[q,g2];exact h2
      ·rw[bE.mp q,g3];exact h3
    have s17:=s12.trans s7
    have hmj:yt l col H7 (ds[j]?.getD 0) (subAt t j):=(s2.trans s7) _ _ (z1 j _ (dl j hjl.2))
    refine aJ rfl (aJ rfl (iJ S i _ (cI.of e9) (cp (v:=iv si) (by rw[aO,hsi2];rfl)) (aJ rfl (aJ rfl (iJ qn j _ (cI.of ((s2.trans s7) _ _ e1)) (cp (v:=V.ref (ds[j]?.getD 0)) (by rw[aO,dl j hjl.2];rfl)) (aJ rfl ⟨si,ds[j]?.getD 0,c,mb l col (subAt t j),l,rfl,hmj,yw l col hne _,aB (FY l col _) hch,hc.same s17,fun H8 q8 x8 r8 s8 hx8 hmin e10=>?_⟩))))))
    obtain ⟨_,enx⟩:=Ia hx8 hmin
    rw[enx] at next
    refine iJ q8 1 _ (fR.of e10) (cp (j:=1) rfl) (aJ rfl (aJ rfl ⟨S,_,j,j,rfl,rfl,s8 _ _ e9,ME (by rw[ae];omega),_,aJ rfl ⟨?_,?_⟩⟩))
    ·rw[aW (fun z=>by rw[z,e6] at hrp;cases hrp)]
     exact s8 _ _ e8
    ·refine ⟨(s7.trans s8).upd hS,st2.set j x8,?_,by rw[l6];exact n9,fun j' hj' hd=>?_⟩
     ·rw[aw]
      show _=some (HO.lst (eD iv _))
      rw[Fg]
     ·rw[O6]
      by_cases z:j=j'
      ·subst z
       rw[if_pos rfl,if_pos (by omega)]
       exact next.symm
      ·rw[if_neg z]
       refine inv2 j' hj' ?_
       rcases hd with h | h | h
       ·exact .inl h
       ·exact .inr (.inl h)
       ·rw[take_snoc hj,bu,bE] at h
        rcases h with h | h
        ·exact .inr (.inr h)
        ·exact absurd h.symm z
   ·rintro σ H7 ⟨v7,v8,rfl,e8,s7,st2,e9,n9,inv2⟩
    refine ⟨_,_,aJ rfl ⟨s7,st2,e9,n9,fun j hj hd=>inv2 j hj ?_⟩⟩
    rcases hd with h | ⟨pp,h1,h2⟩ | h
    ·exact .inl h
    ·by_cases z:pp=i
     ·subst z
      exact .inr (.inr (by rw[ae,bI];exact h2))
     ·exact .inr (.inl ⟨pp,by omega,h2⟩)
    ·simp at h
  ·rintro σ H5 ⟨v6,v7,v8,rfl,s5,st,e6,n6,inv⟩
   refine aJ rfl (kfin H5 S (s12.trans s5) hSn ?_)
   have:st=fin:=o3 fun j=>by
    by_cases hj:j<size t
    ·refine inv j hj ?_
     by_cases z:j=0
     ·exact .inl z
     ·obtain ⟨pp,h1,h2⟩:=parent t j (by omega) hj
      exact .inr (.inl ⟨pp,by omega,h2⟩)
    ·rw[bJ (by omega),bJ (by omega)]
   rw[e6,this]
end
structure Dr (mg:bZ→Option ag):Prop where
 max:mg "max"=none
 range:mg "range"=none
 zip:mg "zip"=none
 len:mg "len"=none
 list:mg "list"=none
 enumerate:mg "enumerate"=none
def ON (H:Hp)(g:aj)(gs:List (List bM)):Prop:=∃ qs:List aj,H g=some (.lst (qs.map V.ref))∧Paired (gJ H) qs gs
def SR:Sp:=fun vs H Q _=>∃ (p:aj) (cs:List bM),vs=[.ref p]∧gJ H p cs∧cs.length≤8∧∀ H' g,aM H H'→ON H' g (groups cs (bF cs) (bb (bF cs)))→Q (.ref g) H'
theorem TJ {r:List Nat}{i x:Nat}(h:r[i]?=some x):x<bb r:=by
 have hm:=aY h
 have qi:=rZ (bb r) r
 rw[decide_eq_true (aL _),dO] at qi
 exact of_decide_eq_true (qi x hm)
theorem AS {α:Type}:∀ {l:List α} {i j:Nat} {a:α},l.Nodup→l[i]?=some a→l[j]?=some a→i=j
 | [],i,j,a,_,h,_=>by simp at h
 | b::l,0,0,a,_,_,_=>rfl
 | b::l,0,j+1,a,hn,h1,h2=>by
  cases aH h1
  exact absurd (aY (l:=l) (i:=j) h2) (fj.mp hn).1
 | b::l,i+1,0,a,hn,h1,h2=>by
  cases aH h2
  exact absurd (aY (l:=l) (i:=i) h1) (fj.mp hn).1
 | b::l,i+1,j+1,a,hn,h1,h2=>by rw[AS (l:=l) (i:=i) (j:=j) (fj.mp hn).2 h1 h2]
theorem kY {α β:Type}{R:α→β→Prop}:∀ {l:List α} {m:List β},l.length=m.length→(∀ (i:Nat) a b,l[i]?=some a→m[i]?=some b→R a b)→Paired R l m
 | [],[],_,_=>.nil
 | [],_::_,h,_=>by simp at h
 | _::_,[],h,_=>by simp at h
 | a::l,b::m,h,hr=>.cons (hr 0 a b rfl rfl) (kY (by simpa using h) fun i x y hx hy=>hr (i+1) x y hx hy)
section
variable {P:aV}{w:bK}{K:ai}{mg:bZ→Option ag}{base:bW}
theorem JF:bX ["patterns","numbers","groups","pattern","number"] ["patterns"] (bB Wa):=kG
theorem VH {f f1:aj}{fd j8:bH}(F:jb K "by_old_sound" "by_old_sound" Wa f fd)(T:Dr mg)
  (G1:cP P w K mg base fG 12 f1 j8 ["patterns"] FD)(m1:mg "give_old_sounds"=some (.ref f1))(k1:aQ K (.ref f1)=true)(b1:Binds K j8 ["patterns"] []) :
  cP P w K mg base fG 13 f fd ["patterns"] SR:=by
 refine F.ok JF (fun vs H Q E h=>?_) (fun gq A outer s H vs Q E hr h=>?_)
 ·obtain ⟨p,cs,rfl,_⟩:=h
  rfl
 ·obtain ⟨p,cs,rfl,hp,hz,k⟩:=h
  refine ⟨_,aE (cy (i:=1) JF.nd rfl (bp rfl) (cj G1 hr rfl m1 k1 b1 .nil cU (ah (pv 0) aA)))
   (aE (qZ (i:=2) rfl JF.nd rfl rfl (uB rfl rfl rfl rfl) (oP rfl T.range (ah (d4 eO (xW rfl (by rfl) T.max (ah (pv 1) aA) (qM mj aZ)) aZ) aA)) (dX (own:=[("number",4)]) (by rfl)) (fun _ _ _ _ _=>cK (i:=4) JF.nd rfl (bp rfl)) (fun _ _ _ _ _=>gA) (fun _ _ _ _ _=>cS aA))
   (aE (gz bL rfl (FT rfl T.zip (ah (pv 0) (ah (pv 1) aA))) (yE rfl (jo (cK (i:=3) JF.nd rfl (bp rfl)) (jo (cK (i:=4) JF.nd rfl (bp rfl)) uE)))
    (aR (fT (jU bN cE cD gG (cA cM (pv 2) (pv 4) (fun _ _=>rfl)) (ah (pv 3) aA)))))
   (aR (bO (pv 2))))),?_⟩
  obtain ⟨rs,hp1,pc⟩:=id hp
  let ns:=bF cs
  have lns:ns.length=cs.length:=zB cs
  have hN:bb ns≤8:=aB (wZ cs) hz
  have hgi:eX ns=(ns.map fun n=>((n:Nat):Int)).map V.int:=by show eD iv ns=_;rw[bx];rfl
  refine cQ (aJ rfl ⟨p,cs,rfl,hp,hz,fun H1 q s1 e1=>?_⟩)
  have e1:H1 q=some (.lst (eX ns)):=e1
  refine cQ (aJ rfl (aJ rfl ⟨q,aJ rfl ⟨cI.of (hgi▸e1),_,1,sI ns,rfl,(bb ns:Int),by show [V.int ((bb ns:Int) - 1+1)]=_;rw[show (bb ns:Int) - 1+1=(bb ns:Int) by omega],by omega,by omega,fun D hD=>?_⟩⟩))
  rw[bT]
  refine Ea (fun i H'=>aM H1 H'∧∃ qs:List aj,H' D=some (.lst (qs.map V.ref))∧qs.length=i∧qs.Nodup∧∀ x∈qs,H1 x=none∧x≠D∧H' x=some (.lst [])) ⟨aM.new hD,[],aw,rfl,by simp,fun x h=>by simp at h⟩ (fun i H2 hi h=>?_) (fun H2 h=>?_)
  ·obtain ⟨s2,qs,e2,n2,nd2,al2⟩:=h
   refine ⟨rfl,LL ⟨aS _,fun r dU=>?_⟩⟩
   have s3:=aM.new (o:=.lst []) dU
   have nrD:r≠D:=fun z=>by rw[z,e2] at dU;cases dU
   refine ⟨_,s3 _ _ e2,?_,(s2.trans s3).upd hD,qs++[r],by rw[aw,ba];rfl,by rw[aK,n2];rfl,?_,fun x hx=>?_⟩
   ·rw[ae,n2]
    exact aF (show i≤8 by omega) (by decide)
   ·refine O3.mpr ⟨nd2,by simp,fun x hx y hy e=>?_⟩
    rw[bE] at hy
    have:=(al2 x hx).2.2
    rw[e,hy,dU] at this
    cases this
   ·rcases bu.mp hx with h | h
    ·obtain ⟨a1,a2,a3⟩:=al2 x h
     exact ⟨a1,a2,by rw[aW a2];exact s3 _ _ a3⟩
    ·rw[bE.mp h]
     exact ⟨s2.free dU,nrD,by rw[aW nrD,aw]⟩
  obtain ⟨s2,qs,e2,n2,nd2,al2⟩:=h
  have s12:=s1.trans s2
  refine ⟨_,rfl,_,rfl,p,q,_,_,rfl,cI.of (s12 _ _ hp1),cI.of (s2 _ _ e1),IT (K:=K) (xs:=rs.map V.ref) (ys:=eX ns) (fun i σ H'=>∃ v3 v4:Option V,σ=[some (.ref p),some (.ref q),some (.ref D),v3,v4]∧aM H1 H'∧H' D=some (.lst (qs.map V.ref))∧∀ (k:Nat) (x:aj),qs[k]?=some x→∃ rs':List aj,H' x=some (.lst (rs'.map V.ref))∧Paired (jE H1) rs' (group (cs.take i) (ns.take i) k))
   ⟨none,none,rfl,s2,e2,fun k x hx=>⟨[],(al2 x (aY hx)).2.2,.nil⟩⟩ (fun i σ H' ⟨_,_,_,h,_⟩=>⟨cI.of ((s1.trans h) _ _ hp1),cI.of (h _ _ e1)⟩) ?_ ?_⟩
  ·rintro i x y σ H3 T1 hx hy ⟨v3,v4,rfl,s3,e3,inv⟩ hT
   obtain ⟨a,ha,rfl⟩:=fq hx
   obtain ⟨c,hc,hca⟩:=cZ pc ha
   obtain ⟨n,hn,rfl⟩:=qV hy
   have hnl:n<qs.length:=by rw[n2];exact TJ hn
   obtain ⟨x0,hx0⟩:∃ x0,qs[n]?=some x0:=⟨_,aD hnl⟩
   obtain ⟨rs0,er0,pr0⟩:=inv n x0 hx0
   have s4:=aM.new (o:=.tup [V.ref a,iv n]) hT
   obtain ⟨a1,a2,_⟩:=al2 x0 (aY hx0)
   refine ⟨T1,aJ rfl ⟨fR.of aw,rfl,_,aJ rfl ⟨_,aJ rfl ⟨rfl,?_⟩⟩⟩⟩
   refine aJ rfl (aJ rfl (iJ D n _ (cI.of (s4 _ _ e3)) (cp (v:=V.ref x0) (by rw[aO,hx0];rfl)) ⟨.inl ⟨rfl,_,cI.of (s4 _ _ er0)⟩,aJ rfl ⟨x0,_,aJ rfl ⟨rfl,s4 _ _ er0,?_,_,aJ rfl ⟨(s3.trans s4).upd a1,?_,fun k x hk=>?_⟩⟩⟩⟩))
   ·rw[ae,bC pr0]
    have:(group (cs.take i) (ns.take i) n).length≤8:=by
     unfold group
     rw[ae]
     refine aB (c4 _ _) ?_
     rw[rM,bP]
     omega
    exact aF this (by decide)
   ·rw[aW a2.symm]
    exact s4 _ _ e3
   ·obtain ⟨rs',er,pr⟩:=inv k x hk
    have gs:=GP hc hn k
    by_cases z:n=k
    ·subst z
     rw[hx0] at hk
     cases hk
     rw[er0] at er
     have er':rs'.map V.ref=rs0.map V.ref:=by injection er with er;injection er with er;exact er.symm
     refine ⟨rs0++[a],by rw[aw,ba];rfl,?_⟩
     rw[gs,if_pos rfl]
     exact gD (fun _ _ h=>h) (hca.same s1) pr0
    ·rw[gs,if_neg z,bY]
     have nx:x≠x0:=fun e=>by
      subst e
      exact z (AS nd2 hx0 hk)
     exact ⟨rs',by rw[aW nx];exact s4 _ _ er,pr⟩
  ·rintro σ H3 ⟨v3,v4,rfl,s3,e3,inv⟩
   refine aJ rfl (k H3 D (s1.trans s3) ⟨qs,e3,?_⟩)
   have lz:min (rs.map V.ref).length (eX ns).length=cs.length:=by rw[ae,ae,bC pc,lns,Nat.min_self]
   rw[lz] at inv
   have tk:ns.take cs.length=ns:=by rw[← lns,bI]
   refine kY (by unfold groups;rw[ae,c6];exact n2) fun i x g hx hg=>?_
   unfold groups at hg
   rw[aO] at hg
   have hi:i<bb ns:=by
    have:=(bV.mp hx).1
    rw[n2] at this
    exact this
   rw[js hi] at hg
   cases hg
   obtain ⟨rs',er,pr⟩:=inv i x hx
   rw[bI,tk] at pr
   exact ⟨rs',er,sG s3 pr⟩
end
def BV (H:Hp)(q:aj)(rows:List (List Nat)):Prop:=∃ rs:List aj,H q=some (.lst (rs.map V.ref))∧Paired (fun r row=>H r=some (.lst (eX row))) rs rows
theorem AH {H H2:Hp}{g r:aj}{ys:List V}{row:List Nat}(s:aM H H2)(hr:H2 r=some (.lst (eX row)))(ng:r≠g):∀ {rs:List aj} {rows:List (List Nat)},Paired (fun r row=>r≠g∧H r=some (.lst (eX row))) rs rows→Paired (fun r row=>r≠g∧upd H2 g (.lst ys) r=some (.lst (eX row))) (rs++[r]) (rows++[row])
 | _,_,.nil=>.cons ⟨ng,by rw[aW ng];exact hr⟩ .nil
 | _,_,.cons a t=>.cons ⟨a.1,by rw[aW a.1];exact s _ _ a.2⟩ (AH s hr ng t)
def Mg:Sp:=fun vs H Q _=>∃ (p:aj) (rows:List (List Nat)) (n:Nat),vs=[.ref p,iv n]∧BV H p rows∧rows.length≤100∧n≤6∧(∀ r∈rows,r.length≤10∧bb r≤10)∧∀ H' q,aM H H'→BV H' q (oneMore n rows)→Q (.ref q) H'
theorem Ks (n:Nat)(c:List Nat):(HM n c).length≤n:=by unfold HM;rw[LG];omega
theorem D6 (n:Nat):∀ rows:List (List Nat),(oneMore n rows).length≤n*rows.length
 | []=>by simp[oneMore]
 | r::rows=>by
  have ih:=D6 n rows
  have h:=Ks n r
  unfold oneMore at ih ⊢
  rw[bQ,aK,ae,aU,xl]
  omega
section
variable {P:aV}{w:bK}{K:ai}{mg:bZ→Option ag}{base:bW}
theorem Bv:bX ["choices","how_many","longer","chosen","number"] ["choices","how_many"] (bB HA):=kG
theorem Qv {f:aj}{fd:bH}(F:jb K "with_one_more" "with_one_more" HA f fd)(T:Dr mg):cP P w K mg base fG 1 f fd ["choices","how_many"] Mg:=by
 refine F.ok Bv (fun vs H Q E h=>?_) (fun gq A outer s H vs Q E hr h=>?_)
 ·obtain ⟨p,rows,n,rfl,_⟩:=h
  rfl
 ·obtain ⟨p,rows,n,rfl,⟨rs,hp,pr⟩,hl,hn,hrow,k⟩:=h
  refine ⟨_,aE (cy (i:=2) Bv.nd rfl (bp rfl) (cS aA))
   (aE (gz bL rfl (eh (pv 0)) (cK (i:=3) Bv.nd rfl (bp rfl))
    (aR (gz bL rfl (AK rfl T.range (ah (d4 eO (xW rfl (by rfl) T.max (ah (pv 3) aA) (qM mj aZ)) aZ) (ah (pv 1) aA))) (cK (i:=4) Bv.nd rfl (bp rfl))
     (aR (fT (jU bN cE cD gG (pv 2) (ah (d4 jx (pv 3) (cS (ah (pv 4) aA))) aA)))))))
   (aR (bO (pv 2)))),?_⟩
  refine cQ ⟨aS _,fun g hg=>?_⟩
  have s0:aM H (upd H g (.lst [])):=aM.new hg
  let Got:Hp→List (List Nat)→Prop:=fun H' us=>aM H H'∧∃ qs:List aj,H' g=some (.lst (qs.map V.ref))∧Paired (fun r row=>r≠g∧H' r=some (.lst (eX row))) qs us
  have most:∀ i,(oneMore n (rows.take i)).length≤600:=fun i=>by
   have h1:=D6 n (rows.take i)
   have h2:(rows.take i).length≤100:=by rw[bP];omega
   exact aB h1 (aB (Nat.mul_le_mul hn h2) (by decide))
  refine ⟨_,rfl,p,rfl,⟨_,cI.of (s0 _ _ hp)⟩,iF (K:=K) (a:=p) (xs:=rs.map V.ref) (fun i σ H'=>∃ v3 v4:Option V,σ=[some (.ref p),some (iv n),some (.ref g),v3,v4]∧Got H' (oneMore n (rows.take i)))
   ⟨none,none,rfl,s0,[],aw,.nil⟩ (fun i σ H' _ ⟨_,_,_,s1,_⟩=>cI.of (s1 _ _ hp)) ?_ ?_⟩
  ·rintro i y σ H1 hi ⟨v3,v4,rfl,s1,qs,e1,p1⟩
   obtain ⟨r,nY,rfl⟩:=fq hi
   obtain ⟨row,ht,hrt⟩:=cZ pr nY
   obtain ⟨hz1,hz2⟩:=hrow row (aY ht)
   have hgi:eX row=(row.map fun n=>((n:Nat):Int)).map V.int:=by show eD iv row=_;rw[bx];rfl
   refine aJ rfl (aJ rfl ⟨r,aJ rfl ⟨cI.of (hgi▸s1 _ _ hrt),_,1,sI row,rfl,aJ rfl ⟨(bb row:Int),(n:Int),by show [V.int ((bb row:Int) - 1+1),_]=_;rw[show (bb row:Int) - 1+1=(bb row:Int) by omega],⟨by omega,by omega,by omega,by omega⟩,?_⟩⟩⟩)
   have en:((n:Int) - (bb row:Int)).toNat=n - bb row:=by omega
   rw[en]
   refine oQ (fun j σ H'=>∃ v4:Option V,σ=[some (.ref p),some (iv n),some (.ref g),some (.ref r),v4]∧Got H' (oneMore n (rows.take i)++(sZ (bb row) j).map fun x=>row++[x]))
    ⟨v4,rfl,s1,qs,e1,by show Paired _ qs (_++[]);rw[bY];exact p1⟩ ?_ ?_
   ·rintro j σ H2 hj' ⟨v4,rfl,s2,qs2,e2,p2⟩
    have ej:(bb row:Int)+(j:Int)=((bb row+j:Nat):Int):=by omega
    rw[ej]
    refine aJ rfl ⟨.inl ⟨rfl,_,cI.of e2⟩,aJ rfl (aJ rfl ⟨oj,fun a ha=>?_⟩)⟩
    have t1:=aM.new (o:=.lst [iv (bb row+j)]) ha
    refine ⟨r,a,_,aJ rfl ⟨rfl,t1 _ _ (s2 _ _ hrt),aw,?_,fun b hb=>?_⟩⟩
    ·rw[ae]
     exact aB (show row.length+1≤11 by omega) (by decide)
    have ga:eX row++[iv (bb row+j)]=eX (row++[bb row+j]):=(ba (f:=iv) (l₁:=row) (l₂:=[bb row+j])).symm
    rw[ga]
    have t2:=aM.new (o:=.lst (eX (row++[bb row+j]))) hb
    have nb:b≠g:=fun z=>by
     rw[z,t1 _ _ e2] at hb
     cases hb
    refine ⟨g,_,aJ rfl ⟨rfl,t2 _ _ (t1 _ _ e2),?_,aJ rfl ⟨((s2.trans t1).trans t2).upd hg,qs2++[b],by rw[aw,ba];rfl,?_⟩⟩⟩
    ·rw[ae,bC p2,aK,ae,LG]
     have:=most i
     exact aF (show _≤620 by omega) (by decide)
    ·rw[List.range'_concat,ba,← dE,Nat.one_mul]
     exact AH (t1.trans t2) aw nb p2
   ·rintro σ H2 ⟨v4,rfl,s2,qs2,e2,p2⟩
    refine ⟨_,aJ rfl ⟨s2,qs2,e2,?_⟩⟩
    rw[take_snoc ht]
    unfold oneMore at p2 ⊢
    rw[gF,bQ,lB,bY]
    exact p2
  ·rintro σ H1 ⟨v3,v4,rfl,s1,qs,e1,p1⟩
   refine aJ rfl (k H1 g s1 ⟨qs,e1,?_⟩)
   rw[ae,bC pr,bI] at p1
   exact d9 (fun _ _ h=>h.2) p1
def DL:Sp:=fun vs H Q _=>∃ (p:aj) (ws:List eJ) (lim:Nat),vs=[.ref p,iv lim]∧lU H p ws∧ws.flatten.length≤1000∧(az ws).length≤8∧lim≤5000000000∧∀ H',aM H H'→Q (.bl (decide (bb (bF (az ws))≤lim))) H'
theorem AL {H:Hp}:∀ {qs:List aj} {t:List (bM×Nat)},Paired (fun q (kv:List eF×V)=>lD H q kv.1) qs (jK t)→Paired (jE H) qs (t.map (·.1))
 | [],[],_=>.nil
 | _::_,[],h=>by cases h
 | [],_::_,h=>by cases h
 | q::qs,kv::t,.cons a b=>.cons (jE.Mw a) (AL b)
theorem sD {H:Hp}{p:aj}{qs:List aj}{ws:List eJ}(hp:H p=none)(h:Paired (fun q (kv:List eF×V)=>lD H q kv.1) qs (jK (gO ws.flatten))):gJ (upd H p (.lst (qs.map V.ref))) p (az ws):=by
 refine ⟨qs,aw,?_⟩
 have:=AL h
 rw[y3] at this
 exact sG (aM.new hp) this
theorem Nr:bX ["words","limit"] ["words","limit"] (bB xO):=kG
theorem Km {f f1 f2:aj}{fd j8 mL:bH}(F:jb K "are_enough" "are_enough" xO f fd)(T:Dr mg)
  (G1:cP P w K mg base fG 1 f1 j8 ["words"] pA)(m1:mg "count_places"=some (.ref f1))(k1:aQ K (.ref f1)=true)(b1:Binds K j8 ["words"] [])
  (G2:cP P w K mg base fG 11 f2 mL ["patterns","limit","given"] (Dj 9))(m2:mg "first_way"=some (.ref f2))(k2:aQ K (.ref f2)=true)(b2:Binds K mL ["patterns","limit","given"] []) :
  cP P w K mg base fG 12 f fd ["words","limit"] DL:=by
 refine F.ok Nr (fun vs H Q E h=>?_) (fun gq A outer s H vs Q E hr h=>?_)
 ·obtain ⟨p,ws,lim,rfl,_⟩:=h
  rfl
 ·obtain ⟨p,ws,lim,rfl,hp,hz,h8,hlim,k⟩:=h
  have nY:fS 1 _:=hr.mono (by decide)
  refine ⟨_,aR (bO (pF xY (cj G2 hr rfl m2 k2 b2 .nil cU (ah (kK (pQ rfl) (by rfl) T.list sT (ah (cj G1 nY (by rfl) m1 k1 b1 .nil cU (ah (pv 0) aA)) aA)) (ah (pv 1) (ah (cS aA) aA)))) nR (cq _))),?_⟩
  refine aJ rfl ⟨p,ws,rfl,hp,hz,fun H1 t s1 _ e1=>?_⟩
  refine ⟨t,aJ rfl ⟨e1,fun qs q pq hq=>?_⟩⟩
  have s2:=aM.new (o:=.lst (qs.map V.ref)) hq
  refine aJ rfl ⟨aS _,fun g hg=>?_⟩
  have s3:=aM.new (o:=.lst []) hg
  refine ⟨q,g,az ws,[],lim,rfl,(sD hq pq).same s3,aw,aS _,by simp;omega,by omega,hlim,aS _,fun H2 v s4 hv=>?_⟩
  have zz:gj lim ((az ws).zip []) (bb []) ((az ws).drop ([]:List Nat).length)=gj lim [] 0 (az ws):=by
   rw[vp]
   rfl
  rw[zz] at hv
  have we:=Gg lim (az ws)
  refine ⟨rfl,?_⟩
  have sa:=((s1.trans s2).trans s3).trans s4
  have kk:=k H2 sa
  rw[← we] at kk
  generalize gj lim [] 0 (az ws)=res at hv kk
  cases res with
  | none =>
   have hv:v=.hU:=hv
   subst hv
   exact kk
  | some r =>
   obtain ⟨t',rfl,_⟩:=hv
   exact kk
end
theorem QT {K:ai}{a:aj}{xs:List V}{g:TG}{tt:TT}{te:TE}{vs:List Nat}{σ:L2.St}{H1:Hp}{D:aj}{Qd:Hp→Prop}(Pv:Nat→Hp→Prop)(h0:Pv 0 (upd H1 D (.lst [])))(hl:∀ i H,Pv i H→cI K H a xs)
  (hs:∀ i x H T,xs[i]?=some x→Pv i H→H T=none→g (.ref T) (wipe σ vs) (upd H T (.tup [.int (i:Nat),x])) fun σ2 H2=>wipe σ2 vs=wipe σ vs∧tt σ2 H2 fun b H3 =>
   if b=true then te σ2 H3 fun y H4=>∃ acc,H4 D=some (.lst acc)∧acc.length<aP∧Pv (i+1) (upd H4 D (.lst (acc++[y]))) else Pv (i+1) H3)(hd:∀ H,Pv xs.length H→Qd H) :
  ∃ W:Nat→Nat→Hp→Prop,(∃ m,W 0 m (upd H1 D (.lst [])))∧∀ i m H,W i m H →
   ((U1 K a).stop i H∧Qd H)∨((U1 K a).go i H∧∃ Nx:Hp→Prop,(∀ H',Nx H'→∃ m',m'<m∧W (i+1) m' H')∧∀ x H',(U1 K a).zO i H x H'→g x (wipe σ vs) H' fun σ2 H2=>wipe σ2 vs=wipe σ vs∧tt σ2 H2 fun b H3 =>
    if b=true then te σ2 H3 fun y H4=>∃ acc,H4 D=some (.lst acc)∧acc.length<aP∧Nx (upd H4 D (.lst (acc++[y]))) else Nx H3):=by
 refine ⟨fun i m H=>m=xs.length - i∧i≤xs.length∧Pv i H,⟨_,rfl,aS _,h0⟩,?_⟩
 rintro i m H ⟨rfl,hi,p⟩
 have q:=hl i H p
 by_cases lt:i<xs.length
 ·have e1:xs[i]?=some (xs[i]'lt):=aD lt
  refine .inr ⟨⟨xs,_,q,e1⟩,Pv (i+1),fun H' p'=>⟨_,by omega,rfl,by omega,p'⟩,?_⟩
  rintro x H' ⟨T,u,rfl,hT,rfl,f1⟩
  exact hs i u H T (f1 xs q) p hT
 ·have e:i=xs.length:=by omega
  exact .inl ⟨⟨xs,q,by omega⟩,hd H (e▸p)⟩
theorem T3 {K:ai}{a b:aj}{xs ys:List V}{g:TG}{tt:TT}{te:TE}{vs:List Nat}{σ:L2.St}{H1:Hp}{D:aj}{Qd:Hp→Prop}(Pv:Nat→Hp→Prop)(h0:Pv 0 (upd H1 D (.lst [])))(hl:∀ i H,Pv i H→cI K H a xs∧cI K H b ys)
  (hs:∀ i x y H T,xs[i]?=some x→ys[i]?=some y→Pv i H→H T=none→g (.ref T) (wipe σ vs) (upd H T (.tup [x,y])) fun σ2 H2=>wipe σ2 vs=wipe σ vs∧tt σ2 H2 fun b H3 =>
   if b=true then te σ2 H3 fun y H4=>∃ acc,H4 D=some (.lst acc)∧acc.length<aP∧Pv (i+1) (upd H4 D (.lst (acc++[y]))) else Pv (i+1) H3)(hd:∀ H,Pv (min xs.length ys.length) H→Qd H) :
  ∃ W:Nat→Nat→Hp→Prop,(∃ m,W 0 m (upd H1 D (.lst [])))∧∀ i m H,W i m H →
   ((R5 K a b).stop i H∧Qd H)∨((R5 K a b).go i H∧∃ Nx:Hp→Prop,(∀ H',Nx H'→∃ m',m'<m∧W (i+1) m' H')∧∀ x H',(R5 K a b).zO i H x H'→g x (wipe σ vs) H' fun σ2 H2=>wipe σ2 vs=wipe σ vs∧tt σ2 H2 fun b H3 =>
    if b=true then te σ2 H3 fun y H4=>∃ acc,H4 D=some (.lst acc)∧acc.length<aP∧Nx (upd H4 D (.lst (acc++[y]))) else Nx H3):=by
 refine ⟨fun i m H=>m=min xs.length ys.length - i∧i≤min xs.length ys.length∧Pv i H,⟨_,rfl,aS _,h0⟩,?_⟩
 rintro i m H ⟨rfl,hi,p⟩
 obtain ⟨q1,q2⟩:=hl i H p
 by_cases lt:i<min xs.length ys.length
 ·have e1:xs[i]?=some (xs[i]'(by omega)):=aD (by omega)
  have e2:ys[i]?=some (ys[i]'(by omega)):=aD (by omega)
  refine .inr ⟨⟨xs,ys,_,_,q1,q2,e1,e2⟩,Pv (i+1),fun H' p'=>⟨_,by omega,rfl,by omega,p'⟩,?_⟩
  rintro x H' ⟨T,u,v,rfl,hT,rfl,f1,f2⟩
  exact hs i u v H T (f1 xs q1) (f2 ys q2) p hT
 ·have e:i=min xs.length ys.length:=by omega
  exact .inl ⟨⟨xs,ys,q1,q2,by omega⟩,hd H (e▸p)⟩
theorem Q0 (x:Nat)(l:List Nat):UT (iv x) (eX l)=l.contains x:=by
 unfold UT eX
 rw[mM,List.contains_eq_any_beq]
 refine congrArg (fun f=>l.any f) (funext fun y=>?_)
 show ((y:Int)==(x:Int))=(x==y)
 rw[eM,beq_iff_eq,beq_iff_eq]
 omega
theorem Oh (l:List Nat):(eX l).all uy=true:=by
 unfold eX
 rw[Fh]
 exact dO.mpr fun _ _=>rfl
theorem IU {α:Type}(f:α→Bool):∀ (l:List α) (k:Nat) (a:α),l[k]?=some a→(∀ j b,j<k→l[j]?=some b→f b=false)→f a=true→l.find? f=some a
 | [],k,a,h,_,_=>by simp at h
 | b::l,0,a,h,_,h2=>by
  cases aH h
  rw[cJ,h2]
 | b::l,k+1,a,h,h1,h2=>by
  rw[cJ,h1 0 b (by omega) rfl]
  exact IU f l k a h (fun j c hj hc=>h1 (j+1) c (by omega) hc) h2
theorem vP {α:Type}[DecidableEq α]:∀ {l m:List α},l.Nodup→(∀ k,k∈l→k∈m)→l.length≤m.length
 | [],m,_,_=>aS _
 | a::l,m,hn,h=>by
  have ha:=h a ax
  obtain ⟨n1,n2⟩:=fj.mp hn
  have:=vP (l:=l) (m:=m.erase a) n2 fun k hk=>(tJ (fun e:k=a=>n1 (e▸hk))).mpr (h k (ao _ hk))
  rw[o7 ha] at this
  have:=Fm ha
  simp
  omega
theorem wG (l:List eJ)(o:List Nat):(ku l o).Sublist l:=by
 unfold ku
 have:=(List.filter_sublist (l:=l.zipIdx) (p:=fun (x:eJ×Nat)=>!o.contains x.2)).map (fun x:eJ×Nat=>x.1)
 have e:l.zipIdx.map (fun x:eJ×Nat=>x.1)=l:=List.zipIdx_map_fst 0 l
 rw[e] at this
 exact this
theorem ra {α:Type}:∀ {l m:List (List α)},l.Sublist m→l.flatten.Sublist m.flatten
 | _,_,.slnil=>CV _
 | _,_,.cons a h=>by rw[kD];exact (ra h).trans (List.sublist_append_right _ _)
 | _,_,.cons₂ a h=>by rw[kD,kD];exact List.Sublist.append (CV _) (ra h)
theorem CB (l:List eJ)(o:List Nat):(az (ku l o)).length≤(az l).length:=by
 unfold az
 exact vP (GS _) fun k hk=>(ig k _).mpr ((ra (wG l o)).subset ((ig k _).mp hk))
def Ij:Sp:=fun vs H Q _=>∃ (p:aj) (ws:List eJ) (lim:Nat),vs=[.ref p,iv lim]∧lU H p ws∧ws.length≤6∧ws.flatten.length≤1000∧(az ws).length≤8∧lim≤5000000000∧∀ H' q,aM H H'→H' q=some (.lst (eX (lH ws lim)))→Q (.ref q) H'
section
variable {P:aV}{w:bK}{K:ai}{mg:bZ→Option ag}{base:bW}
theorem rY:bX ["words","limit","choices","left_out","others","number","places"] ["words","limit"] (bB BI):=kG
theorem NW {f f1 f2:aj}{fd j8 mL:bH}(F:jb K "leave_out" "leave_out" BI f fd)(T:Dr mg)
  (G1:cP P w K mg base fG 12 f1 j8 ["words","limit"] DL)(m1:mg "are_enough"=some (.ref f1))(k1:aQ K (.ref f1)=true)(b1:Binds K j8 ["words","limit"] [])
  (G2:cP P w K mg base fG 1 f2 mL ["choices","how_many"] Mg)(m2:mg "with_one_more"=some (.ref f2))(k2:aQ K (.ref f2)=true)(b2:Binds K mL ["choices","how_many"] []) :
  cP P w K mg base fG 13 f fd ["words","limit"] Ij:=by
 refine F.ok rY (fun vs H Q E h=>?_) (fun gq A outer s H vs Q E hr h=>?_)
 ·obtain ⟨p,ws,lim,rfl,_⟩:=h
  rfl
 ·obtain ⟨p,ws,lim,rfl,hp,h6,hz,h8,hlim,k⟩:=h
  obtain ⟨qs,hp1,pw⟩:=id hp
  have nY:fS 1 _:=hr.mono (by decide)
  refine ⟨_,aE (cy (i:=2) rY.nd rfl (bp rfl) (cS (ah (cS aA) aA)))
   (aR (my bL (pk Ah)
    (aE (gz bL rfl (eh (pv 2)) (cK (i:=3) rY.nd rfl (p6 rfl))
     (aE (qZ (i:=4) rfl rY.nd rfl rfl (uB rfl rfl rfl rfl) (Qm rfl T.enumerate (ah (pv 0) aA)) (dX (own:=[("number",5),("places",6)]) (by rfl)) (fun _ _ _ _ _=>vB (K:=K) (i:=5) (j:=6) rfl rfl rY.nd rfl (bp rfl) rfl (bp rfl)) (fun _ _ _ _ _=>pD (bU (r:=WZ K true) CF (pv 5) (pv 3) rfl)) (fun _ _ _ _ _=>pv 6))
      (aR (eG (pk (cj G1 hr (by rfl) m1 k1 b1 .nil cU (ah (pv 4) (ah (pv 1) aA)))) (aR (bO (pv 3))) cX))))
    (aR (cy (i:=2) rY.nd rfl (bp rfl) (cj G2 nY (by rfl) m2 k2 b2 .nil cU (ah (pv 2) (ah (bR bG (by rfl) T.len bj (ah (pv 0) aA)) aA))))))))
   ,?_⟩
  let n:=ws.length
  let ok:List Nat→Prop:=fun o=>bb (bF (az (ku ws o)))≤lim
  refine cQ ⟨aS _,fun a0 ha0=>⟨oj,fun c0 hc0=>?_⟩⟩
  have s1:=aM.new (o:=.lst []) ha0
  have s2:=aM.new (o:=.lst [V.ref a0]) hc0
  refine ⟨fun m σ H'=>∃ (j:Nat) (c:aj) (v3 v4 v5 v6:Option V),σ=[some (.ref p),some (iv lim),some (.ref c),v3,v4,v5,v6]∧m+j=n∧aM H H'∧BV H' c (lN j n (br n))∧∀ i<j,∀ o∈lN i n (br n),¬ ok o,
   ⟨n,0,c0,none,none,none,none,rfl,rfl,s1.trans s2,⟨[a0],aw,by rw[CJ];exact .cons (s2 _ _ aw) .nil⟩,fun i h=>by omega⟩,?_⟩
  rintro m σ H1 ⟨j,c,v3,v4,v5,v6,rfl,hm,s3,⟨cs,ec,pc⟩,bad⟩
  refine aJ rfl (pd ⟨fun σ' H'=>∃ m'<m,∃ (j:Nat) (c:aj) (v3 v4 v5 v6:Option V),σ'=[some (.ref p),some (iv lim),some (.ref c),v3,v4,v5,v6]∧m'+j=n∧aM H H'∧BV H' c (lN j n (br n))∧∀ i<j,∀ o∈lN i n (br n),¬ ok o,fun _ _ h=>h,?_⟩)
  have hcm:=pN j n (br n)
  refine ⟨_,rfl,c,rfl,⟨_,cI.of ec⟩,iF (K:=K) (a:=c) (xs:=cs.map V.ref) (fun i σ H'=>∃ v3 v4 v5 v6:Option V,σ=[some (.ref p),some (iv lim),some (.ref c),v3,v4,v5,v6]∧aM H1 H'∧∀ l o,l<i→(lN j n (br n))[l]?=some o→¬ ok o)
   ⟨v3,v4,v5,v6,rfl,aM.refl _,fun l o h=>by omega⟩ (fun i σ H' _ ⟨_,_,_,_,_,s4,_⟩=>cI.of (s4 _ _ ec)) ?_ ?_⟩
  ·rintro i y σ H2 hi ⟨v3,v4,v5,v6,rfl,s4,al⟩
   obtain ⟨r,dU,rfl⟩:=fq hi
   obtain ⟨o,ho,hro⟩:=cZ pc dU
   have s34:=s3.trans s4
   have hro2:=s4 _ _ hro
   refine cQ (aJ rfl ⟨p,aJ rfl ⟨cI.of (s34 _ _ hp1),fun D hD=>QT (K:=K) (a:=p) (xs:=qs.map V.ref) (fun e H'=>aM H2 H'∧∃ rs:List aj,H' D=some (.lst (rs.map V.ref))∧Paired (gJ H2) rs (((ws.zipIdx.take e).filter fun (x:eJ×Nat)=>!o.contains x.2).map fun x=>x.1)) ⟨aM.new hD,[],aw,.nil⟩ (fun e H' h=>cI.of (h.1 _ _ (s34 _ _ hp1))) ?_ ?_⟩⟩)
   ·rintro e x H3 T1 he ⟨s5,rs,er,pr⟩ hT
    obtain ⟨q,hq,rfl⟩:=fq he
    obtain ⟨wd,hw,hwa⟩:=cZ pw hq
    have hzi:ws.zipIdx[e]?=some (wd,e):=by rw[List.getElem?_zipIdx,hw];simp
    have s6:=aM.new (o:=.tup [.int (e:Nat),V.ref q]) hT
    refine ⟨T1,aJ rfl ⟨fR.of aw,rfl,_,aJ rfl ⟨_,aJ rfl ⟨rfl,rfl,aJ rfl (aJ rfl ⟨r,aJ rfl ⟨.inl (cI.of (s6 _ _ (s5 _ _ hro2))),rfl,Oh o,?_⟩⟩)⟩⟩⟩⟩
    refine aJ rfl ?_
    show if (!UT (iv e) (eX o))=true then _ else _
    rw[Q0]
    refine gI (fun h1=>?_) fun h1=>?_
    ·refine aJ rfl ⟨_,s6 _ _ er,?_,(s5.trans s6).upd hD,rs++[q],by rw[aw,ba];rfl,?_⟩
     ·rw[ae,bC pr,ae]
      refine aF (aB (gY _ _ _) (show ws.zipIdx.length≤6 by rw[LF];exact h6)) (by decide)
     ·rw[fZ _ hzi,if_pos h1,ba]
      exact gD (fun _ _ h=>h) (hwa.same s34) pr
    ·refine ⟨s5.trans s6,rs,s6 _ _ er,?_⟩
     rw[fZ _ hzi,if_neg h1,bY]
     exact pr
   ·rintro H3 ⟨s5,rs,er,pr⟩
    have lz:(qs.map V.ref).length=ws.zipIdx.length:=by rw[ae,bC pw,LF]
    rw[lz,bI] at pr
    have hwo:lU H3 D (ku ws o):=⟨rs,er,pH s5 pr⟩
    refine aJ rfl (aJ rfl ⟨D,_,lim,rfl,hwo,aB (ra (wG ws o)).length_le hz,aB (CB ws o) h8,hlim,fun H4 s6=>⟨_,rfl,?_⟩⟩)
    have s56:=s5.trans s6
    refine gI (fun h1=>?_) fun h1=>?_
    ·have h1:ok o:=of_decide_eq_true h1
     refine aJ rfl (k H4 r (s34.trans s56) ?_)
     rw[N6 ws lim j o (by omega) (fun i hi o' ho'=>bad i hi o' ho') (IU _ _ i o ho (fun l b hl hb=>decide_eq_false (al l b hl hb)) (decide_eq_true h1))]
     exact s56 _ _ hro2
    ·refine ⟨_,_,_,aJ rfl ⟨s4.trans s56,fun l o' hl ho'=>?_⟩⟩
     by_cases z:l=i
     ·rw[z,ho] at ho'
      cases ho'
      exact fun q=>h1 (decide_eq_true q)
     ·exact al l o' (by omega) ho'
  ·rintro σ H2 ⟨v3,v4,v5,v6,rfl,s4,al⟩
   have all:∀ o∈lN j n (br n),¬ ok o:=fun o ho=>by
    obtain ⟨l,hl⟩:=List.getElem?_of_mem ho
    exact al l o (by rw[ae,bC pc];exact (bV.mp hl).1) hl
   have hj:j<n:=by
    refine OZ (by omega) fun e=>?_
    have ca:=zD (br n)
    rw[c6] at ca
    refine all (br n) (by rw[e,ca];exact bE.mpr rfl) ?_
    show bb (bF (az (ku ws (br ws.length))))≤lim
    rw[Ey]
    exact aS _
   have ln:(qs.map V.ref).length=n:=by rw[ae,bC pw]
   refine aJ rfl (aJ rfl ⟨p,aJ rfl ⟨.inl (cI.of ((s3.trans s4) _ _ hp1)),c,_,n,by rw[ln];rfl,⟨cs,s4 _ _ ec,d9 (fun r row h=>s4 _ _ h) pc⟩,?_,h6,fun r dU=>?_,fun H3 q s5 hq=>?_⟩⟩)
   ·exact aB (uf j n _) (aB (lW (by decide) h6) (by decide))
   ·obtain ⟨l1,l2⟩:=hcm r dU
    refine ⟨by omega,?_⟩
    have:(r.all fun k=>decide (k<n))=true:=dO.mpr fun x hx=>decide_eq_true (dN.mp (l2 x hx))
    rw[rZ] at this
    have:=of_decide_eq_true this
    omega
   ·refine ⟨m - 1,by omega,j+1,q,_,_,_,aJ rfl ⟨by omega,(s3.trans s4).trans s5,by rw[EU];exact hq,fun i hi o ho=>?_⟩⟩
    by_cases z:i=j
    ·rw[z] at ho
     exact all o ho
    ·exact bad i (by omega) o ho
end
structure qk (mg:bZ→Option ag):Prop where
 len:mg "len"=none
 all:mg "all"=none
 any:mg "any"=none
 sum:mg "sum"=none
 sorted:mg "sorted"=none
 set:mg "set"=none
 list:mg "list"=none
 tuple:mg "tuple"=none
 min:mg "min"=none
 max:mg "max"=none
 range:mg "range"=none
 zip:mg "zip"=none
theorem BS (l:List Nat):eX l=vI (Pc l):=by
 unfold vI Pc eX
 rw[bx]
 rfl
theorem v9:bootBuiltins "all"=some (.builtin "all"):=by decide +kernel
theorem K6:bootBuiltins "any"=some (.builtin "any"):=by decide +kernel
theorem vZ:bootBuiltins "sum"=some (.builtin "sum"):=by decide +kernel
theorem K5:bootBuiltins "tuple"=some (.type "tuple"):=by decide +kernel
theorem F6 {α:Type}(l:List α)(f:α→Bool):(l.map f).all id=l.all f:=by rw[Fh];rfl
theorem Ux {α:Type}(l:List α)(f:α→Bool):(l.map f).any id=l.any f:=by rw[mM];rfl
def Mj (K:ai):Sp:=fun vs H Q _=>∃ (p:aj) (x:List Nat),vs=[.ref p]∧cI K H p (eX x)∧x.length≤1000∧∀ H',aM H H'→Q (.bl (dD x)) H'
def placeOk (n:Nat)(c:bM):Bool:=decide (c.env≤9)&&(decide (c.sounds.length=n)&&c.sounds.all fun s=>decide (s≤nv))
def Ig:Sp:=fun vs H Q _=>∃ (p:aj) (c:bM) (n:Nat),vs=[.ref p,iv n]∧jE H p c∧c.sounds.length≤1000∧∀ H',aM H H'→Q (.bl (placeOk n c)) H'
section
variable {P:aV}{w:bK}{K:ai}{mg:bZ→Option ag}{base:bW}
theorem FJ:bX ["row","sound"] ["row"] (bB HE):=kG
theorem Qz {f:aj}{fd:bH}(F:jb K "is_row_of_sounds" "is_row_of_sounds" HE f fd)(T:qk mg):cP P w K mg base fG 1 f fd ["row"] (Mj K):=by
 refine F.ok FJ (fun vs H Q E h=>?_) (fun gq A outer s H vs Q E hr h=>?_)
 ·obtain ⟨p,x,rfl,_⟩:=h
  rfl
 ·obtain ⟨p,x,rfl,hp,hz,k⟩:=h
  refine ⟨_,aR (bO (FV (pF mX (bR bG (by rfl) T.len bj (ah (pv 0) aA)) aZ (cq _))
   (Mt (bR (F4 rfl) (by rfl) T.all v9 (ah (jm rfl FJ.nd (eh (pv 0)) (dX (own:=[("sound",1)]) (by rfl)) (fun _ _ _ _ _=>cK (i:=1) FJ.nd rfl (bp rfl)) (fun _ _ _ _ _=>gA) (fun _ _ _ _ _=>NJ mX mX aZ (pv 1) aZ)) aA))))),?_⟩
  have hl:((eX x).length:Int)=(x.length:Int):=by rw[ae]
  refine aJ rfl ⟨p,aJ rfl ⟨.inl hp,_,aJ rfl ⟨rfl,aJ rfl ?_⟩⟩⟩
  rw[hl]
  unfold dD at k
  refine gI (fun h1=>?_) fun h1=>?_
  ·refine aJ rfl ⟨p,rfl,⟨_,hp⟩,fun D hD=>pG (fun _=>true) (fun v=>match v with | .int k=>V.bl (decide (2≤k)&&decide (k≤99)) | _=>.hU) hD hp (by rw[ae];exact aF hz (by decide)) (fun x=>rfl) (fun x _ H1 _ R hR=>hR _ (aM.refl _)) (fun v hv _ H1 s1 R hR=>?_) (fun H1 s1 e1=>?_)⟩
   ·obtain ⟨y,_,rfl⟩:=aX.mp hv
    refine aJ rfl ⟨_,aJ rfl ⟨rfl,aJ rfl ?_⟩⟩
    have q:=hR H1 (aM.refl _)
    refine gI (fun h2=>?_) fun h2=>?_
    ·refine ⟨_,aJ rfl ⟨rfl,?_⟩⟩
     have q:R (V.bl (decide ((2:Int)≤(y:Int))&&decide ((y:Int)≤99))) H1:=q
     rw[h2] at q
     exact q
    ·have q:R (V.bl (decide ((2:Int)≤(y:Int))&&decide ((y:Int)≤99))) H1:=q
     rw[lC] at h2
     rw[h2] at q
     exact q
   ·rw[kO,bx] at e1
    have ef:x.map ((fun v=>match v with | .int k=>V.bl (decide (2≤k)&&decide (k≤99)) | _=>.hU)∘iv)=(x.map fun s=>decide (2≤s)&&decide (s≤nv)).map V.bl:=by
     rw[bx]
     refine dt fun y _=>?_
     show V.bl (decide ((2:Int)≤(y:Int))&&decide ((y:Int)≤99))=V.bl (decide (2≤y)&&decide (y≤99))
     rw[show decide ((2:Int)≤(y:Int))=decide (2≤y) from decide_eq_decide.mpr (by omega),show decide ((y:Int)≤99)=decide (y≤99) from decide_eq_decide.mpr (by omega)]
    rw[ef] at e1
    refine ⟨D,aJ rfl ⟨cI.of e1,?_⟩⟩
    have q:=k H1 s1
    rw[decide_eq_true (show x.length≤6 by have:=of_decide_eq_true h1;omega),jI] at q
    rw[F6]
    exact q
  ·have q:=k H (aM.refl _)
   rw[decide_eq_false (show ¬ x.length≤6 from fun e=>h1 (decide_eq_true (by omega))),iw] at q
   exact q
theorem Cd:bX ["place","languages","sound"] ["place","languages"] (bB BD):=kG
theorem NR {f:aj}{fd:bH}(F:jb K "is_place" "is_place" BD f fd)(T:qk mg):cP P w K mg base fG 1 f fd ["place","languages"] Ig:=by
 refine F.ok Cd (fun vs H Q E h=>?_) (fun gq A outer s H vs Q E hr h=>?_)
 ·obtain ⟨p,c,n,rfl,_⟩:=h
  rfl
 ·obtain ⟨p,c,n,rfl,⟨b,hp,hb⟩,hz,k⟩:=h
  refine ⟨_,aR (bO (FV (pF mX (cA dR (pv 0) aZ (fun _ _=>rfl)) aZ (cq _))
   (FV (pF gC (bR bG (by rfl) T.len bj (ah (cA dR (pv 0) aZ (fun _ _=>rfl)) aA)) (pv 1) (cq _))
   (Mt (bR (F4 rfl) (by rfl) T.all v9 (ah (jm rfl Cd.nd (Ms (cA dR (pv 0) aZ (fun _ _=>rfl))) (dX (own:=[("sound",2)]) (by rfl)) (fun _ _ _ _ _=>cK (i:=2) Cd.nd rfl (bp rfl)) (fun _ _ _ _ _=>gA) (fun _ _ _ _ _=>pF mX (pv 2) aZ (cq _))) aA)))))),?_⟩
  have hl:((eX c.sounds).length:Int)=(c.sounds.length:Int):=by rw[ae]
  have i1:Fe [iv c.env,V.ref b] 1=some (.ref b):=rfl
  refine aJ rfl (iJ p 0 _ (fR.of hp) rfl ⟨_,aJ rfl ⟨rfl,aJ rfl ?_⟩⟩)
  unfold placeOk at k
  refine gI (fun h1=>?_) fun h1=>?_
  ·rw[decide_eq_true (show c.env≤9 by have:=of_decide_eq_true h1;omega),jI] at k
   refine aJ rfl (iJ p 1 _ (fR.of hp) i1 ⟨b,aJ rfl ⟨.inr (fR.of hb),aJ rfl ⟨rfl,aJ rfl ?_⟩⟩⟩)
   rw[hl]
   refine gI (fun h2=>?_) fun h2=>?_
   ·have h2:c.sounds.length=n:=by
     have:=pz.mp h2
     omega
    rw[decide_eq_true h2,jI] at k
    refine aJ rfl (iJ p 1 _ (fR.of hp) i1 ⟨b,rfl,⟨_,fR.of hb⟩,fun D hD=>IJ (fun _=>true) (fun v=>match v with | .int k=>V.bl (decide (k≤99)) | _=>.hU) hD (fR.of hb) (by rw[ae];exact aF hz (by decide)) (fun x=>rfl) (fun x _ H1 _ R hR=>hR _ (aM.refl _)) (fun v hv _ H1 s1 R hR=>?_) (fun H1 s1 e1=>?_)⟩)
    ·obtain ⟨y,_,rfl⟩:=aX.mp hv
     exact aJ rfl ⟨_,aJ rfl ⟨rfl,hR H1 (aM.refl _)⟩⟩
    ·rw[kO,bx] at e1
     have ef:c.sounds.map ((fun v=>match v with | .int k=>V.bl (decide (k≤99)) | _=>.hU)∘iv)=(c.sounds.map fun s=>decide (s≤nv)).map V.bl:=by
      rw[bx]
      refine dt fun y _=>?_
      show V.bl (decide ((y:Int)≤99))=V.bl (decide (y≤99))
      rw[show decide ((y:Int)≤99)=decide (y≤99) from decide_eq_decide.mpr (by omega)]
     rw[ef] at e1
     refine ⟨D,aJ rfl ⟨cI.of e1,?_⟩⟩
     rw[F6]
     exact k H1 s1
   ·rw[decide_eq_false (show ¬ c.sounds.length=n from fun e=>h2 (pz.mpr (by omega))),iw] at k
    exact k H (aM.refl _)
  ·rw[decide_eq_false (show ¬ c.env≤9 from fun e=>h1 (decide_eq_true (by omega))),iw] at k
   exact k H (aM.refl _)
end
def DJ (K:ai):Sp:=fun vs H Q _=>∃ (p:aj) (wd:eJ),vs=[.ref p]∧cI K H p (eX (wd.flatMap JK))∧wd.length≤12∧(∀ c∈wd,c.sounds.length≤12)∧∀ H' q,aM H H'→H q=none→gJ H' q wd→Q (.ref q) H'
def Jk (H:Hp)(q:aj)(l:List (Nat×Nat)):Prop:=∃ rs:List aj,H q=some (.lst (rs.map V.ref))∧Paired (fun r (p:Nat×Nat)=>H r=some (.tup [iv p.1,iv p.2])) rs l
def Ih (K:ai):Sp:=fun vs H Q _=>∃ (p:aj) (l:List (Nat×Nat)),vs=[.ref p]∧cI K H p (eX (l.flatMap fun p=>[p.1,p.2]))∧l.length≤12∧∀ H' q,aM H H'→H q=none→Jk H' q l→Q (.ref q) H'
def HR (H:Hp)(q:aj)(xs:List (List Int)):Prop:=∃ rs:List aj,H q=some (.lst (rs.map V.ref))∧Paired (fun r x=>H r=some (.lst (vI x))) rs xs
def Sm (H0 H:Hp)(q:aj)(xs:List (List Int)):Prop:=∃ rs:List aj,H q=some (.lst (rs.map V.ref))∧Paired (fun r x=>H0 r=none∧H r=some (.lst (vI x))) rs xs
def Md (K:ai):Sp:=fun vs H Q _=>∃ (p:aj) (cs:List Int) (a k:Nat) (xs:List (List Int)) (t:List Int),vs=[.ref p,iv a,iv k]∧cI K H p (vI cs)∧cs.drop a=ou xs++t∧xs.length=k∧k≤10∧∀ H' q,aM H H'→H q=none→Sm H H' q xs→Q (.ref q) H'
theorem KA {lo c:Int}{n:Nat}{g:TG}{tt:TT}{te:TE}{vs:List Nat}{σ:L2.St}{H1:Hp}{D:aj}{Qd:Hp→Prop}(Pv:Nat→Hp→Prop)(h0:Pv 0 (upd H1 D (.lst [])))
  (hs:∀ i H,i<n→Pv i H→g (.int (lo+(i:Nat)*c)) (wipe σ vs) H fun σ2 H2=>wipe σ2 vs=wipe σ vs∧tt σ2 H2 fun b H3 =>
   if b=true then te σ2 H3 fun y H4=>∃ acc,H4 D=some (.lst acc)∧acc.length<aP∧Pv (i+1) (upd H4 D (.lst (acc++[y]))) else Pv (i+1) H3)(hd:∀ H,Pv n H→Qd H) :
  ∃ W:Nat→Nat→Hp→Prop,(∃ m,W 0 m (upd H1 D (.lst [])))∧∀ i m H,W i m H →
   ((R8 lo c n).stop i H∧Qd H)∨((R8 lo c n).go i H∧∃ Nx:Hp→Prop,(∀ H',Nx H'→∃ m',m'<m∧W (i+1) m' H')∧∀ x H',(R8 lo c n).zO i H x H'→g x (wipe σ vs) H' fun σ2 H2=>wipe σ2 vs=wipe σ vs∧tt σ2 H2 fun b H3 =>
    if b=true then te σ2 H3 fun y H4=>∃ acc,H4 D=some (.lst acc)∧acc.length<aP∧Nx (upd H4 D (.lst (acc++[y]))) else Nx H3):=by
 refine ⟨fun i m H=>m=n - i∧i≤n∧Pv i H,⟨_,rfl,aS _,h0⟩,?_⟩
 rintro i m H ⟨rfl,hi,p⟩
 by_cases lt:i<n
 ·refine .inr ⟨lt,Pv (i+1),fun H' p'=>⟨_,by omega,rfl,by omega,p'⟩,?_⟩
  rintro x H' ⟨rfl,rfl⟩
  exact hs i H' lt p
 ·have e:i=n:=by omega
  exact .inl ⟨show n≤i by omega,hd H (e▸p)⟩
theorem Tx:∀ m:Nat,m≤12→SQ 0 (2*(m:Int)) 2 m:=by
 have h:∀ m:Fin 13,zT 0 (2*((m.val:Nat):Int)) 2=true∧g8 0 (2*((m.val:Nat):Int)) 2=(m.val:Nat):=by decide +kernel
 exact fun m hm=>⟨by decide,by decide,h ⟨m,by omega⟩⟩
theorem AN:∀ (l:List (Nat×Nat)) (i:Nat) (p:Nat×Nat),l[i]?=some p→(l.flatMap fun p=>[p.1,p.2])[2*i]?=some p.1∧(l.flatMap fun p=>[p.1,p.2])[2*i+1]?=some p.2
 | [],i,p,h=>by simp at h
 | q::l,0,p,h=>by
  cases aH h
  exact ⟨rfl,rfl⟩
 | q::l,i+1,p,h=>by
  have:=AN l i p h
  rw[bQ,show 2*(i+1)=2*i+1+1 by omega]
  exact this
theorem pairs_len (l:List (Nat×Nat)):(l.flatMap fun p=>[p.1,p.2]).length=2*l.length:=by
 induction l with
 | nil=>rfl
 | cons p l ih=>rw[bQ,aK,ih];simp;omega
section
variable {P:aV}{w:bK}{K:ai}{mg:bZ→Option ag}{base:bW}
theorem Ce:bX ["row","at"] ["row"] (bB BF):=kG
theorem NT {f:aj}{fd:bH}(F:jb K "read_pairs" "read_pairs" BF f fd)(T:qk mg):cP P w K mg base fG 1 f fd ["row"] (Ih K):=by
 refine F.ok Ce (fun vs H Q E h=>?_) (fun gq A outer s H vs Q E hr h=>?_)
 ·obtain ⟨p,l,rfl,_⟩:=h
  rfl
 ·obtain ⟨p,l,rfl,hp,hz,k⟩:=h
  refine ⟨_,aR (bO (jm rfl Ce.nd (sC rfl T.range (ah aZ (ah (bR bG (by rfl) T.len bj (ah (pv 0) aA)) (ah aZ aA)))) (dX (own:=[("at",1)]) (by rfl)) (fun _ _ _ _ _=>cK (i:=1) Ce.nd rfl (bp rfl)) (fun _ _ _ _ _=>gA) (fun _ _ _ _ _=>jw (ah (cA (r:=JG K) cM (pv 0) (pv 1) (fun _ _=>rfl)) (ah (cA (r:=JG K) cM (pv 0) (d4 eO (pv 1) aZ) (fun _ _=>rfl)) aA))))),?_⟩
  have hl:((eX (l.flatMap fun p=>[p.1,p.2])).length:Int)=2*(l.length:Int):=by rw[ae,pairs_len];omega
  refine aJ rfl ⟨p,aJ rfl ⟨.inl hp,0,_,2,l.length,by rw[hl],Tx _ hz,fun D hD=>KA (fun i H'=>aM H H'∧∃ rs:List aj,H' D=some (.lst (rs.map V.ref))∧Paired (fun r (p:Nat×Nat)=>H' r=some (.tup [iv p.1,iv p.2])) rs (l.take i)) ⟨aM.new hD,[],aw,.nil⟩ (fun i H1 hi h=>?_) (fun H1 h=>?_)⟩⟩
  ·obtain ⟨s1,rs,e1,p1⟩:=h
   obtain ⟨⟨a,b⟩,hab⟩:∃ q,l[i]?=some q:=⟨_,aD hi⟩
   obtain ⟨g1,g2⟩:=AN l i _ hab
   have ei:(0:Int)+(i:Nat)*2=((2*i:Nat):Int):=by omega
   rw[ei]
   have a1:(eX (l.flatMap fun p=>[p.1,p.2]))[2*i]?=some (iv a):=by rw[aO,g1];rfl
   have a2:(eX (l.flatMap fun p=>[p.1,p.2]))[2*i+1]?=some (iv b):=by rw[aO,g2];rfl
   refine ⟨rfl,LL ⟨_,rfl,_,rfl,p,_,_,_,rfl,rfl,s1.seq hp,cp a1,_,rfl,_,rfl,_,_,rfl,rfl,p,_,((2*i+1:Nat):Int),_,rfl,by congr 1,s1.seq hp,cp a2,Bm,fun t ht=>?_⟩⟩
   have s2:=aM.new (o:=.tup [iv a,iv b]) ht
   have nt:t≠D:=fun z=>by rw[z,e1] at ht;cases ht
   refine ⟨_,s2 _ _ e1,?_,(s1.trans s2).upd hD,rs++[t],by rw[aw,ba];rfl,?_⟩
   ·rw[ae,bC p1,bP]
    exact aF (show _≤12 by omega) (by decide)
   ·rw[take_snoc hab]
    refine gD (fun r q h=>?_) (by rw[aW nt];exact aw) p1
    rw[aW (ir h e1 (by intro z;cases z))]
    exact s2 _ _ h
  ·obtain ⟨s1,rs,e1,p1⟩:=h
   rw[bI] at p1
   exact k H1 D s1 hD ⟨rs,e1,p1⟩
theorem Bu:bX ["calls","at","how_many","rows","end"] ["calls","at","how_many"] (bB Hx):=kG
theorem Qs {f:aj}{fd:bH}(F:jb K "read_rows" "read_rows" Hx f fd)(T:qk mg):cP P w K mg base fG 1 f fd ["calls","at","how_many"] (Md K):=by
 refine F.ok Bu (fun vs H Q E h=>?_) (fun gq A outer s H vs Q E hr h=>?_)
 ·obtain ⟨p,cs,a,k,xs,t,rfl,_⟩:=h
  rfl
 ·obtain ⟨p,cs,a,n,xs,t,rfl,hp,hd,hn,hz,k⟩:=h
  refine ⟨_,aE (cy (i:=3) Bu.nd rfl (bp rfl) (cS aA))
   (aE (my bL (bU wz (bR bG (by rfl) T.len bj (ah (pv 3) aA)) (pv 2) (cq _))
    (aE (cy (i:=4) Bu.nd rfl (bp rfl) (d4 eO (d4 eO (pv 1) aZ) (cA cM (pv 0) (pv 1) (fun _ _=>rfl))))
    (aE (fT (jU bN cE cD gG (pv 3) (ah (oI rW (pv 0) (kW (d4 eO (pv 1) aZ)) (kW (pv 4))) aA)))
    (aR (cy (i:=1) Bu.nd rfl (bp rfl) (pv 4))))))
   (aR (bO (pv 3)))),?_⟩
  refine cQ ⟨aS _,fun g hg=>?_⟩
  have s0:aM H (upd H g (.lst [])):=aM.new hg
  let Iv:Nat→L2.St→Hp→Prop:=fun m σ H'=>∃ (i b:Nat) (v4:Option V),σ=[some (.ref p),some (iv b),some (iv n),some (.ref g),v4]∧m+i=n∧cs.drop b=ou (xs.drop i)++t∧aM H H'∧∃ rs:List aj,H' g=some (.lst (rs.map V.ref))∧Paired (fun r x=>H r=none∧r≠g∧H' r=some (.lst (vI x))) rs (xs.take i)
  refine iP (fun σ H'=>∃ (b:Nat) (v4:Option V),σ=[some (.ref p),some (iv b),some (iv n),some (.ref g),v4]∧aM H H'∧Sm H H' g xs) (fun _ go=>?_) ?_
  ·refine ⟨Iv,⟨n,0,a,none,rfl,rfl,hd,s0,[],aw,.nil⟩,?_⟩
   rintro m σ H1 ⟨i,b,v4,rfl,hm,hb,s1,rs,e1,p1⟩
   have lr:(rs.map V.ref).length=i:=by rw[ae,bC p1,bP];omega
   refine aJ rfl ⟨g,aJ rfl ⟨.inl (cI.of e1),aJ rfl ⟨_,aJ rfl ⟨rfl,aJ rfl ?_⟩⟩⟩⟩
   rw[lr]
   refine gI (fun h1=>?_) fun h1=>?_
   ·have hi:i<xs.length:=by
     have:=of_decide_eq_true h1
     omega
    refine ⟨fun σ' H'=>∃ m',m'<m∧Iv m' σ' H',fun σ' H' h=>h,?_⟩
    obtain ⟨x,hx⟩:∃ x,xs[i]?=some x:=⟨_,aD hi⟩
    have hdx:xs.drop i=x::xs.drop (i+1):=by
     rw[dz hi]
     congr 1
     rw[aD hi] at hx
     exact aH hx
    have hb':cs.drop b=(x.length:Int)::(x++(ou (xs.drop (i+1))++t)):=by
     rw[hb,hdx]
     unfold ou PL
     rw[bQ]
     simp
    have lcs:b+1+x.length≤cs.length:=by
     have:=congrArg dJ hb'
     rw[cv,aU,aK] at this
     omega
    have g0:(vI cs)[b]?=some (V.int (x.length:Int)):=by
     have:cs[b]?=some (x.length:Int):=by
      have:=congrArg (fun l=>l[0]?) hb'
      simp only[nH] at this
      exact this
     exact tR this
    refine cQ (aJ rfl ⟨_,aJ rfl ⟨rfl,aJ rfl (aJ rfl (iJ p b _ (s1.seq hp) (cp g0) ⟨_,aJ rfl ⟨rfl,?_⟩⟩))⟩⟩)
    refine aJ rfl ⟨.inl ⟨rfl,_,cI.of e1⟩,aJ rfl (aJ rfl ⟨_,aJ rfl ⟨rfl,((b+1:Nat):Int),rfl,aJ rfl ⟨((b+1+x.length:Nat):Int),rfl,p,aJ rfl ⟨s1.seq hp,fun q hq=>?_⟩⟩⟩⟩)⟩
    rw[x6 cs (by omega) lcs]
    have ecut:(cs.drop (b+1)).take (b+1+x.length - (b+1))=x:=by
     have:=congrArg (jk 1) hb'
     rw[fI] at this
     rw[this,gp]
     simp
    rw[ecut]
    have s2:=aM.new (o:=.lst (vI x)) hq
    have nq:q≠g:=fun z=>by rw[z,e1] at hq;cases hq
    refine ⟨g,_,aJ rfl ⟨rfl,s2 _ _ e1,by rw[lr];exact aF (show i≤10 by omega) (by decide),?_⟩⟩
    refine aJ rfl ⟨m - 1,by have:=of_decide_eq_true h1;omega,i+1,b+1+x.length,aJ rfl ⟨by have:=of_decide_eq_true h1;omega,?_,(s1.trans s2).upd hg,rs++[q],by rw[aw,ba];rfl,?_⟩⟩
    ·have:=congrArg (jk (1+x.length)) hb'
     rw[fI] at this
     rw[pT,this,mT 1,mK,iu]
    ·rw[take_snoc hx]
     exact gD (fun r y h=>⟨h.1,h.2.1,by rw[aW h.2.1];exact s2 _ _ h.2.2⟩) ⟨s1.free hq,nq,by rw[aW nq];exact aw⟩ p1
   ·have hi:i=xs.length:=by
     have:¬ (i:Int)<(n:Int):=fun e=>h1 (decide_eq_true e)
     omega
    refine go _ _ ⟨b,v4,rfl,s1,rs,e1,?_⟩
    rw[hi,bI] at p1
    exact d9 (fun _ _ h=>⟨h.1,h.2.2⟩) p1
  ·rintro σ H1 ⟨b,v4,rfl,s1,r⟩
   exact aJ rfl (k H1 g s1 hg r)
theorem qY:bX ["row","places","at","end"] ["row"] (bB xK):=kG
theorem Kk {f:aj}{fd:bH}(F:jb K "read_places" "read_places" xK f fd)(T:qk mg):cP P w K mg base fG 1 f fd ["row"] (DJ K):=by
 refine F.ok qY (fun vs H Q E h=>?_) (fun gq A outer s H vs Q E hr h=>?_)
 ·obtain ⟨p,wd,rfl,_⟩:=h
  rfl
 ·obtain ⟨p,wd,rfl,hp,hz,hs,k⟩:=h
  refine ⟨_,aE (cy (i:=1) qY.nd rfl (bp rfl) (cS aA))
   (aE (cy (i:=2) qY.nd rfl (bp rfl) aZ)
   (aE (my bL (bU wz (pv 2) (bR bG (by rfl) T.len bj (ah (pv 0) aA)) (cq _))
    (aE (cy (i:=3) qY.nd rfl (bp rfl) (d4 eO (d4 eO (pv 2) aZ) (cA cM (pv 0) (d4 eO (pv 2) aZ) (fun _ _=>rfl))))
    (aE (fT (jU bN cE cD gG (pv 1) (ah (jw (ah (cA cM (pv 0) (pv 2) (fun _ _=>rfl)) (ah (kK z9 (by rfl) T.tuple K5 (ah (oI rW (pv 0) (kW (d4 eO (pv 2) aZ)) (kW (pv 3))) aA)) aA))) aA)))
    (aR (cy (i:=2) qY.nd rfl (bp rfl) (pv 3))))))
   (aR (bO (pv 1))))),?_⟩
  refine cQ ⟨aS _,fun g hg=>cQ ?_⟩
  have s0:aM H (upd H g (.lst [])):=aM.new hg
  let row:=wd.flatMap JK
  let Iv:Nat→L2.St→Hp→Prop:=fun m σ H'=>∃ (i b:Nat) (v3:Option V),σ=[some (.ref p),some (.ref g),some (iv b),v3]∧m+i=wd.length∧row.drop b=(wd.drop i).flatMap JK∧b≤row.length∧aM H H'∧∃ rs:List aj,H' g=some (.lst (rs.map V.ref))∧Paired (jE H') rs (wd.take i)
  refine iP (fun σ H'=>∃ (b:Nat) (v3:Option V),σ=[some (.ref p),some (.ref g),some (iv b),v3]∧aM H H'∧gJ H' g wd) (fun _ go=>?_) ?_
  ·refine ⟨Iv,⟨wd.length,0,0,none,rfl,rfl,rfl,aS _,s0,[],aw,.nil⟩,?_⟩
   rintro m σ H1 ⟨i,b,v3,rfl,hm,hb,hbl,s1,rs,e1,p1⟩
   have lr:(rs.map V.ref).length=i:=by rw[ae,bC p1,bP];omega
   have ll:((eX row).length:Int)=(row.length:Int):=by rw[ae]
   refine aJ rfl (aJ rfl ⟨p,aJ rfl ⟨.inl (s1.seq hp),_,aJ rfl ⟨rfl,aJ rfl ?_⟩⟩⟩)
   show if decide ((b:Int)<((eX row).length:Int))=true then _ else _
   rw[ll]
   by_cases hi:i<wd.length
   ·obtain ⟨c,hc⟩:∃ c,wd[i]?=some c:=⟨_,aD hi⟩
    have hdx:wd.drop i=c::wd.drop (i+1):=by
     rw[dz hi]
     congr 1
     rw[aD hi] at hc
     exact aH hc
    have hb':row.drop b=c.env::c.sounds.length::(c.sounds++(wd.drop (i+1)).flatMap JK):=by
     rw[hb,hdx,bQ]
     rfl
    have lcs:b+2+c.sounds.length≤row.length:=by
     have:=congrArg dJ hb'
     rw[cv,aU,aU,aK] at this
     omega
    rw[decide_eq_true (by omega)]
    refine pd ⟨fun σ' H'=>∃ m',m'<m∧Iv m' σ' H',fun σ' H' h=>h,?_⟩
    have g0:(eX row)[b+0]?=some (iv c.env):=uF hb' rfl
    have g1:(eX row)[b+1]?=some (iv c.sounds.length):=uF hb' rfl
    refine cQ (aJ rfl ⟨_,aJ rfl ⟨rfl,aJ rfl (aJ rfl ⟨_,aJ rfl ⟨rfl,iJ p ((b+1:Nat):Int) _ (s1.seq hp) (cp g1) ⟨_,aJ rfl ⟨rfl,?_⟩⟩⟩⟩)⟩⟩)
    refine aJ rfl ⟨.inl ⟨rfl,_,cI.of e1⟩,aJ rfl (aJ rfl (iJ p b _ (s1.seq hp) (cp g0) (aJ rfl (aJ rfl ⟨_,aJ rfl ⟨rfl,((b+2:Nat):Int),rfl,aJ rfl ⟨((b+2+c.sounds.length:Nat):Int),rfl,p,aJ rfl ⟨s1.seq hp,fun q hq=>?_⟩⟩⟩⟩))))⟩
    have ecut:zW (eX row) (some ((b+2:Nat):Int)) (some ((b+2+c.sounds.length:Nat):Int))=eX c.sounds:=by
     rw[BS row,x6 (Pc row) (by unfold Pc;rw[ae];omega) (by unfold Pc;rw[ae];omega)]
     have e2:=congrArg (jk 2) hb'
     rw[fI] at e2
     unfold Pc
     rw[← List.map_drop,e2,gp,BS]
     show vI (List.take c.sounds.length (eD _ (c.sounds++_)))=vI (Pc c.sounds)
     rw[ba]
     congr 1
     unfold Pc
     rw[show c.sounds.length=(c.sounds.map fun (n:Nat)=>(n:Int)).length by rw[ae],nF]
    rw[ecut]
    have s2:=aM.new (o:=.lst (eX c.sounds)) hq
    refine ⟨q,aJ rfl (.inl ⟨cI.of aw,fun t ht=>?_⟩)⟩
    have s3:=aM.new (o:=.tup (eX c.sounds)) ht
    refine ⟨Bm,fun u hu=>?_⟩
    have s4:=aM.new (o:=.tup [iv c.env,.ref t]) hu
    have s24:=(s2.trans s3).trans s4
    have eg:=s24 _ _ e1
    refine ⟨g,_,aJ rfl ⟨rfl,eg,by rw[lr];exact aF (show i≤12 by omega) (by decide),?_⟩⟩
    have cup:∀ (zs:List V) (r:aj) (c':bM) (H5:Hp),jE H5 r c'→H5 g=some (.lst (rs.map V.ref))→jE (upd H5 g (.lst zs)) r c':=fun zs r c' H5 ⟨d,d1,d2⟩ hg5=>⟨d,by rw[aW (ir d1 hg5 (by intro z;cases z))];exact d1,by rw[aW (ir d2 hg5 (by intro z;cases z))];exact d2⟩
    refine aJ rfl ⟨m - 1,by omega,i+1,b+2+c.sounds.length,aJ rfl ⟨by omega,?_,lcs,(s1.trans s24).upd hg,rs++[u],by rw[aw,ba];rfl,?_⟩⟩
    ·have:=congrArg (jk (2+c.sounds.length)) hb'
     rw[fI] at this
     rw[pT,this,mT 2,mK,mK,iu]
    ·rw[take_snoc hc]
     exact gD (fun r c' h=>cup _ r c' _ (h.same s24) eg) (cup _ u c _ ⟨t,aw,s4 _ _ aw⟩ eg) p1
   ·have hi:i=wd.length:=by omega
    have:b=row.length:=by
     have:=congrArg dJ hb
     rw[hi,qc,cv] at this
     have z:([]:List bM).flatMap JK=[]:=rfl
     rw[z,eL] at this
     omega
    rw[decide_eq_false (by omega)]
    refine nN (go _ _ ⟨b,v3,rfl,s1,rs,e1,?_⟩)
    rw[hi,bI] at p1
    exact p1
  ·rintro σ H1 ⟨b,v3,rfl,s1,r⟩
   exact aJ rfl (k H1 g s1 hg r)
end
def ff (n told:Nat)(c w:aj)(tt:V):List (bZ×V):=[("languages",iv n),("told",iv told),("costs",.ref c),("words",.ref w),("told_tree",tt)]
theorem iz (k k':bZ)(v:V)(l:List (bZ×V))(h:¬ k=k'):((k',v)::l).lookup k=l.lookup k:=by
 rw[fC]
 rw[show (k==k')=false from beq_eq_false_iff_ne.mpr h]
theorem uG (k:bZ)(v:V)(l:List (bZ×V)):((k,v)::l).lookup k=some v:=by rw[fC,show (k==k)=true from beq_self_eq_true k]
theorem uK (n told c w tt):(ff n told c w tt).lookup ("languages":bZ)=some (iv n):=uG ..
theorem Cq (n told c w tt):(ff n told c w tt).lookup ("told":bZ)=some (iv told):=by
 unfold ff
 rw[iz _ _ _ _ (by decide +kernel),uG]
theorem rb (n told c w tt):(ff n told c w tt).lookup ("costs":bZ)=some (.ref c):=by
 unfold ff
 rw[iz _ _ _ _ (by decide +kernel),iz _ _ _ _ (by decide +kernel),uG]
theorem g6 (n told c w tt):(ff n told c w tt).lookup ("words":bZ)=some (.ref w):=by
 unfold ff
 rw[iz _ _ _ _ (by decide +kernel),iz _ _ _ _ (by decide +kernel),iz _ _ _ _ (by decide +kernel),uG]
theorem uJ (n told c w tt):(ff n told c w tt).lookup ("told_tree":bZ)=some tt:=by
 unfold ff
 rw[iz _ _ _ _ (by decide +kernel),iz _ _ _ _ (by decide +kernel),iz _ _ _ _ (by decide +kernel),iz _ _ _ _ (by decide +kernel),uG]
theorem VV (n told c w tt){m:bZ}(h1:¬ m="languages")(h2:¬ m="told")(h3:¬ m="costs")(h4:¬ m="words")(h5:¬ m="told_tree"):(ff n told c w tt).lookup m=none:=by
 unfold ff
 rw[iz _ _ _ _ h1,iz _ _ _ _ h2,iz _ _ _ _ h3,iz _ _ _ _ h4,iz _ _ _ _ h5]
 rfl
theorem jW {n told:Nat}{c w:aj}{tt:V}{m:bZ}(h:¬ m="languages"∧¬ m="told"∧¬ m="costs"∧¬ m="words"∧¬ m="told_tree":=by decide +kernel):(ff n told c w tt).lookup m=none:=VV _ _ _ _ _ h.1 h.2.1 h.2.2.1 h.2.2.2.1 h.2.2.2.2
theorem eV (k k':bZ)(v v':V)(l:List (bZ×V))(h:¬ k'=k):iy k v ((k',v')::l)=(k',v')::iy k v l:=if_neg h
theorem pE (k:bZ)(v v':V)(l:List (bZ×V)):iy k v ((k,v')::l)=(k,v)::l:=if_pos rfl
theorem Q3 (n told c w tt)(y:Nat):iy "told" (iv y) (ff n told c w tt)=ff n y c w tt:=by
 unfold ff
 rw[eV _ _ _ _ _ (by decide +kernel),pE]
theorem Q4 (n told c w tt)(y:V):iy "told_tree" y (ff n told c w tt)=ff n told c w y:=by
 unfold ff
 rw[eV _ _ _ _ _ (by decide +kernel),eV _ _ _ _ _ (by decide +kernel),eV _ _ _ _ _ (by decide +kernel),eV _ _ _ _ _ (by decide +kernel),pE]
theorem T9 (fs:List (bZ×V))(h:fs=[]∨∃ n told c w tt,fs=ff n told c w tt)(n told:Nat)(c w:aj)(tt:V) :
  iy "told_tree" tt (iy "words" (.ref w) (iy "costs" (.ref c) (iy "told" (iv told) (iy "languages" (iv n) fs))))=ff n told c w tt:=by
 rcases h with rfl | ⟨n',t',c',w',tt',rfl⟩
 ·show iy "told_tree" tt (iy "words" (.ref w) (iy "costs" (.ref c) (iy "told" (iv told) [("languages",iv n)])))=_
  rw[eV _ _ _ _ _ (by decide +kernel)]
  show iy "told_tree" tt (iy "words" (.ref w) (iy "costs" (.ref c) [("languages",iv n),("told",iv told)]))=_
  rw[eV _ _ _ _ _ (by decide +kernel),eV _ _ _ _ _ (by decide +kernel)]
  show iy "told_tree" tt (iy "words" (.ref w) [("languages",iv n),("told",iv told),("costs",.ref c)])=_
  rw[eV _ _ _ _ _ (by decide +kernel),eV _ _ _ _ _ (by decide +kernel),eV _ _ _ _ _ (by decide +kernel)]
  show iy "told_tree" tt [("languages",iv n),("told",iv told),("costs",.ref c),("words",.ref w)]=_
  rw[eV _ _ _ _ _ (by decide +kernel),eV _ _ _ _ _ (by decide +kernel),eV _ _ _ _ _ (by decide +kernel),eV _ _ _ _ _ (by decide +kernel)]
  rfl
 ·unfold ff
  rw[pE,eV "told" _ _ _ _ (by decide +kernel),pE,eV "costs" _ _ _ _ (by decide +kernel),eV "costs" _ _ _ _ (by decide +kernel),pE,
   eV "words" _ _ _ _ (by decide +kernel),eV "words" _ _ _ _ (by decide +kernel),eV "words" _ _ _ _ (by decide +kernel),pE,
   eV "told_tree" _ _ _ _ (by decide +kernel),eV "told_tree" _ _ _ _ (by decide +kernel),eV "told_tree" _ _ _ _ (by decide +kernel),eV "told_tree" _ _ _ _ (by decide +kernel),pE]
def Ak (H:Hp)(v:V):Option cF→Prop
 | some t=>∃ a,v=.ref a∧H a=some (.lst (vI (gZ t)))
 | none=>v=.hU
theorem Ak.same {H H':Hp}{v:V}{o:Option cF}(h:Ak H v o)(s:aM H H'):Ak H' v o:=by
 cases o with
 | none=>exact h
 | some t=>obtain ⟨a,e,q⟩:=h;exact ⟨a,e,s _ _ q⟩
structure Bs (s:dC):Prop where
 l2:2≤s.langs
 l5:s.langs≤5
 cs:s.costs.length≤200
 ws:s.words.length≤6
 wd:∀ wd∈s.words,1≤wd.length∧wd.length≤6∧∀ c∈wd,c.sounds.length=s.langs
 tr:∀ t,s.tree=some t→sY s.langs t=true
structure qR (C:aj)(H:Hp)(p dx c w:aj)(tt:V)(s:dC):Prop where
 ins:H p=some (.ins C dx (ff s.langs s.costs.length c w tt))
 costs:iR H c s.costs
 words:lU H w s.words
 tree:Ak H tt s.tree
 ok:Bs s
theorem qR.same {C:aj}{H H':Hp}{p dx c w:aj}{tt:V}{s:dC}(h:qR C H p dx c w tt s)(q:aM H H'):qR C H' p dx c w tt s:=⟨q _ _ h.ins,h.costs.same q,h.words.same q,h.tree.same q,h.ok⟩
def sP (C:aj)(H:Hp)(p:aj)(O:aj→Prop)(s:dC):Prop:=∃ dx c w tt,qR C H p dx c w tt s∧∀ b,O b↔(b=p∨b=c∨b=w)
theorem sP.same {C:aj}{H H':Hp}{p:aj}{O:aj→Prop}{s:dC}(h:sP C H p O s)(q:aM H H'):sP C H' p O s:=let ⟨dx,c,w,tt,f,o⟩:=h;⟨dx,c,w,tt,f.same q,o⟩
def Dh (O O':aj→Prop)(H H':Hp):Prop:=(∀ b o,H b=some o→¬ O b→H' b=some o)∧∀ b,O' b→O b∨H b=none
theorem Dh.of_same {O:aj→Prop}{H H':Hp}(s:aM H H'):Dh O O H H':=⟨fun b o h _=>s _ _ h,fun b h=>.inl h⟩
theorem Dh.trans {O O1 O2:aj→Prop}{H H1 H2:Hp}(a:Dh O O1 H H1)(b:Dh O1 O2 H1 H2):Dh O O2 H H2:=by
 refine ⟨fun x o hx ho=>b.1 x o (a.1 x o hx ho) fun q=>?_,fun x q=>?_⟩
 ·rcases a.2 x q with z | z
  ·exact ho z
  ·rw[z] at hx;cases hx
 ·rcases b.2 x q with z | z
  ·exact a.2 x z
  ·cases e:H x with
   | none=>exact .inr rfl
   | some o =>
    by_cases ho:O x
    ·exact .inl ho
    ·rw[a.1 x o e ho] at z
     cases z
def eU (C p:aj)(O:aj→Prop)(H:Hp)(s':dC)(a:List Int)(Q:VK):Prop:=∀ H' O' r,sP C H' p O' s'→Dh O O' H H'→H r=none→¬ O' r→H' r=some (.lst (vI a))→Q (.ref r) H'
theorem jZ (f:bZ)(v:V):∀ fs:List (bZ×V),(iy f v fs).length≤fs.length+1
 | []=>aL _
 | (g,x)::r=>by
  show (if g=f then (g,v)::r else (g,x)::iy f v r).length≤_
  split
  ·simp
  ·have:=jZ f v r
   simp
   omega
theorem NG (kvs:List (List eF×V))(k:List eF)(v:V):(putK kvs k v).length≤kvs.length+1:=by
 unfold putK
 split
 ·rw[ae];omega
 ·rw[aK];simp
theorem P1 (kvs:List (List eF×V))(k q:List eF)(v:V):kg (putK kvs k v) q=if q=k then some v else kg kvs q:=Dx kvs k q v
theorem pP {ta tb tc:TE}{σ:L2.St}{H:Hp}{Q:Bool→Hp→Prop}{a b c:Int}(ha:∀ R:VK,R (.int a) H→ta σ H R)(hb:∀ R:VK,R (.int b) H→tb σ H R)(hc:∀ R:VK,R (.int c) H→tc σ H R)
  (h:Q (decide (a≤b)&&decide (b≤c)) H):ko (Fy (Pa fun i j=>.bl (decide (i≤j))) (Pa fun i j=>.bl (decide (i≤j))) ta tb tc) σ H Q:=by
 refine ha _ (hb _ ⟨a,b,rfl,rfl,aJ rfl ?_⟩)
 cases e:decide (a≤b) with
 | true =>
  rw[e,jI] at h
  exact pd (hc _ ⟨b,c,rfl,rfl,aJ rfl h⟩)
 | false =>
  rw[e,iw] at h
  exact nN (aJ rfl h)
theorem En {t u:TT}{σ:L2.St}{H:Hp}{Q:Bool→Hp→Prop}{b c:Bool}(ht:∀ R:Bool→Hp→Prop,R b H→t σ H R)(hu:∀ R:Bool→Hp→Prop,R c H→u σ H R)(h:Q (b&&c) H):U5 t u σ H Q:=by
 refine ht _ ?_
 cases b with
 | true=>exact pd (hu _ (by rw[jI] at h;exact h))
 | false=>exact nN (by rw[iw] at h;exact h)
theorem sP.own {C:aj}{H:Hp}{p:aj}{O:aj→Prop}{s:dC}(h:sP C H p O s){b:aj}(q:O b):∃ o,H b=some o:=by
 obtain ⟨dx,c,w,tt,f,o⟩:=h
 obtain ⟨kvs,ec,_⟩:=f.costs
 obtain ⟨qs,ew,_⟩:=f.words
 rcases (o b).mp q with rfl | rfl | rfl
 ·exact ⟨_,f.ins⟩
 ·exact ⟨_,ec⟩
 ·exact ⟨_,ew⟩
theorem finish {C p:aj}{O:aj→Prop}{H H':Hp}{s:dC}{a:List Int}{Q:VK}{r:aj}(F:sP C H p O s)(k:eU C p O H s a Q)(sm:aM H H')(hr:H r=none)(e:H' r=some (.lst (vI a))):Q (.ref r) H' :=
 k H' O r (F.same sm) (.of_same sm) hr (fun o=>by obtain ⟨_,z⟩:=F.own o;rw[z] at hr;cases hr) e
structure nP (K:ai)(mg:bZ→Option ag)(C:aj):Prop where
 cl:Lz K C
 nl:kH K C "languages"
 nt:kH K C "told"
 nc:kH K C "costs"
 nw:kH K C "words"
 nr:kH K C "told_tree"
 Xp:mg "Family"=some (.ref C)
 UR:∃ t,mg "OUT_OF_RANGE"=some (.int (-1) t)
 not:∃ t,mg "NO_TREE"=some (.int (-4) t)
 JD:∃ t,mg "TOO_MANY"=some (.int (-5) t)
 FX:∃ t,mg "NOT_THERE"=some (.int (-6) t)
 Xq:∃ t,mg "LANGUAGES_AT_FIRST"=some (.int 2 t)
 VJ:∃ t,mg "MOST_COSTS"=some (.int 200 t)
 VI:∃ t,mg "MOST_WORDS"=some (.int 6 t)
 HN:∃ t,mg "MOST_PATTERNS"=some (.int 8 t)
def B8 (C:aj):Sp:=fun vs H Q _=>∃ (p dx:aj) (fs:List (bZ×V)) (n:Nat),vs=[.ref p,iv n]∧H p=some (.ins C dx fs)∧(fs=[]∨∃ n told c w tt,fs=ff n told c w tt)∧2≤n∧n≤5 ∧
 ∀ H' c w,qR C H' p dx c w .hU ⟨n,[],[],none⟩→(∀ b o,H b=some o→b≠p→H' b=some o)→H c=none→H w=none→Q .hU H'
def Mi (C:aj):Sp:=fun vs H Q _=>∃ (p dx:aj),vs=[.ref p]∧H p=some (.ins C dx []) ∧
 ∀ H' c w,qR C H' p dx c w .hU Pf→(∀ b o,H b=some o→b≠p→H' b=some o)→H c=none→H w=none→Q .hU H'
def DN (C:aj):Sp:=fun vs H Q _=>∃ (p:aj) (O:aj→Prop) (s:dC) (n:Nat),vs=[.ref p,iv n]∧sP C H p O s∧eU C p O H (bz s (.begins n)).1 (cY s (.begins n)) Q
def Mn (C:aj):Sp:=fun vs H Q _=>∃ (p:aj) (O:aj→Prop) (s:dC) (a b c:Nat),vs=[.ref p,iv a,iv b,iv c]∧sP C H p O s∧eU C p O H (bz s (.cost a b c)).1 (cY s (.cost a b c)) Q
section
variable {P:aV}{w:bK}{K:ai}{mg:bZ→Option ag}{base:bW}{C:aj}
theorem Qe:bX ["self","languages"] ["self","languages"] (bB BB):=kG
theorem NP {f:aj}{fd:bH}(F:jb K "start_over" "Family.start_over" BB f fd)(T:nP K mg C):cP P w K mg base fG 1 f fd ["self","languages"] (B8 C):=by
 refine F.ok Qe (fun vs H Q E h=>?_) (fun gq A outer s H vs Q E hr h=>?_)
 ·obtain ⟨p,dx,fs,n,rfl,_⟩:=h
  rfl
 ·obtain ⟨p,dx,fs,n,rfl,hp,hfs,h2,h5,k⟩:=h
  refine ⟨_,aE (tP (pv 0) (pv 1) rfl) (aE (tP (pv 0) aZ rfl) (aE (tP (pv 0) yN rfl) (aE (tP (pv 0) (cS aA) rfl) (aR (tP (pv 0) nR rfl))))),?_⟩
  refine aJ rfl (aJ rfl ⟨p,C,dx,aJ rfl ⟨hp,T.cl,T.nl,by rcases hfs with rfl | ⟨_,_,_,_,_,rfl⟩<;>simp[ff],?_⟩⟩)
  have l0:fs.length≤5:=by rcases hfs with rfl | ⟨_,_,_,_,_,rfl⟩<;>simp[ff]
  refine aJ rfl ⟨p,C,dx,aJ rfl ⟨aw,T.cl,T.nt,aF (jZ _ _ _) (by omega),?_⟩⟩
  refine fun d hd=>aJ rfl ⟨p,C,dx,aJ rfl ⟨(by rw[aW (dj aw hd)];exact aw),T.cl,T.nc,aF (jZ _ _ _) (aF (eA (jZ _ _ _)) (by omega)),?_⟩⟩
  have ndp:d≠p:=(dj aw hd).symm
  refine ⟨aS _,fun l hl=>?_⟩
  have nlp:l≠p:=(dj aw hl).symm
  have nld:l≠d:=fun z=>by
   rw[z,aW ndp,aw] at hl
   cases hl
  refine aJ rfl ⟨p,C,dx,aJ rfl ⟨(by rw[aW nlp.symm];exact aw),T.cl,T.nw,aF (jZ _ _ _) (aF (eA (jZ _ _ _)) (aF (eA (eA (jZ _ _ _))) (by omega))),?_⟩⟩
  refine aJ rfl ⟨p,C,dx,aJ rfl ⟨aw,T.cl,T.nr,aF (jZ _ _ _) (aF (eA (jZ _ _ _)) (aF (eA (eA (jZ _ _ _))) (aF (eA (eA (eA (jZ _ _ _)))) (by omega)))),?_⟩⟩
  have hd0:H d=none:=by
   rw[aW ndp,aW ndp] at hd
   exact hd
  have hl0:H l=none:=by
   rw[aW nlp,aW nld,aW nlp,aW nlp] at hl
   exact hl
  refine k _ d l ⟨?_,⟨[],?_,aS _,fun _ _=>rfl⟩,⟨[],?_,.nil⟩,rfl,⟨h2,h5,aS _,aS _,fun _ h=>by simp at h,fun t h=>by cases h⟩⟩ (fun b o e nb=>?_) hd0 hl0
  ·rw[aw]
   exact congrArg (fun z=>some (HO.ins C dx z)) (T9 fs hfs n 0 d l .hU)
  ·rw[aW ndp,aW ndp,aW nld.symm,aW ndp,aw]
  ·rw[aW nlp,aW nlp,aw]
   rfl
  ·rw[aW nb,aW nb,aW (dj e hl0),aW nb,aW (dj e hd0),aW nb,aW nb]
   exact e
theorem Tt:bX ["self"] ["self"] (bB HC):=kG
theorem Qx {f f1:aj}{fd j8:bH}(F:jb K "__init__" "Family.__init__" HC f fd)(T:nP K mg C)(G:cP P w K mg base fG 1 f1 j8 ["self","languages"] (B8 C))(m1:yr K C "start_over" f1)(b1:Binds K j8 ["self","languages"] []) :
  cP P w K mg base fG 2 f fd ["self"] (Mi C):=by
 obtain ⟨tl,hlaf⟩:=T.Xq
 refine F.ok Tt (fun vs H Q E h=>?_) (fun gq A outer s H vs Q E hr h=>?_)
 ·obtain ⟨p,dx,rfl,_⟩:=h
  rfl
 ·obtain ⟨p,dx,rfl,hp,k⟩:=h
  refine ⟨_,aR (fT (ie (pv 0) T.cl m1 G hr b1 .nil cU (ah (cg (v:=.int 2) (by rfl) hlaf ⟨_,rfl⟩) aA))),?_⟩
  exact aJ rfl ⟨p,dx,[],rfl,hp,rfl,p,dx,[],2,rfl,hp,.inl rfl,by decide,by decide,fun H' c w h1 h2 h3 h4=>k H' c w h1 h2 h3 h4⟩
theorem Nu:bX ["self","languages"] ["self","languages"] (bB xS):=kG
theorem Kq {f f1:aj}{fd j8:bH}(F:jb K "begins" "Family.begins" xS f fd)(T:nP K mg C)(G:cP P w K mg base fG 1 f1 j8 ["self","languages"] (B8 C))(m1:yr K C "start_over" f1)(b1:Binds K j8 ["self","languages"] []) :
  cP P w K mg base fG 2 f fd ["self","languages"] (DN C):=by
 obtain ⟨to,hoor⟩:=T.UR
 refine F.ok Nu (fun vs H Q E h=>?_) (fun gq A outer s H vs Q E hr h=>?_)
 ·obtain ⟨p,O,s,n,rfl,_⟩:=h
  rfl
 ·obtain ⟨p,O,st,n,rfl,hF,k⟩:=h
  refine ⟨_,aE (eG (tO (uU mX mX aZ (pv 1) aZ)) (aR (bO (cS (ah (cg (v:=.int (-1)) (by rfl) hoor ⟨_,rfl⟩) aA)))) cX)
   (aE (fT (ie (pv 0) T.cl m1 G hr b1 .nil cU (ah (pv 1) aA)))
   (aR (bO (cS (ah aZ aA))))),?_⟩
  refine pP (a:=2) (b:=(n:Int)) (c:=5) (fun _ h=>h) (fun _ h=>aJ rfl h) (fun _ h=>h) ?_
  refine gI (fun h1=>?_) fun h1=>?_
  ·have hn:n<2∨Si35.LANGS<n:=by
    have:¬ ((2:Int)≤n∧(n:Int)≤5):=fun ⟨a,b⟩=>by rw[decide_eq_true a,decide_eq_true b] at h1;cases h1
    show n<2∨5<n
    omega
   have e:bz st (.begins n)=(st,fM (-1)):=if_pos hn
   unfold cY at k
   rw[e] at k
   exact ⟨oj,fun r dU=>finish hF k (aM.new dU) dU aw⟩
  ·have hn:2≤n∧n≤5:=by
    rw[lC,vt,bA,decide_eq_true_iff,decide_eq_true_iff] at h1
    omega
   have e:bz st (.begins n)=(⟨n,[],[],none⟩,fM 0):=if_neg (show ¬ (n<2∨5<n) by omega)
   unfold cY at k
   rw[e] at k
   obtain ⟨dx,c,wa,tt,hf,ho⟩:=hF
   refine aJ rfl (Bl hf.ins jW (aJ rfl ⟨p,dx,_,n,rfl,hf.ins,.inr ⟨_,_,_,_,_,rfl⟩,hn.1,hn.2,fun H1 c1 w1 hf1 kp hc1 hw1=>?_⟩))
   refine ⟨oj,fun r dU=>?_⟩
   have s1:=aM.new (o:=.lst [V.int 0]) dU
   have qF:H r=none:=by
    cases e:H r with
    | none=>rfl
    | some o =>
     by_cases z:r=p
     ·rw[z,hf1.ins] at dU;cases dU
     ·rw[kp r o e z] at dU;cases dU
   refine k _ (fun b=>b=p∨b=c1∨b=w1) r ⟨dx,c1,w1,.hU,hf1.same s1,fun b=>Pe⟩ ⟨fun b o e no=>s1 _ _ (kp b o e fun z=>no ((ho b).mpr (.inl z))),fun b q=>?_⟩ qF (fun q=>?_) aw
   ·rcases q with rfl | rfl | rfl
    ·exact .inl ((ho b).mpr (.inl rfl))
    ·exact .inr hc1
    ·exact .inr hw1
   ·obtain ⟨kvs,ec,_⟩:=hf1.costs
    obtain ⟨qs,ew,_⟩:=hf1.words
    rcases q with rfl | rfl | rfl
    ·rw[hf1.ins] at dU;cases dU
    ·rw[ec] at dU;cases dU
    ·rw[ew] at dU;cases dU
theorem Tu:bX ["self","one","other","costs"] ["self","one","other","costs"] (bB HH):=kG
theorem QC {f:aj}{fd:bH}(F:jb K "cost" "Family.cost" HH f fd)(T:nP K mg C):cP P w K mg base fG 1 f fd ["self","one","other","costs"] (Mn C):=by
 obtain ⟨to,hoor⟩:=T.UR
 obtain ⟨tm,yp⟩:=T.JD
 obtain ⟨tc,qP⟩:=T.VJ
 refine F.ok Tu (fun vs H Q E h=>?_) (fun gq A outer s H vs Q E hr h=>?_)
 ·obtain ⟨p,O,s,a,b,c,rfl,_⟩:=h
  rfl
 ·obtain ⟨p,O,st,a,b,c,rfl,hF,k⟩:=h
  have hu:=wB hr
  refine ⟨_,aE (eG (tO (pj (uU mX mX aZ (pv 1) aZ) (pj (uU mX mX aZ (pv 2) aZ) (pC (bU mX (pv 3) aZ (cq _))))).pt) (aR (bO (cS (ah (cg (v:=.int (-1)) (by rfl) hoor ⟨_,rfl⟩) aA)))) cX)
   (aE (eG (bU gC (eY (pv 0) rfl) (cg (v:=.int 200) (by rfl) qP ⟨_,rfl⟩) (cq _)) (aR (bO (cS (ah (cg (v:=.int (-5)) (by rfl) yp ⟨_,rfl⟩) aA)))) cX)
   (aE (xV hu (eY (pv 0) rfl) (jw (ah (pv 1) (ah (pv 2) aA))) (pv 3) rfl)
   (aE (tP (pv 0) (d4 eO (eY (pv 0) rfl) aZ) rfl)
   (aR (bO (cS (ah (eY (pv 0) rfl) aA))))))),?_⟩
  refine En (b:=decide ((1:Int)≤a)&&decide ((a:Int)≤99)) (c:=(decide ((1:Int)≤b)&&decide ((b:Int)≤99))&&decide ((c:Int)≤1000)) (fun R h=>pP (a:=1) (b:=(a:Int)) (c:=99) (fun _ h=>h) (fun _ h=>aJ rfl h) (fun _ h=>h) h) (fun R h=>En (b:=decide ((1:Int)≤b)&&decide ((b:Int)≤99)) (c:=decide ((c:Int)≤1000)) (fun R h=>pP (a:=1) (b:=(b:Int)) (c:=99) (fun _ h=>h) (fun _ h=>aJ rfl h) (fun _ h=>h) h) (fun R h=>aJ rfl ⟨_,aJ rfl ⟨rfl,aJ rfl h⟩⟩) h) ?_
  refine gI (fun h1=>?_) fun h1=>?_
  ·have hn:a<1∨nv<a∨b<1∨nv<b∨1000<c:=by
    have:¬ (((1:Int)≤a∧(a:Int)≤99)∧((1:Int)≤b∧(b:Int)≤99)∧(c:Int)≤1000):=fun ⟨⟨q1,q2⟩,⟨q3,q4⟩,q5⟩=>by rw[decide_eq_true q1,decide_eq_true q2,decide_eq_true q3,decide_eq_true q4,decide_eq_true q5] at h1;cases h1
    show a<1∨99<a∨b<1∨99<b∨1000<c
    omega
   have e:bz st (.cost a b c)=(st,fM (-1)):=if_pos hn
   unfold cY at k
   rw[e] at k
   exact ⟨oj,fun r dU=>finish hF k (aM.new dU) dU aw⟩
  have hn:¬ (a<1∨nv<a∨b<1∨nv<b∨1000<c):=by
   rw[lC,vt,bA,bA,bA,bA,decide_eq_true_iff,decide_eq_true_iff,decide_eq_true_iff,decide_eq_true_iff,decide_eq_true_iff] at h1
   show ¬ (a<1∨99<a∨b<1∨99<b∨1000<c)
   omega
  obtain ⟨dx,d,wa,tt,hf,ho⟩:=id hF
  refine aJ rfl (tM hf.ins T.cl T.nt (Cq _ _ _ _ _) ⟨rfl,aJ rfl ?_⟩)
  refine gI (fun h2=>?_) fun h2=>?_
  ·have h2:st.costs.length=200:=by
    have:=pz.mp h2
    omega
   have e:bz st (.cost a b c)=(st,fM (-5)):=(if_neg hn).trans (if_pos (show 200≤st.costs.length by omega))
   unfold cY at k
   rw[e] at k
   exact ⟨oj,fun r dU=>finish hF k (aM.new dU) dU aw⟩
  have j7:st.costs.length<200:=by
   have h3:¬ st.costs.length=200:=fun e=>h2 (pz.mpr (by omega))
   have:=hf.ok.cs
   omega
  have e:bz st (.cost a b c)=({st with costs:=(a,b,c)::st.costs},fM ((st.costs.length:Int)+1)):=(if_neg hn).trans (if_neg (show ¬ 200≤st.costs.length by omega))
  unfold cY at k
  rw[e] at k
  obtain ⟨kvs,ek,lk,vk⟩:=hf.costs
  refine aJ rfl (aJ rfl (tM hf.ins T.cl T.nc (rb _ _ _ _ _) (aJ rfl (aJ rfl ⟨Bm,fun t ht=>?_⟩))))
  have s1:=aM.new (o:=.tup [iv a,iv b]) ht
  have hf1:=hf.same s1
  refine ⟨d,aJ rfl ⟨zY.t (s1 _ _ ek) (US aw) (aF (show kvs.length≤200 by omega) (by decide)),?_⟩⟩
  have npd:p≠d:=ir hf1.ins (s1 _ _ ek) (by intro z;cases z)
  refine aJ rfl (tM (by rw[aW npd];exact hf1.ins) T.cl T.nt (Cq _ _ _ _ _) ⟨_,aJ rfl ⟨rfl,aJ rfl ⟨p,C,dx,aJ rfl ⟨(by rw[aW npd];exact hf1.ins),T.cl,T.nt,(by show 5<1000;decide),?_⟩⟩⟩⟩)
  have fin:qR C (upd (upd (upd H t (.tup [iv a,iv b])) d (.dT (putK kvs (k2 a b) (iv c)))) p (.ins C dx (iy "told" (V.int ((st.costs.length:Int)+1)) (ff st.langs st.costs.length d wa tt)))) p dx d wa tt {st with costs:=(a,b,c)::st.costs}:=by
   obtain ⟨qs,ew,pw⟩:=hf1.words
   have cup:∀ (o1 o2:HO) (x:aj) (o:HO),(upd H t (.tup [iv a,iv b])) x=some o→(∀ zs,o≠.dT zs)→(∀ y z,o≠.ins C y z)→(upd (upd (upd H t (.tup [iv a,iv b])) d o1) p o2) x=some o:=fun o1 o2 x o hx h1 h2=>by
    rw[aW (ir hx hf1.ins (h2 _ _)),aW (ir hx (s1 _ _ ek) (h1 _))]
    exact hx
   refine ⟨?_,⟨_,(by rw[aW npd.symm];exact aw),?_,fun x y=>?_⟩,⟨qs,cup _ _ _ _ ew (by intro _ z;cases z) (by intro _ _ z;cases z),?_⟩,?_,⟨hf.ok.l2,hf.ok.l5,(by show st.costs.length+1≤200;omega),hf.ok.ws,hf.ok.wd,hf.ok.tr⟩⟩
   ·rw[aw]
    exact congrArg (fun z=>some (HO.ins C dx z)) (Q3 _ _ _ _ _ (st.costs.length+1))
   ·exact aB (NG _ _ _) (eA lk)
   ·rw[P1,cJ]
    by_cases z:k2 x y=k2 a b
    ·obtain ⟨rfl,rfl⟩:=MD z
     rw[if_pos rfl]
     simp
    ·rw[if_neg z,vk]
     have:((a==x)&&(b==y))=false:=by
      rw[Bool.and_eq_false_iff]
      by_cases q:a=x
      ·right
       rw[beq_eq_false_iff_ne]
       intro q2
       exact z (by rw[q,q2])
      ·left
       rw[beq_eq_false_iff_ne]
       exact q
     rw[this]
   ·exact d9 (fun q wd ⟨rs,er,pr⟩=>⟨rs,cup _ _ _ _ er (by intro _ z;cases z) (by intro _ _ z;cases z),d9 (fun r c' ⟨z,d1,d2⟩=>⟨z,cup _ _ _ _ d1 (by intro _ z;cases z) (by intro _ _ z;cases z),cup _ _ _ _ d2 (by intro _ z;cases z) (by intro _ _ z;cases z)⟩) pr⟩) pw
   ·have ht:=hf1.tree
    show Ak _ tt st.tree
    generalize st.tree=tr at ht
    cases tr with
    | none=>exact ht
    | some t' =>
     obtain ⟨x,e1,e2⟩:=ht
     exact ⟨x,e1,cup _ _ _ _ e2 (by intro _ z;cases z) (by intro _ _ z;cases z)⟩
  have fi:=fin.ins
  refine aJ rfl (tM fi T.cl T.nt (Cq _ _ _ _ _) ⟨oj,fun r dU=>?_⟩)
  have s2:=aM.new (o:=.lst [iv (st.costs.length+1)]) dU
  have nrp:r≠p:=(dj aw dU).symm
  have nrd:r≠d:=fun z=>by rw[z,aW npd.symm,aw] at dU;cases dU
  have qF:H r=none:=by
   rw[aW nrp,aW nrd] at dU
   exact s1.free dU
  refine k _ O r ⟨dx,d,wa,tt,fin.same s2,ho⟩ ⟨fun b o e no=>s2 _ _ ?_,fun b q=>.inl q⟩ qF (fun q=>?_) aw
  ·rw[aW (fun z=>no ((ho b).mpr (.inl z))),aW (fun z=>no ((ho b).mpr (.inr (.inl z))))]
   exact s1 _ _ e
  ·rcases (ho r).mp q with z | z | z
   ·exact nrp z
   ·exact nrd z
   ·obtain ⟨qs,ew,_⟩:=hf.words
    rw[z,ew] at qF
    cases qF
end
theorem Cn {K:ai}{a:aj}{xs ys:List V}{g:TG}{te:TE}{vs:List Nat}{σ:L2.St}{H1:Hp}{D:aj}{Qd:Hp→Prop}(hD:H1 D=none)(hl:cI K H1 a xs)(hz:ys.length<aP)(hxy:xs.length=ys.length)
  (he:∀ (i:Nat) x y,xs[i]?=some x→ys[i]?=some y→∀ H,aM H1 H→∀ R:V→Hp→Prop,(∀ H',aM H H'→R y H')→g x (wipe σ vs) H fun σ2 H2=>wipe σ2 vs=wipe σ vs∧te σ2 H2 R)
  (hd:∀ H',aM H1 H'→H' D=some (.lst ys)→Qd H') :
  ∃ W:Nat→Nat→Hp→Prop,(∃ m,W 0 m (upd H1 D (.lst [])))∧∀ i m H,W i m H →
   ((Ag K a).stop i H∧Qd H)∨((Ag K a).go i H∧∃ Nx:Hp→Prop,(∀ H',Nx H'→∃ m',m'<m∧W (i+1) m' H')∧∀ x H',(Ag K a).zO i H x H'→g x (wipe σ vs) H' fun σ2 H2=>wipe σ2 vs=wipe σ vs∧LN σ2 H2 fun b H3 =>
    if b=true then te σ2 H3 fun y H4=>∃ acc,H4 D=some (.lst acc)∧acc.length<aP∧Nx (upd H4 D (.lst (acc++[y]))) else Nx H3):=by
 refine uI (fun i H=>aM H1 H∧H D=some (.lst (ys.take i))) ⟨aM.new hD,aw⟩ (fun i H _ h=>h.1.seq hl) (fun i x H hx h=>?_) (fun H h=>?_)
 ·obtain ⟨s1,e⟩:=h
  have hi:i<ys.length:=by
   rw[← hxy]
   exact (bV.mp hx).1
  have hy:ys[i]?=some ys[i]:=aD hi
  have q:=he i x _ hx hy H s1 (fun y H4=>∃ acc,H4 D=some (.lst acc)∧acc.length<aP∧(aM H1 (upd H4 D (.lst (acc++[y])))∧upd H4 D (.lst (acc++[y])) D=some (.lst (ys.take (i+1))))) fun H4 s4=>⟨_,s4 _ _ e,?_,(s1.trans s4).upd hD,?_⟩
  ·exact q
  ·rw[bP]
   exact aF (RN _ _) hz
  ·rw[aw,take_snoc hy]
 ·obtain ⟨s1,e⟩:=h
  rw[hxy,bI] at e
  exact hd H s1 e
theorem uH {K:ai}{a:aj}{xs ys:List V}{j:Nat}{te:TE}{vs:List Nat}{σ:L2.St}{H1:Hp}{D:aj}{Qd:Hp→Prop}(hD:H1 D=none)(hl:cI K H1 a xs)(hz:ys.length<aP)(hxy:xs.length=ys.length)
  (hw:∀ x,wipe ((wipe σ vs).set j (some x)) vs=wipe σ vs)
  (he:∀ (i:Nat) x y,xs[i]?=some x→ys[i]?=some y→∀ H,aM H1 H→∀ R:V→Hp→Prop,(∀ H',aM H H'→R y H')→te ((wipe σ vs).set j (some x)) H R)
  (hd:∀ H',aM H1 H'→H' D=some (.lst ys)→Qd H') :
  ∃ W:Nat→Nat→Hp→Prop,(∃ m,W 0 m (upd H1 D (.lst [])))∧∀ i m H,W i m H →
   ((Ag K a).stop i H∧Qd H)∨((Ag K a).go i H∧∃ Nx:Hp→Prop,(∀ H',Nx H'→∃ m',m'<m∧W (i+1) m' H')∧∀ x H',(Ag K a).zO i H x H'→mY j x (wipe σ vs) H' fun σ2 H2=>wipe σ2 vs=wipe σ vs∧LN σ2 H2 fun b H3 =>
    if b=true then te σ2 H3 fun y H4=>∃ acc,H4 D=some (.lst acc)∧acc.length<aP∧Nx (upd H4 D (.lst (acc++[y]))) else Nx H3) :=
 Cn (g:=mY j) hD hl hz hxy (fun i x y hx hy H s R hR=>⟨hw x,he i x y hx hy H s R hR⟩) hd
theorem QS {n:Nat}{ys:List V}{j:Nat}{te:TE}{vs:List Nat}{σ:L2.St}{H1:Hp}{D:aj}{Qd:Hp→Prop}(hD:H1 D=none)(hz:ys.length<aP)(hxy:n=ys.length)
  (hw:∀ x,wipe ((wipe σ vs).set j (some x)) vs=wipe σ vs)
  (he:∀ (i:Nat) y,ys[i]?=some y→∀ H,aM H1 H→∀ R:V→Hp→Prop,(∀ H',aM H H'→R y H')→te ((wipe σ vs).set j (some (iv i))) H R)
  (hd:∀ H',aM H1 H'→H' D=some (.lst ys)→Qd H') :
  ∃ W:Nat→Nat→Hp→Prop,(∃ m,W 0 m (upd H1 D (.lst [])))∧∀ i m H,W i m H →
   ((JB 0 n).stop i H∧Qd H)∨((JB 0 n).go i H∧∃ Nx:Hp→Prop,(∀ H',Nx H'→∃ m',m'<m∧W (i+1) m' H')∧∀ x H',(JB 0 n).zO i H x H'→mY j x (wipe σ vs) H' fun σ2 H2=>wipe σ2 vs=wipe σ vs∧LN σ2 H2 fun b H3 =>
    if b=true then te σ2 H3 fun y H4=>∃ acc,H4 D=some (.lst acc)∧acc.length<aP∧Nx (upd H4 D (.lst (acc++[y]))) else Nx H3):=by
 refine Ea (fun i H=>aM H1 H∧H D=some (.lst (ys.take i))) ⟨aM.new hD,aw⟩ (fun i H hi h=>?_) (fun H h=>?_)
 ·obtain ⟨s1,e⟩:=h
  have hy:ys[i]?=some (ys[i]'(by omega)):=aD (by omega)
  have q:=he i _ hy H s1 (fun y H4=>∃ acc,H4 D=some (.lst acc)∧acc.length<aP∧(aM H1 (upd H4 D (.lst (acc++[y])))∧upd H4 D (.lst (acc++[y])) D=some (.lst (ys.take (i+1))))) fun H4 s4=>⟨_,s4 _ _ e,?_,(s1.trans s4).upd hD,?_⟩
  ·rw[show (0:Int)+(i:Int)=(i:Int) by omega]
   exact ⟨hw _,q⟩
  ·rw[bP]
   exact aF (RN _ _) hz
  ·rw[aw,take_snoc hy]
 ·obtain ⟨s1,e⟩:=h
  rw[hxy,bI] at e
  exact hd H s1 e
theorem IG {X:Cx}{K:ai}{e:Expr}{ta:TE}{f:bZ}{pos:jR}(hK:X.K=K)(he:PE X e ta)(hb:ja e f X.env (eval e X.env)=eval e X.env):PE X (.Attribute e f pos) (U4 K ta f):=hK▸eY he hb
theorem Cp {α:Type}(m:Nat):∀ l:List (List α),(∀ x∈l,x.length≤m)→l.flatten.length≤m*l.length
 | [],_=>by simp
 | x::l,h=>by
  have:=Cp m l fun y hy=>h y (ao _ hy)
  have:=h x ax
  rw[kD,aK,aU,xl]
  omega
theorem Bs.flat {s:dC}(h:Bs s):s.words.flatten.length≤36:=by
 have:=Cp 6 s.words fun x hx=>(h.wd x hx).2.1
 have:=h.ws
 omega
theorem Bs.col {s:dC}(h:Bs s){c:bM}(hc:c∈s.words.flatten):c.sounds.length=s.langs:=by
 obtain ⟨wd,h1,h2⟩:=Po.mp hc
 exact (h.wd wd h1).2.2 c h2
theorem Bs.pats {s:dC}(h:Bs s){c:bM}(hc:c∈az s.words):c.sounds.length=s.langs:=h.col ((ig c _).mp hc)
theorem TY (t:cF):∃ x l,gZ t=x::l:=by cases t<;>exact ⟨_,_,rfl⟩
theorem Na {H:Hp}{q w:aj}{wd:eJ}{ws:List eJ}{qs:List aj}(h:gJ H q wd)(h1:1≤wd.length)(hw:H w=some (.lst (qs.map V.ref)))(pw:Paired (gJ H) qs ws):q≠w:=by
 intro z
 obtain ⟨rs,e,p⟩:=h
 rw[z,hw] at e
 have e:qs.map V.ref=rs.map V.ref:=by
  injection e with e
  injection e
 cases p with
 | nil=>simp at h1
 | cons a t =>
  cases pw with
  | nil=>cases e
  | cons b u =>
   injection e with e1 _
   injection e1 with e1
   obtain ⟨_,a1,_⟩:=a
   obtain ⟨_,b1,_⟩:=b
   rw[← e1,b1] at a1
   cases a1
theorem Ng {H:Hp}{a w:aj}{t:cF}{qs:List aj}(h:H a=some (.lst (vI (gZ t))))(hw:H w=some (.lst (qs.map V.ref))):a≠w:=by
 intro z
 rw[z,hw] at h
 obtain ⟨x,l,e⟩:=TY t
 rw[e] at h
 have h:qs.map V.ref=V.int x::vI l:=by
  injection h with h
  injection h
 cases qs with
 | nil=>cases h
 | cons b u =>
  injection h with h _
  cases h
theorem Oi (r:Pg):qQ r=vI (Si35.ints (r.flatMap fun p=>[p.1,p.2])):=by
 unfold qQ Si35.ints
 induction r with
 | nil=>rfl
 | cons p r ih =>
  rw[bQ,bQ,ih]
  rfl
theorem qR.push {C:aj}{H:Hp}{p dx c w q:aj}{tt:V}{s:dC}{wd:eJ}{qs:List aj}(h:qR C H p dx c w tt s)(hw:H w=some (.lst (qs.map V.ref)))(pw:Paired (gJ H) qs s.words)(hq:gJ H q wd)(nq:q≠w)(ok:Bs {s with words:=s.words++[wd]}) :
  qR C (upd H w (.lst (qs.map V.ref++[V.ref q]))) p dx c w tt {s with words:=s.words++[wd]}:=by
 obtain ⟨kvs,ek,r⟩:=h.costs
 have up:∀ q' wd',gJ H q' wd'→q'≠w→gJ (upd H w (.lst (qs.map V.ref++[V.ref q]))) q' wd':=fun q' wd' ⟨rs,e,z⟩ n=>⟨rs,by rw[aW n];exact e,d9 (fun r c' ⟨d,d1,d2⟩=>⟨d,by rw[aW (ir d1 hw (by intro z;cases z))];exact d1,by rw[aW (ir d2 hw (by intro z;cases z))];exact d2⟩) z⟩
 refine ⟨by rw[aW (ir h.ins hw (by intro z;cases z))];exact h.ins,⟨kvs,by rw[aW (ir ek hw (by intro z;cases z))];exact ek,r⟩,⟨qs++[q],by rw[aw,ba];rfl,?_⟩,?_,ok⟩
 ·refine gD (fun _ _ h=>h) (up q wd hq nq) (kY (bC pw) fun i a b ha hb=>?_)
  obtain ⟨b',hb',hab⟩:=cZ pw ha
  rw[hb'] at hb
  cases aH hb
  exact up a b hab (Na hab (h.ok.wd b (aY hb')).1 hw pw)
 ·have ht:=h.tree
  show Ak _ tt s.tree
  generalize s.tree=tr at ht
  cases tr with
  | none=>exact ht
  | some t' =>
   obtain ⟨x,e1,e2⟩:=ht
   exact ⟨x,e1,by rw[aW (Ng e2 hw)];exact e2⟩
def Az (K:ai)(C:aj):Sp:=fun vs H Q _=>∃ (p px py:aj) (O:aj→Prop) (s:dC) (x y:List Nat),vs=[.ref p,.ref px,.ref py]∧sP C H p O s∧cI K H px (eX x)∧cI K H py (eX y)∧x.length≤12∧y.length≤12∧eU C p O H s (cY s (.beside x y)) Q
def Mc (C:aj):Sp:=fun vs H Q _=>∃ (p q:aj) (O:aj→Prop) (s:dC) (wd:eJ),vs=[.ref p,.ref q]∧sP C H p O s∧gJ H q wd∧¬ O q∧wd.length≤12∧(∀ c∈wd,c.sounds.length≤12)∧eU C p O H (bz s (.word wd)).1 (cY s (.word wd)) Q
def Ie (C:aj):Sp:=fun vs H Q _=>∃ (p q:aj) (O:aj→Prop) (s:dC) (t:cF),vs=[.ref p,.ref q]∧sP C H p O s∧H q=some (.lst (vI (gZ t)))∧size t≤1000∧eU C p O H (bz s (.tree t)).1 (cY s (.tree t)) Q
section
variable {P:aV}{w:bK}{K:ai}{mg:bZ→Option ag}{base:bW}{C:aj}
theorem AF:bX ["self","first","second","laid"] ["self","first","second"] (bB uT):=kG
theorem GD {f f1 f2:aj}{fd j8 mL:bH}(F:jb K "beside" "Family.beside" uT f fd)(T:nP K mg C)(TF:qk mg)
  (G1:cP P w K mg base fG 1 f1 j8 ["row"] (Mj K))(m1:mg "is_row_of_sounds"=some (.ref f1))(k1:aQ K (.ref f1)=true)(b1:Binds K j8 ["row"] [])
  (G2:cP P w K mg base fG 4 f2 mL ["first","second","costs"] (Sd K))(m2:mg "lay_beside"=some (.ref f2))(k2:aQ K (.ref f2)=true)(b2:Binds K mL ["first","second","costs"] []) :
  cP P w K mg base fG 5 f fd ["self","first","second"] (Az K C):=by
 obtain ⟨to,hoor⟩:=T.UR
 refine F.ok AF (fun vs H Q E h=>?_) (fun gq A outer s H vs Q E hr h=>?_)
 ·obtain ⟨p,px,py,O,s,x,y,rfl,_⟩:=h
  rfl
 ·obtain ⟨p,px,py,O,st,x,y,rfl,hF,hx,hy,lx,ly,k⟩:=h
  have nY:fS 1 _:=hr.mono (by decide)
  refine ⟨_,aE (eG (tO (pj (pk (cj G1 nY (by rfl) m1 k1 b1 .nil cU (ah (pv 1) aA))) (pC (pk (cj G1 nY (by rfl) m1 k1 b1 .nil cU (ah (pv 2) aA))))).pt) (aR (bO (cS (ah (cg (v:=.int (-1)) (by rfl) hoor ⟨_,rfl⟩) aA)))) cX)
   (aE (cy (i:=3) AF.nd rfl (bp rfl) (cj G2 hr rfl m2 k2 b2 .nil cU (ah (pv 1) (ah (pv 2) (ah (eY (pv 0) rfl) aA)))))
   (aR (bO (d4 jx (cS (ah (cA dR (pv 3) aZ (fun _ _=>rfl)) (ah (cA dR (pv 3) aZ (fun _ _=>rfl)) (ah (d4 Qo (bR bG (by rfl) TF.len bj (ah (cA dR (pv 3) aZ (fun _ _=>rfl)) aA)) aZ) aA)))) (cA dR (pv 3) aZ (fun _ _=>rfl)))))),?_⟩
  refine aJ rfl ⟨px,x,rfl,hx,aB lx (by decide),fun H1 s1=>⟨_,rfl,?_⟩⟩
  have bad:(dD x&&dD y)=false→∀ H',aM H H'→∀ r,H' r=none→Q (.ref r) (upd H' r (.lst [V.int (-1)])):=fun e H' s' r dU=>by
   have e2:bz st (.beside x y)=(st,fM (-1)):=by
    show (st,if (dD x&&dD y)=false then fM (-1) else _)=_
    rw[if_pos e]
   unfold cY at k
   rw[e2] at k
   exact finish hF k (s'.trans (aM.new dU)) (s'.free dU) aw
  have c2:(dD x&&dD y)=false∨(dD x=true∧dD y=true):=by
   cases dD x<;>cases dD y<;>simp
  refine gI (fun h1=>?_) fun h1=>?_
  ·refine aJ rfl ⟨py,y,rfl,s1.seq hy,aB ly (by decide),fun H2 s2=>⟨_,rfl,?_⟩⟩
   refine gI (fun h2=>?_) fun h2=>?_
   ·have e:(dD x&&dD y)=false:=by
     rw[h1,jI]
     simpa using h2
    exact ⟨oj,fun r dU=>bad e H2 (s1.trans s2) r dU⟩
   ·have h2:dD y=true:=by simpa using h2
    have e2:bz st (.beside x y)=(st,⟨((fB st.costs x y).cost:Int),Si35.ints ((fB st.costs x y).many::(fB st.costs x y).first.length::(fB st.costs x y).first.flatMap fun p=>[p.1,p.2])⟩):=by
     show (st,if (dD x&&dD y)=false then fM (-1) else _)=_
     rw[if_neg (by rw[h1,h2];decide)]
    unfold cY at k
    rw[e2] at k
    have lx6:x.length≤6:=by
     unfold dD at h1
     rw[bA] at h1
     exact of_decide_eq_true h1.1
    have ly6:y.length≤6:=by
     unfold dD at h2
     rw[bA] at h2
     exact of_decide_eq_true h2.1
    obtain ⟨dx,c,wa,tt,hf,ho⟩:=id hF
    have s12:=s1.trans s2
    refine aJ rfl (aJ rfl (aJ rfl (tM (s12 _ _ hf.ins) T.cl T.nc (rb _ _ _ _ _) ⟨px,py,c,x,y,st.costs,rfl,s12.seq hx,s12.seq hy,lx6,ly6,hf.costs.same s12,fun H3 q s3 hq=>?_⟩)))
    obtain ⟨b,e3,e4⟩:=hq
    have lp:=A2 (fB st.costs x y).first
    refine aJ rfl (iJ q 0 _ (fR.of e3) rfl (aJ rfl (iJ q 1 _ (fR.of e3) rfl (aJ rfl (iJ q 2 _ (fR.of e3) rfl ⟨b,aJ rfl ⟨.inl (cI.of e4),_,2,rfl,rfl,(show Vp _ 2 from ⟨by decide,by decide⟩),(by show 3≤aP;decide),fun r1 hr1'=>?_⟩⟩)))))
    have s4:=aM.new (o:=.lst [iv (fB st.costs x y).cost,iv (fB st.costs x y).many,V.int (((qQ (fB st.costs x y).first).length:Int) / 2)]) hr1'
    refine aJ rfl (iJ q 2 _ (fR.of (s4 _ _ e3)) rfl ⟨r1,b,_,aJ rfl ⟨rfl,aw,s4 _ _ e4,?_,fun r dU=>?_⟩⟩)
    ·have l2:(fB st.costs x y).first.length≤12:=aB (zE _ _ _ _) (by omega)
     rw[lp]
     exact aB (show 3+2*_≤27 by omega) (by decide)
    ·refine finish hF k ((s12.trans s3).trans (s4.trans (aM.new dU))) ((s12.trans s3).free (s4.free dU)) ?_
     rw[aw]
     show some (HO.lst ([_,_,V.int (((qQ (fB st.costs x y).first).length:Int) / 2)]++qQ (fB st.costs x y).first))=_
     rw[lp,Oi]
     have e5:(((2*(fB st.costs x y).first.length:Nat):Int) / 2)=((fB st.costs x y).first.length:Int):=by omega
     rw[e5]
     rfl
  ·have e:(dD x&&dD y)=false:=by
    rw[lC] at h1
    rw[h1,iw]
   exact ⟨oj,fun r dU=>bad e H1 s1 r dU⟩
theorem FF:bX ["self","places","place"] ["self","places"] (bB Hu):=kG
theorem Qp {f f1:aj}{fd j8:bH}(F:jb K "word" "Family.word" Hu f fd)(T:nP K mg C)(TF:qk mg)
  (G1:cP P w K mg base fG 1 f1 j8 ["place","languages"] Ig)(m1:mg "is_place"=some (.ref f1))(k1:aQ K (.ref f1)=true)(b1:Binds K j8 ["place","languages"] []) :
  cP P w K mg base fG 2 f fd ["self","places"] (Mc C):=by
 obtain ⟨to,hoor⟩:=T.UR
 obtain ⟨tm,yp⟩:=T.JD
 obtain ⟨tc,qP⟩:=T.VI
 refine F.ok FF (fun vs H Q E h=>?_) (fun gq A outer s H vs Q E hr h=>?_)
 ·obtain ⟨p,q,O,s,wd,rfl,_⟩:=h
  rfl
 ·obtain ⟨p,q,O,st,wd,rfl,hF,hq,nO,h12,hs12,k⟩:=h
  have nY:fS 1 _:=hr.mono (by decide)
  refine ⟨_,aE (eG (HL (tO (uU mX mX aZ (bR bG (by rfl) TF.len bj (ah (pv 1) aA)) aZ)) (BN (tO (pk (bR (F4 rfl) (by rfl) TF.all v9 (ah (jm rfl FF.nd (eh (pv 1)) (dX (own:=[("place",2)]) (by rfl)) (fun _ _ _ _ _=>cK (i:=2) FF.nd rfl (bp rfl)) (fun _ _ _ _ _=>gA) (fun _ _ _ _ _=>cj G1 hr (by rfl) m1 k1 b1 .nil cU (ah (pv 2) (ah (IG (K:=K) rfl (pv 0) rfl) aA)))) aA)))))).pt (aR (bO (cS (ah (cg (v:=.int (-1)) (by rfl) hoor ⟨_,rfl⟩) aA)))) cX)
   (aE (eG (bU gC (bR bG (by rfl) TF.len bj (ah (eY (pv 0) rfl) aA)) (cg (v:=.int 6) (by rfl) qP ⟨_,rfl⟩) (cq _)) (aR (bO (cS (ah (cg (v:=.int (-5)) (by rfl) yp ⟨_,rfl⟩) aA)))) cX)
   (aE (fT (jU bN cE cD gG (eY (pv 0) rfl) (ah (pv 1) aA)))
   (aR (bO (cS (ah (d4 Mu (bR bG (by rfl) TF.len bj (ah (eY (pv 0) rfl) aA)) aZ) aA)))))),?_⟩
  obtain ⟨rs,eq,pr⟩:=id hq
  have lr:((rs.map V.ref).length:Int)=(wd.length:Int):=by rw[ae,bC pr]
  obtain ⟨dx,c,wa,tt,hf,ho⟩:=id hF
  obtain ⟨qs,ew,pw⟩:=id hf.words
  refine pP (a:=1) (b:=(wd.length:Int)) (c:=6) (fun _ h=>h) (fun R h=>aJ rfl ⟨q,aJ rfl ⟨.inl (cI.of eq),by rw[lr];exact h⟩⟩) (fun _ h=>h) ?_
  have bad:sX st.langs wd=false→∀ H',aM H H'→∀ r,H' r=none→Q (.ref r) (upd H' r (.lst [V.int (-1)])):=fun e H' s' r dU=>by
   have e2:bz st (.word wd)=(st,fM (-1)):=if_pos e
   unfold cY at k
   rw[e2] at k
   exact finish hF k (s'.trans (aM.new dU)) (s'.free dU) aw
  refine gI (fun h1=>?_) fun h1=>?_
  ·refine pd ⟨oj,fun r dU=>bad ?_ H (aM.refl _) r dU⟩
   have:¬ (1≤wd.length∧wd.length≤6):=fun ⟨a,b⟩=>by
    rw[decide_eq_true (show (1:Int)≤wd.length by omega),decide_eq_true (show (wd.length:Int)≤6 by omega)] at h1
    cases h1
   unfold sX
   by_cases a:1≤wd.length
   ·rw[decide_eq_false (show ¬ wd.length≤Si35.COLS from fun b=>this ⟨a,b⟩)]
    simp
   ·rw[decide_eq_false a]
    rfl
  have hn:1≤wd.length∧wd.length≤6:=by
   rw[lC,vt,bA,decide_eq_true_iff,decide_eq_true_iff] at h1
   omega
  have ewo:sX st.langs wd=wd.all (placeOk st.langs):=by
   unfold sX
   rw[decide_eq_true hn.1,decide_eq_true (show wd.length≤Si35.COLS from hn.2)]
   rfl
  refine aJ rfl ⟨q,rfl,⟨_,cI.of eq⟩,fun D hD=>uH (ys:=(wd.map (placeOk st.langs)).map V.bl) hD (cI.of eq) (by rw[ae,ae];exact aF h12 (by decide)) (by rw[ae,ae,ae,bC pr]) (fun x=>rfl) (fun i v y hv hy H1 s1 R hR=>?_) (fun H1 s1 e1=>?_)⟩
  ·obtain ⟨r,dU,rfl⟩:=fq hv
   obtain ⟨col,hc,hrc⟩:=cZ pr dU
   rw[aO,aO,hc] at hy
   cases aH hy
   exact aJ rfl (aJ rfl (tM (s1 _ _ hf.ins) T.cl T.nl (uK _ _ _ _ _) ⟨r,col,st.langs,rfl,hrc.same s1,aB (hs12 col (aY hc)) (by decide),fun H2 s2=>hR H2 s2⟩))
  refine ⟨D,aJ rfl ⟨cI.of e1,aJ rfl ?_⟩⟩
  rw[F6,← ewo]
  refine gI (fun h2=>?_) fun h2=>?_
  ·exact ⟨oj,fun r dU=>bad (by simpa using h2) H1 s1 r dU⟩
  have fu:sX st.langs wd=true:=by simpa using h2
  have lq:((qs.map V.ref).length:Int)=(st.words.length:Int):=by rw[ae,bC pw]
  refine aJ rfl (tM (s1 _ _ hf.ins) T.cl T.nw (g6 _ _ _ _ _) ⟨wa,aJ rfl ⟨.inl (cI.of (s1 _ _ ew)),rfl,aJ rfl ?_⟩⟩)
  refine gI (fun h3=>?_) fun h3=>?_
  ·have h3:st.words.length=6:=by
    have:=pz.mp h3
    omega
   have e:bz st (.word wd)=(st,fM (-5)):=(if_neg (by rw[fu];decide)).trans (if_pos (show 6≤st.words.length by omega))
   unfold cY at k
   rw[e] at k
   exact ⟨oj,fun r dU=>finish hF k (s1.trans (aM.new dU)) (s1.free dU) aw⟩
  have j7:st.words.length<6:=by
   have h4:¬ st.words.length=6:=fun e=>h3 (pz.mpr (by omega))
   have:=hf.ok.ws
   omega
  have e:bz st (.word wd)=({st with words:=st.words++[wd]},fM (st.words.length:Int)):=(if_neg (by rw[fu];decide)).trans (if_neg (show ¬ 6≤st.words.length by omega))
  unfold cY at k
  rw[e] at k
  have nq:q≠wa:=fun z=>nO ((ho q).mpr (.inr (.inr z)))
  have hf1:=hf.same s1
  have sok:Bs {st with words:=st.words++[wd]}:=by
   refine ⟨hf.ok.l2,hf.ok.l5,hf.ok.cs,by show (st.words++[wd]).length≤6;rw[aK];simp;omega,fun x hx=>?_,hf.ok.tr⟩
   rcases bu.mp hx with hx | hx
   ·exact hf.ok.wd x hx
   ·rw[bE.mp hx]
    refine ⟨hn.1,hn.2,fun col hc=>?_⟩
    rw[ewo,dO] at fu
    have:=fu col hc
    unfold placeOk at this
    rw[bA,bA] at this
    exact of_decide_eq_true this.2.1
  have fin:=hf1.push (s1 _ _ ew) (pH s1 pw) (hq.same s1) nq sok
  have hq6:(qs.map V.ref).length≤6:=by
   rw[ae,bC pw]
   omega
  refine aJ rfl (tM hf1.ins T.cl T.nw (g6 _ _ _ _ _) ⟨.inl ⟨rfl,_,cI.of (s1 _ _ ew)⟩,aJ rfl ⟨wa,_,aJ rfl ⟨rfl,s1 _ _ ew,aF hq6 (by decide),?_⟩⟩⟩)
  have l2:((qs.map V.ref++[V.ref q]).length:Int) - 1=(st.words.length:Int):=by
   rw[aK,ae,bC pw]
   simp
  refine aJ rfl (tM fin.ins T.cl T.nw (g6 _ _ _ _ _) ⟨wa,aJ rfl ⟨.inl (cI.of aw),_,aJ rfl ⟨rfl,oj,fun r dU=>?_⟩⟩⟩)
  show Q (V.ref r) (upd (upd H1 wa (.lst (qs.map V.ref++[V.ref q]))) r (.lst [V.int (((qs.map V.ref++[V.ref q]).length:Int) - 1)]))
  rw[l2]
  have s2:=aM.new (o:=.lst [V.int (st.words.length:Int)]) dU
  have nrw:r≠wa:=(dj aw dU).symm
  have qF:H r=none:=by
   rw[aW nrw] at dU
   exact s1.free dU
  refine k _ O r ⟨dx,c,wa,tt,fin.same s2,ho⟩ ⟨fun b o e no=>s2 _ _ ?_,fun b q=>.inl q⟩ qF (fun z=>?_) aw
  ·rw[aW (fun z=>no ((ho b).mpr (.inr (.inr z))))]
   exact s1 _ _ e
  ·obtain ⟨_,z⟩:=hF.own z
   rw[z] at qF
   cases qF
theorem Qc:bX ["self","nodes"] ["self","nodes"] (bB BA):=kG
theorem NO {f f1:aj}{fd j8:bH}(F:jb K "tree" "Family.tree" BA f fd)(T:nP K mg C)
  (G1:cP P w K mg base fG 1 f1 j8 ["tree","languages"] (Mm K))(m1:mg "has_each_once"=some (.ref f1))(k1:aQ K (.ref f1)=true)(b1:Binds K j8 ["tree","languages"] []) :
  cP P w K mg base fG 2 f fd ["self","nodes"] (Ie C):=by
 obtain ⟨to,hoor⟩:=T.UR
 refine F.ok Qc (fun vs H Q E h=>?_) (fun gq A outer s H vs Q E hr h=>?_)
 ·obtain ⟨p,q,O,s,t,rfl,_⟩:=h
  rfl
 ·obtain ⟨p,q,O,st,t,rfl,hF,hq,hz,k⟩:=h
  refine ⟨_,aE (eG (tO (pk (cj G1 hr (by rfl) m1 k1 b1 .nil cU (ah (pv 1) (ah (eY (pv 0) rfl) aA))))) (aR (bO (cS (ah (cg (v:=.int (-1)) (by rfl) hoor ⟨_,rfl⟩) aA)))) cX)
   (aE (tP (pv 0) (pv 1) rfl)
   (aR (bO (cS (ah aZ aA))))),?_⟩
  obtain ⟨dx,c,wa,tt,hf,ho⟩:=id hF
  refine aJ rfl (aJ rfl (tM hf.ins T.cl T.nl (uK _ _ _ _ _) ⟨q,t,st.langs,rfl,cI.of hq,hz,aB hf.ok.l5 (by decide),fun H1 s1=>⟨_,rfl,?_⟩⟩))
  refine gI (fun h1=>?_) fun h1=>?_
  ·have e:bz st (.tree t)=(st,fM (-1)):=if_pos (by simpa using h1)
   unfold cY at k
   rw[e] at k
   exact ⟨oj,fun r dU=>finish hF k (s1.trans (aM.new dU)) (s1.free dU) aw⟩
  have fu:sY st.langs t=true:=by simpa using h1
  have e:bz st (.tree t)=({st with tree:=some t},fM 0):=if_neg (by rw[fu];decide)
  unfold cY at k
  rw[e] at k
  have hf1:=hf.same s1
  refine aJ rfl (aJ rfl ⟨p,C,dx,aJ rfl ⟨hf1.ins,T.cl,T.nr,(by show 5<1000;decide),oj,fun r dU=>?_⟩⟩)
  rw[Q4] at dU ⊢
  have up:∀ x o,H1 x=some o→(∀ y z,o≠.ins C y z)→upd H1 p (.ins C dx (ff st.langs st.costs.length c wa (.ref q))) x=some o:=fun x o hx n=>by
   rw[aW (ir hx hf1.ins (n _ _))]
   exact hx
  obtain ⟨kvs,ek,vk⟩:=hf1.costs
  obtain ⟨qs,ew,pw⟩:=hf1.words
  have fin:qR C (upd H1 p (.ins C dx (ff st.langs st.costs.length c wa (.ref q)))) p dx c wa (.ref q) {st with tree:=some t}:=by
   refine ⟨aw,⟨kvs,up _ _ ek (by intro _ _ z;cases z),vk⟩,⟨qs,up _ _ ew (by intro _ _ z;cases z),?_⟩,⟨q,rfl,up _ _ (s1 _ _ hq) (by intro _ _ z;cases z)⟩,⟨hf.ok.l2,hf.ok.l5,hf.ok.cs,hf.ok.ws,hf.ok.wd,fun t' ht'=>?_⟩⟩
   ·exact d9 (fun q wd ⟨rs,er,pr⟩=>⟨rs,up _ _ er (by intro _ _ z;cases z),d9 (fun r c' ⟨z,d1,d2⟩=>⟨z,up _ _ d1 (by intro _ _ z;cases z),up _ _ d2 (by intro _ _ z;cases z)⟩) pr⟩) pw
   ·cases aH ht'
    exact fu
  have s2:=aM.new (o:=.lst [V.int 0]) dU
  have nrp:r≠p:=(dj aw dU).symm
  have qF:H r=none:=by
   rw[aW nrp] at dU
   exact s1.free dU
  refine k _ O r ⟨dx,c,wa,_,fin.same s2,ho⟩ ⟨fun b o e no=>s2 _ _ ?_,fun b q=>.inl q⟩ qF (fun z=>?_) aw
  ·rw[aW (fun z=>no ((ho b).mpr (.inl z)))]
   exact s1 _ _ e
  ·obtain ⟨_,z⟩:=hF.own z
   rw[z] at qF
   cases qF
end
theorem pM {s:dC}(h:8<(az s.words).length):Si35.named s=none:=if_pos h
theorem kN {s:dC}(h:¬ 8<(az s.words).length):Si35.named s=some (az s.words,bF (az s.words)):=if_neg h
theorem k5 (l:List Nat):eX l=vI (Si35.ints l):=BS l
theorem Ou (ws:List eJ):(jK (gO ws.flatten)).length=(az ws).length:=by
 unfold jK gO az
 simp
theorem vU:∀ t:cF,size t+1=2*t.leaves.length
 | .leaf _=>rfl
 | .node a b=>by
  have h1:=vU a
  have h2:=vU b
  show (1+(size a+size b))+1=2*(a.leaves++b.leaves).length
  rw[aK]
  omega
theorem pK {n:Nat}{t:cF}(h:sY n t=true):(∀ k∈t.leaves,k<n)∧size t+1=2*n:=by
 unfold sY at h
 rw[bA,beq_iff_eq,dO] at h
 have p:=rA (l:=br n) (m:=t.leaves) Pn (fun x hx=>by simpa using h.2 x hx) (by rw[c6];exact h.1)
 refine ⟨fun k hk=>dN.mp (p.mem_iff.mp hk),?_⟩
 rw[vU,h.1]
theorem ub (l:Nat):∀ t u:cF,u∈kz l t→∀ k∈u.leaves,k=l∨k∈t.leaves
 | .leaf i,u,h,k,hk=>by
  rw[bE.mp h] at hk
  rcases bu.mp hk with hk | hk
  ·exact .inr hk
  ·exact .inl (bE.mp hk)
 | .node a b,u,h,k,hk=>by
  rcases aI.mp h with h | h
  ·rw[h] at hk
   rcases bu.mp hk with hk | hk
   ·exact .inr hk
   ·exact .inl (bE.mp hk)
  ·rcases bu.mp h with h | h
   ·obtain ⟨x,hx,rfl⟩:=aX.mp h
    rcases bu.mp hk with hk | hk
    ·rcases ub l a x hx k hk with z | z
     ·exact .inl z
     ·exact .inr (bu.mpr (.inl z))
    ·exact .inr (bu.mpr (.inr hk))
   ·obtain ⟨x,hx,rfl⟩:=aX.mp h
    rcases bu.mp hk with hk | hk
    ·exact .inr (bu.mpr (.inl hk))
    ·rcases ub l b x hx k hk with z | z
     ·exact .inl z
     ·exact .inr (bu.mpr (.inr z))
theorem DE:∀ (n:Nat) (t:cF),t∈eQ (n+1)→∀ k∈t.leaves,k<n+1
 | 0,t,h,k,hk=>by
  rw[bE.mp h] at hk
  rw[bE.mp hk]
  exact Nat.zero_lt_one
 | n+1,t,h,k,hk=>by
  obtain ⟨u,hu,h2⟩:=qb.mp h
  rcases ub _ _ _ h2 k hk with z | z
  ·omega
  ·have:=DE n u hu k z
   omega
def PM (s:dC)(i j:Nat):V:=match s.tree with
 | none=>.int (-4)
 | some _=>match qu s i j with
  | none=>.int (-6)
  | some _=>.hU
def Ii (C:aj):Sp:=fun vs H Q _=>∃ (p:aj) (O:aj→Prop) (s:dC),vs=[.ref p]∧sP C H p O s∧eU C p O H s (cY s .olds) Q
def DK (C:aj):Sp:=fun vs H Q _=>∃ (p:aj) (O:aj→Prop) (s:dC) (n:Nat),vs=[.ref p,iv n]∧n≤5000000000∧sP C H p O s∧eU C p O H s (cY s (.leave n)) Q
def vN (C:aj):Sp:=fun vs H Q _=>∃ (p:aj) (O:aj→Prop) (s:dC) (i j:Nat),vs=[.ref p,iv i,iv j]∧sP C H p O s∧Q (PM s i j) H
def Me (C:aj):Sp:=fun vs H Q _=>∃ (p:aj) (O:aj→Prop) (s:dC) (i j:Nat),vs=[.ref p,iv i,iv j]∧sP C H p O s∧eU C p O H s (cY s (.root i j)) Q
def Ax (C:aj):Sp:=fun vs H Q _=>∃ (p:aj) (O:aj→Prop) (s:dC) (i j:Nat),vs=[.ref p,iv i,iv j]∧sP C H p O s∧eU C p O H s (cY s (.states i j)) Q
def yG (C:aj):Sp:=fun vs H Q _=>∃ (p q:aj) (O:aj→Prop) (s:dC) (t:cF),vs=[.ref p,.ref q]∧sP C H p O s∧H q=some (.lst (vI (gZ t)))∧size t≤1000∧(∀ k∈t.leaves,k<s.langs) ∧
 ∀ H' r,aM H H'→H r=none→H' r=some (.lst (eX (s.words.flatten.map (t.score s.costs))))→Q (.ref r) H'
def DH (C:aj):Sp:=fun vs H Q _=>∃ (p:aj) (O:aj→Prop) (s:dC),vs=[.ref p]∧sP C H p O s∧eU C p O H s (cY s .score) Q
section
variable {P:aV}{w:bK}{K:ai}{mg:bZ→Option ag}{base:bW}{C:aj}
theorem Cf:bX ["self","found","numbers"] ["self"] (bB BG):=kG
theorem NU {f f1 f2:aj}{fd j8 mL:bH}(F:jb K "olds" "Family.olds" BG f fd)(T:nP K mg C)(TF:qk mg)
  (G1:cP P w K mg base fG 1 f1 j8 ["words"] pA)(m1:mg "count_places"=some (.ref f1))(k1:aQ K (.ref f1)=true)(b1:Binds K j8 ["words"] [])
  (G2:cP P w K mg base fG 12 f2 mL ["patterns"] FD)(m2:mg "give_old_sounds"=some (.ref f2))(k2:aQ K (.ref f2)=true)(b2:Binds K mL ["patterns"] []) :
  cP P w K mg base fG 13 f fd ["self"] (Ii C):=by
 obtain ⟨tm,yp⟩:=T.JD
 obtain ⟨tc,qP⟩:=T.HN
 refine F.ok Cf (fun vs H Q E h=>?_) (fun gq A outer s H vs Q E hr h=>?_)
 ·obtain ⟨p,O,s,rfl,_⟩:=h
  rfl
 ·obtain ⟨p,O,st,rfl,hF,k⟩:=h
  have nY:fS 1 _:=hr.mono (by decide)
  refine ⟨_,aE (cy (i:=1) Cf.nd rfl (bp rfl) (kK (pQ rfl) (by rfl) TF.list sT (ah (cj G1 nY (by rfl) m1 k1 b1 .nil cU (ah (eY (pv 0) rfl) aA)) aA)))
   (aE (eG (bU Dk (bR bG (by rfl) TF.len bj (ah (pv 1) aA)) (cg (v:=.int 8) (by rfl) qP ⟨_,rfl⟩) (cq _)) (aR (bO (cS (ah (cg (v:=.int (-5)) (by rfl) yp ⟨_,rfl⟩) aA)))) cX)
   (aE (cy (i:=2) Cf.nd rfl (bp rfl) (cj G2 hr rfl m2 k2 b2 .nil cU (ah (pv 1) aA)))
   (aR (bO (d4 jx (cS (ah (d4 eO (xW rfl (by rfl) TF.max (ah (pv 2) aA) (qM mj aZ)) aZ) aA)) (pv 2)))))),?_⟩
  obtain ⟨dx,c,wa,tt,hf,ho⟩:=id hF
  refine cQ (aJ rfl (tM hf.ins T.cl T.nw (g6 _ _ _ _ _) ⟨wa,st.words,rfl,hf.words,aB hf.ok.flat (by decide),fun H1 t s1 _ e1=>⟨t,_,rfl,e1,fun qs q pq hq=>?_⟩⟩))
  have hw:=sD hq pq
  have s2:=s1.trans (aM.new (o:=.lst (qs.map V.ref)) hq)
  generalize upd H1 q (.lst (qs.map V.ref))=H2 at hw s2
  obtain ⟨rs,e2,p2⟩:=id hw
  have lr:((rs.map V.ref).length:Int)=((az st.words).length:Int):=by rw[ae,bC p2]
  refine aJ rfl ⟨q,aJ rfl ⟨.inl (cI.of e2),_,aJ rfl ⟨rfl,aJ rfl ?_⟩⟩⟩
  rw[lr]
  refine gI (fun h1=>?_) fun h1=>?_
  ·have h1:8<(az st.words).length:=by
    have:=of_decide_eq_true h1
    omega
   have e:bz st .olds=(st,fM (-5)):=by simp only[bz,pM h1]
   unfold cY at k
   rw[e] at k
   exact ⟨oj,fun r dU=>finish hF k (s2.trans (aM.new dU)) (s2.free dU) aw⟩
  have h1:¬ 8<(az st.words).length:=fun z=>h1 (decide_eq_true (by omega))
  have e:bz st .olds=(st,⟨(bb (bF (az st.words)):Int),Si35.ints (bF (az st.words))⟩):=by simp only[bz,kN h1]
  unfold cY at k
  rw[e] at k
  have lns:=zB (az st.words)
  refine aJ rfl ⟨q,az st.words,rfl,hw,by omega,fun H3 t' s3 e3=>?_⟩
  generalize bF (az st.words)=ns at k lns e3
  have hgi:eX ns=(ns.map fun n=>((n:Nat):Int)).map V.int:=by show eD iv ns=_;rw[bx];rfl
  refine aJ rfl (aJ rfl ⟨t',aJ rfl ⟨cI.of (hgi▸e3),_,1,sI ns,rfl,oj,fun r1 hr1'=>?_⟩⟩)
  have s4:=aM.new (o:=.lst [V.int ((bb ns:Int) - 1+1)]) hr1'
  refine aJ rfl ⟨r1,t',_,aJ rfl ⟨rfl,aw,s4 _ _ e3,?_,fun r dU=>?_⟩⟩
  ·rw[ae,lns]
   exact aB (show 1+_≤9 by omega) (by decide)
  ·refine finish hF k ((s2.trans s3).trans (s4.trans (aM.new dU))) ((s2.trans s3).free (s4.free dU)) ?_
   rw[aw]
   show some (HO.lst ([V.int ((bb ns:Int) - 1+1)]++eX ns))=_
   rw[k5,show (bb ns:Int) - 1+1=(bb ns:Int) by omega]
   rfl
theorem DR:bX ["self","k","left_out"] ["self","k"] (bB xM):=kG
theorem Ky (ws:List eJ)(n:Nat):(lH ws n).length≤ws.length:=by
 unfold lH
 cases e:(br (ws.length+1)).findSome? fun m=>(lN m ws.length (br ws.length)).find? fun o=>decide (bb (bF (az (ku ws o)))≤n) with
 | none=>exact aS _
 | some o =>
  obtain ⟨m,hm,h2⟩:=List.exists_of_findSome?_eq_some e
  have:=(pN m _ _ o (CT h2)).1
  have:=dN.mp hm
  show o.length≤_
  omega
theorem Kl {f f1 f2:aj}{fd j8 mL:bH}(F:jb K "leave" "Family.leave" xM f fd)(T:nP K mg C)(TF:qk mg)
  (G1:cP P w K mg base fG 1 f1 j8 ["words"] pA)(m1:mg "count_places"=some (.ref f1))(k1:aQ K (.ref f1)=true)(b1:Binds K j8 ["words"] [])
  (G2:cP P w K mg base fG 13 f2 mL ["words","limit"] Ij)(m2:mg "leave_out"=some (.ref f2))(k2:aQ K (.ref f2)=true)(b2:Binds K mL ["words","limit"] []) :
  cP P w K mg base fG 14 f fd ["self","k"] (DK C):=by
 obtain ⟨tm,yp⟩:=T.JD
 obtain ⟨tc,qP⟩:=T.HN
 refine F.ok DR (fun vs H Q E h=>?_) (fun gq A outer s H vs Q E hr h=>?_)
 ·obtain ⟨p,O,s,n,rfl,_⟩:=h
  rfl
 ·obtain ⟨p,O,st,n,rfl,hn,hF,k⟩:=h
  have nY:fS 1 _:=hr.mono (by decide)
  refine ⟨_,aE (eG (bU Dk (bR A6 (by rfl) TF.len bj (ah (cj G1 nY (by rfl) m1 k1 b1 .nil cU (ah (eY (pv 0) rfl) aA)) aA)) (cg (v:=.int 8) (by rfl) qP ⟨_,rfl⟩) (cq _)) (aR (bO (cS (ah (cg (v:=.int (-5)) (by rfl) yp ⟨_,rfl⟩) aA)))) cX)
   (aE (cy (i:=2) DR.nd rfl (bp rfl) (cj G2 hr rfl m2 k2 b2 .nil cU (ah (eY (pv 0) rfl) (ah (pv 1) aA))))
   (aR (bO (d4 jx (cS (ah (bR bG (by rfl) TF.len bj (ah (pv 2) aA)) aA)) (pv 2))))),?_⟩
  obtain ⟨dx,c,wa,tt,hf,ho⟩:=id hF
  refine aJ rfl (tM hf.ins T.cl T.nw (g6 _ _ _ _ _) ⟨wa,st.words,rfl,hf.words,aB hf.ok.flat (by decide),fun H1 t s1 _ e1=>⟨t,_,rfl,e1,_,_,rfl,rfl,_,rfl,?_⟩⟩)
  rw[Ou]
  refine gI (fun h1=>?_) fun h1=>?_
  ·have h1:8<(az st.words).length:=by
    have:=of_decide_eq_true h1
    omega
   have e:bz st (.leave n)=(st,fM (-5)):=by simp[bz,pM h1]
   unfold cY at k
   rw[e] at k
   exact ⟨oj,fun r dU=>finish hF k (s1.trans (aM.new dU)) (s1.free dU) aw⟩
  have h1:¬ 8<(az st.words).length:=fun z=>h1 (decide_eq_true (by omega))
  have e:bz st (.leave n)=(st,⟨((lH st.words n).length:Int),Si35.ints (lH st.words n)⟩):=by simp[bz,kN h1]
  unfold cY at k
  rw[e] at k
  have hf1:=hf.same s1
  refine aJ rfl (tM hf1.ins T.cl T.nw (g6 _ _ _ _ _) (aJ rfl ⟨wa,st.words,n,rfl,hf1.words,hf.ok.ws,aB hf.ok.flat (by decide),by omega,hn,fun H3 t' s3 e3=>?_⟩))
  have ll:=Ky st.words n
  have lw:=hf.ok.ws
  generalize lH st.words n=ns at k e3 ll
  refine aJ rfl ⟨t',aJ rfl ⟨.inl (cI.of e3),oj,fun r1 hr1'=>?_⟩⟩
  have s4:=aM.new (o:=.lst [V.int ((eX ns).length:Int)]) hr1'
  refine aJ rfl ⟨r1,t',_,aJ rfl ⟨rfl,aw,s4 _ _ e3,?_,fun r dU=>?_⟩⟩
  ·rw[ae]
   exact aB (show 1+_≤9 by omega) (by decide)
  ·refine finish hF k ((s1.trans s3).trans (s4.trans (aM.new dU))) ((s1.trans s3).free (s4.free dU)) ?_
   rw[aw]
   show some (HO.lst ([V.int ((eX ns).length:Int)]++eX ns))=_
   rw[ae,k5]
   rfl
theorem PQ {v:V}(h:v≠.hU){a b:Prop}(q:a):if (!decide (v=.hU))=true then a else b:=by
 rw[if_pos (by simp[h])]
 exact q
theorem W1 {a b:Prop}(q:b):if (!decide (V.hU=.hU))=true then a else b:=by
 rw[if_neg (by simp)]
 exact q
theorem Vf {a b:Prop}(q:a):if decide (V.hU=.hU)=true then a else b:=by
 rw[if_pos (by simp)]
 exact q
theorem Sg {v:V}(h:v≠.hU){a b:Prop}(q:b):if decide (v=.hU)=true then a else b:=by
 rw[if_neg (by simp[h])]
 exact q
theorem jF {α β:Type}{R:α→β→Prop}:∀ {l:List α} {m:List β} {i:Nat} {b:β},Paired R l m→m[i]?=some b→∃ a,l[i]?=some a∧R a b
 | _,_,_,_,.nil,h=>by simp at h
 | _,_,0,_,.cons a _,h=>by
  cases aH h
  exact aJ rfl a
 | _,_,i+1,_,.cons _ t,h=>jF (i:=i) t h
theorem jY {rs:List aj}{i:Nat}{r:aj}(h:rs[i]?=some r):(rs.map V.ref)[i]?=some (V.ref r):=by rw[aO,h];rfl
theorem J8:bX ["self","word","place"] ["self","word","place"] (bB uR):=kG
theorem GB {f:aj}{fd:bH}(F:jb K "refused_place" "Family.refused_place" uR f fd)(T:nP K mg C)(TF:qk mg):cP P w K mg base fG 1 f fd ["self","word","place"] (vN C):=by
 obtain ⟨tm,hno⟩:=T.not
 obtain ⟨tc,hth⟩:=T.FX
 refine F.ok J8 (fun vs H Q E h=>?_) (fun gq A outer s H vs Q E hr h=>?_)
 ·obtain ⟨p,O,s,i,j,rfl,_⟩:=h
  rfl
 ·obtain ⟨p,O,st,i,j,rfl,hF,k⟩:=h
  refine ⟨_,aE (eG (bU FW (eY (pv 0) rfl) nR (cq _)) (aR (bO (cg (v:=.int (-4)) (by rfl) hno ⟨_,rfl⟩))) cX)
   (aE (eG (HL (bU Dl (pv 1) (bR bG (by rfl) TF.len bj (ah (eY (pv 0) rfl) aA)) (cq _)) (BN (bU Dl (pv 2) (bR bG (by rfl) TF.len bj (ah (cA cM (eY (pv 0) rfl) (pv 1) (fun _ _=>rfl)) aA)) (cq _)))).pt (aR (bO (cg (v:=.int (-6)) (by rfl) hth ⟨_,rfl⟩))) cX)
   (aR (bO nR))),?_⟩
  obtain ⟨dx,c,wa,tt,hf,ho⟩:=id hF
  have ht:=hf.tree
  refine aJ rfl (tM hf.ins T.cl T.nr (uJ _ _ _ _ _) ⟨rfl,aJ rfl ?_⟩)
  unfold PM at k
  cases e:st.tree with
  | none =>
   rw[e] at ht k
   have ht:tt=.hU:=ht
   subst ht
   exact Vf k
  | some t =>
   rw[e] at ht k
   obtain ⟨a,rfl,ea⟩:=ht
   refine Sg (by intro z;cases z) ?_
   obtain ⟨qs,ew,pw⟩:=id hf.words
   have lq:((qs.map V.ref).length:Int)=(st.words.length:Int):=by rw[ae,bC pw]
   refine aJ rfl (aJ rfl (tM hf.ins T.cl T.nw (g6 _ _ _ _ _) ⟨wa,aJ rfl ⟨.inl (cI.of ew),_,aJ rfl ⟨rfl,aJ rfl ?_⟩⟩⟩))
   rw[lq]
   unfold qu at k
   refine gI (fun h1=>?_) fun h1=>?_
   ·have h1:st.words.length≤i:=by
     have:=of_decide_eq_true h1
     omega
    rw[bJ h1] at k
    exact pd k
   have h1:i<st.words.length:=iC fun z=>h1 (decide_eq_true (by omega))
   obtain ⟨wd,hw⟩:∃ wd,st.words[i]?=some wd:=⟨_,aD h1⟩
   obtain ⟨q,hq,rs,er,pr⟩:=jF pw hw
   have lr:((rs.map V.ref).length:Int)=(wd.length:Int):=by rw[ae,bC pr]
   rw[hw] at k
   refine aJ rfl (aJ rfl (tM hf.ins T.cl T.nw (g6 _ _ _ _ _) (aJ rfl (iJ wa i _ (cI.of ew) (cp (jY hq)) ⟨q,aJ rfl ⟨.inl (cI.of er),_,aJ rfl ⟨rfl,aJ rfl ?_⟩⟩⟩))))
   rw[lr]
   refine gI (fun h2=>?_) fun h2=>?_
   ·have h2:wd.length≤j:=by
     have:=of_decide_eq_true h2
     omega
    have k:Q (match wd[j]? with | none=>.int (-6) | some _=>.hU) H:=k
    rw[bJ h2] at k
    exact k
   ·have h2:j<wd.length:=iC fun z=>h2 (decide_eq_true (by omega))
    have k:Q (match wd[j]? with | none=>.int (-6) | some _=>.hU) H:=k
    rw[aD h2] at k
    exact k
theorem MM {H:Hp}{w:aj}{s:dC}{i j:Nat}{c:bM}(h:lU H w s.words)(e:qu s i j=some c):∃ (qs:List aj) (q:aj) (rs:List aj) (r b:aj),H w=some (.lst (qs.map V.ref))∧qs[i]?=some q∧H q=some (.lst (rs.map V.ref))∧rs[j]?=some r∧H r=some (.tup [iv c.env,.ref b])∧H b=some (.tup (eX c.sounds))∧c∈s.words.flatten:=by
 obtain ⟨qs,ew,pw⟩:=h
 unfold qu at e
 obtain ⟨wd,hw,hc⟩:=ik.mp e
 obtain ⟨q,hq,rs,er,pr⟩:=jF pw hw
 obtain ⟨r,hr,b,e1,e2⟩:=jF pr hc
 exact ⟨qs,q,rs,r,b,ew,hq,er,hr,e1,e2,Po.mpr ⟨wd,aY hw,aY hc⟩⟩
theorem Ka (l:dw)(t:cF)(c:bM):(t.roots l c).length≤c.sounds.length:=by
 unfold cF.roots
 exact aB (c4 _ _) (nE c)
theorem FH:bX ["self","word","place","refused","found"] ["self","word","place"] (bB Hy):=kG
theorem Qt {f f1 f2:aj}{fd j8 mL:bH}(F:jb K "root" "Family.root" Hy f fd)(T:nP K mg C)(TF:qk mg)
  (G1:cP P w K mg base fG 1 f1 j8 ["self","word","place"] (vN C))(m1:yr K C "refused_place" f1)(b1:Binds K j8 ["self","word","place"] [])
  (G2:cP P w K mg base fG 5 f2 mL ["tree","sounds","costs"] (B9 K))(m2:mg "score_and_roots"=some (.ref f2))(k2:aQ K (.ref f2)=true)(b2:Binds K mL ["tree","sounds","costs"] []) :
  cP P w K mg base fG 6 f fd ["self","word","place"] (Me C):=by
 refine F.ok FH (fun vs H Q E h=>?_) (fun gq A outer s H vs Q E hr h=>?_)
 ·obtain ⟨p,O,s,i,j,rfl,_⟩:=h
  rfl
 ·obtain ⟨p,O,st,i,j,rfl,hF,k⟩:=h
  have nY:fS 1 _:=hr.mono (by decide)
  refine ⟨_,aE (cy (i:=3) FH.nd rfl (bp rfl) (ie (pv 0) T.cl m1 G1 nY b1 .nil cU (ah (pv 1) (ah (pv 2) aA))))
   (aE (eG (bU xY (pv 3) nR (cq _)) (aR (bO (cS (ah (pv 3) aA)))) cX)
   (aE (cy (i:=4) FH.nd rfl (bp rfl) (cj G2 hr rfl m2 k2 b2 .nil cU (ah (eY (pv 0) rfl) (ah (cA dR (cA cM (cA cM (eY (pv 0) rfl) (pv 1) (fun _ _=>rfl)) (pv 2) (fun _ _=>rfl)) aZ (fun _ _=>rfl)) (ah (eY (pv 0) rfl) aA)))))
   (aR (bO (d4 jx (cS (ah (cA dR (pv 4) aZ (fun _ _=>rfl)) (ah (bR bG (by rfl) TF.len bj (ah (cA dR (pv 4) aZ (fun _ _=>rfl)) aA)) aA))) (cA dR (pv 4) aZ (fun _ _=>rfl))))))),?_⟩
  obtain ⟨dx,c,wa,tt,hf,ho⟩:=id hF
  have ht:=hf.tree
  refine cQ (aJ rfl (Bl hf.ins jW (aJ rfl (aJ rfl ⟨p,O,st,i,j,rfl,hF,?_⟩))))
  unfold cY at k
  unfold PM
  cases e:st.tree with
  | none =>
   rw[show bz st (.root i j)=(st,fM (-4)) by simp only[bz,e]] at k
   exact aJ rfl ⟨rfl,aJ rfl (PQ (by intro z;cases z) ⟨_,rfl,oj,fun r dU=>finish hF k (aM.new dU) dU aw⟩)⟩
  | some t =>
   rw[e] at ht
   obtain ⟨a,rfl,ea⟩:=ht
   cases ec:qu st i j with
   | none =>
    rw[show bz st (.root i j)=(st,fM (-6)) by simp only[bz,e,ec]] at k
    exact aJ rfl ⟨rfl,aJ rfl (PQ (by intro z;cases z) ⟨_,rfl,oj,fun r dU=>finish hF k (aM.new dU) dU aw⟩)⟩
   | some col =>
    rw[show bz st (.root i j)=(st,⟨(t.score st.costs col:Int),Si35.ints ((t.roots st.costs col).length::t.roots st.costs col)⟩) by simp only[bz,e,ec]] at k
    obtain ⟨qs,q,rs,r,b,ew,hq,er,dU,e1,e2,hm⟩:=MM hf.words ec
    have hl:=hf.ok.col hm
    obtain ⟨t1,t2⟩:=pK (hf.ok.tr t e)
    have l5:=hf.ok.l5
    refine aJ rfl ⟨rfl,aJ rfl (W1 ?_)⟩
    refine aJ rfl (tM hf.ins T.cl T.nr (uJ _ _ _ _ _) (aJ rfl (tM hf.ins T.cl T.nw (g6 _ _ _ _ _) (aJ rfl (iJ wa i _ (cI.of ew) (cp (jY hq)) (aJ rfl (iJ q j _ (cI.of er) (cp (jY dU)) (iJ r 1 _ (fR.of e1) (show Fe [iv col.env,V.ref b] 1=some (.ref b) from rfl) (aJ rfl (tM hf.ins T.cl T.nc (rb _ _ _ _ _) ⟨a,b,c,t,col,st.costs,rfl,cI.of ea,fR.of e2,hf.costs,by omega,by omega,fun x hx=>by rw[hl];exact t1 x hx,fun H1 q2 r2 s1 hr2 e3 e4=>?_⟩))))))))))
    have i1:Fe [iv (t.score st.costs col),V.ref r2] 1=some (.ref r2):=rfl
    refine aJ rfl (iJ q2 0 _ (fR.of e3) rfl (aJ rfl (iJ q2 1 _ (fR.of e3) i1 ⟨r2,aJ rfl ⟨.inl (cI.of e4),Bm,fun r3 hr3=>?_⟩⟩)))
    have s2:=aM.new (o:=.lst [iv (t.score st.costs col),V.int ((eX (t.roots st.costs col)).length:Int)]) hr3
    refine aJ rfl (iJ q2 1 _ (fR.of (s2 _ _ e3)) i1 ⟨r3,r2,_,aJ rfl ⟨rfl,aw,s2 _ _ e4,?_,fun r4 hr4=>?_⟩⟩)
    ·have:=Ka st.costs t col
     rw[ae]
     exact aB (show 2+_≤9 by omega) (by decide)
    ·refine finish hF k (s1.trans (s2.trans (aM.new hr4))) (s1.free (s2.free hr4)) ?_
     rw[aw]
     show some (HO.lst ([iv (t.score st.costs col),V.int ((eX (t.roots st.costs col)).length:Int)]++eX (t.roots st.costs col)))=_
     rw[ae,k5]
     rfl
theorem AD:bX ["self","word","place","refused"] ["self","word","place"] (bB uQ):=kG
theorem GA {f f1 f2:aj}{fd j8 mL:bH}(F:jb K "states" "Family.states" uQ f fd)(T:nP K mg C)
  (G1:cP P w K mg base fG 1 f1 j8 ["self","word","place"] (vN C))(m1:yr K C "refused_place" f1)(b1:Binds K j8 ["self","word","place"] [])
  (G2:cP P w K mg base fG 5 f2 mL ["tree","sounds","costs"] (DG K))(m2:mg "states_on"=some (.ref f2))(k2:aQ K (.ref f2)=true)(b2:Binds K mL ["tree","sounds","costs"] []) :
  cP P w K mg base fG 6 f fd ["self","word","place"] (Ax C):=by
 refine F.ok AD (fun vs H Q E h=>?_) (fun gq A outer s H vs Q E hr h=>?_)
 ·obtain ⟨p,O,s,i,j,rfl,_⟩:=h
  rfl
 ·obtain ⟨p,O,st,i,j,rfl,hF,k⟩:=h
  have nY:fS 1 _:=hr.mono (by decide)
  refine ⟨_,aE (cy (i:=3) AD.nd rfl (bp rfl) (ie (pv 0) T.cl m1 G1 nY b1 .nil cU (ah (pv 1) (ah (pv 2) aA))))
   (aE (eG (bU xY (pv 3) nR (cq _)) (aR (bO (cS (ah (pv 3) aA)))) cX)
   (aR (bO (d4 jx (cS (ah aZ aA)) (cj G2 hr rfl m2 k2 b2 .nil cU (ah (eY (pv 0) rfl) (ah (cA dR (cA cM (cA cM (eY (pv 0) rfl) (pv 1) (fun _ _=>rfl)) (pv 2) (fun _ _=>rfl)) aZ (fun _ _=>rfl)) (ah (eY (pv 0) rfl) aA)))))))),?_⟩
  obtain ⟨dx,c,wa,tt,hf,ho⟩:=id hF
  refine cQ (aJ rfl (Bl hf.ins jW (aJ rfl (aJ rfl ⟨p,O,st,i,j,rfl,hF,?_⟩))))
  unfold cY at k
  unfold PM
  have ht:=hf.tree
  cases e:st.tree with
  | none =>
   rw[show bz st (.states i j)=(st,fM (-4)) by simp only[bz,e]] at k
   exact aJ rfl ⟨rfl,aJ rfl (PQ (by intro z;cases z) ⟨_,rfl,oj,fun r dU=>finish hF k (aM.new dU) dU aw⟩)⟩
  | some t =>
   rw[e] at ht
   obtain ⟨a,rfl,ea⟩:=ht
   cases ec:qu st i j with
   | none =>
    rw[show bz st (.states i j)=(st,fM (-6)) by simp only[bz,e,ec]] at k
    exact aJ rfl ⟨rfl,aJ rfl (PQ (by intro z;cases z) ⟨_,rfl,oj,fun r dU=>finish hF k (aM.new dU) dU aw⟩)⟩
   | some col =>
    rw[show bz st (.states i j)=(st,⟨0,Si35.ints (t.states st.costs col ((t.roots st.costs col).headD 0))⟩) by simp only[bz,e,ec]] at k
    obtain ⟨t1,t2⟩:=pK (hf.ok.tr t e)
    have l5:=hf.ok.l5
    refine aJ rfl ⟨rfl,aJ rfl (W1 ⟨oj,fun r0 qF=>?_⟩)⟩
    have s0:=aM.new (o:=.lst [V.int 0]) qF
    have hf:=hf.same s0
    have ea:=s0 _ _ ea
    obtain ⟨qs,q,rs,r,b,ew,hq,er,dU,e1,e2,hm⟩:=MM hf.words ec
    have hl:=hf.ok.col hm
    refine aJ rfl (tM hf.ins T.cl T.nr (uJ _ _ _ _ _) (aJ rfl (tM hf.ins T.cl T.nw (g6 _ _ _ _ _) (aJ rfl (iJ wa i _ (cI.of ew) (cp (jY hq)) (aJ rfl (iJ q j _ (cI.of er) (cp (jY dU)) (iJ r 1 _ (fR.of e1) (show Fe [iv col.env,V.ref b] 1=some (.ref b) from rfl) (aJ rfl (tM hf.ins T.cl T.nc (rb _ _ _ _ _) ⟨a,b,c,t,col,st.costs,rfl,cI.of ea,fR.of e2,hf.costs,by omega,by omega,fun x hx=>by rw[hl];exact t1 x hx,fun H1 q2 s1 hq2 e3=>?_⟩))))))))))
    have ls:=iA st.costs col t ((t.roots st.costs col).headD 0)
    generalize t.states st.costs col ((t.roots st.costs col).headD 0)=ss at k e3 ls
    refine ⟨r0,q2,_,aJ rfl ⟨rfl,s1 _ _ aw,e3,?_,fun r4 hr4=>?_⟩⟩
    ·rw[ae,ls]
     exact aB (show 1+_≤11 by omega) (by decide)
    ·refine finish hF k ((s0.trans s1).trans (aM.new hr4)) (s0.free (s1.free hr4)) ?_
     rw[aw]
     show some (HO.lst ([V.int 0]++eX ss))=_
     rw[k5]
     rfl
theorem mD:bX ["self","tree","scores","places","place"] ["self","tree"] (bB sx):=kG
theorem ED {f f2:aj}{fd mL:bH}(F:jb K "scores_on" "Family.scores_on" sx f fd)(T:nP K mg C)
  (G2:cP P w K mg base fG 5 f2 mL ["tree","sounds","costs"] (B9 K))(m2:mg "score_and_roots"=some (.ref f2))(k2:aQ K (.ref f2)=true)(b2:Binds K mL ["tree","sounds","costs"] []) :
  cP P w K mg base fG 6 f fd ["self","tree"] (yG C):=by
 refine F.ok mD (fun vs H Q E h=>?_) (fun gq A outer s H vs Q E hr h=>?_)
 ·obtain ⟨p,q,O,s,t,rfl,_⟩:=h
  rfl
 ·obtain ⟨p,q,O,st,t,rfl,hF,hq,hz,hlv,k⟩:=h
  refine ⟨_,aE (cy (i:=2) mD.nd rfl (bp rfl) (cS aA))
   (aE (gz bL rfl (eh (eY (pv 0) rfl)) (cK (i:=3) mD.nd rfl (bp rfl))
    (aR (fT (jU bN fX fW lZ (pv 2) (ah (jm rfl mD.nd (eh (pv 3)) (dX (own:=[("place",4)]) (by rfl)) (fun _ _ _ _ _=>cK (i:=4) mD.nd rfl (bp rfl)) (fun _ _ _ _ _=>gA) (fun _ _ _ _ _=>cA (r:=Dd K) dR (cj G2 hr (by rfl) m2 k2 b2 .nil cU (ah (pv 1) (ah (cA (r:=Dd K) dR (pv 4) aZ (fun _ _=>rfl)) (ah (IG (K:=K) rfl (pv 0) rfl) aA)))) aZ (fun _ _=>rfl))) aA)))))
   (aR (bO (pv 2)))),?_⟩
  obtain ⟨dx,c,wa,tt,hf,ho⟩:=id hF
  obtain ⟨qs,ew,pw⟩:=id hf.words
  have hfl:=hf.ok.flat
  have hl5:=hf.ok.l5
  refine cQ ⟨aS _,fun g hg=>?_⟩
  have s0:aM H (upd H g (.lst [])):=aM.new hg
  refine ⟨_,rfl,p,C,dx,_,_,rfl,s0 _ _ hf.ins,T.cl,T.nw,g6 _ _ _ _ _,wa,rfl,⟨_,cI.of (s0 _ _ ew)⟩,iF (K:=K) (a:=wa) (xs:=qs.map V.ref) (fun i σ H'=>∃ v3 v4:Option V,σ=[some (.ref p),some (.ref q),some (.ref g),v3,v4]∧aM H H'∧H' g=some (.lst (eX ((st.words.take i).flatten.map (t.score st.costs)))))
   ⟨none,none,rfl,s0,aw⟩ (fun i σ H' _ ⟨_,_,_,s1,_⟩=>cI.of (s1 _ _ ew)) ?_ ?_⟩
  ·rintro i y σ H1 hi ⟨v3,v4,rfl,s1,e1⟩
   obtain ⟨x,hx,rfl⟩:=fq hi
   obtain ⟨wd,hw,rs,er,pr⟩:=cZ pw hx
   have hwd:=hf.ok.wd wd (aY hw)
   refine aJ rfl ⟨.inl ⟨rfl,_,cI.of e1⟩,aJ rfl ⟨x,rfl,⟨_,cI.of (s1 _ _ er)⟩,fun D hD=>uH (ys:=eX (wd.map (t.score st.costs))) hD (cI.of (s1 _ _ er)) (by rw[ae,ae];exact aF hwd.2.1 (by decide)) (by rw[ae,ae,ae,bC pr]) (fun x=>rfl) (fun j v y hv hy H2 s2 R hR=>?_) (fun H2 s2 e2=>?_)⟩⟩
   ·obtain ⟨r,dU,rfl⟩:=fq hv
    obtain ⟨col,hc,b,c1,c2⟩:=cZ pr dU
    rw[aO,aO,hc] at hy
    cases aH hy
    have s12:=s1.trans s2
    have hlc:=hwd.2.2 col (aY hc)
    refine aJ rfl (aJ rfl (iJ r 1 _ (fR.of (s12 _ _ c1)) (show Fe [iv col.env,V.ref b] 1=some (.ref b) from rfl) (aJ rfl (tM (s12 _ _ hf.ins) T.cl T.nc (rb _ _ _ _ _) ⟨q,b,c,t,col,st.costs,rfl,cI.of (s12 _ _ hq),fR.of (s12 _ _ c2),hf.costs.same s12,hz,by omega,fun z hz'=>by rw[hlc];exact hlv z hz',fun H3 q2 r2 s3 _ e3 _=>?_⟩))))
    exact iJ q2 0 _ (fR.of e3) rfl (hR H3 s3)
   ·have eg:=s2 _ _ e1
    have l1:(st.words.take i).flatten.length≤36:=aB (ra (O0 i st.words)).length_le hfl
    refine ⟨g,D,_,aJ rfl ⟨rfl,eg,e2,?_,_,aJ rfl ⟨(s1.trans s2).upd hg,?_⟩⟩⟩
    ·have:=hwd.2.1
     simp only[ae]
     exact aB (show _≤42 by omega) (by decide)
    ·rw[aw,take_snoc hw,jt,ba]
     show some (HO.lst (_++_))=some (HO.lst (eD iv _))
     rw[ba]
     congr 3
     simp
  ·rintro σ H1 ⟨v3,v4,rfl,s1,e1⟩
   refine aJ rfl (k H1 g s1 hg ?_)
   rw[ae,bC pw,bI] at e1
   exact e1
theorem DQ:bX ["self","scores"] ["self"] (bB xI):=kG
theorem Ki {f f2:aj}{fd mL:bH}(F:jb K "score" "Family.score" xI f fd)(T:nP K mg C)(TF:qk mg)
  (G2:cP P w K mg base fG 6 f2 mL ["self","tree"] (yG C))(m2:yr K C "scores_on" f2)(b2:Binds K mL ["self","tree"] []) :
  cP P w K mg base fG 7 f fd ["self"] (DH C):=by
 obtain ⟨tm,hno⟩:=T.not
 refine F.ok DQ (fun vs H Q E h=>?_) (fun gq A outer s H vs Q E hr h=>?_)
 ·obtain ⟨p,O,s,rfl,_⟩:=h
  rfl
 ·obtain ⟨p,O,st,rfl,hF,k⟩:=h
  refine ⟨_,aE (eG (bU FW (eY (pv 0) rfl) nR (cq _)) (aR (bO (cS (ah (cg (v:=.int (-4)) (by rfl) hno ⟨_,rfl⟩) aA)))) cX)
   (aE (cy (i:=1) DQ.nd rfl (bp rfl) (ie (pv 0) T.cl m2 G2 hr b2 .nil cU (ah (eY (pv 0) rfl) aA)))
   (aR (bO (d4 jx (cS (ah (bR (yF rfl) (by rfl) TF.sum vZ (ah (pv 1) aA)) aA)) (pv 1))))),?_⟩
  obtain ⟨dx,c,wa,tt,hf,ho⟩:=id hF
  have ht:=hf.tree
  refine aJ rfl (tM hf.ins T.cl T.nr (uJ _ _ _ _ _) ⟨rfl,aJ rfl ?_⟩)
  unfold cY at k
  cases e:st.tree with
  | none =>
   rw[show bz st .score=(st,fM (-4)) by simp only[bz,e]] at k
   rw[e] at ht
   have ht:tt=.hU:=ht
   subst ht
   exact Vf ⟨oj,fun r dU=>finish hF k (aM.new dU) dU aw⟩
  | some t =>
   rw[show bz st .score=(st,⟨(t.all st.costs st.words:Int),Si35.ints (st.words.flatten.map (t.score st.costs))⟩) by simp only[bz,e]] at k
   rw[e] at ht
   obtain ⟨a,rfl,ea⟩:=ht
   refine Sg (by intro z;cases z) ?_
   obtain ⟨t1,t2⟩:=pK (hf.ok.tr t e)
   have l5:=hf.ok.l5
   have hfl:=hf.ok.flat
   refine aJ rfl (Bl hf.ins jW (aJ rfl (tM hf.ins T.cl T.nr (uJ _ _ _ _ _) ⟨p,a,O,st,t,rfl,hF,ea,by omega,t1,fun H1 q s1 hq e1=>?_⟩)))
   have et:t.all st.costs st.words=(st.words.flatten.map (t.score st.costs)).sum:=JW _
   rw[et] at k
   have ll:(st.words.flatten.map (t.score st.costs)).length≤36:=by rw[ae];exact hfl
   generalize st.words.flatten.map (t.score st.costs)=ns at k e1 ll
   have hgi:eX ns=(ns.map fun n=>((n:Nat):Int)).map V.int:=by show eD iv ns=_;rw[bx];rfl
   refine aJ rfl ⟨q,aJ rfl ⟨cI.of (hgi▸e1),oj,fun r3 hr3=>?_⟩⟩
   have s2:=aM.new (o:=.lst [V.int ((ns.map fun n=>((n:Nat):Int)).sum)]) hr3
   refine aJ rfl ⟨r3,q,_,aJ rfl ⟨rfl,aw,s2 _ _ e1,?_,fun r4 hr4=>?_⟩⟩
   ·rw[ae]
    exact aB (show 1+_≤37 by omega) (by decide)
   ·refine finish hF k (s1.trans (s2.trans (aM.new hr4))) (s1.free (s2.free hr4)) ?_
    rw[aw]
    show some (HO.lst ([V.int ((ns.map fun n=>((n:Nat):Int)).sum)]++eX ns))=_
    rw[oB,k5]
    rfl
end
def Va (K:ai):List V→Hp→VK→Prop:=fun xs H Q=>∃ p ys,xs=[.ref p]∧(cI K H p ys∨fR K H p ys)∧Q (.int ys.length) H
theorem II:∀ a b:List Nat,HT.lexLt (Si35.ints b) (Si35.ints a)=false→LC a b=true
 | [],_,_=>by cases ‹List Nat›<;>rfl
 | x::a,[],h=>by
  have h:HT.lexLt [] ((x:Int)::Si35.ints a)=false:=h
  rw[HT.mJ] at h
  cases h
 | x::a,y::b,h=>by
  have h:HT.lexLt ((y:Int)::Si35.ints b) ((x:Int)::Si35.ints a)=false:=h
  rw[HT.hX] at h
  show (decide (x<y)||(x==y&&LC a b))=true
  by_cases e:(y:Int)=(x:Int)
  ·rw[if_pos e] at h
   have e:x=y:=by omega
   rw[II a b h,e]
   simp
  ·rw[if_neg e] at h
   have h:=of_decide_eq_false h
   rw[decide_eq_true (show x<y by omega)]
   rfl
theorem zx {α β:Type}(f:α→List β)(m:Nat)(h:∀ a,(f a).length≤m):∀ l:List α,(l.flatMap f).length≤m*l.length
 | []=>by simp
 | a::l=>by
  have:=zx f m h l
  have:=h a
  rw[bQ,aK,aU,xl]
  omega
theorem A0 (l:List bM)(r:List Nat)(k:Nat):(group l r k).length≤l.length:=by
 unfold group
 rw[ae]
 refine aB (c4 _ _) ?_
 rw[rM]
 omega
theorem zv {l:List bM}{r:List Nat}{n k:Nat}(h:k<n):(groups l r n)[k]?=some (group l r k):=by
 unfold groups
 rw[aO,js h]
 rfl
theorem Om (l:List bM)(r:List Nat)(k:Nat):(oW l r k).length≤l.length:=by
 rw[IV]
 refine aB (vP ((rl _).imp fun h=>bg h) fun x hx=>(pW _ x).mp hx) ?_
 rw[ae]
 exact A0 l r k
def DI (C:aj):Sp:=fun vs H Q _=>∃ (p:aj) (O:aj→Prop) (s:dC) (n:Nat),vs=[.ref p,iv n]∧sP C H p O s∧eU C p O H s (cY s (.reflex n)) Q
def y6 (C:aj):Sp:=fun vs H Q _=>∃ (p q:aj) (O:aj→Prop) (s:dC) (n:Nat) (l:List (Nat×Nat)),vs=[.ref p,iv n,.ref q]∧sP C H p O s∧Jk H q l∧l.length≤12∧eU C p O H s (cY s (.expected n l)) Q
def Mp (C:aj):Sp:=fun vs H Q _=>∃ (p:aj) (O:aj→Prop) (s:dC),vs=[.ref p]∧sP C H p O s∧eU C p O H s (cY s .best) Q
section
variable {P:aV}{w:bK}{K:ai}{mg:bZ→Option ag}{base:bW}{C:aj}
theorem jn:bX ["self","sound","found","groups","around","answer","surroundings","pattern","language"] ["self","sound"] (bB xJ):=kG
theorem Kj {f f1 f2 f3:aj}{fd j8 mL fd3:bH}(F:jb K "reflex" "Family.reflex" xJ f fd)(T:nP K mg C)(TF:qk mg)
  (G1:cP P w K mg base fG 1 f1 j8 ["words"] pA)(m1:mg "count_places"=some (.ref f1))(k1:aQ K (.ref f1)=true)(b1:Binds K j8 ["words"] [])
  (G2:cP P w K mg base fG 13 f2 mL ["patterns"] SR)(m2:mg "by_old_sound"=some (.ref f2))(k2:aQ K (.ref f2)=true)(b2:Binds K mL ["patterns"] [])
  (G3:cP P w K mg base fG 1 f3 fd3 ["patterns","surroundings","language"] L0)(m3:mg "becomes"=some (.ref f3))(k3:aQ K (.ref f3)=true)(b3:Binds K fd3 ["patterns","surroundings","language"] []) :
  cP P w K mg base fG 14 f fd ["self","sound"] (DI C):=by
 obtain ⟨tm,yp⟩:=T.JD
 obtain ⟨tc,qP⟩:=T.HN
 obtain ⟨th,hth⟩:=T.FX
 refine F.ok jn (fun vs H Q E h=>?_) (fun gq A outer s H vs Q E hr h=>?_)
 ·obtain ⟨p,O,s,n,rfl,_⟩:=h
  rfl
 ·obtain ⟨p,O,st,n,rfl,hF,k⟩:=h
  have nY:fS 1 _:=hr.mono (by decide)
  refine ⟨_,aE (cy (i:=2) jn.nd rfl (bp rfl) (kK (pQ rfl) (by rfl) TF.list sT (ah (cj G1 nY (by rfl) m1 k1 b1 .nil cU (ah (eY (pv 0) rfl) aA)) aA)))
   (aE (eG (bU Dk (bR bG (by rfl) TF.len bj (ah (pv 2) aA)) (cg (v:=.int 8) (by rfl) qP ⟨_,rfl⟩) (cq _)) (aR (bO (cS (ah (cg (v:=.int (-5)) (by rfl) yp ⟨_,rfl⟩) aA)))) cX)
   (aE (cy (i:=3) jn.nd rfl (p6 rfl) (cj G2 hr rfl m2 k2 b2 .nil cU (ah (pv 2) aA)))
   (aE (eG (bU Dl (pv 1) (bR bG (by rfl) TF.len bj (ah (pv 3) aA)) (cq _)) (aR (bO (cS (ah (cg (v:=.int (-6)) (by rfl) hth ⟨_,rfl⟩) aA)))) cX)
   (aE (cy (i:=4) jn.nd rfl (bp rfl) (ve rfl (by rfl) TF.sorted (by rfl) TF.set (jm rfl jn.nd (eh (cA cM (pv 3) (pv 1) (fun _ _=>rfl))) (dX (own:=[("pattern",7)]) (by rfl)) (fun _ _ _ _ _=>cK (i:=7) jn.nd rfl (bp rfl)) (fun _ _ _ _ _=>gA) (fun _ _ _ _ _=>cA (r:=Dd K) dR (pv 7) aZ (fun _ _=>rfl)))))
   (aE (cy (i:=5) jn.nd rfl (bp rfl) (cS (ah (bR bG (by rfl) TF.len bj (ah (pv 4) aA)) aA)))
   (aE (gz bL rfl (eh (pv 4)) (cK (i:=6) jn.nd rfl (p6 rfl))
    (aE (fT (jU bN cE cD gG (pv 5) (ah (pv 6) aA)))
    (aR (fT (jU bN fX fW lZ (pv 5) (ah (jm rfl jn.nd (oP rfl TF.range (ah (eY (pv 0) rfl) aA)) (dX (own:=[("language",8)]) (by rfl)) (fun _ _ _ _ _=>cK (i:=8) jn.nd rfl (bp rfl)) (fun _ _ _ _ _=>gA) (fun _ _ _ _ _=>cj G3 nY (by rfl) m3 k3 b3 .nil cU (ah (cA (r:=JG K) cM (pv 3) (pv 1) (fun _ _=>rfl)) (ah (pv 6) (ah (pv 8) aA))))) aA))))))
   (aR (bO (pv 5))))))))),?_⟩
  obtain ⟨dx,c,wa,tt,hf,ho⟩:=id hF
  refine cQ (aJ rfl (tM hf.ins T.cl T.nw (g6 _ _ _ _ _) ⟨wa,st.words,rfl,hf.words,aB hf.ok.flat (by decide),fun H1 t s1 _ e1=>⟨t,_,rfl,e1,fun qs q pq hq=>?_⟩⟩))
  have hw:=sD hq pq
  have s2:=s1.trans (aM.new (o:=.lst (qs.map V.ref)) hq)
  generalize upd H1 q (.lst (qs.map V.ref))=H2 at hw s2
  obtain ⟨rs,e2,p2⟩:=id hw
  have lr:((rs.map V.ref).length:Int)=((az st.words).length:Int):=by rw[ae,bC p2]
  refine aJ rfl ⟨q,aJ rfl ⟨.inl (cI.of e2),_,aJ rfl ⟨rfl,aJ rfl ?_⟩⟩⟩
  rw[lr]
  refine gI (fun h1=>?_) fun h1=>?_
  ·have h1:8<(az st.words).length:=by
    have:=of_decide_eq_true h1
    omega
   have e:bz st (.reflex n)=(st,fM (-5)):=by simp only[bz,pM h1]
   unfold cY at k
   rw[e] at k
   exact ⟨oj,fun r dU=>finish hF k (s2.trans (aM.new dU)) (s2.free dU) aw⟩
  have h1:¬ 8<(az st.words).length:=fun z=>h1 (decide_eq_true (by omega))
  refine aJ rfl ⟨q,az st.words,rfl,hw,by omega,fun H3 g s3 hg=>?_⟩
  obtain ⟨gs,eg,pg⟩:=hg
  have hpt:∀ c∈az st.words,c.sounds.length=st.langs:=fun c hc=>hf.ok.pats hc
  have s23:=s2.trans s3
  have lg:((gs.map V.ref).length:Int)=(bb (bF (az st.words)):Int):=by
   rw[ae,bC pg]
   unfold groups
   rw[ae,c6]
  refine aJ rfl (aJ rfl ⟨g,aJ rfl ⟨.inl (cI.of eg),_,aJ rfl ⟨rfl,aJ rfl ?_⟩⟩⟩)
  rw[lg]
  refine gI (fun h2=>?_) fun h2=>?_
  ·have h2:bb (bF (az st.words))≤n:=by
    have:=of_decide_eq_true h2
    omega
   have e:bz st (.reflex n)=(st,fM (-6)):=by simp only[bz,kN h1,if_pos h2]
   unfold cY at k
   rw[e] at k
   exact ⟨oj,fun r dU=>finish hF k (s23.trans (aM.new dU)) (s23.free dU) aw⟩
  have h2:¬ bb (bF (az st.words))≤n:=fun z=>h2 (decide_eq_true (by omega))
  have e:bz st (.reflex n)=(st,⟨((oW (az st.words) (bF (az st.words)) n).length:Int),(oW (az st.words) (bF (az st.words)) n).flatMap fun v=>Si35.ints (v::j4 (az st.words) (bF (az st.words)) st.langs n v)⟩):=by simp only[bz,kN h1,if_neg h2]
  unfold cY at k
  rw[e] at k
  have k:eU C p O H st (((oW (az st.words) (bF (az st.words)) n).length:Int)::(oW (az st.words) (bF (az st.words)) n).flatMap fun v=>Si35.ints (v::j4 (az st.words) (bF (az st.words)) st.langs n v)) Q:=k
  have hfew:=Om (az st.words) (bF (az st.words)) n
  have hel:=IV (az st.words) (bF (az st.words)) n
  have hrx:∀ v,j4 (az st.words) (bF (az st.words)) st.langs n v=(br st.langs).map fun i=>j3 (group (az st.words) (bF (az st.words)) n) v i:=fun v=>AI _ _ _ _ _
  obtain ⟨x,hx,hxw⟩:=jF pg (zv (l:=az st.words) (r:=bF (az st.words)) (iC h2))
  have hgm:∀ c∈group (az st.words) (bF (az st.words)) n,c.sounds.length=st.langs:=fun c hc=>hpt c (AZ hc)
  have hgl:=A0 (az st.words) (bF (az st.words)) n
  generalize oW (az st.words) (bF (az st.words)) n=es at k hfew hel
  generalize hrf:j4 (az st.words) (bF (az st.words)) st.langs n=rf at k hrx
  generalize group (az st.words) (bF (az st.words)) n=gr at hel hrx hxw hgm hgl
  obtain ⟨rs',er,pr⟩:=id hxw
  have l5:=hf.ok.l5
  refine aJ rfl (aJ rfl (iJ g n _ (cI.of eg) (cp (jY hx)) ⟨x,rfl,⟨_,cI.of er⟩,fun D hD=>uH (ys:=eX (gr.map (·.env))) hD (cI.of er) (by rw[ae,ae];exact aF (show gr.length≤8 by omega) (by decide)) (by rw[ae,ae,ae,bC pr]) (fun x=>rfl) (fun j v y hv hy H4 s4 R hR=>?_) (fun H4 s4 e4=>?_)⟩))
  ·obtain ⟨r,dU,rfl⟩:=fq hv
   obtain ⟨col,hc,b,c1,c2⟩:=cZ pr dU
   rw[aO,aO,hc] at hy
   cases aH hy
   exact aJ rfl (iJ r 0 _ (fR.of (s4 _ _ c1)) rfl (hR H4 (aM.refl _)))
  have hgi:eX (gr.map (·.env))=((gr.map (·.env)).map fun (n:Nat)=>(n:Int)).map V.int:=by show eD iv _=_;rw[bx (g:=V.int)];rfl
  refine ⟨D,aJ rfl ⟨cI.of (hgi▸e4),?_,fun ms a j7 hm ha=>?_⟩⟩
  ·rw[ae,ae]
   exact aB (show gr.length≤8 by omega) (by decide)
  obtain ⟨l,el⟩:=uW ms fun x hx=>by
   obtain ⟨m,_,e⟩:=aX.mp ((hm x).mp hx)
   omega
  subst el
  have hl:l=es:=by
   rw[hel]
   refine nU ?_ (rl _) fun x=>?_
   ·rw[gm] at j7
    exact j7.imp fun q=>by omega
   ·rw[pW]
    have:=hm (x:Int)
    rw[x3,x3] at this
    exact this
  subst hl
  have hli:(l.map fun (n:Nat)=>(n:Int)).map V.int=eX l:=by rw[bx];rfl
  have s5:=aM.new (o:=.lst ((l.map fun (n:Nat)=>(n:Int)).map V.int)) ha
  have ea:upd H4 a (.lst ((l.map fun (n:Nat)=>(n:Int)).map V.int)) a=some (.lst (eX l)):=by rw[aw,hli]
  generalize upd H4 a (.lst ((l.map fun (n:Nat)=>(n:Int)).map V.int))=H5 at s5 ea
  have s35:=s4.trans s5
  have s05:=s23.trans s35
  refine aJ rfl ⟨a,aJ rfl ⟨.inl (cI.of ea),oj,fun r0 qF=>?_⟩⟩
  have s6:=aM.new (o:=.lst [V.int ((eX l).length:Int)]) qF
  refine ⟨_,rfl,a,rfl,⟨_,cI.of (s6 _ _ ea)⟩,iF (K:=K) (a:=a) (xs:=eX l) (fun i σ H'=>∃ v6 v7 v8:Option V,σ=[some (.ref p),some (iv n),some (.ref q),some (.ref g),some (.ref a),some (.ref r0),v6,v7,v8]∧aM H5 H'∧H' r0=some (.lst (vI ((l.length:Int)::(l.take i).flatMap fun v=>Si35.ints (v::rf v)))))
   ⟨_,_,_,rfl,s6,?_⟩ (fun i σ H' _ ⟨_,_,_,_,s7,_⟩=>cI.of (s7 _ _ ea)) ?_ ?_⟩
  ·rw[aw]
   show some (HO.lst [V.int ((eX l).length:Int)])=_
   rw[ae]
   rfl
  ·rintro i y σ H6 hi ⟨v6,v7,v8,rfl,s7,e7⟩
   obtain ⟨v,hv,rfl⟩:=qV hi
   have hll:((l.take i).flatMap fun v=>Si35.ints (v::rf v)).length≤48:=by
    refine aB (zx _ 6 (fun a=>?_) _) ?_
    ·unfold Si35.ints
     rw[ae,aU,hrx,ae,c6]
     omega
    ·rw[bP]
     omega
   refine aJ rfl ⟨.inl ⟨rfl,_,cI.of e7⟩,aJ rfl ⟨r0,_,aJ rfl ⟨rfl,e7,?_,?_⟩⟩⟩
   ·rw[ae,aU]
    exact aF (show _≤49 by omega) (by decide)
   have s8:aM H5 (upd H6 r0 (.lst (vI ((l.length:Int)::(l.take i).flatMap fun v=>Si35.ints (v::rf v))++[iv v]))):=s7.upd qF
   have e8:upd H6 r0 (.lst (vI ((l.length:Int)::(l.take i).flatMap fun v=>Si35.ints (v::rf v))++[iv v])) r0=some (.lst (vI ((l.length:Int)::(l.take i).flatMap fun v=>Si35.ints (v::rf v))++[iv v])):=aw
   generalize upd H6 r0 (.lst (vI ((l.length:Int)::(l.take i).flatMap fun v=>Si35.ints (v::rf v))++[iv v]))=H7 at s8 e8
   have s38:=s35.trans s8
   refine aJ rfl ⟨.inl ⟨rfl,_,cI.of e8⟩,aJ rfl (tM ((s05.trans s8) _ _ hf.ins) T.cl T.nl (uK _ _ _ _ _) ⟨(st.langs:Int),rfl,by omega,by omega,fun D2 hD2=>?_⟩)⟩
   rw[bT]
   refine QS (ys:=eX (rf v)) hD2 (by rw[ae,hrx,ae,c6];exact aF l5 (by decide)) (by rw[ae,hrx,ae,c6]) (fun x=>rfl) (fun j y hy H8 s9 R hR=>?_) (fun H8 s9 e9=>?_)
   ·rw[aO,hrx,aO] at hy
    have hj:j<st.langs:=by
     refine iC fun z=>?_
     rw[bJ (by rw[c6];exact z)] at hy
     cases hy
    rw[js hj] at hy
    cases aH hy
    exact aJ rfl (aJ rfl (iJ g n _ (cI.of ((s38.trans s9) _ _ eg)) (cp (jY hx)) (aJ rfl (aJ rfl ⟨x,gr,v,j,rfl,hxw.same (s38.trans s9),fun c hc=>by rw[hgm c hc];exact hj,fun H9 s10=>hR H9 s10⟩))))
   ·refine ⟨r0,D2,_,aJ rfl ⟨rfl,s9 _ _ e8,e9,?_,_,_,aJ rfl ⟨(s8.trans s9).upd qF,?_⟩⟩⟩
    ·rw[aK,ae,aU,ae,hrx,ae,c6]
     exact aB (show _≤60 by rw[gU];omega) (by decide)
    ·rw[aw,take_snoc hv,gF,bQ,lB,bY,k5]
     simp[Si35.ints,vI]
  ·rintro σ H6 ⟨v6,v7,v8,rfl,s7,e7⟩
   rw[ae,bI] at e7
   exact aJ rfl (finish hF k (s05.trans s7) (s05.free qF) e7)
end
theorem Gx (l:List bM)(r:List Nat){n k e i:Nat}(h:i<n):(j4 l r n k e).getD i 0=j3 (group l r k) e i:=by
 rw[AI,gS,aO,js h]
 rfl
section
variable {P:aV}{w:bK}{K:ai}{mg:bZ→Option ag}{base:bW}{C:aj}
theorem jB:bX ["self","language","asked","found","groups","sound","surroundings"] ["self","language","asked"] (bB sA):=kG
theorem EF {f f1 f2 f3:aj}{fd j8 mL fd3:bH}(F:jb K "expected" "Family.expected" sA f fd)(T:nP K mg C)(TF:qk mg)
  (G1:cP P w K mg base fG 1 f1 j8 ["words"] pA)(m1:mg "count_places"=some (.ref f1))(k1:aQ K (.ref f1)=true)(b1:Binds K j8 ["words"] [])
  (G2:cP P w K mg base fG 13 f2 mL ["patterns"] SR)(m2:mg "by_old_sound"=some (.ref f2))(k2:aQ K (.ref f2)=true)(b2:Binds K mL ["patterns"] [])
  (G3:cP P w K mg base fG 1 f3 fd3 ["patterns","surroundings","language"] L0)(m3:mg "becomes"=some (.ref f3))(k3:aQ K (.ref f3)=true)(b3:Binds K fd3 ["patterns","surroundings","language"] []) :
  cP P w K mg base fG 14 f fd ["self","language","asked"] (y6 C):=by
 obtain ⟨tm,yp⟩:=T.JD
 obtain ⟨tc,qP⟩:=T.HN
 obtain ⟨th,hth⟩:=T.FX
 refine F.ok jB (fun vs H Q E h=>?_) (fun gq A outer s H vs Q E hr h=>?_)
 ·obtain ⟨p,q,O,s,n,l,rfl,_⟩:=h
  rfl
 ·obtain ⟨p,aq,O,st,n,l,rfl,hF,haq,hl12,k⟩:=h
  have nY:fS 1 _:=hr.mono (by decide)
  refine ⟨_,aE (cy (i:=3) jB.nd rfl (bp rfl) (kK (pQ rfl) (by rfl) TF.list sT (ah (cj G1 nY (by rfl) m1 k1 b1 .nil cU (ah (eY (pv 0) rfl) aA)) aA)))
   (aE (eG (bU Dk (bR bG (by rfl) TF.len bj (ah (pv 3) aA)) (cg (v:=.int 8) (by rfl) qP ⟨_,rfl⟩) (cq _)) (aR (bO (cS (ah (cg (v:=.int (-5)) (by rfl) yp ⟨_,rfl⟩) aA)))) cX)
   (aE (cy (i:=4) jB.nd rfl (p6 rfl) (cj G2 hr rfl m2 k2 b2 .nil cU (ah (pv 3) aA)))
   (aE (eG (HL (bU Dl (pv 1) (eY (pv 0) rfl) (cq _)) (BN (pk (bR (Ui rfl) (by rfl) TF.any K6 (ah (jm rfl jB.nd (eh (pv 2)) (dX (own:=[("sound",5),("surroundings",6)]) (by rfl)) (fun _ _ _ _ _=>vB (K:=K) (i:=5) (j:=6) rfl rfl jB.nd rfl (bp rfl) rfl (bp rfl)) (fun _ _ _ _ _=>gA) (fun _ _ _ _ _=>pF Dl (pv 5) (bR (r:=Va K) bG (by rfl) TF.len bj (ah (pv 4) aA)) (cq _))) aA))))).pt (aR (bO (cS (ah (cg (v:=.int (-6)) (by rfl) hth ⟨_,rfl⟩) aA)))) cX)
   (aR (bO (d4 jx (cS (ah aZ aA)) (jm rfl jB.nd (eh (pv 2)) (dX (own:=[("sound",5),("surroundings",6)]) (by rfl)) (fun _ _ _ _ _=>vB (K:=K) (i:=5) (j:=6) rfl rfl jB.nd rfl (bp rfl) rfl (bp rfl)) (fun _ _ _ _ _=>gA) (fun _ _ _ _ _=>cj G3 nY (by rfl) m3 k3 b3 .nil cU (ah (cA (r:=JG K) cM (pv 4) (pv 5) (fun _ _=>rfl)) (ah (pv 6) (ah (pv 1) aA)))))))))))
   ,?_⟩
  obtain ⟨dx,c,wa,tt,hf,ho⟩:=id hF
  refine cQ (aJ rfl (tM hf.ins T.cl T.nw (g6 _ _ _ _ _) ⟨wa,st.words,rfl,hf.words,aB hf.ok.flat (by decide),fun H1 t s1 _ e1=>⟨t,_,rfl,e1,fun qs q pq hq=>?_⟩⟩))
  have hw:=sD hq pq
  have s2:=s1.trans (aM.new (o:=.lst (qs.map V.ref)) hq)
  generalize upd H1 q (.lst (qs.map V.ref))=H2 at hw s2
  obtain ⟨rs,e2,p2⟩:=id hw
  have lr:((rs.map V.ref).length:Int)=((az st.words).length:Int):=by rw[ae,bC p2]
  refine aJ rfl ⟨q,aJ rfl ⟨.inl (cI.of e2),_,aJ rfl ⟨rfl,aJ rfl ?_⟩⟩⟩
  rw[lr]
  refine gI (fun h1=>?_) fun h1=>?_
  ·have h1:8<(az st.words).length:=by
    have:=of_decide_eq_true h1
    omega
   have e:bz st (.expected n l)=(st,fM (-5)):=by simp only[bz,pM h1]
   unfold cY at k
   rw[e] at k
   exact ⟨oj,fun r dU=>finish hF k (s2.trans (aM.new dU)) (s2.free dU) aw⟩
  have h1:¬ 8<(az st.words).length:=fun z=>h1 (decide_eq_true (by omega))
  refine aJ rfl ⟨q,az st.words,rfl,hw,by omega,fun H3 g s3 hg=>?_⟩
  obtain ⟨gs,eg,pg⟩:=hg
  have hpt:∀ c∈az st.words,c.sounds.length=st.langs:=fun c hc=>hf.ok.pats hc
  have s23:=s2.trans s3
  have lg:((gs.map V.ref).length:Int)=(bb (bF (az st.words)):Int):=by
   rw[ae,bC pg]
   unfold groups
   rw[ae,c6]
  obtain ⟨as,eas,pas⟩:=haq
  have bad:(st.langs≤n∨(l.any fun q=>decide (bb (bF (az st.words))≤q.1))=true)→∀ H',aM H H'→∀ r,H' r=none→Q (.ref r) (upd H' r (.lst [V.int (-6)])):=fun z H' s' r dU=>by
   have e:bz st (.expected n l)=(st,fM (-6)):=by simp only[bz,kN h1,if_pos z]
   unfold cY at k
   rw[e] at k
   exact finish hF k (s'.trans (aM.new dU)) (s'.free dU) aw
  refine aJ rfl (aJ rfl (tM (s23 _ _ hf.ins) T.cl T.nl (uK _ _ _ _ _) ⟨_,aJ rfl ⟨rfl,aJ rfl ?_⟩⟩))
  refine gI (fun h2=>?_) fun h2=>?_
  ·have h2:st.langs≤n:=by
    have:=of_decide_eq_true h2
    omega
   exact pd ⟨oj,fun r dU=>bad (.inl h2) H3 s23 r dU⟩
  have h2:¬ st.langs≤n:=fun z=>h2 (decide_eq_true (by omega))
  have ea3:=s23 _ _ eas
  refine aJ rfl ⟨aq,rfl,⟨_,cI.of ea3⟩,fun D hD=>Cn (ys:=(l.map fun q=>decide (bb (bF (az st.words))≤q.1)).map V.bl) hD (cI.of ea3) (by rw[ae,ae];exact aF hl12 (by decide)) (by rw[ae,ae,ae,bC pas]) (fun j v y hv hy H4 s4 R hR=>?_) (fun H4 s4 e4=>?_)⟩
  ·obtain ⟨r,dU,rfl⟩:=fq hv
   obtain ⟨⟨a,b⟩,hc,c1⟩:=cZ pas dU
   rw[aO,aO,hc] at hy
   cases aH hy
   refine ⟨r,aJ rfl ⟨fR.of ((s23.trans s4) _ _ c1),rfl,_,aJ rfl ⟨_,aJ rfl ⟨rfl,rfl,aJ rfl (aJ rfl ⟨g,aJ rfl ⟨.inl (cI.of (s4 _ _ eg)),_,aJ rfl ⟨rfl,?_⟩⟩⟩)⟩⟩⟩⟩
   have q:=hR H4 (aM.refl _)
   rw[lg]
   show R (V.bl (decide ((bb (bF (az st.words)):Int)≤(a:Int)))) H4
   rw[show decide ((bb (bF (az st.words)):Int)≤(a:Int))=decide (bb (bF (az st.words))≤a) from decide_eq_decide.mpr (by omega)]
   exact q
  refine ⟨D,aJ rfl ⟨cI.of e4,aJ rfl ?_⟩⟩
  rw[Ux]
  have s24:=s23.trans s4
  refine gI (fun h3=>?_) fun h3=>?_
  ·exact ⟨oj,fun r dU=>bad (.inr h3) H4 s24 r dU⟩
  have e:bz st (.expected n l)=(st,⟨0,Si35.ints (l.map fun q=>(j4 (az st.words) (bF (az st.words)) st.langs q.1 q.2).getD n 0)⟩):=by simp only[bz,kN h1,if_neg (show ¬ (st.langs≤n∨(l.any fun q=>decide (bb (bF (az st.words))≤q.1))=true) from fun z=>z.elim h2 h3)]
  unfold cY at k
  rw[e] at k
  have hin:∀ q∈l,q.1<bb (bF (az st.words)):=fun q hq=>iC fun z=>h3 (qe.mpr ⟨q,hq,decide_eq_true z⟩)
  refine ⟨oj,fun r0 qF=>?_⟩
  have s5:=aM.new (o:=.lst [V.int 0]) qF
  have e0:upd H4 r0 (.lst [V.int 0]) r0=some (.lst [V.int 0]):=aw
  generalize upd H4 r0 (.lst [V.int 0])=H5 at s5 e0
  have s25:=s24.trans s5
  have s35:=s4.trans s5
  refine aJ rfl ⟨aq,rfl,⟨_,cI.of (s25 _ _ eas)⟩,fun D2 hD2=>Cn (ys:=eX (l.map fun q=>(j4 (az st.words) (bF (az st.words)) st.langs q.1 q.2).getD n 0)) hD2 (cI.of (s25 _ _ eas)) (by rw[ae,ae];exact aF hl12 (by decide)) (by rw[ae,ae,ae,bC pas]) (fun j v y hv hy H6 s6 R hR=>?_) (fun H6 s6 e6=>?_)⟩
  ·obtain ⟨r,dU,rfl⟩:=fq hv
   obtain ⟨⟨a,b⟩,hc,c1⟩:=cZ pas dU
   rw[aO,aO,hc] at hy
   cases aH hy
   obtain ⟨x,hx,hxw⟩:=jF pg (zv (l:=az st.words) (r:=bF (az st.words)) (hin _ (aY hc)))
   refine ⟨r,aJ rfl ⟨fR.of ((s25.trans s6) _ _ c1),rfl,_,aJ rfl ⟨_,aJ rfl ⟨rfl,rfl,aJ rfl (aJ rfl (iJ g a _ (cI.of ((s35.trans s6) _ _ eg)) (cp (jY hx)) (aJ rfl (aJ rfl ⟨x,_,b,n,rfl,hxw.same (s35.trans s6),fun c hc=>by rw[hpt c (AZ hc)];exact iC h2,fun H7 s7=>?_⟩))))⟩⟩⟩⟩
   have q:R (iv ((j4 (az st.words) (bF (az st.words)) st.langs a b).getD n 0)) H7:=hR H7 s7
   rw[Gx _ _ (iC h2)] at q
   exact q
  ·refine ⟨r0,D2,_,aJ rfl ⟨rfl,s6 _ _ e0,e6,?_,fun r dU=>?_⟩⟩
   ·rw[ae,ae]
    exact aB (show 1+_≤13 by omega) (by decide)
   ·refine finish hF k ((s25.trans s6).trans (aM.new dU)) ((s25.trans s6).free dU) ?_
    rw[aw,k5]
    rfl
theorem B7 (l:List Nat):(Si35.ints l).map j9=l:=by
 unfold Si35.ints
 rw[bx]
 exact (dt fun x _=>bT x).trans (qv l)
theorem Ci:∀ t:cF,t.out.length≤2*size t
 | .leaf _=>aL _
 | .node a b=>by
  have:=Ci a
  have:=Ci b
  show (1::(a.out++b.out)).length≤2*(1+(size a+size b))
  rw[aU,aK]
  omega
theorem nQ:bX ["self","trees","totals","least","written","answer","row","tree","total"] ["self"] (bB HJ):=kG
theorem QE {f f1 f2 f3:aj}{fd j8 mL fd3:bH}(F:jb K "best" "Family.best" HJ f fd)(T:nP K mg C)(TF:qk mg)
  (G1:cP P w K mg base fG 3 f1 j8 ["languages"] Mq)(m1:mg "all_trees"=some (.ref f1))(k1:aQ K (.ref f1)=true)(b1:Binds K j8 ["languages"] [])
  (G2:cP P w K mg base fG 6 f2 mL ["self","tree"] (yG C))(m2:yr K C "scores_on" f2)(b2:Binds K mL ["self","tree"] [])
  (G3:cP P w K mg base fG 1 f3 fd3 ["tree"] (Ib K))(m3:mg "write_tree"=some (.ref f3))(k3:aQ K (.ref f3)=true)(b3:Binds K fd3 ["tree"] []) :
  cP P w K mg base fG 7 f fd ["self"] (Mp C):=by
 refine F.ok nQ (fun vs H Q E h=>?_) (fun gq A outer s H vs Q E hr h=>?_)
 ·obtain ⟨p,O,s,rfl,_⟩:=h
  rfl
 ·obtain ⟨p,O,st,rfl,hF,k⟩:=h
  have nY:fS 1 _:=hr.mono (by decide)
  have hr3:fS 3 _:=hr.mono (by decide)
  refine ⟨_,aE (cy (i:=1) nQ.nd rfl (bp rfl) (cj G1 hr3 rfl m1 k1 b1 .nil cU (ah (eY (pv 0) rfl) aA)))
   (aE (qZ (i:=2) rfl nQ.nd rfl rfl (uB rfl rfl rfl rfl) (eh (pv 1)) (dX (own:=[("tree",7)]) (by rfl)) (fun _ _ _ _ _=>cK (i:=7) nQ.nd rfl (bp rfl)) (fun _ _ _ _ _=>gA) (fun _ _ _ _ _=>bR (r:=U9 K) (yF rfl) (by rfl) TF.sum vZ (ah (ie (pv 0) T.cl m2 G2 hr b2 .nil cU (ah (pv 7) aA)) aA)))
   (aE (cy (i:=3) nQ.nd rfl (p6 rfl) (bR (ML rfl) (by rfl) TF.min Fv (ah (pv 2) aA)))
   (aE (cy (i:=4) nQ.nd rfl (bp rfl) (bR (GU (wB hr)) (by rfl) TF.sorted PZ (ah (jm rfl nQ.nd (FT rfl TF.zip (ah (pv 1) (ah (pv 2) aA))) (dX (own:=[("tree",7),("total",8)]) (by rfl)) (fun _ _ _ _ _=>vB (K:=K) (i:=7) (j:=8) rfl rfl nQ.nd rfl (bp rfl) rfl (bp rfl)) (fun _ _ _ _ _=>pD (bU gC (pv 8) (pv 3) (cq _))) (fun _ _ _ _ _=>cj G3 nY (by rfl) m3 k3 b3 .nil cU (ah (pv 7) aA))) aA)))
   (aE (cy (i:=5) nQ.nd rfl (bp rfl) (cS (ah (pv 3) (ah (bR bG (by rfl) TF.len bj (ah (pv 4) aA)) aA))))
   (aE (gz bL rfl (eh (pv 4)) (cK (i:=6) nQ.nd rfl (bp rfl))
    (aR (fT (jU bN fX fW lZ (pv 5) (ah (pv 6) aA)))))
   (aR (bO (pv 5)))))))),?_⟩
  obtain ⟨dx,c,wa,tt,hf,ho⟩:=id hF
  have l2:=hf.ok.l2
  have l5:=hf.ok.l5
  refine cQ (aJ rfl (tM hf.ins T.cl T.nl (uK _ _ _ _ _) ⟨st.langs,rfl,by omega,l5,fun H1 tr s1 htr=>?_⟩))
  obtain ⟨ts,et,pt⟩:=htr
  obtain ⟨n',hn'⟩:∃ n',st.langs=n'+1:=⟨st.langs - 1,by omega⟩
  have hsz:∀ t∈eQ st.langs,size t≤9:=fun t ht=>by
   rw[hn'] at ht
   rw[pJ n' t ht]
   omega
  have hlv:∀ t∈eQ st.langs,∀ x∈t.leaves,x<st.langs:=fun t ht x hx=>by
   rw[hn'] at ht ⊢
   exact DE n' t ht x hx
  have hfew:=As st.langs l5
  have hne:eQ st.langs≠[]:=by
   rw[hn']
   exact DD n'
  have lts:=bC pt
  refine cQ (aJ rfl ⟨tr,rfl,⟨_,cI.of et⟩,fun D hD=>uH (ys:=eX ((eQ st.langs).map fun t=>t.all st.costs st.words)) hD (cI.of et) (by rw[ae,ae];exact aF hfew (by decide)) (by rw[ae,ae,ae,lts]) (fun x=>rfl) (fun i v y hv hy H2 s2 R hR=>?_) (fun H2 s2 e2=>?_)⟩)
  ·obtain ⟨x,hx,rfl⟩:=fq hv
   obtain ⟨t,ht,hxt⟩:=cZ pt hx
   rw[aO,aO,ht] at hy
   cases aH hy
   have mt:=aY ht
   have s12:=s1.trans s2
   refine aJ rfl (Bl (s12 _ _ hf.ins) jW (aJ rfl ⟨p,x,O,st,t,rfl,hF.same s12,s2 _ _ hxt,aB (hsz t mt) (by decide),hlv t mt,fun H3 r s3 _ e3=>?_⟩))
   have hgi:eX (st.words.flatten.map (t.score st.costs))=((st.words.flatten.map (t.score st.costs)).map fun n=>((n:Nat):Int)).map V.int:=by show eD iv _=_;rw[bx (g:=V.int)];rfl
   refine ⟨r,aJ rfl ⟨cI.of (hgi▸e3),?_⟩⟩
   rw[oB]
   exact hR H3 s3
  have s12:=s1.trans s2
  have hgi:eX ((eQ st.langs).map fun t=>t.all st.costs st.words)=(((eQ st.langs).map fun t=>t.all st.costs st.words).map fun n=>((n:Nat):Int)).map V.int:=by show eD iv _=_;rw[bx (g:=V.int)];rfl
  refine cQ (aJ rfl ⟨D,aJ rfl ⟨cI.of (hgi▸e2),?_,fun m0 h1 h2=>?_⟩⟩)
  ·rw[ae,ae]
   exact Lu.mpr hne
  obtain ⟨m,hm1,rfl⟩:=aX.mp h1
  have hm2:∀ t∈eQ st.langs,m≤t.all st.costs st.words:=fun t ht=>by
   have:=h2 ((t.all st.costs st.words:Nat):Int) (aX.mpr ⟨_,aX.mpr ⟨t,ht,rfl⟩,rfl⟩)
   omega
  have hb1:=GY st.costs st.langs st.words hm1 hm2
  let fil:List cF→List (List Int):=fun l=>(l.filter fun t=>decide (t.all st.costs st.words=m)).map fun t=>Si35.ints t.out
  refine cQ (aJ rfl (aJ rfl ⟨tr,D,_,aJ rfl ⟨cI.of (s2 _ _ et),cI.of e2,fun D2 hD2=>T3 (K:=K) (a:=tr) (b:=D) (xs:=ts.map V.ref) (ys:=eX ((eQ st.langs).map fun t=>t.all st.costs st.words)) (fun i H'=>aM H2 H'∧∃ rs:List aj,H' D2=some (.lst (rs.map V.ref))∧Paired (fun r row=>r≠D2∧H' r=some (.lst (vI row))) rs (fil ((eQ st.langs).take i))) ⟨aM.new hD2,[],aw,.nil⟩ (fun i H' h=>⟨cI.of (h.1 _ _ (s2 _ _ et)),cI.of (h.1 _ _ e2)⟩) ?_ ?_⟩⟩))
  ·rintro i x y H3 T1 hx hy ⟨s3,rs,er,pr⟩ hT
   obtain ⟨a,ha,rfl⟩:=fq hx
   obtain ⟨t,ht,hat⟩:=cZ pt ha
   rw[aO,aO,ht] at hy
   cases aH hy
   have mt:=aY ht
   have s4:=aM.new (o:=.tup [V.ref a,iv (t.all st.costs st.words)]) hT
   have s34:=s3.trans s4
   refine ⟨T1,aJ rfl ⟨fR.of aw,rfl,_,aJ rfl ⟨_,aJ rfl ⟨rfl,rfl,aJ rfl (aJ rfl ⟨rfl,aJ rfl ?_⟩)⟩⟩⟩⟩
   have ed:decide (iv (t.all st.costs st.words)=V.int (m:Int))=decide (t.all st.costs st.words=m):=VL
   rw[ed]
   have efil:fil ((eQ st.langs).take (i+1))=fil ((eQ st.langs).take i)++(if decide (t.all st.costs st.words=m)=true then [Si35.ints t.out] else []):=by
    show eD _ (oX _ _)=_
    rw[fZ _ ht,ba]
    by_cases z:t.all st.costs st.words=m
    ·rw[if_pos (decide_eq_true z),if_pos (decide_eq_true z)]
     rfl
    ·rw[if_neg (fun q=>z (of_decide_eq_true q)),if_neg (fun q=>z (of_decide_eq_true q))]
     rfl
   refine gI (fun h3=>?_) fun h3=>?_
   ·refine aJ rfl ⟨a,t,rfl,cI.of (s34 _ _ (s2 _ _ hat)),aB (hsz t mt) (by decide),fun H4 r s5 dU e5=>?_⟩
    have nr:r≠D2:=fun z=>by rw[z,s4 _ _ er] at dU;cases dU
    refine ⟨_,s5 _ _ (s4 _ _ er),?_,((s34.trans s5)).upd hD2,rs++[r],by rw[aw,ba];rfl,?_⟩
    ·rw[ae,bC pr,ae]
     exact aF (aB (gY _ _ _) hfew) (by decide)
    ·rw[efil,if_pos h3]
     refine gD (fun r' row h=>⟨h.1,by rw[aW h.1];exact s5 _ _ (s4 _ _ h.2)⟩) ⟨nr,by rw[aW nr,e5,k5]⟩ pr
   ·refine ⟨s34,rs,s4 _ _ er,?_⟩
    rw[efil,if_neg h3,bY]
    exact d9 (fun r' row h=>⟨h.1,s4 _ _ h.2⟩) pr
  ·rintro H3 ⟨s3,rs,er,pr⟩
   have lmin:min (ts.map V.ref).length (eX ((eQ st.langs).map fun t=>t.all st.costs st.words)).length=(eQ st.langs).length:=by
    rw[ae,ae,ae,lts]
    exact Nat.min_self _
   rw[lmin,bI] at pr
   refine ⟨D2,rs,aJ rfl ⟨cI.of er,d9 (fun _ _ h=>h.2) pr,fun qs out a hperm hpair hsort ha=>?_⟩⟩
   have hmem:∀ x∈out,∃ t∈eQ st.langs,x=Si35.ints t.out:=fun x hx=>by
    obtain ⟨t,ht,e⟩:=aX.mp (hperm.mem_iff.mp hx)
    exact ⟨t,(fL.mp ht).1,e.symm⟩
   let rowsN:List (List Nat):=out.map fun x=>x.map j9
   have eout:out=rowsN.map Si35.ints:=by
    show out=(out.map fun x=>x.map j9).map Si35.ints
    rw[bx]
    conv=>lhs;rw[← qv out]
    refine dt fun x hx=>?_
    obtain ⟨t,_,e⟩:=hmem x hx
    show x=Si35.ints (x.map j9)
    rw[e,B7]
   have hp2:rowsN.Perm ((((eQ st.langs).filter fun t=>decide (t.all st.costs st.words=(tV st.costs st.langs st.words).1)).map mU)):=by
    rw[hb1]
    have:=hperm.map fun x=>x.map j9
    rw[bx] at this
    have e:((fun x:List Int=>x.map j9)∘fun t:cF=>Si35.ints t.out)=mU:=funext fun t=>B7 t.out
    rw[e] at this
    exact this
   have hs2:rowsN.Pairwise fun a b=>LC a b=true:=by
    rw[eout,gm] at hsort
    exact hsort.imp fun h=>II _ _ h
   have hbr:=K7 st.costs st.langs st.words hp2 hs2
   have lrow:∀ r∈rowsN,r.length≤18:=fun r dU=>by
    obtain ⟨x,hx,rfl⟩:=aX.mp dU
    obtain ⟨t,ht,e⟩:=hmem x hx
    rw[e,B7]
    have:=Ci t
    have:=hsz t ht
    omega
   have lrows:rowsN.length≤105:=by
    rw[hp2.length_eq,ae]
    exact aB (c4 _ _) hfew
   rw[eout] at hpair
   clear_value rowsN
   have e:bz st .best=(st,⟨((tV st.costs st.langs st.words).1:Int),Si35.ints ((tV st.costs st.langs st.words).2.length::(tV st.costs st.langs st.words).2.flatMap mU)⟩):=rfl
   have e2':(tV st.costs st.langs st.words).2.flatMap mU=rowsN.flatten:=by rw[← hbr,List.flatMap_def]
   have e3':(tV st.costs st.langs st.words).2.length=rowsN.length:=by rw[← hbr,ae]
   unfold cY at k
   rw[e,hb1,e2',e3'] at k
   have k:eU C p O H st ((m:Int)::Si35.ints (rowsN.length::rowsN.flatten)) Q:=k
   have lqs:=bC hpair
   rw[ae] at lqs
   have s4:=aM.new (o:=.lst (qs.map V.ref)) ha
   have ea:upd H3 a (.lst (qs.map V.ref)) a=some (.lst (qs.map V.ref)):=aw
   have hq4:Paired (fun r row=>upd H3 a (.lst (qs.map V.ref)) r=some (.lst (eD V.int row))) qs (rowsN.map Si35.ints):=d9 (fun _ _ h=>s4 _ _ h) hpair
   generalize upd H3 a (.lst (qs.map V.ref))=H4 at s4 ea hq4
   have s04:=(s12.trans s3).trans s4
   refine aJ rfl (aJ rfl ⟨a,aJ rfl ⟨.inl (cI.of ea),Bm,fun r0 qF=>?_⟩⟩)
   have s5:=aM.new (o:=.lst [V.int (m:Int),V.int ((qs.map V.ref).length:Int)]) qF
   refine ⟨_,rfl,a,rfl,⟨_,cI.of (s5 _ _ ea)⟩,iF (K:=K) (a:=a) (xs:=qs.map V.ref) (fun i σ H'=>∃ v6 v7 v8:Option V,σ=[some (.ref p),some (.ref tr),some (.ref D),some (.int (m:Int)),some (.ref a),some (.ref r0),v6,v7,v8]∧aM H4 H'∧H' r0=some (.lst (vI ((m:Int)::Si35.ints (rowsN.length::(rowsN.take i).flatten)))))
    ⟨_,_,_,rfl,s5,?_⟩ (fun i σ H' _ ⟨_,_,_,_,s7,_⟩=>cI.of (s7 _ _ ea)) ?_ ?_⟩
   ·rw[aw,ae,lqs]
    rfl
   ·rintro i y σ H6 hi ⟨v6,v7,v8,rfl,s7,e7⟩
    obtain ⟨x,hx,rfl⟩:=fq hi
    obtain ⟨row,hrow,hxr⟩:=cZ hq4 hx
    rw[aO] at hrow
    obtain ⟨rowN,hrn,rfl⟩:∃ rn,rowsN[i]?=some rn∧Si35.ints rn=row:=by
     cases z:rowsN[i]? with
     | none=>rw[z] at hrow;cases hrow
     | some rn=>rw[z] at hrow;exact ⟨rn,rfl,aH hrow⟩
    have lf:(rowsN.take i).flatten.length≤18*105:=aB (Cp 18 _ fun r dU=>lrow r (lP dU)) (by rw[bP];exact Nat.mul_le_mul_left _ (by omega))
    have lr:=lrow rowN (aY hrn)
    refine aJ rfl ⟨.inl ⟨rfl,_,cI.of e7⟩,aJ rfl ⟨r0,x,_,aJ rfl ⟨rfl,e7,s7 _ _ hxr,?_,_,_,aJ rfl ⟨s7.upd qF,?_⟩⟩⟩⟩
    ·unfold Si35.ints
     rw[ae,aU,ae,aU,ae,ae]
     exact aB (show _≤2000 by omega) (by decide)
    ·rw[aw,take_snoc hrn,jt]
     simp[Si35.ints,vI]
   ·rintro σ H6 ⟨v6,v7,v8,rfl,s7,e7⟩
    rw[ae,lqs,bI] at e7
    exact aJ rfl (finish hF k (s04.trans s7) (s04.free qF) e7)
end
end Sk
namespace L2
open PySem PySem.Spec PyProof.Rows
section
variable {prog:aV}{w:bK}{A:cC}{E:ag→au→Prop}{s:au}
theorem CH (d:aj)(lo:(d==eZ)=false):MeetsIn prog w (Builtin.«dict.items» ⟨[.ref d],[]⟩) (fun _ R s=>s.TypeIs (.ref d) "dict"∧R (.ok (.ret (.ref s.heap.objs.size))) {s with heap:=s.heap.push {cls:=.type "dict_items",data:=.fields #[.ref d]}}) :=
 .of_wp fun A R s ⟨ty,q⟩=>by
  unfold Builtin.«dict.items»;refine aa ?_
  unfold Builtin.Dict.noArgs;refine aa (vi ty ?_)
  show wpAny _ _ (pure d) _ _ s;refine ak ?_
  show wpAny _ _ (jQ d >>= _) _ _ s;unfold jQ
  rw[if_neg (by rw[lo];exact bo)];refine aa (ak ?_)
  refine aa (cw (ak ⟨_,rfl,q⟩))
theorem GN {v d:aj}{od:fD}{es:Array fA}{ep:Nat}{Q:ag→au→Prop}(vw:s.heap.IsItemsView v d)(hod:s.heap.get? d=some od)(hdd:od.data=.dict es ep)
  (q:Q (.ref s.heap.objs.size) {s with heap:=s.heap.push {cls:=.type "dict_itemiterator",data:=.fields #[.none,.bool false,.ref d,.int 0 0,.int es.size 0,.int ep 0,.none,.none]}}):wpAny (model prog w) A (pyIter (.ref v)) Q E s:=by
 obtain ⟨vo,e1,e2,e3⟩:=id vw
 refine qw vw.typeIs Lw (c8 Lw vw.typeIs F.entry_dict_items_iter ?_ (F.args_dict_items_iter_1 _));unfold Builtin.«dict_items.__iter__»
 refine aa (ak ?_);refine aa ?_;unfold Px
 refine aa (fg e1 e3 (x:=.ref d) rfl (ak ?_));refine aa ?_;unfold Pw
 refine aa (iq hod hdd ?_);refine aa (kx hod hdd ?_)
 have own:fK "dict_itemiterator"=true:=by decide
 simp only[own,if_true];refine cw (ak ⟨_,rfl,"dict_itemiterator",_,⟨_,aG _ rfl,rfl⟩,gn.lookup,?_⟩) (by simp only[sizeOk,nX,bD,aK,aU,eL,kX];omega)
 simpa [gu,nX] using q
theorem Ku {it d:aj}{i n ep:Nat}{od:fD}{es:Array fA}{en:fA}{a0 b0:ag}{Q:Option ag→au→Prop}(hit:kI s.heap it d i n ep a0 b0)(hod:s.heap.get? d=some od)(hdd:od.data=.dict es ep)(hsz:es.size=n)(hx:es[i]?=some en)
  (hQ:∀ h',JP h' it d (i+1) n ep en.key en.val s.heap.objs.size→h'.get? s.heap.objs.size=some {cls:=.type "tuple",data:=.seq #[en.key,en.val]}→(∀ b o,b≠it→s.heap.get? b=some o→h'.get? b=some o)→Q (some (.ref s.heap.objs.size)) {s with heap:=h'}):wpAny (model prog w) A (pyNext (.ref it)) Q E s:=by
 obtain ⟨hp,g,dr,tk,os⟩:=s
 have ty:Bd ⟨hp,g,dr,tk,os⟩ (.ref it) "dict_itemiterator":=⟨_,hit,rfl⟩
 unfold pyNext;refine aa (iB (dg (name:=dM "__next__") ty gn (c8 gn ty Ab ?_ (zS _))))
 refine aa (ak ?_);refine aa ?_;refine aa ?_
 first | refine aa (iO ty (ak ?_)) | refine aa (jT ty (ak ?_))
 refine aa (lG hit rfl ?_)
 have own:fK "dict_itemiterator"=true:=by decide
 simp only[own,if_true];show wpAny _ _ (if (ag.ref d==ag.none)=true then _ else _) _ _ _
 rw[if_neg (show ¬ ((ag.ref d==ag.none)=true) from bo)];refine aa (ak ?_);refine aa (iq hod hdd ?_)
 rw[if_neg (by rw[hsz];simp)];refine aa (ak ?_);refine aa (kx hod hdd ?_)
 rw[if_neg (by simp)];refine ak ?_
 obtain ⟨lt,hen⟩:=Ae.mp hx
 simp only[show ¬ ((i:Int)<0) from by omega,if_false,bT,cz lt];refine aa ?_
 first | refine aa (iO ty (ak ?_)) | refine aa (jT ty (ak ?_))
 rw[hen];refine aa (uk ty ?_);show wpAny _ _ (setField (.ref it) 3 (gu ((i:Int)+1)) >>= _) _ _ ⟨hp,g,dr,tk,os⟩
 refine aa (eP hit (by simp) fun h1 e1 q1=>?_);replace q1:eE it hp h1:=q1
 replace e1:kI h1 it d (i+1) n ep a0 b0:=by
  have e:((i+1:Nat):Int)=(i:Int)+1:=by omega
  unfold kI;rw[e];simpa [gu] using e1
 have ty1:Bd ⟨h1,g,dr,tk,os⟩ (.ref it) "dict_itemiterator":=⟨_,e1,rfl⟩
 refine aa (dn ?_);refine aa (uk ty1 ?_);refine aa (uk ty1 ?_)
 show wpAny _ _ (o8 (.ref it) 6 en.key en.val) _ _ ⟨h1,g,dr,tk,os⟩;unfold o8;refine aa (wk ?_)
 have e2:kI (h1.push {cls:=.type "tuple",data:=.seq #[en.key,en.val]}) it d (i+1) n ep a0 b0:=ay _ e1
 generalize h2e:h1.push {cls:=.type "tuple",data:=.seq #[en.key,en.val]}=h2 at e2
 have z1:h1.objs.size=hp.objs.size:=q1.1
 have lti:it<hp.objs.size:=aN hit
 have t2:h2.get? hp.objs.size=some {cls:=.type "tuple",data:=.seq #[en.key,en.val]}:=by rw[← h2e,← z1];exact aG _ rfl
 have k2:∀ b o,b≠it→hp.get? b=some o→h2.get? b=some o:=fun b o hb e=>by rw[← h2e];exact ay _ (q1.extBut b o hb e)
 show wpAny _ _ (nW (.ref it) >>= _) _ _ ⟨h2,g,dr,tk,os⟩;rw[z1]
 clear h2e e1 q1 ty1 z1 h1
 refine aa ?_;unfold nW;refine aa (fg e2 rfl (x:=.none) rfl (ak ?_));simp only[if_true]
 refine aa (fg e2 rfl (x:=a0) rfl ?_);refine aa (fg e2 rfl (x:=b0) rfl ?_)
 refine aa (eP e2 (by simp) fun h3 e3 q3=>?_);replace q3:eE it h2 h3:=q3
 replace e3:kI h3 it d (i+1) n ep en.key b0:=e3
 refine aa (eP e3 (by simp) fun h4 e4 q4=>?_);replace q4:eE it h3 h4:=q4
 replace e4:kI h4 it d (i+1) n ep en.key en.val:=e4
 refine aa (eP e4 (by simp) fun h5 e5 q5=>?_);replace q5:eE it h4 h5:=q5
 replace e5:JP h5 it d (i+1) n ep en.key en.val hp.objs.size:=e5
 refine aa (eP e5 (by simp) fun h6 e6 q6=>?_);replace q6:eE it h5 h6:=q6
 replace e6:JP h6 it d (i+1) n ep en.key en.val hp.objs.size:=e6
 have ni:=gh lti
 refine aa (gB (ak (ak ⟨_,rfl,ak (hQ h6 e6 ?_ ?_)⟩)))
 ·exact q6.extBut _ _ ni (q5.extBut _ _ ni (q4.extBut _ _ ni (q3.extBut _ _ ni t2)))
 ·exact fun b o hb e=>q6.extBut b o hb (q5.extBut b o hb (q4.extBut b o hb (q3.extBut b o hb (k2 b o hb e))))
theorem Oq {it d:aj}{i n ep:Nat}{od:fD}{es:Array fA}{a0 b0:ag}{Q:Option ag→au→Prop}(hh:A.handled=none)(hit:kI s.heap it d i n ep a0 b0)(hod:s.heap.get? d=some od)(hdd:od.data=.dict es ep)(hsz:es.size=n)(hge:n≤i)
  (hQ:∀ h',oY it s.heap h'→Q none {s with heap:=h'}):wpAny (model prog w) A (pyNext (.ref it)) Q E s:=by
 have ty:s.TypeIs (.ref it) "dict_itemiterator":=⟨_,hit,rfl⟩
 unfold pyNext;refine aa (iB (dg (name:=dM "__next__") ty gn (c8 gn ty Ab ?_ (zS _))))
 refine aa (ak ?_);refine aa ?_;refine aa ?_
 first | refine aa (iO ty (ak ?_)) | refine aa (jT ty (ak ?_))
 refine aa (lG hit rfl ?_)
 have own:fK "dict_itemiterator"=true:=by decide
 simp only[own,if_true];show wpAny _ _ (if (ag.ref d==ag.none)=true then _ else _) _ _ _
 rw[if_neg (show ¬ ((ag.ref d==ag.none)=true) from bo)];refine aa (ak ?_);refine aa (iq hod hdd ?_)
 rw[if_neg (by rw[hsz];simp)];refine aa (ak ?_);refine aa (kx hod hdd ?_)
 rw[if_neg (by simp)];refine ak ?_
 have ge:es.size≤i:=by rw[hsz];exact hge
 simp only[show ¬ ((i:Int)<0) from by omega,if_false,bT,iI ge];refine aa ?_
 first | refine aa (iO ty (ak ?_)) | refine aa (jT ty (ak ?_))
 show wpAny _ _ (setField (.ref it) 2 .none >>= _) _ _ s;refine aa (fO hit rfl (by simp) ?_)
 show wpAny _ _ (newExc (.type "StopIteration") [] >>= _) _ _ _;refine aa ?_;simp only[newExc,newTuple]
 refine aa (cw ?_ (by size_fits));refine aa (m:=firstArgMember _ _) (jA (a:=ag.none) (by first | rfl | (simp only[firstArgMember];rfl)) ?_)
 refine cw ?_ (by size_fits);simp only[raiseNew];refine aa (rg ?_)
 rw[show A.in1.handled=none from hh];refine aa (ak (vG ?_))
 refine aa (iN (T:="StopIteration") (b:=true) ⟨_,aG _ rfl,rfl⟩ pS ?_);exact ak (hQ _ (((c9 ..).extBut.push _).push _))
end
section
variable {X:Cx}{pins:List (aj×fD)}{σ:L2.St}{H:Hp}{s:au}{d:aj}{o:fD}
theorem Inv.SX {kvs:List (List eF×V)}(I:Inv X pins σ H s)(h:H d=some (.lT o (.dT kvs))) :
  (d==eZ)=false∧s.heap.get? d=some o∧o.ExactDict∧∃ (es:Array fA) (ep:Nat),o.data=.dict es ep∧es.size=kvs.length ∧
   ∀ (i:Nat) (k:List eF) (v:V),kvs[i]?=some (k,v)→∃ (en:fA) (q:aj),es[i]?=some en∧en.key=.ref q∧RelV v en.val∧lD H q k:=by
 obtain ⟨hd,z,hs,xs,pr,o',es,ep,ho,hx,hdt,he,_⟩:=I.fu d _ h
 rw[hd] at ho
 cases ho
 refine ⟨hs,hd,hx,es,ep,hdt,?_,fun i k v e=>?_⟩
 ·have l1:es.size=xs.length:=size_of_entries he
  have l2:kvs.length=xs.length:=Paired.length pr
  omega
 ·obtain ⟨b,hb,e1,e2,e3⟩:=zj pr e
  have q:=entry_at he i
  rw[hb] at q
  exact ⟨_,b.2.1,q,rfl,e3,e2⟩
end
def LW (d:aj)(o:fD)(kvs:List (List eF×V)):It :=
 ⟨fun i H=>H d=some (.lT o (.dT kvs))∧i<kvs.length,fun i H x H'=>∃ T k v q,kvs[i]?=some (k,v)∧x=.ref T∧H T=none∧lD H q k∧H'=upd H T (.tup [.ref q,v]),fun i H=>H d=some (.lT o (.dT kvs))∧kvs.length≤i⟩
theorem EA {P:aV}{w:bK}{K:ai}{d:aj}{o:fD}{es:Array fA}{ep:Nat}{kvs:List (List eF×V)}{elts:List Expr}{kk:Nat}{md:jR}(it:aj)(hod:o.data=.dict es ep) :
  Turn P w K (.Tuple elts kk md) (LW d o kvs) [it] it (fun i h=>∃ a0 b0,kI h it d i kvs.length ep a0 b0) where
 mem:=by simp
 obj:=fun i h st b hb=>by
  have e:b=it:=by simpa using hb
  subst e
  obtain ⟨_,_,e⟩:=st
  exact ⟨_,e,fun v z=>nomatch z⟩
 keep:=fun i h h' st k=>let ⟨a0,b0,e⟩:=st;⟨a0,b0,k it (by simp) _ e⟩
 item:=by
  intro X hP hw hK hc i pins s σ H E I hf st hg
  subst hP hw hK
  obtain ⟨hd,hi⟩:=hg
  obtain ⟨hs,hgd,hx,es',ep',hdt,hsz,ent⟩:=I.SX hd
  obtain ⟨rfl,rfl⟩:=x5 hod hdt
  obtain ⟨⟨k,v⟩,hkv⟩:∃ p,kvs[i]?=some p:=⟨kvs[i],aD hi⟩
  obtain ⟨en,q,hen,hkey,hrv,hq⟩:=ent i k v hkv
  obtain ⟨a0,b0,he⟩:=st
  have j7:it<s.heap.objs.size:=aN he
  refine Ku he hgd hdt hsz hen fun h' ho hT hk=>?_
  refine ⟨_,rfl,Fj (s:={s with heap:=h'}) ho fun h'' he' sb=>?_⟩
  have hT2:h''.get? s.heap.objs.size=some {cls:=.type "tuple",data:=.seq #[en.key,en.val]}:=(sb.2 _ (gh j7)).trans hT
  have new:fQ X.prog X.w (upd H s.heap.objs.size (.tup [.ref q,v])) h'' s.heap.objs.size (.tup [.ref q,v]) :=
   ⟨by show 2≤aP;decide,[en.key,en.val],.cons hkey (.cons hrv .nil),⟨_,hT2,rfl,_,rfl⟩⟩
  have I1:Inv X pins σ (upd H s.heap.objs.size (.tup [.ref q,v])) {s with heap:=h''} :=
   I.oN (t':=s.toks) (ch:=[it]) (fun b ob hb e=>(sb.2 b (by simpa using hb)).trans (hk b ob (by simpa using hb) e)) hf (aL _) new
  refine ⟨.ref s.heap.objs.size,_,I1,rfl,⟨_,k,v,q,hkv,rfl,I.fu.fresh (aL _),hq,rfl⟩,⟨_,_,he'⟩,fun b hb=>?_⟩
  have e:b=it:=by simpa using hb
  rw[e,aW (bg j7)]
  exact (hf it (by simp)).1
 done:=by
  intro X hP hw hK hc i pins s σ H E I hf st hg
  subst hP hw hK
  obtain ⟨hd,hi⟩:=hg
  obtain ⟨f0,f1,f2,f3,f4,f5⟩:=hf it (by simp)
  obtain ⟨hs,hgd,hx,es',ep',hdt,hsz,ent⟩:=I.SX hd
  obtain ⟨rfl,rfl⟩:=x5 hod hdt
  obtain ⟨a0,b0,he⟩:=st
  exact Oq (I.ok.hd hc) he hgd hdt hsz hi fun h' eb=>⟨rfl,I.turned (t':=s.toks) (fun b ob hb e=>eb b ob hb e) f0 f1 f3 f4 f5⟩
 self:=fun A i s Q E st h=>let ⟨_,_,e⟩:=st;Lo e h
def Q1 (td:TE):TI:=fun σ H R=>td σ H fun x H1=>∃ d o kvs,x=.ref d∧H1 d=some (.lT o (.dT kvs))∧R (LW d o kvs) H1
theorem Kc {X:Cx}{e:Expr}{td:TE}{apos jL:jR}{elts:List Expr}{kk:Nat}{md:jR}(he:PE X e td)(hbase:ja e "items" X.env (eval e X.env)=eval e X.env:=by rfl)(hline:(apos.endLine==jL.line)=true:=by rfl) :
  PI X (.Tuple elts kk md) (.Call (.Attribute e "items" apos) [] [] jL) (Q1 td):=by
 intro pins s σ H R I h
 refine qz (T:="dict") (id:="dict.items") hbase rfl hline zK qf SG (gN (he pins s σ H _ I h) fun u s1 ⟨x,H1,I1,rx,d,o,kvs,ex,hd,q⟩=>?_)
 subst ex
 obtain rfl:u=ag.ref d:=rx
 obtain ⟨hs,hgd,hx,es,ep,hdt,hsz,ent⟩:=I1.SX hd
 have ty:s1.TypeIs (.ref d) "dict":=⟨o,hgd,hx.1⟩
 refine ⟨ty,fun a e=>by cases e;exact ⟨o,hgd,hx.2.1⟩,?_⟩
 have I2:Inv X pins σ H1 {s1 with heap:=s1.heap.push {cls:=.type "dict_items",data:=.fields #[.ref d]}}:=I1.kept (t':=s1.toks) fun b ob q=>ay _ q
 have fin:wpAny (model X.prog X.w) X.A (pyIter (.ref s1.heap.objs.size)) (UZ X pins σ (.Tuple elts kk md) R) X.xe {s1 with heap:=s1.heap.push {cls:=.type "dict_items",data:=.fields #[.ref d]}}:=by
  refine GN (d:=d) ⟨_,aG _ rfl,rfl,rfl⟩ (ay _ hgd) hdt (FU (tk:=s1.toks) I2 _ (EA _ hdt) ⟨.none,.none,?_⟩ q)
  rw[hsz]
  exact aG _ rfl
 show wpAny _ _ (Fu jL (.builtin "dict.items") [.ref d] [] []) _ X.xe s1
 exact Ge qf RW rfl (um ⟨rfl,ty,Pt _,_,CH d hs,ty,fin⟩)
end L2
namespace Sk
open PySem PySem.Spec PyProof.Rows L2
theorem GR {d:aj}{o:fD}{kvs:List (List eF×V)}{g:TG}{tb:TS}{D:Ends}{σ:L2.St}{H:Hp}(Pv:Nat→L2.St→Hp→Prop)(h0:Pv 0 σ H)(hl:∀ i σ H,Pv i σ H→H d=some (.lT o (.dT kvs)))
  (hs:∀ i k v q T σ H,kvs[i]?=some (k,v)→Pv i σ H→H T=none→lD H q k→g (.ref T) σ (upd H T (.tup [.ref q,v])) fun σ' H'=>tb {D with nx:=Pv (i+1),ct:=Pv (i+1),bk:=D.nx} σ' H')(hd:∀ σ H,Pv kvs.length σ H→D.nx σ H) :
  ∃ W:Nat→Nat→L2.St→Hp→Prop,(∃ m,W 0 m σ H)∧∀ i m σ H,W i m σ H →
   ((LW d o kvs).stop i H∧D.nx σ H)∨((LW d o kvs).go i H∧∃ Nx:L2.St→Hp→Prop,(∀ σ' H',Nx σ' H'→∃ m',m'<m∧W (i+1) m' σ' H')∧∀ x H',(LW d o kvs).zO i H x H'→g x σ H' fun σ' H''=>tb {D with nx:=Nx,ct:=Nx,bk:=D.nx} σ' H''):=by
 refine ⟨fun i m σ H=>m=kvs.length - i∧i≤kvs.length∧Pv i σ H,⟨_,rfl,aS _,h0⟩,?_⟩
 rintro i m σ H ⟨rfl,hi,p⟩
 have q:=hl i σ H p
 by_cases lt:i<kvs.length
 ·refine .inr ⟨⟨q,lt⟩,Pv (i+1),fun σ' H' p'=>⟨_,by omega,rfl,by omega,p'⟩,?_⟩
  rintro x H' ⟨T,k,v,q,hkv,rfl,hT,hq,rfl⟩
  exact hs i k v q T σ H hkv p hT hq
 ·have e:i=kvs.length:=by omega
  exact .inl ⟨⟨q,by omega⟩,hd σ H (e▸p)⟩
def y4 (C:aj):Sp:=fun vs H Q _=>∃ (p:aj) (O:aj→Prop) (s:dC),vs=[.ref p]∧sP C H p O s∧eU C p O H s (cY s .patterns) Q
def chunk (kv:bM×Nat):List Int:=Si35.ints (kv.2::kv.1.env::kv.1.sounds)
theorem Uj (l:List bM):(gO l).flatMap chunk=l.eraseDups.flatMap fun c=>Si35.ints ((l.filter fun x=>x==c).length::c.env::c.sounds):=by
 unfold gO
 rw[Pq]
 rfl
section
variable {P:aV}{w:bK}{K:ai}{mg:bZ→Option ag}{base:bW}{C:aj}
theorem mE:bX ["self","counts","answer","pattern","how_many"] ["self"] (bB sy):=kG
theorem EE {f f1:aj}{fd j8:bH}(F:jb K "patterns" "Family.patterns" sy f fd)(T:nP K mg C)(TF:qk mg)
  (G1:cP P w K mg base fG 1 f1 j8 ["words"] pA)(m1:mg "count_places"=some (.ref f1))(k1:aQ K (.ref f1)=true)(b1:Binds K j8 ["words"] []) :
  cP P w K mg base fG 2 f fd ["self"] (y4 C):=by
 refine F.ok mE (fun vs H Q E h=>?_) (fun gq A outer s H vs Q E hr h=>?_)
 ·obtain ⟨p,O,s,rfl,_⟩:=h
  rfl
 ·obtain ⟨p,O,st,rfl,hF,k⟩:=h
  refine ⟨_,aE (cy (i:=1) mE.nd rfl (bp rfl) (cj G1 hr (by rfl) m1 k1 b1 .nil cU (ah (eY (pv 0) rfl) aA)))
   (aE (cy (i:=2) mE.nd rfl (bp rfl) (cS (ah (bR A6 (by rfl) TF.len bj (ah (pv 1) aA)) aA)))
   (aE (Qk (gz bL rfl (Kc (pv 1)) (yE rfl (jo (cK (i:=3) mE.nd rfl (bp rfl)) (jo (cK (i:=4) mE.nd rfl (bp rfl)) uE)))
    (aR (fT (jU bN fX fW lZ (pv 2) (ah (d4 jx (cS (ah (pv 4) (ah (cA dR (pv 3) aZ (fun _ _=>rfl)) aA))) (kK CL (by rfl) TF.list sT (ah (cA dR (pv 3) aZ (fun _ _=>rfl)) aA))) aA))))))
   (aR (bO (pv 2))))),?_⟩
  obtain ⟨dx,c,wa,tt,hf,ho⟩:=id hF
  have hfl:=hf.ok.flat
  have l5:=hf.ok.l5
  refine cQ (aJ rfl (tM hf.ins T.cl T.nw (g6 _ _ _ _ _) ⟨wa,st.words,rfl,hf.words,aB hfl (by decide),fun H1 t s1 ht e1=>?_⟩))
  have hcol:∀ kv∈gO st.words.flatten,kv.1.sounds.length≤5:=fun kv hkv=>by
   have:kv.1∈(gO st.words.flatten).map (·.1):=aX.mpr ⟨kv,hkv,rfl⟩
   rw[y3] at this
   rw[hf.ok.col ((ig _ _).mp this)]
   exact l5
  have ltl:(gO st.words.flatten).length≤36:=by
   have:=Au st.words.flatten
   unfold jK at this
   rw[ae] at this
   omega
  have e:cY st .patterns=((gO st.words.flatten).length:Int)::(gO st.words.flatten).flatMap chunk:=by
   rw[Uj]
   show ((az st.words).length:Int)::_=_
   have:(gO st.words.flatten).length=(az st.words).length:=by
    unfold gO az
    rw[ae]
   rw[this]
   rfl
  rw[e] at k
  generalize gO st.words.flatten=tl at k e1 hcol ltl
  refine cQ (aJ rfl ⟨t,aJ rfl ⟨e1,oj,fun r0 qF=>?_⟩⟩)
  have s2:=aM.new (o:=.lst [V.int ((jK tl).length:Int)]) qF
  have er:upd H1 r0 (.lst [V.int ((jK tl).length:Int)]) r0=some (.lst [V.int ((jK tl).length:Int)]):=aw
  have e2:=s2 _ _ e1
  generalize upd H1 r0 (.lst [V.int ((jK tl).length:Int)])=H2 at s2 er e2
  have nrt:r0≠t:=ir er e2 (by intro z;cases z)
  refine ⟨t,_,e2,trivial,fun od=>⟨_,rfl,t,od,_,rfl,aw,GR (d:=t) (o:=od) (kvs:=jK tl) (fun i σ H'=>∃ v3 v4:Option V,σ=[some (.ref p),some (.ref t),some (.ref r0),v3,v4]∧aM (upd H1 t (.lT od (.dT (jK tl)))) H'∧H' r0=some (.lst (vI ((tl.length:Int)::(tl.take i).flatMap chunk))))
   ⟨none,none,rfl,?_,?_⟩ (fun i σ H' ⟨_,_,_,s3,_⟩=>s3 _ _ aw) ?_ ?_⟩⟩
  ·intro b o hb
   by_cases z:b=t
   ·rw[z,aw] at hb ⊢
    exact hb
   ·rw[aW z] at hb ⊢
    exact s2 _ _ hb
  ·rw[aW nrt,er]
   unfold jK
   rw[ae]
   rfl
  ·rintro i kk v q T1 σ H3 hkv ⟨v3,v4,rfl,s3,e3⟩ hT hq
   obtain ⟨kv,hkv2,e4⟩:∃ kv,tl[i]?=some kv∧(kc kv.1,iv kv.2)=(kk,v):=by
    unfold jK at hkv
    rw[aO] at hkv
    cases z:tl[i]? with
    | none=>rw[z] at hkv;cases hkv
    | some kv=>rw[z] at hkv;exact ⟨kv,rfl,aH hkv⟩
   cases e4
   have s4:=aM.new (o:=.tup [V.ref q,iv kv.2]) hT
   obtain ⟨b,q1,q2⟩:=(jE.Mw hq).same s4
   have hlc:=hcol kv (aY hkv2)
   have i1:Fe [iv kv.1.env,V.ref b] 1=some (.ref b):=rfl
   have hll:((tl.take i).flatMap chunk).length≤7*36:=by
    have:∀ l:List (bM×Nat),(∀ kv∈l,kv.1.sounds.length≤5)→(l.flatMap chunk).length≤7*l.length:=by
     intro l
     induction l with
     | nil=>intro _;exact aS _
     | cons a l ih =>
      intro h
      have h1:=ih fun kv hk=>h kv (ao _ hk)
      have h2:=h a ax
      rw[bQ,aK,aU,xl]
      have:(chunk a).length=a.1.sounds.length+2:=by
       unfold chunk Si35.ints
       rw[ae]
       rfl
      omega
    refine aB (this _ fun kv hk=>hcol kv (lP hk)) ?_
    rw[bP]
    omega
   refine ⟨T1,aJ rfl ⟨fR.of aw,rfl,_,aJ rfl ⟨_,aJ rfl ⟨rfl,?_⟩⟩⟩⟩
   refine aJ rfl ⟨.inl ⟨rfl,_,cI.of (s4 _ _ e3)⟩,aJ rfl (aJ rfl (iJ q 0 _ (fR.of q1) rfl ⟨Bm,fun a ha=>?_⟩))⟩
   have s5:=aM.new (o:=.lst [iv kv.2,iv kv.1.env]) ha
   refine aJ rfl (iJ q 1 _ (fR.of (s5 _ _ q1)) i1 ⟨b,aJ rfl ⟨.inr (fR.of (s5 _ _ q2)),fun a2 ha2=>?_⟩⟩)
   have s6:=aM.new (o:=.lst (eX kv.1.sounds)) ha2
   refine ⟨a,a2,_,aJ rfl ⟨rfl,s6 _ _ aw,aw,?_,fun a3 ha3=>?_⟩⟩
   ·rw[ae]
    exact aB (show 2+_≤7 by omega) (by decide)
   have s7:=aM.new (o:=.lst ([iv kv.2,iv kv.1.env]++eX kv.1.sounds)) ha3
   have s47:=((s4.trans s5).trans s6).trans s7
   refine ⟨r0,a3,_,aJ rfl ⟨rfl,s47 _ _ e3,aw,?_,_,aJ rfl ⟨(s3.trans s47).upd ?_,?_⟩⟩⟩
   ·rw[ae,aU,aK,ae]
    exact aB (show _+1+(2+_)≤300 by omega) (by decide)
   ·rw[aW nrt]
    exact qF
   ·rw[aw,take_snoc hkv2,gF,bQ,lB,bY]
    simp[chunk,Si35.ints,vI]
  ·rintro σ H3 ⟨v3,v4,rfl,s3,e3⟩
   have el:(jK tl).length=tl.length:=by unfold jK;rw[ae]
   rw[el,bI] at e3
   refine ⟨s3 _ _ aw,aJ rfl ?_⟩
   have s4:aM H1 (upd H3 t (.dT (jK tl))):=aM.unlock e1 s3
   exact finish hF k (s1.trans s4) (s1.free qF) (by rw[aW nrt];exact e3)
end
def Ho (P:aV)(w:bK)(K:ai)(mg:bZ→Option ag)(base:bW)(C:aj)(k:Nat)(m:bZ)(ps:List bZ)(sp:Sp):Prop:=∃ f fd,cP P w K mg base fG k f fd ps sp∧yr K C m f∧Binds K fd ps []
def U2 (P:aV)(w:bK)(K:ai)(mg:bZ→Option ag)(base:bW)(k:Nat)(m:bZ)(ps:List bZ)(sp:Sp):Prop:=∃ f fd,cP P w K mg base fG k f fd ps sp∧mg m=some (.ref f)∧aQ K (.ref f)=true∧Binds K fd ps []
theorem eU.later {C p:aj}{O:aj→Prop}{H H1:Hp}{s:dC}{a:List Int}{Q:VK}(k:eU C p O H s a Q)(e:aM H H1):eU C p O H1 s a Q :=
 fun H' O' r f st hr no er=>k H' O' r f ((Dh.of_same e).trans st) (e.free hr) no er
theorem sP.xZ {C:aj}{H:Hp}{p:aj}{O:aj→Prop}{s:dC}(h:sP C H p O s){b:aj}(e:H b=none):¬ O b:=fun q=>by
 obtain ⟨_,z⟩:=h.own q
 rw[z] at e
 cases e
theorem eqT {i:Int}{a b:Prop}(q:a):if decide (V.int i=V.int i)=true then a else b:=by
 rw[if_pos (by simp)]
 exact q
theorem Xs {i j:Int}(h:i≠j){a b:Prop}(q:b):if decide (V.int i=V.int j)=true then a else b:=by
 rw[if_neg (fun z=>h (pz.mp z))]
 exact q
theorem tY:∀ t:cF,size t+1≤2 ^ depth t
 | .leaf _=>aL _
 | .node a b=>by
  have h1:=tY a
  have h2:=tY b
  have h3:2 ^ depth a≤2 ^ max (depth a) (depth b):=lW (by decide) (Nat.le_max_left _ _)
  have h4:2 ^ depth b≤2 ^ max (depth a) (depth b):=lW (by decide) (Nat.le_max_right _ _)
  show 1+(size a+size b)+1≤2 ^ (max (depth a) (depth b)+1)
  rw[Nat.pow_succ]
  omega
theorem uA {x:List Int}(h:∀ z∈x,0≤z):vI x=eX (nats x):=by rw[BS,QJ x h]
theorem ml {z:Int}(h:0≤z):∃ n:Nat,z=(n:Int):=⟨z.toNat,by omega⟩
structure Vl (mg:bZ→Option ag):Prop where
 n0:∃ t,mg "BEGINS"=some (.int 0 t)
 n1:∃ t,mg "COST"=some (.int 1 t)
 n2:∃ t,mg "BESIDE"=some (.int 2 t)
 n3:∃ t,mg "WORD"=some (.int 3 t)
 n4:∃ t,mg "PATTERNS"=some (.int 4 t)
 n5:∃ t,mg "OLDS"=some (.int 5 t)
 n6:∃ t,mg "REFLEX"=some (.int 6 t)
 n7:∃ t,mg "EXPECTED"=some (.int 7 t)
 n8:∃ t,mg "LEAVE"=some (.int 8 t)
 n9:∃ t,mg "TREE"=some (.int 9 t)
 Xo:∃ t,mg "SCORE"=some (.int 10 t)
 Xn:∃ t,mg "ROOT"=some (.int 11 t)
 Xm:∃ t,mg "STATES"=some (.int 12 t)
def Mo (C:aj):Sp:=fun vs H Q _=>∃ (p pn pr:aj) (O:aj→Prop) (s:dC) (a:Int) (nums:List Int) (xs:List (List Int)) (q:Si35.Call),vs=[.ref p,.int a,.ref pn,.ref pr]∧sP C H p O s∧H pn=some (.lst (vI nums))∧HR H pr xs ∧
 gE a=some (nums.length,xs.length)∧gT ((a::nums)::xs)=some q∧(∀ z∈nums,0≤z∧z<4294967296)∧(∀ x∈xs,∀ z∈x,0≤z)∧eU C p O H (bz s q).1 (cY s q) Q
theorem FO {H:Hp}{pr:aj}{x:List Int}(h:HR H pr [x]):∃ r,H pr=some (.lst [V.ref r])∧H r=some (.lst (vI x)):=by
 obtain ⟨rs,e,p⟩:=h
 cases p with
 | cons a t =>
  cases t
  exact ⟨_,e,a⟩
theorem Tw {H:Hp}{pr:aj}{x y:List Int}(h:HR H pr [x,y]):∃ r u,H pr=some (.lst [V.ref r,V.ref u])∧H r=some (.lst (vI x))∧H u=some (.lst (vI y)):=by
 obtain ⟨rs,e,p⟩:=h
 cases p with
 | cons a t =>
  cases t with
  | cons b u =>
   cases u
   exact ⟨_,_,e,a,b⟩
theorem len0 {α:Type}{l:List α}(h:l.length=0):l=[]:=List.eq_nil_of_length_eq_zero h
theorem uw {α:Type}{l:List α}(h:l.length=1):∃ x,l=[x]:=match l,h with | [x],_=>⟨x,rfl⟩
theorem JH {α:Type}{l:List α}(h:l.length=2):∃ x y,l=[x,y]:=match l,h with | [x,y],_=>⟨x,y,rfl⟩
theorem Ve {α:Type}{l:List α}(h:l.length=3):∃ x y z,l=[x,y,z]:=match l,h with | [x,y,z],_=>⟨x,y,z,rfl⟩
theorem cx {D:Ends}{σ:L2.St}{H:Hp}{a c:Int}{t:TE}{u:TS}(e:σ[1]?=some (some (.int a)))(q:u D σ H)(h:a≠c:=by decide):om (sQ (ko (Bk Fc (qG 1) (tC (.int c)))) (qH t) lK) u D σ H:=⟨_,e,rfl,_,rfl,Xs h q⟩
theorem oz {D:Ends}{σ:L2.St}{H:Hp}{a:Int}{t:TE}{u:TS}(e:σ[1]?=some (some (.int a)))(q:t σ H D.rt):om (sQ (ko (Bk Fc (qG 1) (tC (.int a)))) (qH t) lK) u D σ H:=⟨_,e,rfl,_,rfl,eqT q⟩
theorem V2 {D:Ends}{σ:L2.St}{H:Hp}{a:Int}{n k:Nat}{t0 t1 t2 t3 t4 t5 t6 t7 t8 t9 t10 t11 t12 t13:TE}(e:σ[1]?=some (some (.int a)))(hs:gE a=some (n,k))
  (h0:a=0→n=1→k=0→t0 σ H D.rt)
  (h1:a=1→n=3→k=0→t1 σ H D.rt)
  (h2:a=2→n=0→k=2→t2 σ H D.rt)
  (h3:a=3→n=0→k=1→t3 σ H D.rt)
  (h4:a=4→n=0→k=0→t4 σ H D.rt)
  (h5:a=5→n=0→k=0→t5 σ H D.rt)
  (h6:a=6→n=1→k=0→t6 σ H D.rt)
  (h7:a=7→n=1→k=1→t7 σ H D.rt)
  (h8:a=8→n=1→k=0→t8 σ H D.rt)
  (h9:a=9→n=0→k=1→t9 σ H D.rt)
  (h10:a=10→n=0→k=0→t10 σ H D.rt)
  (h11:a=11→n=2→k=0→t11 σ H D.rt)
  (h12:a=12→n=2→k=0→t12 σ H D.rt)
  (h13:a=13→n=0→k=0→t13 σ H D.rt) :
  (om (sQ (ko (Bk Fc (qG 1) (tC (.int 0)))) (qH t0) lK) (om (sQ (ko (Bk Fc (qG 1) (tC (.int 1)))) (qH t1) lK) (om (sQ (ko (Bk Fc (qG 1) (tC (.int 2)))) (qH t2) lK) (om (sQ (ko (Bk Fc (qG 1) (tC (.int 3)))) (qH t3) lK) (om (sQ (ko (Bk Fc (qG 1) (tC (.int 4)))) (qH t4) lK) (om (sQ (ko (Bk Fc (qG 1) (tC (.int 5)))) (qH t5) lK) (om (sQ (ko (Bk Fc (qG 1) (tC (.int 6)))) (qH t6) lK) (om (sQ (ko (Bk Fc (qG 1) (tC (.int 7)))) (qH t7) lK) (om (sQ (ko (Bk Fc (qG 1) (tC (.int 8)))) (qH t8) lK) (om (sQ (ko (Bk Fc (qG 1) (tC (.int 9)))) (qH t9) lK) (om (sQ (ko (Bk Fc (qG 1) (tC (.int 10)))) (qH t10) lK) (om (sQ (ko (Bk Fc (qG 1) (tC (.int 11)))) (qH t11) lK) (om (sQ (ko (Bk Fc (qG 1) (tC (.int 12)))) (qH t12) lK) (qH t13)))))))))))))) D σ H:=by
 rcases rm hs with z | z | z | z | z | z | z | z | z | z | z | z | z | z<;>obtain ⟨rfl,z1,z2⟩:=z
 ·exact oz e (h0 rfl z1 z2)
 ·exact cx e (oz e (h1 rfl z1 z2))
 ·exact cx e (cx e (oz e (h2 rfl z1 z2)))
 ·exact cx e (cx e (cx e (oz e (h3 rfl z1 z2))))
 ·exact cx e (cx e (cx e (cx e (oz e (h4 rfl z1 z2)))))
 ·exact cx e (cx e (cx e (cx e (cx e (oz e (h5 rfl z1 z2))))))
 ·exact cx e (cx e (cx e (cx e (cx e (cx e (oz e (h6 rfl z1 z2)))))))
 ·exact cx e (cx e (cx e (cx e (cx e (cx e (cx e (oz e (h7 rfl z1 z2))))))))
 ·exact cx e (cx e (cx e (cx e (cx e (cx e (cx e (cx e (oz e (h8 rfl z1 z2)))))))))
 ·exact cx e (cx e (cx e (cx e (cx e (cx e (cx e (cx e (cx e (oz e (h9 rfl z1 z2))))))))))
 ·exact cx e (cx e (cx e (cx e (cx e (cx e (cx e (cx e (cx e (cx e (oz e (h10 rfl z1 z2)))))))))))
 ·exact cx e (cx e (cx e (cx e (cx e (cx e (cx e (cx e (cx e (cx e (cx e (oz e (h11 rfl z1 z2))))))))))))
 ·exact cx e (cx e (cx e (cx e (cx e (cx e (cx e (cx e (cx e (cx e (cx e (cx e (oz e (h12 rfl z1 z2)))))))))))))
 ·exact cx e (cx e (cx e (cx e (cx e (cx e (cx e (cx e (cx e (cx e (cx e (cx e (cx e (h13 rfl z1 z2)))))))))))))
section
variable {P:aV}{w:bK}{K:ai}{mg:bZ→Option ag}{base:bW}{C:aj}
theorem Tv:bX ["family","call","numbers","rows"] ["family","call","numbers","rows"] (bB HI):=kG
theorem QD {f:aj}{fd:bH}(F:jb K "answer_call" "answer_call" HI f fd)(T:nP K mg C)(TN:Vl mg)
  (M0:Ho P w K mg base C 2 "begins" ["self","languages"] (DN C))(M1:Ho P w K mg base C 1 "cost" ["self","one","other","costs"] (Mn C))(M2:Ho P w K mg base C 5 "beside" ["self","first","second"] (Az K C))
  (M3:Ho P w K mg base C 2 "word" ["self","places"] (Mc C))(M4:Ho P w K mg base C 2 "patterns" ["self"] (y4 C))(M5:Ho P w K mg base C 13 "olds" ["self"] (Ii C))(M6:Ho P w K mg base C 14 "reflex" ["self","sound"] (DI C))
  (M7:Ho P w K mg base C 14 "expected" ["self","language","asked"] (y6 C))(M8:Ho P w K mg base C 14 "leave" ["self","k"] (DK C))(M9:Ho P w K mg base C 2 "tree" ["self","nodes"] (Ie C))(M10:Ho P w K mg base C 7 "score" ["self"] (DH C))
  (M11:Ho P w K mg base C 6 "root" ["self","word","place"] (Me C))(M12:Ho P w K mg base C 6 "states" ["self","word","place"] (Ax C))(M13:Ho P w K mg base C 7 "best" ["self"] (Mp C))
  (R3:U2 P w K mg base 1 "read_places" ["row"] (DJ K))(R7:U2 P w K mg base 1 "read_pairs" ["row"] (Ih K))(R9:U2 P w K mg base 1 "read_tree" ["row"] (Mf K)) :
  cP P w K mg base fG 15 f fd ["family","call","numbers","rows"] (Mo C):=by
 obtain ⟨t0,h0⟩:=TN.n0
 obtain ⟨t1,h1⟩:=TN.n1
 obtain ⟨t2,h2⟩:=TN.n2
 obtain ⟨t3,h3⟩:=TN.n3
 obtain ⟨t4,h4⟩:=TN.n4
 obtain ⟨t5,h5⟩:=TN.n5
 obtain ⟨t6,h6⟩:=TN.n6
 obtain ⟨t7,h7⟩:=TN.n7
 obtain ⟨t8,h8⟩:=TN.n8
 obtain ⟨t9,h9⟩:=TN.n9
 obtain ⟨t10,h10⟩:=TN.Xo
 obtain ⟨t11,h11⟩:=TN.Xn
 obtain ⟨t12,h12⟩:=TN.Xm
 obtain ⟨f0,fd0,G0,m0,b0⟩:=M0
 obtain ⟨f1,j8,G1,m1,b1⟩:=M1
 obtain ⟨f2,mL,G2,m2,b2⟩:=M2
 obtain ⟨f3,fd3,G3,m3,b3⟩:=M3
 obtain ⟨f4,fd4,G4,m4,b4⟩:=M4
 obtain ⟨f5,fd5,G5,m5,b5⟩:=M5
 obtain ⟨f6,fd6,G6,m6,b6⟩:=M6
 obtain ⟨f7,fd7,G7,m7,b7⟩:=M7
 obtain ⟨f8,fd8,G8,m8,b8⟩:=M8
 obtain ⟨f9,fd9,G9,m9,b9⟩:=M9
 obtain ⟨f10,fd10,G10,m10,b10⟩:=M10
 obtain ⟨f11,fd11,G11,m11,b11⟩:=M11
 obtain ⟨f12,fd12,G12,m12,b12⟩:=M12
 obtain ⟨f13,fd13,G13,m13,b13⟩:=M13
 obtain ⟨g3,gd3,GR3,mr3,kr3,br3⟩:=R3
 obtain ⟨g7,gd7,GR7,mr7,kr7,br7⟩:=R7
 obtain ⟨g9,gd9,GR9,mr9,kr9,br9⟩:=R9
 refine F.ok Tv (fun vs H Q E h=>?_) (fun gq A outer s H vs Q E hr h=>?_)
 ·obtain ⟨p,pn,pr,O,s,a,nums,xs,q,rfl,_⟩:=h
  rfl
 ·obtain ⟨p,pn,pr,O,st,a,nums,xs,q,rfl,hF,hn,hrw,hsh,hq,hnn,hxx,k⟩:=h
  have r1:fS 1 _:=hr.mono (by decide)
  have r2:fS 2 _:=hr.mono (by decide)
  have r5:fS 5 _:=hr.mono (by decide)
  have r6:fS 6 _:=hr.mono (by decide)
  have r7:fS 7 _:=hr.mono (by decide)
  have r13:fS 13 _:=hr.mono (by decide)
  have r14:fS 14 _:=hr.mono (by decide)
  refine ⟨_,aE (eG (bU gC (pv 1) (cg (v:=.int 0) (by rfl) h0 ⟨_,rfl⟩) (cq _)) (aR (bO (ie (pv 0) T.cl m0 G0 r2 b0 .nil cU (ah (cA cM (pv 2) aZ (fun _ _=>rfl)) aA)))) cX)
   (aE (eG (bU gC (pv 1) (cg (v:=.int 1) (by rfl) h1 ⟨_,rfl⟩) (cq _)) (aR (bO (ie (pv 0) T.cl m1 G1 r1 b1 .nil cU (ah (cA cM (pv 2) aZ (fun _ _=>rfl)) (ah (cA cM (pv 2) aZ (fun _ _=>rfl)) (ah (cA cM (pv 2) aZ (fun _ _=>rfl)) aA)))))) cX)
   (aE (eG (bU gC (pv 1) (cg (v:=.int 2) (by rfl) h2 ⟨_,rfl⟩) (cq _)) (aR (bO (ie (pv 0) T.cl m2 G2 r5 b2 .nil cU (ah (cA cM (pv 3) aZ (fun _ _=>rfl)) (ah (cA cM (pv 3) aZ (fun _ _=>rfl)) aA))))) cX)
   (aE (eG (bU gC (pv 1) (cg (v:=.int 3) (by rfl) h3 ⟨_,rfl⟩) (cq _)) (aR (bO (ie (pv 0) T.cl m3 G3 r2 b3 .nil cU (ah (cj GR3 r1 (by rfl) mr3 kr3 br3 .nil cU (ah (cA cM (pv 3) aZ (fun _ _=>rfl)) aA)) aA)))) cX)
   (aE (eG (bU gC (pv 1) (cg (v:=.int 4) (by rfl) h4 ⟨_,rfl⟩) (cq _)) (aR (bO (uV (pv 0) T.cl m4 G4 r2 b4 .nil cU))) cX)
   (aE (eG (bU gC (pv 1) (cg (v:=.int 5) (by rfl) h5 ⟨_,rfl⟩) (cq _)) (aR (bO (uV (pv 0) T.cl m5 G5 r13 b5 .nil cU))) cX)
   (aE (eG (bU gC (pv 1) (cg (v:=.int 6) (by rfl) h6 ⟨_,rfl⟩) (cq _)) (aR (bO (ie (pv 0) T.cl m6 G6 r14 b6 .nil cU (ah (cA cM (pv 2) aZ (fun _ _=>rfl)) aA)))) cX)
   (aE (eG (bU gC (pv 1) (cg (v:=.int 7) (by rfl) h7 ⟨_,rfl⟩) (cq _)) (aR (bO (ie (pv 0) T.cl m7 G7 r14 b7 .nil cU (ah (cA cM (pv 2) aZ (fun _ _=>rfl)) (ah (cj GR7 r1 (by rfl) mr7 kr7 br7 .nil cU (ah (cA cM (pv 3) aZ (fun _ _=>rfl)) aA)) aA))))) cX)
   (aE (eG (bU gC (pv 1) (cg (v:=.int 8) (by rfl) h8 ⟨_,rfl⟩) (cq _)) (aR (bO (ie (pv 0) T.cl m8 G8 r14 b8 .nil cU (ah (cA cM (pv 2) aZ (fun _ _=>rfl)) aA)))) cX)
   (aE (eG (bU gC (pv 1) (cg (v:=.int 9) (by rfl) h9 ⟨_,rfl⟩) (cq _)) (aR (bO (ie (pv 0) T.cl m9 G9 r2 b9 .nil cU (ah (cj GR9 r1 (by rfl) mr9 kr9 br9 .nil cU (ah (cA cM (pv 3) aZ (fun _ _=>rfl)) aA)) aA)))) cX)
   (aE (eG (bU gC (pv 1) (cg (v:=.int 10) (by rfl) h10 ⟨_,rfl⟩) (cq _)) (aR (bO (uV (pv 0) T.cl m10 G10 r7 b10 .nil cU))) cX)
   (aE (eG (bU gC (pv 1) (cg (v:=.int 11) (by rfl) h11 ⟨_,rfl⟩) (cq _)) (aR (bO (ie (pv 0) T.cl m11 G11 r6 b11 .nil cU (ah (cA cM (pv 2) aZ (fun _ _=>rfl)) (ah (cA cM (pv 2) aZ (fun _ _=>rfl)) aA))))) cX)
   (aE (eG (bU gC (pv 1) (cg (v:=.int 12) (by rfl) h12 ⟨_,rfl⟩) (cq _)) (aR (bO (ie (pv 0) T.cl m12 G12 r6 b12 .nil cU (ah (cA cM (pv 2) aZ (fun _ _=>rfl)) (ah (cA cM (pv 2) aZ (fun _ _=>rfl)) aA))))) cX)
   (aR (bO (uV (pv 0) T.cl m13 G13 r7 b13 .nil cU))))))))))))))),?_⟩
  obtain ⟨dx,c,wa,tt,hf,ho⟩:=id hF
  refine V2 rfl hsh ?_ ?_ ?_ ?_ ?_ ?_ ?_ ?_ ?_ ?_ ?_ ?_ ?_ ?_
  ·
   rintro rfl z1 z2
   obtain ⟨x,rfl⟩:=uw z1
   obtain rfl:=len0 z2
   obtain ⟨n,rfl⟩:=ml (hnn x ax).1
   cases aH ((KN _).symm.trans hq)
   exact aJ rfl (Bl hf.ins jW (aJ rfl (iJ pn 0 _ (cI.of hn) rfl ⟨p,O,st,n,rfl,hF,k⟩)))
  ·
   rintro rfl z1 z2
   obtain ⟨x,y,z,rfl⟩:=Ve z1
   obtain rfl:=len0 z2
   obtain ⟨n,rfl⟩:=ml (hnn x (by simp)).1
   obtain ⟨n2,rfl⟩:=ml (hnn y (by simp)).1
   obtain ⟨n3,rfl⟩:=ml (hnn z (by simp)).1
   cases aH ((QY _ _ _).symm.trans hq)
   exact aJ rfl (Bl hf.ins jW (aJ rfl (iJ pn 0 _ (cI.of hn) rfl (aJ rfl (iJ pn 1 (V.int (n2:Int)) (cI.of hn) rfl (aJ rfl (iJ pn 2 (V.int (n3:Int)) (cI.of hn) rfl ⟨p,O,st,n,n2,n3,rfl,hF,k⟩)))))))
  ·
   rintro rfl z1 z2
   obtain rfl:=len0 z1
   obtain ⟨x,y,rfl⟩:=JH z2
   obtain ⟨e,l1,l2⟩:=KL x y (by rw[show gT [[2],x,y]=some q from hq];rfl)
   cases aH (e.symm.trans hq)
   obtain ⟨r,u,e1,e2,e3⟩:=Tw hrw
   rw[uA (hxx x (by simp))] at e2
   rw[uA (hxx y (by simp))] at e3
   exact aJ rfl (Bl hf.ins jW (aJ rfl (iJ pr 0 _ (cI.of e1) rfl (aJ rfl (iJ pr 1 (V.ref u) (cI.of e1) rfl ⟨p,r,u,O,st,_,aJ rfl ⟨hF,cI.of e2,cI.of e3,by unfold nats;rw[ae];exact l1,by unfold nats;rw[ae];exact l2,k⟩⟩)))))
  ·
   rintro rfl z1 z2
   obtain rfl:=len0 z1
   obtain ⟨x,rfl⟩:=uw z2
   obtain ⟨wd,hwd,hq2⟩:=dB.mp ((QU x).symm.trans hq)
   subst hq2
   obtain ⟨q1,q2,q3⟩:=A4 hwd
   obtain ⟨r,e1,e2⟩:=FO hrw
   rw[uA (hxx x (by simp)),q1] at e2
   exact aJ rfl (Bl hf.ins jW (aJ rfl (iJ pr 0 _ (cI.of e1) rfl ⟨r,wd,rfl,cI.of e2,q2,q3,fun H1 qa s1 hqa hw=>⟨p,qa,O,st,wd,rfl,hF.same s1,hw,hF.xZ hqa,q2,q3,k.later s1⟩⟩)))
  ·
   rintro rfl z1 z2
   obtain rfl:=len0 z1
   obtain rfl:=len0 z2
   cases aH (EN.symm.trans hq)
   exact aJ rfl (Bl hf.ins jW ⟨p,O,st,rfl,hF,k⟩)
  ·
   rintro rfl z1 z2
   obtain rfl:=len0 z1
   obtain rfl:=len0 z2
   cases aH (QX.symm.trans hq)
   exact aJ rfl (Bl hf.ins jW ⟨p,O,st,rfl,hF,k⟩)
  ·
   rintro rfl z1 z2
   obtain ⟨x,rfl⟩:=uw z1
   obtain rfl:=len0 z2
   obtain ⟨n,rfl⟩:=ml (hnn x ax).1
   cases aH ((KJ _).symm.trans hq)
   exact aJ rfl (Bl hf.ins jW (aJ rfl (iJ pn 0 _ (cI.of hn) rfl ⟨p,O,st,n,rfl,hF,k⟩)))
  ·
   rintro rfl z1 z2
   obtain ⟨i,rfl⟩:=uw z1
   obtain ⟨x,rfl⟩:=uw z2
   obtain ⟨n,rfl⟩:=ml (hnn i ax).1
   obtain ⟨l,hl,hq2⟩:=dB.mp ((EO _ x).symm.trans hq)
   subst hq2
   obtain ⟨q1,q2⟩:=zi hl
   obtain ⟨r,e1,e2⟩:=FO hrw
   rw[uA (hxx x (by simp)),q1] at e2
   exact aJ rfl (Bl hf.ins jW (aJ rfl (iJ pn 0 _ (cI.of hn) rfl (aJ rfl (iJ pr 0 _ (cI.of e1) rfl ⟨r,l,rfl,cI.of e2,q2,fun H1 qa s1 hqa hw=>⟨p,qa,O,st,n,l,rfl,hF.same s1,hw,q2,k.later s1⟩⟩)))))
  ·
   rintro rfl z1 z2
   obtain ⟨x,rfl⟩:=uw z1
   obtain rfl:=len0 z2
   have hb:=(hnn x ax).2
   obtain ⟨n,rfl⟩:=ml (hnn x ax).1
   cases aH ((Ob _).symm.trans hq)
   exact aJ rfl (Bl hf.ins jW (aJ rfl (iJ pn 0 _ (cI.of hn) rfl ⟨p,O,st,n,rfl,by omega,hF,k⟩)))
  ·
   rintro rfl z1 z2
   obtain rfl:=len0 z1
   obtain ⟨x,rfl⟩:=uw z2
   have hq1:(je 8 (nats x)).bind (fun t=>match t.2 with | []=>some (Si35.Call.tree t.1) | _=>none)=some q:=(QV x).symm.trans hq
   obtain ⟨⟨t,u⟩,ht,hq2⟩:=ik.mp hq1
   cases u with
   | cons a u=>cases hq2
   | nil =>
    cases aH hq2
    obtain ⟨q1,q2⟩:=vL ht
    rw[bY] at q1
    obtain ⟨r,e1,e2⟩:=FO hrw
    rw[uA (hxx x (by simp)),q1] at e2
    have hz:size t≤1000:=by
     have:=tY t
     have:=lW (n:=2) (by decide) q2
     omega
    exact aJ rfl (Bl hf.ins jW (aJ rfl (iJ pr 0 _ (cI.of e1) rfl ⟨r,t,rfl,cI.of e2,hz,fun H1 qa s1 hqa hw=>⟨p,qa,O,st,t,rfl,hF.same s1,hw,hz,k.later s1⟩⟩)))
  ·
   rintro rfl z1 z2
   obtain rfl:=len0 z1
   obtain rfl:=len0 z2
   cases aH (Oa.symm.trans hq)
   exact aJ rfl (Bl hf.ins jW ⟨p,O,st,rfl,hF,k⟩)
  ·
   rintro rfl z1 z2
   obtain ⟨x,y,rfl⟩:=JH z1
   obtain rfl:=len0 z2
   obtain ⟨n,rfl⟩:=ml (hnn x (by simp)).1
   obtain ⟨n2,rfl⟩:=ml (hnn y (by simp)).1
   cases aH ((QW _ _).symm.trans hq)
   exact aJ rfl (Bl hf.ins jW (aJ rfl (iJ pn 0 _ (cI.of hn) rfl (aJ rfl (iJ pn 1 (V.int (n2:Int)) (cI.of hn) rfl ⟨p,O,st,n,n2,rfl,hF,k⟩)))))
  ·
   rintro rfl z1 z2
   obtain ⟨x,y,rfl⟩:=JH z1
   obtain rfl:=len0 z2
   obtain ⟨n,rfl⟩:=ml (hnn x (by simp)).1
   obtain ⟨n2,rfl⟩:=ml (hnn y (by simp)).1
   cases aH ((KI _ _).symm.trans hq)
   exact aJ rfl (Bl hf.ins jW (aJ rfl (iJ pn 0 _ (cI.of hn) rfl (aJ rfl (iJ pn 1 (V.int (n2:Int)) (cI.of hn) rfl ⟨p,O,st,n,n2,rfl,hF,k⟩)))))
  ·
   rintro rfl z1 z2
   obtain rfl:=len0 z1
   obtain rfl:=len0 z2
   cases aH (QZ.symm.trans hq)
   exact aJ rfl (Bl hf.ins jW ⟨p,O,st,rfl,hF,k⟩)
end
theorem GF {z:Int}(h:Bg z 32=true):0≤z∧z<4294967296:=by
 unfold Bg at h
 rw[bA,decide_eq_true_iff,decide_eq_true_iff] at h
 exact h
theorem Ld {c:List (List Int)}(h:jg (cH c)=true):(gT c).isSome=true∧∀ z∈(cH c).headD [],0≤z∧z<4294967296:=by
 unfold jg at h
 rw[bA,bA,dO] at h
 exact ⟨h.2.2,fun z hz=>GF (h.2.1 z hz)⟩
theorem Xd (x:Int):(cH [[0,x]]).headD []=[0,x]:=rfl
theorem Xc (x y z:Int):(cH [[1,x,y,z]]).headD []=[1,x,y,z]:=rfl
theorem Xb (x y:List Int):(cH [[2],x,y]).headD []=[2]++[(x.length:Int)]++x++y:=rfl
theorem Xa (x:List Int):(cH [[3],x]).headD []=[3]++x:=rfl
theorem W9 (x:Int):(cH [[6,x]]).headD []=[6,x]:=rfl
theorem W8 (i:Int)(x:List Int):(cH [[7,i],x]).headD []=[7]++[i]++x:=rfl
theorem W7 (x:Int):(cH [[8,x]]).headD []=[8,x]:=rfl
theorem W6 (x:List Int):(cH [[9],x]).headD []=[9]++x:=rfl
theorem Ws (x y:Int):(cH [[11,x,y]]).headD []=[11,x,y]:=rfl
theorem Wr (x y:Int):(cH [[12,x,y]]).headD []=[12,x,y]:=rfl
theorem Nb {p:Int}{nums:List Int}{xs:List (List Int)}(hs:gE p=some (nums.length,xs.length))(h:jg (cH ((p::nums)::xs))=true) :
  (gT ((p::nums)::xs)).isSome=true∧(∀ z∈nums,0≤z∧z<4294967296)∧(∀ x∈xs,∀ z∈x,0≤z)∧xs.length≤2:=by
 obtain ⟨h1,h2⟩:=Ld h
 clear h
 refine ⟨h1,?_⟩
 clear h1
 rcases rm hs with z | z | z | z | z | z | z | z | z | z | z | z | z | z<;>obtain ⟨rfl,z1,z2⟩:=z<;>clear hs
 ·cases len0 z2
  obtain ⟨x,rfl⟩:=uw z1
  rw[Xd] at h2
  exact ⟨fun z hz=>h2 z (ao _ hz),fun x hx=>(by cases hx),aS _⟩
 ·cases len0 z2
  obtain ⟨x,y,u,rfl⟩:=Ve z1
  rw[Xc] at h2
  exact ⟨fun z hz=>h2 z (ao _ hz),fun x hx=>(by cases hx),aS _⟩
 ·cases len0 z1
  obtain ⟨x,y,rfl⟩:=JH z2
  rw[Xb] at h2
  refine ⟨fun z hz=>(by cases hz),fun a ha z hz=>(h2 z ?_).1,aL _⟩
  rcases aI.mp ha with rfl | ha
  ·exact bu.mpr (.inl (bu.mpr (.inr hz)))
  ·rw[bE.mp ha] at hz
   exact bu.mpr (.inr hz)
 ·cases len0 z1
  obtain ⟨x,rfl⟩:=uw z2
  rw[Xa] at h2
  exact ⟨fun z hz=>(by cases hz),fun a ha z hz=>(h2 z (bu.mpr (.inr (bE.mp ha▸hz)))).1,ia 1⟩
 ·cases len0 z1
  cases len0 z2
  exact ⟨fun z hz=>(by cases hz),fun x hx=>(by cases hx),aS _⟩
 ·cases len0 z1
  cases len0 z2
  exact ⟨fun z hz=>(by cases hz),fun x hx=>(by cases hx),aS _⟩
 ·cases len0 z2
  obtain ⟨x,rfl⟩:=uw z1
  rw[W9] at h2
  exact ⟨fun z hz=>h2 z (ao _ hz),fun x hx=>(by cases hx),aS _⟩
 ·obtain ⟨i,rfl⟩:=uw z1
  obtain ⟨x,rfl⟩:=uw z2
  rw[W8] at h2
  exact ⟨fun z hz=>h2 z (bu.mpr (.inl (bu.mpr (.inr hz)))),fun a ha z hz=>(h2 z (bu.mpr (.inr (bE.mp ha▸hz)))).1,ia 1⟩
 ·cases len0 z2
  obtain ⟨x,rfl⟩:=uw z1
  rw[W7] at h2
  exact ⟨fun z hz=>h2 z (ao _ hz),fun x hx=>(by cases hx),aS _⟩
 ·cases len0 z1
  obtain ⟨x,rfl⟩:=uw z2
  rw[W6] at h2
  exact ⟨fun z hz=>(by cases hz),fun a ha z hz=>(h2 z (bu.mpr (.inr (bE.mp ha▸hz)))).1,ia 1⟩
 ·cases len0 z1
  cases len0 z2
  exact ⟨fun z hz=>(by cases hz),fun x hx=>(by cases hx),aS _⟩
 ·cases len0 z2
  obtain ⟨x,y,rfl⟩:=JH z1
  rw[Ws] at h2
  exact ⟨fun z hz=>h2 z (ao _ hz),fun x hx=>(by cases hx),aS _⟩
 ·cases len0 z2
  obtain ⟨x,y,rfl⟩:=JH z1
  rw[Wr] at h2
  exact ⟨fun z hz=>h2 z (ao _ hz),fun x hx=>(by cases hx),aS _⟩
 ·cases len0 z1
  cases len0 z2
  exact ⟨fun z hz=>(by cases hz),fun x hx=>(by cases hx),aS _⟩
theorem OG {cs:List Int}(h:sN cs=true):∃ css,Left cs css∧mN cs=xj (Be hZ C2 (css.map cH))∧css.length≤60∧(∀ c∈css,jg (cH c)=true)∧l7 C2 999999 (css.map cH)=true:=by
 unfold sN Sz at h
 cases e:p8 gE cs.length cs with
 | none=>rw[e] at h;cases h
 | some css =>
  rw[e] at h
  have h:(RL 60 (css.map cH)&&C3 (css.map cH))=true:=h
  rw[bA] at h
  obtain ⟨a1,a2⟩:=h
  unfold RL at a1
  have a1:=of_decide_eq_true a1
  rw[ae] at a1
  unfold C3 at a2
  rw[bA,bA,bA,bA,dO] at a2
  refine ⟨css,⟨_,e⟩,?_,a1,fun c hc=>a2.1 _ (aX.mpr ⟨c,hc,rfl⟩),a2.2.2.2.2⟩
  unfold mN Sz
  rw[e]
theorem sP.off {C:aj}{H:Hp}{p z:aj}{O:aj→Prop}{s:dC}{acc:List Int}{o:HO}(h:sP C H p O s)(hz:H z=some (.lst (vI acc)))(nz:¬ O z)(ha:acc=[]∨∃ x t,acc=x::t∧0≤x):sP C (upd H z o) p O s:=by
 obtain ⟨dx,c,w,tt,f,ho⟩:=h
 refine ⟨dx,c,w,tt,?_,ho⟩
 obtain ⟨kvs,ek,r⟩:=f.costs
 obtain ⟨qs,ew,pw⟩:=f.words
 have nw:w≠z:=fun e=>nz ((ho z).mpr (.inr (.inr e.symm)))
 refine ⟨by rw[aW (ir f.ins hz (by intro z;cases z))];exact f.ins,⟨kvs,by rw[aW (ir ek hz (by intro z;cases z))];exact ek,r⟩,⟨qs,by rw[aW nw];exact ew,?_⟩,?_,f.ok⟩
 ·refine kY (bC pw) fun i a b ha hb=>?_
  obtain ⟨b',hb',rs,er,pr⟩:=cZ pw ha
  rw[hb'] at hb
  cases aH hb
  have l1:=(f.ok.wd b (aY hb')).1
  have na:a≠z:=fun e=>by
   rw[e,hz] at er
   have er:vI acc=rs.map V.ref:=by
    injection er with er
    injection er
   cases pr with
   | nil=>simp at l1
   | cons u v =>
    cases acc with
    | nil=>cases er
    | cons x t =>
     injection er with e1 _
     cases e1
  exact ⟨rs,by rw[aW na];exact er,d9 (fun r c' ⟨d,d1,d2⟩=>⟨d,by rw[aW (ir d1 hz (by intro z;cases z))];exact d1,by rw[aW (ir d2 hz (by intro z;cases z))];exact d2⟩) pr⟩
 ·have ht:=f.tree
  have l2:=f.ok.l2
  cases e:s.tree with
  | none=>rw[e] at ht;exact ht
  | some t =>
   rw[e] at ht
   obtain ⟨x,e1,e2⟩:=ht
   have tl:=(pK (f.ok.tr t e)).2
   refine ⟨x,e1,?_⟩
   have nx:x≠z:=fun q=>by
    rw[q,hz] at e2
    have e2:vI acc=vI (gZ t):=by
     injection e2 with e2
     injection e2
    cases t with
    | leaf l =>
     have:size (.leaf l)=1:=rfl
     omega
    | node a b =>
     rcases ha with rfl | ⟨y,u,rfl,hy⟩
     ·cases e2
     ·injection e2 with e3 _
      injection e3 with e3
      omega
   rw[aW nx]
   exact e2
structure S4 (K:ai)(mg:bZ→Option ag):Prop where
 at_:∃ (S:aj) (qs:List aj),mg "SHAPES"=some (.ref S)∧(∀ H,fR K H S (qs.map V.ref))∧∀ p n k,gE p=some (n,k)→∃ a,Fe (qs.map V.ref) p=some (.ref a)∧∀ H,fR K H a [iv n,iv k]
def Hr (K:ai):Sp:=fun vs H Q _=>∃ (pc:aj) (cs:List Int),vs=[.ref pc]∧cI K H pc (vI cs)∧sN cs=true∧∀ H' r,H' r=some (.lst (vI (mN cs)))→Q (.ref r) H'
theorem Nw (xs:List (List Int)):(ou xs).length=(xs.map fun x=>1+x.length).sum:=by
 induction xs with
 | nil=>rfl
 | cons x xs ih =>
  unfold ou at ih ⊢
  rw[bQ,aK,ih,bq,C0]
  show (x.length+1)+_=_
  omega
section
variable {P:aV}{w:bK}{K:ai}{mg:bZ→Option ag}{base:bW}{C:aj}
theorem qL:bX ["calls","family","answered","at","shape","rows_at","rows","answer","row"] ["calls"] (bB Bq):=kG
theorem TU {f f0:aj}{fd fd0:bH}(F:jb K "answers" "answers" Bq f fd)(T:nP K mg C)(TF:qk mg)(TS:S4 K mg)(M:Mk K C f0)(G0:cP P w K mg base fG 2 f0 fd0 ["self"] (Mi C))(b0:Binds K fd0 ["self"] [])
  (RR:U2 P w K mg base 1 "read_rows" ["calls","at","how_many"] (Md K))(RC:U2 P w K mg base 15 "answer_call" ["family","call","numbers","rows"] (Mo C)) :
  cP P w K mg base fG 16 f fd ["calls"] (Hr K):=by
 obtain ⟨f1,j8,G1,m1,k1,b1⟩:=RR
 obtain ⟨f2,mL,G2,m2,k2,b2⟩:=RC
 obtain ⟨S,qs,hS,hSq,hel⟩:=TS.at_
 refine F.ok qL (fun vs H Q E h=>?_) (fun gq A outer s H vs Q E hr h=>?_)
 ·obtain ⟨pc,cs,rfl,_⟩:=h
  rfl
 ·obtain ⟨pc,cs,rfl,hcs,hask,k⟩:=h
  have r1:fS 1 _:=hr.mono (by decide)
  have r3:fS 3 _:=hr.mono (by decide)
  refine ⟨_,aE (cy (i:=1) qL.nd rfl (bp rfl) (NI M G0 r3 rfl T.Xp b0 .nil cU))
   (aE (cy (i:=2) qL.nd rfl (bp rfl) (cS aA))
   (aE (cy (i:=3) qL.nd rfl (bp rfl) aZ)
   (aE (my bL (bU wz (pv 3) (bR bG (by rfl) TF.len bj (ah (pv 0) aA)) (cq _))
    (aE (cy (i:=4) qL.nd rfl (bp rfl) (cA dR (cg (v:=.ref S) (by rfl) hS rfl) (cA cM (pv 0) (pv 3) (fun _ _=>rfl)) (fun _ _=>rfl)))
    (aE (cy (i:=5) qL.nd rfl (bp rfl) (d4 eO (d4 eO (pv 3) aZ) (cA dR (pv 4) aZ (fun _ _=>rfl))))
    (aE (cy (i:=6) qL.nd rfl (bp rfl) (cj G1 r1 rfl m1 k1 b1 .nil cU (ah (pv 0) (ah (pv 5) (ah (cA dR (pv 4) aZ (fun _ _=>rfl)) aA)))))
    (aE (cy (i:=7) qL.nd rfl (bp rfl) (cj G2 hr rfl m2 k2 b2 .nil cU (ah (pv 1) (ah (cA cM (pv 0) (pv 3) (fun _ _=>rfl)) (ah (oI rW (pv 0) (kW (d4 eO (pv 3) aZ)) (kW (pv 5))) (ah (pv 6) aA))))))
    (aE (fT (jU bN cE cD gG (pv 2) (ah (bR bG (by rfl) TF.len bj (ah (pv 7) aA)) aA)))
    (aE (fT (jU bN fX fW lZ (pv 2) (ah (pv 7) aA)))
    (aR (cy (i:=3) qL.nd rfl (bp rfl) (d4 eO (pv 5) (bR (yF rfl) (by rfl) TF.sum vZ (ah (jm rfl qL.nd (eh (pv 6)) (dX (own:=[("row",8)]) (by rfl)) (fun _ _ _ _ _=>cK (i:=8) qL.nd rfl (bp rfl)) (fun _ _ _ _ _=>gA) (fun _ _ _ _ _=>d4 eO aZ (bR (r:=Va K) bG (by rfl) TF.len bj (ah (pv 8) aA)))) aA))))))))))))
   (aR (bO (pv 2)))))),?_⟩
  refine sj fun N hN p dx hp hdx ndx=>?_
  have sn:aM H (upd (upd H dx (.own p)) p (.ins C dx [])):=(aM.new hdx).trans (aM.new (by rw[aW ndx.symm];exact hp))
  refine ⟨p,dx,rfl,aw,fun H1 c1 w1 hf1 kp hc1 hw1=>⟨rfl,?_⟩⟩
  have s1:aM H H1:=fun b o e=>kp b o (sn b o e) fun z=>by rw[z,hp] at e;cases e
  let O1:aj→Prop:=fun b=>b=p∨b=c1∨b=w1
  have hF1:sP C H1 p O1 Pf:=⟨dx,c1,w1,.hU,hf1,fun b=>Pe⟩
  have hO1:∀ b,O1 b→H b=none:=fun b q=>by
   rcases q with rfl | rfl | rfl
   ·exact hp
   ·exact sn.free hc1
   ·exact sn.free hw1
  refine hN _ _ (sj fun N hN=>⟨aS _,fun an han=>?_⟩)
  have s2:=aM.new (o:=.lst []) han
  have n1:¬ O1 an:=hF1.xZ han
  obtain ⟨css0,hleft,hans,h60,hask1,hshort⟩:=OG hask
  let Iv:Nat→L2.St→Hp→Prop:=fun m σ H'=>∃ (a:Nat) (st:dC) (O:aj→Prop) (css:List (List (List Int))) (acc:List Int) (bud:Nat) (v4 v5 v6 v7 v8:Option V),σ=[some (.ref pc),some (.ref p),some (.ref an),some (iv a),v4,v5,v6,v7,v8]∧m=css.length∧Left (cs.drop a) css∧sP C H' p O st∧(∀ b,O b→H b=none)∧¬ O an∧aM H H'∧H' an=some (.lst (vI acc))∧(acc=[]∨∃ x t,acc=x::t∧0≤x)∧acc++xj (Be hZ st (css.map cH))=mN cs∧(∀ c∈css,jg (cH c)=true)∧l7 st bud (css.map cH)=true∧acc.length+bud+css.length≤1000100
  refine hN _ _ (cQ (iP (fun σ H'=>∃ v3 v4 v5 v6 v7 v8:Option V,σ=[some (.ref pc),some (.ref p),some (.ref an),v3,v4,v5,v6,v7,v8]∧H' an=some (.lst (vI (mN cs)))) (fun _ go=>?_) ?_))
  ·refine ⟨Iv,⟨css0.length,0,Pf,O1,css0,[],999999,none,none,none,none,none,rfl,rfl,hleft,hF1.same s2,hO1,n1,s1.trans s2,aw,.inl rfl,hans.symm,hask1,hshort,by simp;omega⟩,?_⟩
   rintro m σ H2 ⟨a,st,O,css,acc,bud,v4,v5,v6,v7,v8,rfl,hm,hl,hF,hO,nO,s3,ea,hacc,hto,hal,hsh,hbud⟩
   have ll:((vI cs).length:Int)=(cs.length:Int):=by rw[ae]
   refine aJ rfl (aJ rfl ⟨pc,aJ rfl ⟨.inl (s3.seq hcs),_,aJ rfl ⟨rfl,aJ rfl ?_⟩⟩⟩)
   by_cases ha:a<cs.length
   ·refine VM (c:=(a:Int)<((vI cs).length:Int)) (by rw[ll];omega) ⟨fun σ' H'=>∃ m',m'<m∧Iv m' σ' H',fun σ' H' h=>h,?_⟩
    obtain ⟨p0,r',hdr⟩:∃ p0 r',cs.drop a=p0::r':=⟨cs[a],cs.drop (a+1),dz ha⟩
    rw[hdr] at hl
    obtain ⟨n,kk,nums,xs,t,css',hshp,hn1,hk1,dU,hcss,hl'⟩:=Kx hl
    subst hcss
    subst hn1
    subst hk1
    obtain ⟨hsome,hnn,hxx,hx2⟩:=Nb hshp (hal _ ax)
    obtain ⟨q,hq⟩:=og.mp hsome
    obtain ⟨ad,had,hadT⟩:=hel p0 _ _ hshp
    have g0:(vI cs)[a]?=some (V.int p0):=by
     have:cs[a]?=some p0:=by
      have:=congrArg (fun l=>l[0]?) hdr
      simp only[nH] at this
      exact this
     exact tR this
    have hd1:cs.drop (a+1+nums.length)=ou xs++t:=by
     have:=congrArg (jk (1+nums.length)) hdr
     rw[fI,dU,mT 1,mK,iu] at this
     rw[pT,mT 1]
     exact this
    have lcs:a+1+nums.length≤cs.length:=by
     have:=congrArg dJ hdr
     rw[cv,aU,dU,aK] at this
     omega
    have i1:Fe [iv nums.length,iv xs.length] 1=some (iv xs.length):=rfl
    refine sj fun N hN=>aJ rfl (aJ rfl (iJ pc a _ (s3.seq hcs) (cp g0) ⟨S,_,p0,aJ rfl ⟨rfl,hSq H2,had,hN _ _ ?_⟩⟩))
    refine sj fun N hN=>aJ rfl ⟨_,aJ rfl ⟨rfl,aJ rfl ⟨ad,_,0,aJ rfl ⟨rfl,hadT H2,rfl,_,aJ rfl ⟨rfl,hN _ _ ?_⟩⟩⟩⟩⟩
    refine sj fun N hN=>aJ rfl (aJ rfl (aJ rfl ⟨ad,_,1,aJ rfl ⟨rfl,hadT H2,i1,pc,cs,a+1+nums.length,xs.length,xs,t,rfl,s3.seq hcs,hd1,rfl,aB hx2 (by decide),fun H3 pr s4 hpr hrows=>?_⟩⟩))
    obtain ⟨rs,erw,prw⟩:=hrows
    have s34:=s3.trans s4
    refine hN _ _ (sj fun N hN=>aJ rfl (aJ rfl (aJ rfl (iJ pc a _ (s34.seq hcs) (cp g0) (aJ rfl (aJ rfl ⟨_,aJ rfl ⟨rfl,((a+1:Nat):Int),rfl,aJ rfl ⟨((a+1+nums.length:Nat):Int),rfl,pc,aJ rfl ⟨s34.seq hcs,fun pn hpn=>?_⟩⟩⟩⟩))))))
    rw[x6 cs (by omega) lcs]
    have ecut:(cs.drop (a+1)).take (a+1+nums.length - (a+1))=nums:=by
     have:=congrArg (jk 1) hdr
     rw[fI] at this
     rw[this,dU,gp]
     show List.take nums.length (nums++_)=nums
     rw[nF]
    rw[ecut]
    have s5:=aM.new (o:=.lst (vI nums)) hpn
    have epn:upd H3 pn (.lst (vI nums)) pn=some (.lst (vI nums)):=aw
    generalize upd H3 pn (.lst (vI nums))=H4 at s5 epn
    have s45:=s4.trans s5
    have hF4:=hF.same s45
    have hrI:HR H4 pr xs:=⟨rs,s5 _ _ erw,d9 (fun _ _ h=>s5 _ _ h.2) prw⟩
    have eann:(bz st q).1=(bz st q).1:=rfl
    have hst:=P8 (s:=st) hq
    refine aJ rfl ⟨p,pn,pr,O,st,p0,nums,xs,q,rfl,hF4,epn,hrI,hshp,hq,hnn,hxx,fun H5 O5 r hF5 hstay hr5 nO5 er5=>?_⟩
    have ea4:=s45 _ _ ea
    have ea5:=hstay.1 _ _ ea4 nO
    have nO5':¬ O5 an:=fun z=>by
     rcases hstay.2 an z with z | z
     ·exact nO z
     ·rw[ea4] at z;cases z
    have hO5:∀ b,O5 b→H b=none:=fun b z=>by
     rcases hstay.2 b z with z | z
     ·exact hO b z
     ·exact (s3.trans s45).free z
    have s05:aM H H5:=fun b o e=>hstay.1 b o ((s3.trans s45) b o e) fun z=>by rw[hO b z] at e;cases e
    have nra:r≠an:=fun z=>by rw[z,ea4] at hr5;cases hr5
    have npr:¬ O pr:=hF.xZ hpr
    have npra:pr≠an:=fun z=>by rw[z,ea] at hpr;cases hpr
    have hpr5:=hstay.1 _ _ (s5 _ _ erw) npr
    have prw5:Paired (fun r x=>r≠an∧H5 r=some (.lst (vI x))) rs xs:=d9 (fun b x h=>⟨fun z=>(by have:=h.1;rw[z,ea] at this;cases this),hstay.1 _ _ (s5 _ _ h.2) (hF.xZ h.1)⟩) prw
    have lans:(cY st q).length≤bud∧l7 (bz st q).1 (bud - (cY st q).length) (css'.map cH)=true:=by
     rw[bq] at hsh
     unfold l7 at hsh
     rw[hst,bA,decide_eq_true_iff] at hsh
     exact hsh
    rw[aU] at hbud
    have la:(vI acc).length=acc.length:=ae ..
    have lv:((vI (cY st q)).length:Int)=((cY st q).length:Int):=by rw[ae]
    refine hN _ _ (Ir fun N hN=>aJ rfl ⟨.inl ⟨rfl,_,cI.of ea5⟩,aJ rfl ⟨r,aJ rfl ⟨.inl (cI.of er5),an,_,aJ rfl ⟨rfl,ea5,?_,?_⟩⟩⟩⟩)
    ·rw[la]
     exact aF (show acc.length≤1000100 by omega) (by decide)
    have e6:upd H5 an (.lst (vI acc++[V.int ((vI (cY st q)).length:Int)])) an=some (.lst (vI (acc++[((cY st q).length:Int)]))):=by
     rw[aw,lv]
     show _=some (HO.lst (eD V.int (acc++[_])))
     rw[ba]
     rfl
    have hF6:sP C (upd H5 an (.lst (vI acc++[V.int ((vI (cY st q)).length:Int)]))) p O5 (bz st q).1:=hF5.off ea5 nO5' hacc
    have s06:aM H (upd H5 an (.lst (vI acc++[V.int ((vI (cY st q)).length:Int)]))):=s05.upd (s1.free han)
    have er6:upd H5 an (.lst (vI acc++[V.int ((vI (cY st q)).length:Int)])) r=some (.lst (vI (cY st q))):=by rw[aW nra];exact er5
    have pr6:upd H5 an (.lst (vI acc++[V.int ((vI (cY st q)).length:Int)])) pr=some (.lst (rs.map V.ref)):=by rw[aW npra];exact hpr5
    have prw6:Paired (fun b x=>b≠an∧upd H5 an (.lst (vI acc++[V.int ((vI (cY st q)).length:Int)])) b=some (.lst (vI x))) rs xs:=d9 (fun b x h=>⟨h.1,by rw[aW h.1];exact h.2⟩) prw5
    generalize upd H5 an (.lst (vI acc++[V.int ((vI (cY st q)).length:Int)]))=H6 at e6 hF6 s06 er6 pr6 prw6
    refine hN _ _ (Ir fun N hN=>aJ rfl ⟨.inl ⟨rfl,_,cI.of e6⟩,aJ rfl ⟨an,r,_,aJ rfl ⟨rfl,e6,er6,?_,?_⟩⟩⟩)
    ·rw[ae,aK,ae]
     exact aB (show _≤1000200 by simp;omega) (by decide)
    have hacc2:∃ x t,acc++((cY st q).length:Int)::cY st q=x::t∧0≤x:=by
     rcases hacc with rfl | ⟨x,t,rfl,hx⟩
     ·exact ⟨_,aJ rfl (by omega)⟩
     ·exact ⟨x,aJ rfl hx⟩
    have e7:upd H6 an (.lst (vI (acc++[((cY st q).length:Int)])++vI (cY st q))) an=some (.lst (vI (acc++((cY st q).length:Int)::cY st q))):=by
     rw[aw]
     show some (HO.lst (eD V.int _++eD V.int _))=some (HO.lst (eD V.int _))
     rw[← ba,dE]
     rfl
    have hF7:sP C (upd H6 an (.lst (vI (acc++[((cY st q).length:Int)])++vI (cY st q)))) p O5 (bz st q).1:=hF6.off e6 nO5' (.inr (by
     rcases hacc with rfl | ⟨x,t,rfl,hx⟩
     ·exact ⟨_,aJ rfl (by omega)⟩
     ·exact ⟨x,aJ rfl hx⟩))
    have s07:aM H (upd H6 an (.lst (vI (acc++[((cY st q).length:Int)])++vI (cY st q)))):=s06.upd (s1.free han)
    have pr7:upd H6 an (.lst (vI (acc++[((cY st q).length:Int)])++vI (cY st q))) pr=some (.lst (rs.map V.ref)):=by rw[aW npra];exact pr6
    have prw7:Paired (fun b x=>upd H6 an (.lst (vI (acc++[((cY st q).length:Int)])++vI (cY st q))) b=some (.lst (vI x))) rs xs:=d9 (fun b x h=>by rw[aW h.1];exact h.2) prw6
    generalize upd H6 an (.lst (vI (acc++[((cY st q).length:Int)])++vI (cY st q)))=H7 at e7 hF7 s07 pr7 prw7
    refine hN _ _ (aJ rfl (aJ rfl ⟨pr,rfl,⟨_,cI.of pr7⟩,fun D hD=>uH (ys:=eX (xs.map fun x=>1+x.length)) hD (cI.of pr7) (by rw[ae,ae];exact aF hx2 (by decide)) (by rw[ae,ae,ae,bC prw7]) (fun x=>rfl) (fun j v y hv hy H8 s8 R hR=>?_) (fun H8 s8 e8=>?_)⟩))
    ·obtain ⟨b,hb,rfl⟩:=fq hv
     obtain ⟨x,hx,hbx⟩:=cZ prw7 hb
     rw[aO,aO,hx] at hy
     cases aH hy
     refine aJ rfl ⟨b,aJ rfl ⟨.inl (cI.of (s8 _ _ hbx)),1,aJ rfl ⟨rfl,?_⟩⟩⟩
     have q:=hR H8 (aM.refl _)
     rw[ae]
     exact q
    have hgi:eX (xs.map fun x=>1+x.length)=((xs.map fun x=>1+x.length).map fun n=>((n:Nat):Int)).map V.int:=by show eD iv _=_;rw[bx (g:=V.int)];rfl
    refine ⟨D,aJ rfl ⟨cI.of (hgi▸e8),_,aJ rfl ⟨rfl,?_⟩⟩⟩
    rw[oB,← Nw]
    refine ⟨css'.length,by rw[hm,aU];omega,a+1+nums.length+(ou xs).length,(bz st q).1,O5,css',acc++((cY st q).length:Int)::cY st q,bud - (cY st q).length,_,_,_,_,aJ rfl ⟨rfl,?_,hF7.same s8,hO5,nO5',s07.trans s8,s8 _ _ e7,.inr hacc2,?_,fun c hc=>hal c (ao _ hc),lans.2,?_⟩⟩
    ·have:=congrArg (jk (ou xs).length) hd1
     rw[fI,iu] at this
     rw[this]
     exact hl'
    ·rw[← hto,bq]
     show _=acc++xj ((hZ st (cH ((p0::nums)::xs))).2::Be hZ (hZ st (cH ((p0::nums)::xs))).1 (css'.map cH))
     rw[hst]
     unfold xj
     rw[bQ,dE]
    ·rw[aK,aU]
     omega
   ·refine VN (c:=(a:Int)<((vI cs).length:Int)) (by rw[ll];omega) (go _ _ ⟨_,_,_,_,_,aJ rfl ?_⟩)
    rw[qE (by omega)] at hl
    have:=N5 hl
    subst this
    rw[← hto]
    show _=some (HO.lst (vI (acc++[])))
    rw[bY]
    exact ea
  ·rintro σ H2 ⟨v3,v4,v5,v6,v7,v8,rfl,e⟩
   exact aJ rfl (k H2 an e)
end
end Sk
namespace L2
open PySem PySem.Spec PyProof.Rows
open PySem.W (WData Codec OpenSpec Well WellAll ReadsW ReadsAllW)
mutual
inductive Dw (K:ai)(H:Hp):V→ji→Prop
 | hU:Dw K H .hU .none
 | bl (b:Bool):Dw K H (.bl b) (.bool b)
 | int (i:Int):Dw K H (.int i) (.int i)
 | str (x:bZ):Dw K H (.str x) (.str x)
 | Fd (b:Array UInt8):Dw K H (.Fd b) (.bytes b.toList)
 | lst {a:aj} {xs:List V} {ds:List ji}:cI K H a xs→pY K H xs ds→Dw K H (.ref a) (.list ds)
 | tup {a:aj} {xs:List V} {ds:List ji}:fR K H a xs→pY K H xs ds→Dw K H (.ref a) (.tuple ds)
inductive pY (K:ai)(H:Hp):List V→List ji→Prop
 | nil:pY K H [] []
 | cons {v:V} {vs:List V} {d:ji} {ds:List ji}:Dw K H v d→pY K H vs ds→pY K H (v::vs) (d::ds)
end
theorem IW {K:ai}{H:Hp}:∀ ns:List Int,pY K H (ns.map V.int) (ns.map ji.int)
 | []=>.nil
 | n::r=>.cons (.int n) (IW r)
theorem IP {K:ai}{H:Hp}:∀ (ns:List Int) (xs:List V),pY K H xs (ns.map ji.int)→xs=ns.map V.int
 | [],xs,h=>by
  cases h
  rfl
 | n::r,xs,h=>by
  cases h with
  | cons h1 h2 =>
   cases h1
   rw[IP r _ h2]<;>rfl
section
variable {P:aV}{w:bK}{K:ai}{H:Hp}{h:bW}{R:Lq}{cl:bZ→Option aj}
theorem Tp {a:aj}{xs:List V}(fu:qh P w H h)(KX:K.In h)(q:cI K H a xs):∃ (its:List ag) (o:fD) (n:Nat),di xs its∧h.get? a=some o∧o.cls=.type "list"∧o.data=.seq its.toArray n:=by
 rcases q with q | ⟨o,its,n,e,hc,_,hd,_,hv⟩
 ·obtain ⟨_,its,n,hv,e⟩:=(show fQ P w H h a (.lst xs) from q.ok fu)
  exact ⟨its,_,n,hv,e,rfl,rfl⟩
 ·exact ⟨its.toList,o,n,hv,KX _ _ e,hc,by simp[hd]⟩
theorem To {a:aj}{xs:List V}(fu:qh P w H h)(KX:K.In h)(q:fR K H a xs):∃ (its:List ag) (o:fD) (n:Nat),di xs its∧h.get? a=some o∧o.cls=.type "tuple"∧o.data=.seq its.toArray n:=by
 rcases q with q | ⟨o,its,n,e,hc,hd,_,hv⟩
 ·obtain ⟨_,its,hv,o,e,hc,n,hd⟩:=(show fQ P w H h a (.tup xs) from q.ok fu)
  exact ⟨its,o,n,hv,e,hc,hd⟩
 ·exact ⟨its.toList,o,n,hv,KX _ _ e,hc,by simp[hd]⟩
mutual
theorem Dw.reads (fu:qh P w H h)(KX:K.In h):∀ (d:ji) (v:V) (u:ag),Dw K H v d→RelV v u→∃ as,ReadsW R cl h u d as
 | .none,_,_,x,r=>by
  cases x
  cases r
  exact ⟨_,ReadsW.none⟩
 | .bool b,_,_,x,r=>by
  cases x
  cases r
  exact ⟨_,ReadsW.bool b⟩
 | .int i,_,_,x,r=>by
  cases x
  obtain ⟨t,rfl⟩:=r
  exact ⟨_,ReadsW.int i t⟩
 | .str s,_,_,x,r=>by
  cases x
  obtain ⟨t,rfl⟩:=r
  exact ⟨_,ReadsW.str s t⟩
 | .bytes b,_,_,x,r=>by
  cases x
  obtain ⟨t,rfl⟩:=r
  exact ⟨_,ReadsW.bytes _ t⟩
 | .list ds,_,_,x,r=>by
  cases x with
  | lst hs ha =>
   cases r
   obtain ⟨its,o,n,rv,ho,hc,hd⟩:=Tp fu KX hs
   obtain ⟨as,hr⟩:=Dw.readsAll fu KX ds _ its ha rv
   exact ⟨_,ReadsW.list ho hc hd hr⟩
 | .tuple ds,_,_,x,r=>by
  cases x with
  | tup hs ha =>
   cases r
   obtain ⟨its,o,n,rv,ho,hc,hd⟩:=To fu KX hs
   obtain ⟨as,hr⟩:=Dw.readsAll fu KX ds _ its ha rv
   exact ⟨_,ReadsW.tuple ho hc hd hr⟩
 | .float _,_,_,x,_=>by cases x
 | .dict _,_,_,x,_=>by cases x
 | .bytearray _,_,_,x,_=>by cases x
 | .set _,_,_,x,_=>by cases x
 | .frozenset _,_,_,x,_=>by cases x
 | .obj _ _,_,_,x,_=>by cases x
theorem Dw.readsAll (fu:qh P w H h)(KX:K.In h):∀ (ds:List ji) (vs:List V) (us:List ag),pY K H vs ds→di vs us→∃ as,ReadsAllW R cl h us ds as
 | [],_,_,x,r=>by
  cases x
  cases r
  exact ⟨_,ReadsAllW.nil⟩
 | d::ds,_,_,x,r=>by
  cases x with
  | cons h1 h2 =>
   cases r with
   | cons r1 r2 =>
    obtain ⟨as,q1⟩:=Dw.reads fu KX d _ _ h1 r1
    obtain ⟨bs,q2⟩:=Dw.readsAll fu KX ds _ _ h2 r2
    exact ⟨_,ReadsAllW.cons q1 q2⟩
end
end
mutual
def Hm:ji→Bool
 | .none=>true
 | .bool _=>true
 | .int _=>true
 | .str _=>true
 | .bytes _=>true
 | .list xs=>xf xs
 | .tuple xs=>xf xs
 | _=>false
def xf:List ji→Bool
 | []=>true
 | x::r=>Hm x&&xf r
end
theorem DV {α:Type}{f:α→ji}(h:∀ a,Hm (f a)=true):∀ l:List α,xf (l.map f)=true
 | []=>rfl
 | x::r=>by
  show (Hm (f x)&&xf (r.map f))=true
  rw[h x,DV h r]<;>rfl
theorem qU:∀ (c:Codec) (a:c.denote),Hm (c.enc a)=true
 | .unit,_=>rfl
 | .bool,_=>rfl
 | .int _ _,_=>rfl
 | .nat _ _,_=>rfl
 | .u8,_=>rfl
 | .bytes _ _,_=>rfl
 | .text _ _ _ _,_=>rfl
 | .list _ _ c,a=>DV (fun x=>qU c x) a
 | .pair c d,a=>by
  show (Hm (c.enc a.1)&&(Hm (d.enc a.2)&&true))=true
  rw[qU c a.1,qU d a.2]<;>rfl
 | .triple c d e,a=>by
  show (Hm (c.enc a.1)&&(Hm (d.enc a.2.1)&&(Hm (e.enc a.2.2)&&true)))=true
  rw[qU c a.1,qU d a.2.1,qU e a.2.2]<;>rfl
 | .option c,none=>rfl
 | .option c,some x=>qU c x
theorem AJ:∀ (cs:List Codec) (a:qB cs),xf (mG cs a)=true
 | [],_=>rfl
 | c::cs,a=>by
  show (Hm (c.enc a.1)&&xf (mG cs a.2))=true
  rw[qU c a.1,AJ cs a.2]<;>rfl
theorem tW:∀ {xs:List ji} {d:ji},d∈xs→d.weight≤qA xs
 | [],d,h=>absurd h (by simp)
 | x::r,d,h=>by
  show d.weight≤x.weight+1+qA r
  rcases aI.mp h with e | m
  ·rw[e]
   omega
  ·have z:=tW m
   omega
def toV:ag→V
 | .none=>.hU
 | .bool b=>.bl b
 | .int i _=>.int i
 | .str x _=>.str x
 | .bytes b _=>.Fd b
 | .ref a=>.ref a
 | _=>.hU
def JA (A:List aj):ag→Prop
 | .none=>True
 | .bool _=>True
 | .int _ _=>True
 | .str _ _=>True
 | .bytes _ _=>True
 | .ref a=>a∈A
 | _=>False
theorem JA.mono {A B:List aj}(h:∀ a∈A,a∈B):∀ {u:ag},JA A u→JA B u:=fun {u} x=>by
 cases u with
 | ref a=>exact h a x
 | none=>trivial
 | bool b=>trivial
 | int i t=>trivial
 | str s t=>trivial
 | bytes b t=>trivial
 | _=>exact ft x
theorem NB {A:List aj}{u:ag}(x:JA A u):RelV (toV u) u:=by
 cases u with
 | ref a=>rfl
 | none=>rfl
 | bool b=>rfl
 | int i t=>exact ⟨t,rfl⟩
 | str s t=>exact ⟨t,rfl⟩
 | bytes b t=>exact ⟨t,rfl⟩
 | _=>exact ft x
theorem oA {A:List aj}:∀ {vs:List ag},(∀ u∈vs,JA A u)→di (vs.map toV) vs
 | [],_=>.nil
 | u::r,h=>.cons (NB (h u (ax ..))) (oA fun x hx=>h x (ao _ hx))
def pZ (h:bW)(A:List aj)(a:aj):Prop:=∃ vs:List ag,vs.length≤aP∧(∀ u∈vs,JA A u) ∧
 (h.get? a=some {cls:=.type "list",data:=.seq vs.toArray}∨h.get? a=some {cls:=.type "tuple",data:=.seq vs.toArray})
theorem pZ.mono {h:bW}{A B:List aj}{a:aj}(k:∀ a∈A,a∈B)(x:pZ h A a):pZ h B a:=by
 obtain ⟨vs,h1,h2,h3⟩:=x
 exact ⟨vs,h1,fun u hu=>(h2 u hu).mono k,h3⟩
theorem nA {P:Ft}{h:bW}:∀ {vs:List ag} {ds:List ji},tN P h vs ds→vs.length=ds.length
 | _,_,.nil=>rfl
 | _,_,.cons _ b=>by
  show _+1=_+1
  rw[nA b]
theorem An {P:Ft}{h:bW}{v:ag}{ds:List ji}(x:Well P h v (.list ds)):∃ (a:aj) (vs:List ag),v=.ref a∧h.get? a=some {cls:=.type "list",data:=.seq vs.toArray}∧tN P h vs ds:=by
 cases x with
 | list ho qi=>exact ⟨_,_,rfl,ho,qi⟩
theorem yZ {P:Ft}{h:bW}{v:ag}{ds:List ji}(x:Well P h v (.tuple ds)):∃ (a:aj) (vs:List ag),v=.ref a∧h.get? a=some {cls:=.type "tuple",data:=.seq vs.toArray}∧tN P h vs ds:=by
 cases x with
 | tuple ho qi=>exact ⟨_,_,rfl,ho,qi⟩
theorem Ao {P:Ft}{h:bW}{us:List ag}{d:ji}{ds:List ji}(x:tN P h us (d::ds)):∃ (v:ag) (vs:List ag),us=v::vs∧Well P h v d∧tN P h vs ds:=by
 cases x with
 | cons a b=>exact ⟨_,_,rfl,a,b⟩
theorem IH {n:Nat}(h:n≤1048576):n≤aP:=aB h (by decide)
section
variable {P:Ft}{h:bW}
mutual
theorem OH:∀ (d:ji) (v:ag),Well P h v d→Hm d=true→d.weight≤1048576→∃ A:List aj,JA A v∧∀ a∈A,pZ h A a
 | .none,_,x,_,_=>by
  cases x
  exact ⟨[],trivial,fun a m=>absurd m (by simp)⟩
 | .bool b,_,x,_,_=>by
  cases x
  exact ⟨[],trivial,fun a m=>absurd m (by simp)⟩
 | .int i,_,x,_,_=>by
  cases x
  exact ⟨[],trivial,fun a m=>absurd m (by simp)⟩
 | .str s,_,x,_,_=>by
  cases x
  exact ⟨[],trivial,fun a m=>absurd m (by simp)⟩
 | .bytes b,_,x,_,_=>by
  cases x
  exact ⟨[],trivial,fun a m=>absurd m (by simp)⟩
 | .list ds,_,x,p,z=>by
  obtain ⟨a,vs,rfl,ho,qi⟩:=An x
  have z2:qA ds≤1048576:=z
  obtain ⟨A,h1,h2⟩:=u7 ds _ qi p fun d hd=>aB (tW hd) z2
  have k:∀ b∈A,b∈a::A:=fun b hb=>ao _ hb
  refine ⟨a::A,ax ..,fun b hb=>?_⟩
  rcases aI.mp hb with e | m
  ·rw[e]
   exact ⟨vs,IH (by rw[nA qi];exact aB (xx ds) z2),fun u hu=>(h1 u hu).mono k,.inl ho⟩
  ·exact (h2 b m).mono k
 | .tuple ds,_,x,p,z=>by
  obtain ⟨a,vs,rfl,ho,qi⟩:=yZ x
  have z2:qA ds≤1048576:=z
  obtain ⟨A,h1,h2⟩:=u7 ds _ qi p fun d hd=>aB (tW hd) z2
  have k:∀ b∈A,b∈a::A:=fun b hb=>ao _ hb
  refine ⟨a::A,ax ..,fun b hb=>?_⟩
  rcases aI.mp hb with e | m
  ·rw[e]
   exact ⟨vs,IH (by rw[nA qi];exact aB (xx ds) z2),fun u hu=>(h1 u hu).mono k,.inr ho⟩
  ·exact (h2 b m).mono k
 | .float _,_,_,p,_=>dP (show false=true from p)
 | .dict _,_,_,p,_=>dP (show false=true from p)
 | .bytearray _,_,_,p,_=>dP (show false=true from p)
 | .set _,_,_,p,_=>dP (show false=true from p)
 | .frozenset _,_,_,p,_=>dP (show false=true from p)
 | .obj _ _,_,_,p,_=>dP (show false=true from p)
theorem u7:∀ (ds:List ji) (vs:List ag),tN P h vs ds→xf ds=true→(∀ d∈ds,d.weight≤1048576)→∃ A:List aj,(∀ u∈vs,JA A u)∧∀ a∈A,pZ h A a
 | [],_,x,_,_=>by
  cases x
  exact ⟨[],fun u m=>absurd m (by simp),fun a m=>absurd m (by simp)⟩
 | d::ds,_,x,p,z=>by
  obtain ⟨v,vs,rfl,x1,x2⟩:=Ao x
  have q:Hm d=true∧xf ds=true:=lQ.mp p
  obtain ⟨A,a1,a2⟩:=OH d v x1 q.1 (z d (ax ..))
  obtain ⟨B,b1,b2⟩:=u7 ds vs x2 q.2 fun e he=>z e (ao _ he)
  have kA:∀ b∈A,b∈A++B:=fun b hb=>bu.mpr (.inl hb)
  have kB:∀ b∈B,b∈A++B:=fun b hb=>bu.mpr (.inr hb)
  refine ⟨A++B,fun u hu=>?_,fun b hb=>?_⟩
  ·rcases aI.mp hu with e | m
   ·rw[e]
    exact a1.mono kA
   ·exact (b1 u m).mono kB
  ·rcases bu.mp hb with m | m
   ·exact (a2 b m).mono kA
   ·exact (b2 b m).mono kB
end
end
def PR (o:fD):Option HO:=match o.data with
 | .seq vs _=>if (o.cls==ag.type "list")=true then some (.lT o (.lst (vs.toList.map toV))) else some (.lT o (.tup (vs.toList.map toV)))
 | _=>none
def ph (K:ai)(h:bW)(A:List aj):Hp:=fun b=>if b∈A then (if (K.lookup b).isNone=true then (h.get? b).bind PR else none) else none
def Ds (H:Hp):Prop:=∀ b,H b=none∨∃ o u,H b=some (.lT o u)
theorem Eg (vs:List ag):PR {cls:=.type "list",data:=.seq vs.toArray}=some (.lT {cls:=.type "list",data:=.seq vs.toArray} (.lst (vs.map toV))):=by
 show (if (ag.type "list"==ag.type "list")=true then some (HO.lT {cls:=.type "list",data:=.seq vs.toArray} (.lst (vs.toArray.toList.map toV))) else some (HO.lT {cls:=.type "list",data:=.seq vs.toArray} (.tup (vs.toArray.toList.map toV))))=_
 rw[if_pos (beq_self_eq_true _)]
theorem Ef (vs:List ag):PR {cls:=.type "tuple",data:=.seq vs.toArray}=some (.lT {cls:=.type "tuple",data:=.seq vs.toArray} (.tup (vs.map toV))):=by
 show (if (ag.type "tuple"==ag.type "list")=true then some (HO.lT {cls:=.type "tuple",data:=.seq vs.toArray} (.lst (vs.toArray.toList.map toV))) else some (HO.lT {cls:=.type "tuple",data:=.seq vs.toArray} (.tup (vs.toArray.toList.map toV))))=_
 rw[if_neg (by decide)]
section
variable {P:aV}{w:bK}{K:ai}{h:bW}{A:List aj}
theorem yd {b:aj}{o:fD}(hb:b∈A)(hk:K.lookup b=none)(e:h.get? b=some o):ph K h A b=PR o:=by
 unfold ph
 rw[if_pos hb,hk,if_pos (show (none:Option fD).isNone=true from rfl),e]<;>rfl
theorem QH {b:aj}{u:HO}(q:ph K h A b=some u):b∈A∧K.lookup b=none:=by
 unfold ph at q
 by_cases hb:b∈A
 ·rw[if_pos hb] at q
  cases hk:K.lookup b with
  | none=>exact ⟨hb,rfl⟩
  | some o =>
   rw[hk,if_neg (by simp)] at q
   cases q
 ·rw[if_neg hb] at q
  cases q
theorem yc (ar:∀ a∈A,pZ h A a){b:aj}{u:HO}(q:ph K h A b=some u):K.lookup b=none∧∃ vs:List ag,vs.length≤aP∧(∀ u∈vs,JA A u) ∧
  ((h.get? b=some {cls:=.type "list",data:=.seq vs.toArray}∧u=.lT {cls:=.type "list",data:=.seq vs.toArray} (.lst (vs.map toV))) ∨
   (h.get? b=some {cls:=.type "tuple",data:=.seq vs.toArray}∧u=.lT {cls:=.type "tuple",data:=.seq vs.toArray} (.tup (vs.map toV)))):=by
 obtain ⟨hb,hk⟩:=QH q
 obtain ⟨vs,h1,h2,h3⟩:=ar b hb
 refine ⟨hk,vs,h1,h2,?_⟩
 rcases h3 with e | e
 ·rw[yd hb hk e,Eg] at q
  exact .inl ⟨e,(aH q).symm⟩
 ·rw[yd hb hk e,Ef] at q
  exact .inr ⟨e,(aH q).symm⟩
theorem Lg (ar:∀ a∈A,pZ h A a):Ds (ph K h A):=fun b=>by
 cases q:ph K h A b with
 | none=>exact .inl rfl
 | some u =>
  obtain ⟨_,vs,_,_,⟨_,e⟩ | ⟨_,e⟩⟩:=yc ar q
  ·exact .inr ⟨_,_,by rw[e]⟩
  ·exact .inr ⟨_,_,by rw[e]⟩
theorem Rn (ar:∀ a∈A,pZ h A a):qh P w (ph K h A) h:=fun b u q=>by
 obtain ⟨_,vs,h1,h2,⟨e,rfl⟩ | ⟨e,rfl⟩⟩:=yc ar q
 ·exact ⟨e,by rw[ae];exact h1,vs,_,oA h2,e⟩
 ·exact ⟨e,by rw[ae];exact h1,vs,oA h2,_,e,rfl,_,rfl⟩
theorem xF {c c':ag}{vs us:List ag}(e:(some {cls:=c,data:=.seq vs.toArray}:Option fD)=some {cls:=c',data:=.seq us.toArray}):c=c'∧vs=us:=by
 have e1:=aH e
 have e2:c=c':=congrArg fD.cls e1
 have e3:Data.seq vs.toArray=Data.seq us.toArray:=congrArg fD.data e1
 injection e3 with e4
 refine ⟨e2,?_⟩
 have e5:=congrArg Ex e4
 simpa using e5
theorem WT (KX:K.In h)(ar:∀ a∈A,pZ h A a){a:aj}{vs:List ag}(ha:a∈A)(e:h.get? a=some {cls:=.type "list",data:=.seq vs.toArray}):(∀ u∈vs,JA A u)∧cI K (ph K h A) a (vs.map toV):=by
 obtain ⟨us,h1,h2,h3⟩:=ar a ha
 have hu:us=vs:=by
  rcases h3 with q | q
  ·rw[e] at q
   exact (xF q).2.symm
  ·rw[e] at q
   exact absurd (ag.type.inj (xF q).1) (by decide)
 subst hu
 refine ⟨h2,?_⟩
 cases hk:K.lookup a with
 | none=>exact .inl (.inr ⟨_,by rw[yd ha hk e,Eg]⟩)
 | some o =>
  have e2:=KX a o hk
  rw[e] at e2
  obtain rfl:=aH e2
  exact .inr ⟨_,us.toArray,_,hk,rfl,rfl,rfl,by rw[bD];exact h1,by simpa using oA h2⟩
theorem WS (KX:K.In h)(ar:∀ a∈A,pZ h A a){a:aj}{vs:List ag}(ha:a∈A)(e:h.get? a=some {cls:=.type "tuple",data:=.seq vs.toArray}):(∀ u∈vs,JA A u)∧fR K (ph K h A) a (vs.map toV):=by
 obtain ⟨us,h1,h2,h3⟩:=ar a ha
 have hu:us=vs:=by
  rcases h3 with q | q
  ·rw[e] at q
   exact absurd (ag.type.inj (xF q).1) (by decide)
  ·rw[e] at q
   exact (xF q).2.symm
 subst hu
 refine ⟨h2,?_⟩
 cases hk:K.lookup a with
 | none=>exact .inl (.inr ⟨_,by rw[yd ha hk e,Ef]⟩)
 | some o =>
  have e2:=KX a o hk
  rw[e] at e2
  obtain rfl:=aH e2
  exact .inr ⟨_,us.toArray,_,hk,rfl,rfl,by rw[bD];exact h1,by simpa using oA h2⟩
mutual
theorem Ud {Pm:Ft}(KX:K.In h)(ar:∀ a∈A,pZ h A a):∀ (d:ji) (v:ag),Well Pm h v d→Hm d=true→JA A v→Dw K (ph K h A) (toV v) d
 | .none,_,x,_,_=>by
  cases x
  exact .hU
 | .bool b,_,x,_,_=>by
  cases x
  exact .bl b
 | .int i,_,x,_,_=>by
  cases x
  exact .int i
 | .str s,_,x,_,_=>by
  cases x
  exact .str s
 | .bytes b,_,x,_,_=>by
  cases x
  have z:=Dw.Fd (K:=K) (H:=ph K h A) b.toArray
  exact z
 | .list ds,_,x,p,hu=>by
  obtain ⟨a,vs,rfl,ho,qi⟩:=An x
  obtain ⟨h2,hs⟩:=WT KX ar hu ho
  exact .lst hs (BU KX ar ds _ qi p h2)
 | .tuple ds,_,x,p,hu=>by
  obtain ⟨a,vs,rfl,ho,qi⟩:=yZ x
  obtain ⟨h2,hs⟩:=WS KX ar hu ho
  exact .tup hs (BU KX ar ds _ qi p h2)
 | .float _,_,_,p,_=>dP (show false=true from p)
 | .dict _,_,_,p,_=>dP (show false=true from p)
 | .bytearray _,_,_,p,_=>dP (show false=true from p)
 | .set _,_,_,p,_=>dP (show false=true from p)
 | .frozenset _,_,_,p,_=>dP (show false=true from p)
 | .obj _ _,_,_,p,_=>dP (show false=true from p)
theorem BU {Pm:Ft}(KX:K.In h)(ar:∀ a∈A,pZ h A a):∀ (ds:List ji) (vs:List ag),tN Pm h vs ds→xf ds=true→(∀ u∈vs,JA A u)→pY K (ph K h A) (vs.map toV) ds
 | [],_,x,_,_=>by
  cases x
  exact .nil
 | d::ds,_,x,p,hu=>by
  obtain ⟨v,vs,rfl,x1,x2⟩:=Ao x
  have q:Hm d=true∧xf ds=true:=lQ.mp p
  exact .cons (Ud KX ar d v x1 q.1 (hu _ (ax ..))) (BU KX ar ds vs x2 q.2 fun u m=>hu u (ao _ m))
end
end
theorem J0 {P:aV}{w:bK}{K:ai}{mg mb:bZ→Option ag}{CX:LA}{k:Nat}{fa:aj}{fd:bH}{ps:List bZ}{sp:Sp}{s₁:au}{vals:List ag}{ds:List ji}{R:Lq}{cl:bZ→Option aj}{d0:ji}
  (KX:K.In s₁.heap)(hns:s₁.heap.Ns c7 mg)(hb:s₁.heap.Ns builtinsNs mb)(hbb:∀ x:bZ,x≠"__name__"→mb x=bootBuiltins x)(hlim:s₁.heap.NoLimit)(hg:s₁.gens=#[])
  (hwl:tN w.params s₁.heap vals ds)(hpl:xf ds=true)(hwt:∀ d∈ds,d.weight≤1048576)(hr:fS k callerA)
  (F:∀ base:bW,K.In base→base.Ns c7 mg→cP P w K mg base CX k fa fd ps sp)(hbind:∀ (s:au) (us:List ag),us.length=ps.length→zZ s fd ⟨us,[]⟩ (ps.zip us))(hlen:ds.length=ps.length)
  (hsp:∀ (H:Hp) (xs:List V),Ds H→pY K H xs ds→sp xs H (fun v H'=>Dw K H' v d0) fun _ _ _=>False)
  (hCX:∀ H e s',CX [] H s₁ (fun _ _ _=>False) e s'→False) :
  codeAny (model P w) callerA (.call (.ref fa) ⟨vals,[]⟩) (fun r s'=>∃ u as,r=.ok (.ret u)∧ReadsW R cl s'.heap u d0 as∧OldK s₁.heap s'.heap∧s'.os=s₁.os∧z0 s'.gens) s₁:=by
 obtain ⟨A,ho,ar⟩:=u7 ds vals hwl hpl hwt
 have hO:Ds (ph K s₁.heap A):=Lg ar
 have fu:qh P w (ph K s₁.heap A) s₁.heap:=Rn ar
 have hS:=BU KX ar ds vals hwl hpl ho
 have hV:=oA ho
 have hK:∀ b u,ph K s₁.heap A b=some u→K.lookup b=none:=fun b u q=>(yc ar q).1
 have noA:∀ {b:aj} {o:fD} {es:Array fA} {ep:Nat},s₁.heap.get? b=some o→o.data=.dict es ep→ph K s₁.heap A b=none:=fun {b o es ep} e d=>by
  cases q:ph K s₁.heap A b with
  | none=>rfl
  | some u =>
   obtain ⟨_,vs,_,_,⟨e2,_⟩ | ⟨e2,_⟩⟩:=yc ar q
   ·rw[e2] at e
    cases e
    have d':Data.seq vs.toArray _=Data.dict es ep:=d
    cases d'
   ·rw[e2] at e
    cases e
    have d':Data.seq vs.toArray _=Data.dict es ep:=d
    cases d'
 generalize ph K s₁.heap A=H at hO fu hS hK noA
 have base_of:∀ {b:aj} {o:fD},s₁.heap.get? b=some o→H b=none→(Br s₁.heap H).get? b=some o:=fun e n=>Od e n
 have nsK:∀ {b:aj} {m:bZ→Option ag},s₁.heap.Ns b m→(Br s₁.heap H).Ns b m:=fun {b m} ⟨o,es,ep,e,d,r⟩=>⟨o,es,ep,base_of e (noA e d),d,r⟩
 have nK:∀ b o,K.lookup b=some o→H b=none:=fun b o e=>by
  cases q:H b with
  | none=>rfl
  | some u =>
   rw[hK b u q] at e
   cases e
 have hKb:K.In (Br s₁.heap H):=fun b o e=>base_of (KX b o e) (nK b o e)
 have hM:Mod K mg (Br s₁.heap H):=⟨hKb,nsK hns,⟨mb,nsK hb,hbb⟩,let ⟨mc,h1,h2⟩:=hlim;⟨mc,nsK h1,h2⟩⟩
 have e0:Fs P w K mg (Br s₁.heap H) callerA [] s₁ H:=⟨rfl,hM,fun b o e=>QG e,mS (KO _ _),trivial,fun b hb=>absurd (show b∈([]:List aj) from hb) (by simp),fu,.of_eq hg⟩
 have hl:vals.length=ps.length:=by rw[nA hwl];exact hlen
 refine jN ((F _ hKb (nsK hns)).run callerA [] s₁ H ⟨vals,[]⟩ vals (vals.map toV) _ _ hr e0 (hbind s₁ vals hl) hV (hsp H _ hO hS)) fun r s' x=>?_
 cases r with
 | error e=>exact (hCX H e s' x).elim
 | ok fl =>
  cases fl with
  | next=>exact ft x
  | brk=>exact ft x
  | cont=>exact ft x
  | ret u =>
   obtain ⟨v,H',os,bare,un,hok',r',q⟩:=x
   have kept:∀ b o,s₁.heap.get? b=some o→s'.heap.get? b=some o:=fun b o e=>by
    cases q2:H b with
    | none=>exact un.keep b o e q2 (by intro z;exact absurd (show b∈([]:List aj) from z) (by simp)) (by simp)
    | some u2 =>
     rcases hO b with z | ⟨ob,u3,z⟩
     ·rw[q2] at z
      cases z
     ·have z2:=un.yq b ob _ z
      obtain ⟨e1,_⟩:=fu b _ z
      obtain ⟨e2,_⟩:=hok' b _ z2
      rw[e] at e1
      cases e1
      exact e2
   have KX':K.In s'.heap:=fun b o e=>kept b o (KX b o e)
   obtain ⟨as,hrd⟩:=Dw.reads (R:=R) (cl:=cl) hok' KX' d0 v u q r'
   exact ⟨u,as,rfl,hrd,OldK.of_keep kept,os,bare⟩
theorem zM {ds:List ji}(h:ji.layableAll ds=true):∀ d∈ds,d.weight≤1048576:=fun d hd =>
 (PySem.W.layableW_iff.mp (dO.mp h d hd)).2.2
theorem zC:∀ (cs:List Codec) (a:qB cs),(mG cs a).length=cs.length
 | [],_=>rfl
 | c::cs,a=>by
  show (mG cs a.2).length+1=cs.length+1
  rw[zC cs a.2]
theorem JS {r:OpenSpec}{k:Nat}{q:aV}{loose:List bZ}{XP:(bZ→Option ag)→bW→Prop}{YP:bK→bW→Prop}{d:DefRec}{K:bK→ai}{CX:bK→LA}{ps:List bZ}{sp:bK→Sp}
  (hwell:r.wellSaid=true)(hdf:d.params.defaults=[])(hlen:r.args.length=ps.length)(hr:fS k callerA)
  (hY:∀ (w:bK) (h:bW),YP w h→(K w).In h)
  (F:∀ (w:bK) (mg:bZ→Option ag) (fa:aj) (h:bW),YP w h→(K w).In h→h.Ns c7 mg→mg d.name=some (.ref fa) →
   ∃ fd:bH,(∀ (s:au) (us:List ag),us.length=ps.length→zZ s fd ⟨us,[]⟩ (ps.zip us)) ∧
    ∀ base:bW,(K w).In base→base.Ns c7 mg→cP r.prog w (K w) mg base (CX w) k fa fd ps (sp w))
  (hsp:∀ (w:bK) (H:Hp) (xs:List V) (a:qB r.args),Ds H→Pu r.args a=true→xi r.args r.asked a=true→pY (K w) H xs (mG r.args a) →
   sp w xs H (fun v H'=>Dw (K w) H' v (r.ret.enc (xi r.args r.f a))) fun _ _ _=>False)
  (hCX:∀ (w:bK) (H:Hp) (s:au) (e:ag) (s':au),CX w [] H s (fun _ _ _=>False) e s'→False) :
  OX q loose XP YP r d [] (fun f vs=>PySem.call f vs):=by
 intro w s_0 s₁ mg mb G Y fa o pm cd doc dV kV ho hd hcd hD hmg hg args vals as hpre hlay hrd hwl hlo
 obtain ⟨a,e1,e2⟩:=PySem.W.os_pre_some hpre
 obtain ⟨e3,hwi⟩:=Codec.encAll_of_decAll r.args args a e1
 subst e3
 have KX:=hY w _ Y
 obtain ⟨fd,hb,hF⟩:=F w mg fa _ Y KX G.T.g hmg
 refine PySem.W.enter_call (jN (J0 (R:=[]) (cl:=classAt s_0.heap) (d0:=r.ret.enc (xi r.args r.f a)) KX G.T.g G.T.b G.T.builtins G.T.nolimit hg hwl (AJ _ _) (zM hlay) hr hF hb (by rw[zC];exact hlen)
  (fun H xs hO hS=>hsp w H xs a hO hwi e2 hS) fun H e s'=>hCX w H s₁ e s') fun r' s' hq=>?_)
 obtain ⟨u,as',rfl,h1,h2,h3,h4⟩:=hq
 exact ⟨.inl ⟨u,_,as',rfl,fun _=>rfl,h1,(OpenSpec.post_iff hwell hwi _ _).mpr rfl,fun z=>dP (show false=true from z)⟩,h2,h3,h4⟩
theorem Gh {r:OpenSpec}{k:Nat}{q:aV}{loose:List bZ}{XP:(bZ→Option ag)→bW→Prop}{YP:bK→bW→Prop}{d:DefRec}{K:bK→ai}{CX:LA}{ps:List bZ}{sp:ai→Sp}
  (hwell:r.wellSaid=true)(hdf:d.params.defaults=[])(hlen:r.args.length=ps.length)(hr:fS k callerA)
  (hY:∀ (w:bK) (h:bW),YP w h→(K w).In h)
  (F:∀ (w:bK) (mg:bZ→Option ag) (fa:aj) (h:bW),YP w h→(K w).In h→h.Ns c7 mg→mg d.name=some (.ref fa) →
   ∃ fd:bH,(∀ (s:au) (us:List ag),us.length=ps.length→zZ s fd ⟨us,[]⟩ (ps.zip us)) ∧
    ∀ base:bW,(K w).In base→base.Ns c7 mg→cP r.prog w (K w) mg base CX k fa fd ps (sp (K w)))
  (hsp:∀ (K:ai) (H:Hp) (xs:List V) (a:qB r.args),Ds H→Pu r.args a=true→xi r.args r.asked a=true→pY K H xs (mG r.args a) →
   sp K xs H (fun v H'=>Dw K H' v (r.ret.enc (xi r.args r.f a))) fun _ _ _=>False)
  (hCX:∀ (H:Hp) (s:au) (e:ag) (s':au),CX [] H s (fun _ _ _=>False) e s'→False) :
  OX q loose XP YP r d [] (fun f vs=>PySem.call f vs) :=
 JS (K:=K) (CX:=fun _=>CX) (sp:=fun w=>sp (K w)) hwell hdf hlen hr hY F (fun w H xs a h1 h2 h3 h4=>hsp (K w) H xs a h1 h2 h3 h4) fun _ H s e s'=>hCX H s e s'
end L2
namespace Sk
open PySem PySem.Spec PyProof.Rows L2
section
variable {K:ai}{mg:bZ→Option ag}{x q m:bZ}{st:d3}{f c:aj}{fd:bH}{t:Nat}
abbrev Wm (x q:bZ)(st:d3)(c:aj)(m:bZ)(t:Nat):bH:=fE x q (jr st) (i3 st) (bB st) .none .none .none (.str m t) none (.ref c) .none
def WQ:d3→jR
 | .FunctionDef _ _ _ _ _ _ _ _ _ p=>p
 | _=>default
theorem iT (h:FK K x st f c m t):jb K x x st f (Wm x x st c m t):=MG h.2.1 h.2.2.1 h.2.2.2
theorem qo (h:MK K m q st f c):jb K m q st f (Wm m q st c "soundkin.family" 466):=MG h.2.2.1 h.2.2.2.1 h.2.2.2.2
theorem zP (h:MK K m q st f c):yr K 343 m f:=⟨h.1,h.2.1,h.2.2.2.2⟩
theorem vz {K:ai}{h:bW}{v:Int}(X:K.In h)(G:h.Ns c7 mg)(a:i5 K c7 x=some (some (.int v t))):∃ t,mg x=some (.int v t):=⟨t,aT X G a⟩
theorem qJ {p0:bZ}(F:jb K x q st f fd)(h:∀ (kV doc pm:ag) (an:Option aj) (gq ct u0:ag),bindArgs (fE x q (jr st) (i3 st) (bB st) .none kV doc pm an gq ct) ⟨[u0],[]⟩=pure ([p0].zip [u0]):=by intros;rfl):Binds K fd [p0] [] :=
 F.binds fun kV doc pm an gq ct us hl=>match us,hl with | [u0],_=>h kV doc pm an gq ct u0
theorem qI {p0 p1:bZ}(F:jb K x q st f fd)(h:∀ (kV doc pm:ag) (an:Option aj) (gq ct u0 u1:ag),bindArgs (fE x q (jr st) (i3 st) (bB st) .none kV doc pm an gq ct) ⟨[u0,u1],[]⟩=pure ([p0,p1].zip [u0,u1]):=by intros;rfl):Binds K fd [p0,p1] [] :=
 F.binds fun kV doc pm an gq ct us hl=>match us,hl with | [u0,u1],_=>h kV doc pm an gq ct u0 u1
theorem sR {p0 p1 p2:bZ}(F:jb K x q st f fd)(h:∀ (kV doc pm:ag) (an:Option aj) (gq ct u0 u1 u2:ag),bindArgs (fE x q (jr st) (i3 st) (bB st) .none kV doc pm an gq ct) ⟨[u0,u1,u2],[]⟩=pure ([p0,p1,p2].zip [u0,u1,u2]):=by intros;rfl):Binds K fd [p0,p1,p2] [] :=
 F.binds fun kV doc pm an gq ct us hl=>match us,hl with | [u0,u1,u2],_=>h kV doc pm an gq ct u0 u1 u2
theorem S0 {p0 p1 p2 p3:bZ}(F:jb K x q st f fd)(h:∀ (kV doc pm:ag) (an:Option aj) (gq ct u0 u1 u2 u3:ag),bindArgs (fE x q (jr st) (i3 st) (bB st) .none kV doc pm an gq ct) ⟨[u0,u1,u2,u3],[]⟩=pure ([p0,p1,p2,p3].zip [u0,u1,u2,u3]):=by intros;rfl):Binds K fd [p0,p1,p2,p3] [] :=
 F.binds fun kV doc pm an gq ct us hl=>match us,hl with | [u0,u1,u2,u3],_=>h kV doc pm an gq ct u0 u1 u2 u3
theorem WR {p0 p1 p2 p3 p4 p5:bZ}(F:jb K x q st f fd)(h:∀ (kV doc pm:ag) (an:Option aj) (gq ct u0 u1 u2 u3 u4 u5:ag),bindArgs (fE x q (jr st) (i3 st) (bB st) .none kV doc pm an gq ct) ⟨[u0,u1,u2,u3,u4,u5],[]⟩=pure ([p0,p1,p2,p3,p4,p5].zip [u0,u1,u2,u3,u4,u5]):=by intros;rfl):Binds K fd [p0,p1,p2,p3,p4,p5] [] :=
 F.binds fun kV doc pm an gq ct us hl=>match us,hl with | [u0,u1,u2,u3,u4,u5],_=>h kV doc pm an gq ct u0 u1 u2 u3 u4 u5
end
theorem Mb {K:ai}{a:aj}{od:Option aj}{its:Array ag}{n:Nat}{sl:Array (Option ag)}{xs:List V}(l:K.lookup a=some ⟨.type "tuple",od,.seq its n,sl⟩)(z:its.size≤aP)(v:di xs its.toList)(H:Hp):fR K H a xs:=.inr ⟨_,its,n,l,rfl,rfl,z,v⟩
theorem Hl {K:ai}{a:aj}{i j:Int}{t u:Nat}(l:SK K a i t j u)(H:Hp):fR K H a [V.int i,V.int j] :=
 Mb (xs:=[V.int i,V.int j]) l Bm (show di [V.int i,V.int j] [.int i t,.int j u] from .cons (show RelV (.int i) (.int i t) from ⟨t,rfl⟩) (.cons (show RelV (.int j) (.int j u) from ⟨u,rfl⟩) .nil)) H
theorem J7 {K:ai}{h:bW}{mg:bZ→Option ag}(X:K.In h)(G:h.Ns c7 mg)(S:i5 K c7 "SHAPES"=some (some (.ref 217))∧K.lookup 217=some ⟨.type "tuple",none,.seq #[.ref 203,.ref 204,.ref 205,.ref 206,.ref 207,.ref 208,.ref 209,.ref 210,.ref 211,.ref 212,.ref 213,.ref 214,.ref 215,.ref 216] 0,#[]⟩)
  (s0:SK K 203 1 514 0 515)
  (s1:SK K 204 3 516 0 517)
  (s2:SK K 205 0 518 2 519)
  (s3:SK K 206 0 520 1 521)
  (s4:SK K 207 0 522 0 523)
  (s5:SK K 208 0 524 0 525)
  (s6:SK K 209 1 526 0 527)
  (s7:SK K 210 1 528 1 529)
  (s8:SK K 211 1 530 0 531)
  (s9:SK K 212 0 532 1 533)
  (s10:SK K 213 0 534 0 535)
  (s11:SK K 214 2 536 0 537)
  (s12:SK K 215 2 538 0 539)
  (s13:SK K 216 0 540 0 541):S4 K mg:=by
 refine ⟨217,[203,204,205,206,207,208,209,210,211,212,213,214,215,216],aT X G S.1,Mb (xs:=[V.ref 203,V.ref 204,V.ref 205,V.ref 206,V.ref 207,V.ref 208,V.ref 209,V.ref 210,V.ref 211,V.ref 212,V.ref 213,V.ref 214,V.ref 215,V.ref 216]) S.2 (by show 14≤aP;decide) ((.cons rfl (.cons rfl (.cons rfl (.cons rfl (.cons rfl (.cons rfl (.cons rfl (.cons rfl (.cons rfl (.cons rfl (.cons rfl (.cons rfl (.cons rfl (.cons rfl .nil))))))))))))))),fun p n k hs=>?_⟩
 rcases rm hs with z | z | z | z | z | z | z | z | z | z | z | z | z | z<;>obtain ⟨rfl,rfl,rfl⟩:=z
 ·exact ⟨203,rfl,Hl s0⟩
 ·exact ⟨204,rfl,Hl s1⟩
 ·exact ⟨205,rfl,Hl s2⟩
 ·exact ⟨206,rfl,Hl s3⟩
 ·exact ⟨207,rfl,Hl s4⟩
 ·exact ⟨208,rfl,Hl s5⟩
 ·exact ⟨209,rfl,Hl s6⟩
 ·exact ⟨210,rfl,Hl s7⟩
 ·exact ⟨211,rfl,Hl s8⟩
 ·exact ⟨212,rfl,Hl s9⟩
 ·exact ⟨213,rfl,Hl s10⟩
 ·exact ⟨214,rfl,Hl s11⟩
 ·exact ⟨215,rfl,Hl s12⟩
 ·exact ⟨216,rfl,Hl s13⟩
theorem all_mk {P:aV}{w:bK}{K:ai}{h:bW}{mg:bZ→Option ag}{fa:aj}(X:K.In h)(G:h.Ns c7 mg)(hfa:mg "answers"=some (.ref fa))
  (aC:i5 K c7 "Family"=some (some (.ref 343)))
  (a3:FK K "answers" Bq 388 387 "soundkin.family" 466)
  (pg:i8 K 343 P0=true)
  (hd:j6 K 343=true)
  (po:nG K 343=true)
  (sa:eK K (.ref 343) "__setattr__"=some (some (.builtin "object.__setattr__")))
  (mk:p9 K 343=true)
  (kc:aQ K (.ref 343)=true)
  (EI:CK K "languages")
  (TZ:CK K "told")
  (QL:CK K "costs")
  (QK:CK K "words")
  (EH:CK K "told_tree")
  (BW:MK K "__init__" "Family.__init__" HC 231 230)
  (yf:MK K "start_over" "Family.start_over" BB 238 237)
  (yX:MK K "begins" "Family.begins" xS 245 244)
  (F9:MK K "cost" "Family.cost" HH 252 251)
  (wg:MK K "beside" "Family.beside" uT 259 258)
  (F7:MK K "word" "Family.word" Hu 264 263)
  (uh:MK K "patterns" "Family.patterns" sy 271 270)
  (Cv:MK K "olds" "Family.olds" BG 278 277)
  (yV:MK K "reflex" "Family.reflex" xJ 283 282)
  (ui:MK K "expected" "Family.expected" sA 288 287)
  (yW:MK K "leave" "Family.leave" xM 295 294)
  (Cu:MK K "tree" "Family.tree" BA 302 301)
  (pR:MK K "scores_on" "Family.scores_on" sx 307 306)
  (yU:MK K "score" "Family.score" xI 314 313)
  (sL:MK K "refused_place" "Family.refused_place" uR 321 320)
  (F8:MK K "root" "Family.root" Hy 328 327)
  (wc:MK K "states" "Family.states" uQ 335 334)
  (Ga:MK K "best" "Family.best" HJ 340 339)
  (oM:FK K "change_cost" xR 21 20 "soundkin.sounds" 187)
  (BY:FK K "read_tree" Hz 28 27 "soundkin.trees" 204)
  (yg:FK K "write_tree" By 35 34 "soundkin.trees" 204)
  (B3:FK K "has_each_once" HG 40 39 "soundkin.trees" 204)
  (vF:FK K "end_of" PJ 47 46 "soundkin.trees" 204)
  (sr:FK K "parts_of" BE 54 53 "soundkin.trees" 204)
  (yi:FK K "with_language" Bz 61 60 "soundkin.trees" 204)
  (B5:FK K "all_trees" HK 68 67 "soundkin.trees" 204)
  (vc:FK K "choices_of" xP 73 72 "soundkin.along" 275)
  (vD:FK K "cheapest_step" Hw 78 77 "soundkin.along" 275)
  (B0:FK K "language_may_be" HB 83 82 "soundkin.along" 275)
  (ym:FK K "joint_may_be" BJ 88 87 "soundkin.along" 275)
  (su:FK K "nodes_may_be" BH 93 92 "soundkin.along" 275)
  (oK:FK K "cheapest_sounds" xQ 98 97 "soundkin.along" 275)
  (sq:FK K "score_and_roots" BC 105 104 "soundkin.along" 275)
  (u9:FK K "states_on" xH 110 109 "soundkin.along" 275)
  (yh:FK K "with_pair" Hv 117 116 "soundkin.beside" 328)
  (sM:FK K "choices_at" uS 124 123 "soundkin.beside" 328)
  (yn:FK K "cheapest" BM 129 128 "soundkin.beside" 328)
  (HU:FK K "lay_beside" PH 136 135 "soundkin.beside" 328)
  (iQ:FK K "count_places" BL 143 142 "soundkin.olds" 371)
  (HS:FK K "may_be_one" PF 150 149 "soundkin.olds" 371)
  (B2:FK K "fits" HF 157 156 "soundkin.olds" 371)
  (wF:FK K "first_way" PD 164 163 "soundkin.olds" 371)
  (vE:FK K "give_old_sounds" HD 171 170 "soundkin.olds" 371)
  (Al:FK K "by_old_sound" Wa 176 175 "soundkin.olds" 371)
  (Am:FK K "becomes" PK 183 182 "soundkin.olds" 371)
  (BZ:FK K "with_one_more" HA 190 189 "soundkin.olds" 371)
  (vb:FK K "are_enough" xO 197 196 "soundkin.olds" 371)
  (yl:FK K "leave_out" BI 202 201 "soundkin.olds" 371)
  (B1:FK K "is_row_of_sounds" HE 352 351 "soundkin.family" 466)
  (yj:FK K "is_place" BD 357 356 "soundkin.family" 466)
  (va:FK K "read_places" xK 364 363 "soundkin.family" 466)
  (yk:FK K "read_pairs" BF 369 368 "soundkin.family" 466)
  (BX:FK K "read_rows" Hx 376 375 "soundkin.family" 466)
  (B4:FK K "answer_call" HI 383 382 "soundkin.family" 466)
  (rN_UNKNOWN:NK K "UNKNOWN" 0 189)
  (rN_NO_SOUND:NK K "NO_SOUND" 1 191)
  (rN_COST_UNTOLD:NK K "COST_UNTOLD" 10 193)
  (rN_JOINT:NK K "JOINT" (-1) 207)
  (rN_WRITTEN_LANGUAGE:NK K "WRITTEN_LANGUAGE" 0 209)
  (rN_WRITTEN_JOINT:NK K "WRITTEN_JOINT" 1 211)
  (rN_OUT_OF_RANGE:NK K "OUT_OF_RANGE" (-1) 469)
  (rN_NO_TREE:NK K "NO_TREE" (-4) 472)
  (rN_TOO_MANY:NK K "TOO_MANY" (-5) 475)
  (rN_NOT_THERE:NK K "NOT_THERE" (-6) 478)
  (rN_LANGUAGES_AT_FIRST:NK K "LANGUAGES_AT_FIRST" 2 480)
  (rN_MOST_COSTS:NK K "MOST_COSTS" 200 482)
  (rN_MOST_WORDS:NK K "MOST_WORDS" 6 484)
  (rN_MOST_PATTERNS:NK K "MOST_PATTERNS" 8 486)
  (rN_BEGINS:NK K "BEGINS" 0 488)
  (rN_COST:NK K "COST" 1 490)
  (rN_BESIDE:NK K "BESIDE" 2 492)
  (rN_WORD:NK K "WORD" 3 494)
  (rN_PATTERNS:NK K "PATTERNS" 4 496)
  (rN_OLDS:NK K "OLDS" 5 498)
  (rN_REFLEX:NK K "REFLEX" 6 500)
  (rN_EXPECTED:NK K "EXPECTED" 7 502)
  (rN_LEAVE:NK K "LEAVE" 8 504)
  (rN_TREE:NK K "TREE" 9 506)
  (rN_SCORE:NK K "SCORE" 10 508)
  (rN_ROOT:NK K "ROOT" 11 510)
  (rN_STATES:NK K "STATES" 12 512)
  (rB_len:BK K "len")
  (rB_all:BK K "all")
  (rB_any:BK K "any")
  (rB_sum:BK K "sum")
  (rB_sorted:BK K "sorted")
  (rB_set:BK K "set")
  (rB_list:BK K "list")
  (rB_tuple:BK K "tuple")
  (rB_min:BK K "min")
  (rB_max:BK K "max")
  (rB_range:BK K "range")
  (rB_zip:BK K "zip")
  (rB_enumerate:BK K "enumerate")
  (rB_dict:BK K "dict")
  (TS:S4 K mg) :
  ∃ fd:bH,(∀ (s:au) (us:List ag),us.length=(["calls"]:List bZ).length→zZ s fd ⟨us,[]⟩ ((["calls"]:List bZ).zip us))∧∀ base:bW,K.In base→base.Ns c7 mg→cP P w K mg base fG 16 fa fd ["calls"] (Hr K):=by
 have e:=hfa.symm.trans (aT X G a3.1)
 cases e
 clear hfa
 refine ⟨Wm "answers" "answers" Bq 387 "soundkin.family" 466,fun s us hu=>match us,hu with | [_],_=>.of_eq rfl,fun base _ _=>?F⟩
 have Bc:=vz X G rN_UNKNOWN
 have Hd:=vz X G rN_NO_SOUND
 have Aa:=vz X G rN_COST_UNTOLD
 have Jl:=vz X G rN_JOINT
 have uo:=vz X G rN_WRITTEN_LANGUAGE
 have xu:=vz X G rN_WRITTEN_JOINT
 have zN:=vz X G rN_OUT_OF_RANGE
 have Lh:=vz X G rN_NO_TREE
 have Hb:=vz X G rN_TOO_MANY
 have E2:=vz X G rN_NOT_THERE
 have rT:=vz X G rN_LANGUAGES_AT_FIRST
 have CO:=vz X G rN_MOST_COSTS
 have CN:=vz X G rN_MOST_WORDS
 have xw:=vz X G rN_MOST_PATTERNS
 have OM:=vz X G rN_BEGINS
 have UD:=vz X G rN_COST
 have OL:=vz X G rN_BESIDE
 have Uz:=vz X G rN_WORD
 have Hc:=vz X G rN_PATTERNS
 have UC:=vz X G rN_OLDS
 have OJ:=vz X G rN_REFLEX
 have He:=vz X G rN_EXPECTED
 have Rr:=vz X G rN_LEAVE
 have UA:=vz X G rN_TREE
 have Rq:=vz X G rN_SCORE
 have UB:=vz X G rN_ROOT
 have OI:=vz X G rN_STATES
 have yz:=de X G rB_len
 have V6:=de X G rB_all
 have V5:=de X G rB_any
 have L7:=de X G rB_sum
 have yY:=de X G rB_sorted
 have Sw:=de X G rB_set
 have B6:=de X G rB_list
 have RJ:=de X G rB_tuple
 have HV:=de X G rB_min
 have L8:=de X G rB_max
 have sv:=de X G rB_range
 have L6:=de X G rB_zip
 have E6:=de X G rB_enumerate
 have UP:=de X G rB_dict
 have T:nP K mg 343:=⟨⟨pg,hd,po,sa⟩,EI,TZ,QL,QK,EH,aT X G aC,zN,Lh,Hb,E2,rT,CO,CN,xw⟩
 have TF:qk mg:=⟨yz,V6,V5,L7,yY,Sw,B6,RJ,HV,L8,sv,L6⟩
 have TB:S5 K mg:=⟨Hd,Aa⟩
 have TO:LU K mg:=⟨Bc,L6,yz⟩
 have TO2:Dr mg:=⟨L8,sv,L6,yz,B6,E6⟩
 have TT:Df mg:=⟨Jl,uo,xu,yz,sv,B6,yY⟩
 have TA:Dg mg:=⟨Bc,Jl,yz,sv,B6,yY,Sw,HV,L7,UP⟩
 have TN:Vl mg:=⟨OM,UD,OL,Uz,Hc,UC,OJ,He,Rr,UA,Rq,UB,OI⟩
 have Es:=Kp (P:=P) (w:=w) (mg:=mg) (base:=base) (iT oM) TB
 have Em:Binds K _ ["costs","one","other"] []:=sR (iT oM)
 have Rv:=Qq (P:=P) (w:=w) (mg:=mg) (base:=base) (iT yh) Es (aT X G oM.1) oM.2.2.2 Em
 have Q7:Binds K _ ["one","other","rest","costs"] []:=S0 (iT yh)
 have Lm:=GC (P:=P) (w:=w) (mg:=mg) (base:=base) (iT sM) TB yz Rv (aT X G yh.1) yh.2.2.2 Q7
 have Lc:Binds K _ ["first","second","i","j","known","costs"] []:=WR (iT sM)
 have RH:=NZ (P:=P) (w:=w) (mg:=mg) (base:=base) (iT yn) HV L7
 have Rk:Binds K _ ["choices"] []:=qJ (iT yn)
 have V4:=TM (P:=P) (w:=w) (mg:=mg) (base:=base) (iT HU) yz sv Lm (aT X G sM.1) sM.2.2.2 Lc RH (aT X G yn.1) yn.2.2.2 Rk
 have V1:Binds K _ ["first","second","costs"] []:=sR (iT HU)
 have sk:=NY (P:=P) (w:=w) (mg:=mg) (base:=base) (iT iQ)
 have r9:Binds K _ ["words"] []:=qJ (iT iQ)
 have V3:=TK (P:=P) (w:=w) (mg:=mg) (base:=base) (iT HS) TO
 have V0:Binds K _ ["pattern","other"] []:=qI (iT HS)
 have UK:=QA (P:=P) (w:=w) (mg:=mg) (base:=base) (iT B2) TO V3 (aT X G HS.1) HS.2.2.2 V0
 have Us:Binds K _ ["patterns","given","number"] []:=sR (iT B2)
 have L5:Binds K _ ["patterns","limit","given"] []:=sR (iT wF)
 have Sn:=Mv (P:=P) (w:=w) (mg:=mg) (base:=base) (iT wF) TO HV L8 sv UK (aT X G B2.1) B2.2.2.2 Us (aT X G wF.1) wF.2.2.2 L5 9
 have MU:=Qy (P:=P) (w:=w) (mg:=mg) (base:=base) (iT vE) Sn (aT X G wF.1) wF.2.2.2 L5
 have MR:Binds K _ ["patterns"] []:=qJ (iT vE)
 have Sq:=TR (P:=P) (w:=w) (mg:=mg) (base:=base) (iT Am) TO
 have Sl:Binds K _ ["patterns","surroundings","language"] []:=sR (iT Am)
 have So:=VH (P:=P) (w:=w) (mg:=mg) (base:=base) (iT Al) TO2 MU (aT X G vE.1) vE.2.2.2 MR
 have Sj:Binds K _ ["patterns"] []:=qJ (iT Al)
 have UH:=Qv (P:=P) (w:=w) (mg:=mg) (base:=base) (iT BZ) TO2
 have Up:Binds K _ ["choices","how_many"] []:=qI (iT BZ)
 have OS:=Km (P:=P) (w:=w) (mg:=mg) (base:=base) (iT vb) TO2 sk (aT X G iQ.1) iQ.2.2.2 r9 Sn (aT X G wF.1) wF.2.2.2 L5
 have OE:Binds K _ ["words","limit"] []:=qI (iT vb)
 have RF:=NW (P:=P) (w:=w) (mg:=mg) (base:=base) (iT yl) TO2 OS (aT X G vb.1) vb.2.2.2 OE UH (aT X G BZ.1) BZ.2.2.2 Up
 have Ri:Binds K _ ["words","limit"] []:=qI (iT yl)
 have UG:=Qu (P:=P) (w:=w) (mg:=mg) (base:=base) (iT BY) TT
 have Uo:Binds K _ ["row"] []:=qJ (iT BY)
 have Ru:=NM (P:=P) (w:=w) (mg:=mg) (base:=base) (iT yg) TT
 have Q6:Binds K _ ["tree"] []:=qJ (iT yg)
 have MV:=TQ (P:=P) (w:=w) (mg:=mg) (base:=base) (iT vF) TT
 have MS:Binds K _ ["tree","at"] []:=qI (iT vF)
 have Jn:=NS (P:=P) (w:=w) (mg:=mg) (base:=base) (iT sr) TT MV (aT X G vF.1) vF.2.2.2 MS
 have Jh:Binds K _ ["tree","at"] []:=qI (iT sr)
 have UL:=QB (P:=P) (w:=w) (mg:=mg) (base:=base) (iT B3) TT
 have Ut:Binds K _ ["tree","languages"] []:=qI (iT B3)
 have Rw:=NN (P:=P) (w:=w) (mg:=mg) (base:=base) (iT yi) TT MV (aT X G vF.1) vF.2.2.2 MS
 have Q8:Binds K _ ["trees","language"] []:=qI (iT yi)
 have UN:=QF (P:=P) (w:=w) (mg:=mg) (base:=base) (iT B5) TT Rw (aT X G yi.1) yi.2.2.2 Q8
 have Uv:Binds K _ ["languages"] []:=qJ (iT B5)
 have OT:=Kn (P:=P) (w:=w) (mg:=mg) (base:=base) (iT vc) TA
 have OF:Binds K _ ["sounds"] []:=qJ (iT vc)
 have MT:=Qr (P:=P) (w:=w) (mg:=mg) (base:=base) (iT vD) TA Es (aT X G oM.1) oM.2.2.2 Em
 have MQ:Binds K _ ["sound","below","costs"] []:=sR (iT vD)
 have UI:=Qw (P:=P) (w:=w) (mg:=mg) (base:=base) (iT B0) TA
 have Uq:Binds K _ ["own","choices"] []:=qI (iT B0)
 have RG:=NX (P:=P) (w:=w) (mg:=mg) (base:=base) (iT ym) TA MT (aT X G vD.1) vD.2.2.2 MQ
 have Rj:Binds K _ ["choices","parts","costs"] []:=sR (iT ym)
 have Jo:=NV (P:=P) (w:=w) (mg:=mg) (base:=base) (iT su) TA OT (aT X G vc.1) vc.2.2.2 OF Jn (aT X G sr.1) sr.2.2.2 Jh RG (aT X G ym.1) ym.2.2.2 Rj UI (aT X G B0.1) B0.2.2.2 Uq
 have Ji:Binds K _ ["tree","sounds","costs"] []:=sR (iT su)
 have Er:=Ko (P:=P) (w:=w) (mg:=mg) (base:=base) (iT oK) TA
 have El:Binds K _ ["may_be"] []:=qJ (iT oK)
 have Jm:=NQ (P:=P) (w:=w) (mg:=mg) (base:=base) (iT sq) Jo (aT X G su.1) su.2.2.2 Ji Er (aT X G oK.1) oK.2.2.2 El
 have Jg:Binds K _ ["tree","sounds","costs"] []:=sR (iT sq)
 have OO:=Kh (P:=P) (w:=w) (mg:=mg) (base:=base) (iT u9) TA Jo (aT X G su.1) su.2.2.2 Ji Er (aT X G oK.1) oK.2.2.2 El Jn (aT X G sr.1) sr.2.2.2 Jh MT (aT X G vD.1) vD.2.2.2 MQ
 have OA:Binds K _ ["tree","sounds","costs"] []:=sR (iT u9)
 have UJ:=Qz (P:=P) (w:=w) (mg:=mg) (base:=base) (iT B1) TF
 have Ur:Binds K _ ["row"] []:=qJ (iT B1)
 have Rx:=NR (P:=P) (w:=w) (mg:=mg) (base:=base) (iT yj) TF
 have Q9:Binds K _ ["place","languages"] []:=qI (iT yj)
 have OP:=Kk (P:=P) (w:=w) (mg:=mg) (base:=base) (iT va) TF
 have OB:Binds K _ ["row"] []:=qJ (iT va)
 have Ry:=NT (P:=P) (w:=w) (mg:=mg) (base:=base) (iT yk) TF
 have Ra:Binds K _ ["row"] []:=qJ (iT yk)
 have UE:=Qs (P:=P) (w:=w) (mg:=mg) (base:=base) (iT BX) TF
 have Um:Binds K _ ["calls","at","how_many"] []:=sR (iT BX)
 have Ep:=NP (P:=P) (w:=w) (mg:=mg) (base:=base) (qo yf) T
 have Ek:Binds K _ ["self","languages"] []:=qI (qo yf)
 have RB:=Qx (P:=P) (w:=w) (mg:=mg) (base:=base) (qo BW) T Ep (zP yf) Ek
 have Rf:Binds K _ ["self"] []:=qJ (qo BW)
 have Ll:=Kq (P:=P) (w:=w) (mg:=mg) (base:=base) (qo yX) T Ep (zP yf) Ek
 have Lb:Binds K _ ["self","languages"] []:=qI (qo yX)
 have RD:=QC (P:=P) (w:=w) (mg:=mg) (base:=base) (qo F9) T
 have Rg:Binds K _ ["self","one","other","costs"] []:=S0 (qo F9)
 have Hg:=GD (P:=P) (w:=w) (mg:=mg) (base:=base) (qo wg) T TF UJ (aT X G B1.1) B1.2.2.2 Ur V4 (aT X G HU.1) HU.2.2.2 V1
 have Ha:Binds K _ ["self","first","second"] []:=sR (qo wg)
 have Rz:=Qp (P:=P) (w:=w) (mg:=mg) (base:=base) (qo F7) T TF Rx (aT X G yj.1) yj.2.2.2 Q9
 have Rb:Binds K _ ["self","places"] []:=qI (qo F7)
 have E4:=EE (P:=P) (w:=w) (mg:=mg) (base:=base) (qo uh) T TF sk (aT X G iQ.1) iQ.2.2.2 r9
 have EZ:Binds K _ ["self"] []:=qJ (qo uh)
 have OR:=NU (P:=P) (w:=w) (mg:=mg) (base:=base) (qo Cv) T TF sk (aT X G iQ.1) iQ.2.2.2 r9 MU (aT X G vE.1) vE.2.2.2 MR
 have OD:Binds K _ ["self"] []:=qJ (qo Cv)
 have Lj:=Kj (P:=P) (w:=w) (mg:=mg) (base:=base) (qo yV) T TF sk (aT X G iQ.1) iQ.2.2.2 r9 So (aT X G Al.1) Al.2.2.2 Sj Sq (aT X G Am.1) Am.2.2.2 Sl
 have K9:Binds K _ ["self","sound"] []:=qI (qo yV)
 have E5:=EF (P:=P) (w:=w) (mg:=mg) (base:=base) (qo ui) T TF sk (aT X G iQ.1) iQ.2.2.2 r9 So (aT X G Al.1) Al.2.2.2 Sj Sq (aT X G Am.1) Am.2.2.2 Sl
 have E1:Binds K _ ["self","language","asked"] []:=sR (qo ui)
 have Lk:=Kl (P:=P) (w:=w) (mg:=mg) (base:=base) (qo yW) T TF sk (aT X G iQ.1) iQ.2.2.2 r9 RF (aT X G yl.1) yl.2.2.2 Ri
 have La:Binds K _ ["self","k"] []:=qI (qo yW)
 have OQ:=NO (P:=P) (w:=w) (mg:=mg) (base:=base) (qo Cu) T UL (aT X G B3.1) B3.2.2.2 Ut
 have OC:Binds K _ ["self","nodes"] []:=qI (qo Cu)
 have w9:=ED (P:=P) (w:=w) (mg:=mg) (base:=base) (qo pR) T Jm (aT X G sq.1) sq.2.2.2 Jg
 have w8:Binds K _ ["self","tree"] []:=qI (qo pR)
 have Li:=Ki (P:=P) (w:=w) (mg:=mg) (base:=base) (qo yU) T TF w9 (zP pR) w8
 have K8:Binds K _ ["self"] []:=qJ (qo yU)
 have zI:=GB (P:=P) (w:=w) (mg:=mg) (base:=base) (qo sL) T TF
 have zH:Binds K _ ["self","word","place"] []:=sR (qo sL)
 have RA:=Qt (P:=P) (w:=w) (mg:=mg) (base:=base) (qo F8) T TF zI (zP sL) zH Jm (aT X G sq.1) sq.2.2.2 Jg
 have Rc:Binds K _ ["self","word","place"] []:=sR (qo F8)
 have Hf:=GA (P:=P) (w:=w) (mg:=mg) (base:=base) (qo wc) T zI (zP sL) zH OO (aT X G u9.1) u9.2.2.2 OA
 have GZ:Binds K _ ["self","word","place"] []:=sR (qo wc)
 have RE:=QE (P:=P) (w:=w) (mg:=mg) (base:=base) (qo Ga) T TF UN (aT X G B5.1) B5.2.2.2 Uv w9 (zP pR) w8 Ru (aT X G yg.1) yg.2.2.2 Q6
 have Rh:Binds K _ ["self"] []:=qJ (qo Ga)
 have UM:=QD (P:=P) (w:=w) (mg:=mg) (base:=base) (iT B4) T TN ⟨_,_,Ll,zP yX,Lb⟩ ⟨_,_,RD,zP F9,Rg⟩ ⟨_,_,Hg,zP wg,Ha⟩ ⟨_,_,Rz,zP F7,Rb⟩ ⟨_,_,E4,zP uh,EZ⟩ ⟨_,_,OR,zP Cv,OD⟩ ⟨_,_,Lj,zP yV,K9⟩ ⟨_,_,E5,zP ui,E1⟩ ⟨_,_,Lk,zP yW,La⟩ ⟨_,_,OQ,zP Cu,OC⟩ ⟨_,_,Li,zP yU,K8⟩ ⟨_,_,RA,zP F8,Rc⟩ ⟨_,_,Hf,zP wc,GZ⟩ ⟨_,_,RE,zP Ga,Rh⟩ ⟨_,_,OP,aT X G va.1,va.2.2.2,OB⟩ ⟨_,_,Ry,aT X G yk.1,yk.2.2.2,Ra⟩ ⟨_,_,UG,aT X G BY.1,BY.2.2.2,Uo⟩
 have Uu:Binds K _ ["family","call","numbers","rows"] []:=S0 (iT B4)
 exact TU (iT a3) T TF TS ⟨mk,(zP BW).1,(zP BW).2,kc⟩ RB Rf ⟨_,_,UE,aT X G BX.1,BX.2.2.2,Um⟩ ⟨_,_,UM,aT X G B4.1,B4.2.2.2,Uu⟩
theorem Uy {P:aV}{w:bK}{K:ai}{h:bW}{mg:bZ→Option ag}{fa:aj}(Z:Sr K)(X:K.In h)(G:h.Ns c7 mg)(hfa:mg "answers"=some (.ref fa)) :
  ∃ fd:bH,(∀ (s:au) (us:List ag),us.length=(["calls"]:List bZ).length→zZ s fd ⟨us,[]⟩ ((["calls"]:List bZ).zip us))∧∀ base:bW,K.In base→base.Ns c7 mg→cP P w K mg base fG 16 fa fd ["calls"] (Hr K) :=
 all_mk X G hfa Z.1.1 Z.1.2.1 Z.1.2.2.1 Z.1.2.2.2.1 Z.1.2.2.2.2.1 Z.1.2.2.2.2.2.1 Z.1.2.2.2.2.2.2.1 Z.1.2.2.2.2.2.2.2.1 Z.1.2.2.2.2.2.2.2.2.1 Z.1.2.2.2.2.2.2.2.2.2.1 Z.1.2.2.2.2.2.2.2.2.2.2.1 Z.1.2.2.2.2.2.2.2.2.2.2.2.1 Z.1.2.2.2.2.2.2.2.2.2.2.2.2 Z.2.1.1 Z.2.1.2.1 Z.2.1.2.2.1 Z.2.1.2.2.2.1 Z.2.1.2.2.2.2.1 Z.2.1.2.2.2.2.2.1 Z.2.1.2.2.2.2.2.2.1 Z.2.1.2.2.2.2.2.2.2.1 Z.2.1.2.2.2.2.2.2.2.2.1 Z.2.1.2.2.2.2.2.2.2.2.2.1 Z.2.1.2.2.2.2.2.2.2.2.2.2.1 Z.2.1.2.2.2.2.2.2.2.2.2.2.2.1 Z.2.1.2.2.2.2.2.2.2.2.2.2.2.2 Z.2.2.1.1 Z.2.2.1.2.1 Z.2.2.1.2.2.1 Z.2.2.1.2.2.2.1 Z.2.2.1.2.2.2.2.1 Z.2.2.1.2.2.2.2.2.1 Z.2.2.1.2.2.2.2.2.2.1 Z.2.2.1.2.2.2.2.2.2.2.1 Z.2.2.1.2.2.2.2.2.2.2.2.1 Z.2.2.1.2.2.2.2.2.2.2.2.2.1 Z.2.2.1.2.2.2.2.2.2.2.2.2.2.1 Z.2.2.1.2.2.2.2.2.2.2.2.2.2.2.1 Z.2.2.1.2.2.2.2.2.2.2.2.2.2.2.2 Z.2.2.2.1.1 Z.2.2.2.1.2.1 Z.2.2.2.1.2.2.1 Z.2.2.2.1.2.2.2.1 Z.2.2.2.1.2.2.2.2.1 Z.2.2.2.1.2.2.2.2.2.1 Z.2.2.2.1.2.2.2.2.2.2.1 Z.2.2.2.1.2.2.2.2.2.2.2.1 Z.2.2.2.1.2.2.2.2.2.2.2.2.1 Z.2.2.2.1.2.2.2.2.2.2.2.2.2.1 Z.2.2.2.1.2.2.2.2.2.2.2.2.2.2.1 Z.2.2.2.1.2.2.2.2.2.2.2.2.2.2.2.1 Z.2.2.2.1.2.2.2.2.2.2.2.2.2.2.2.2 Z.2.2.2.2.1.1 Z.2.2.2.2.1.2.1 Z.2.2.2.2.1.2.2.1 Z.2.2.2.2.1.2.2.2.1 Z.2.2.2.2.1.2.2.2.2.1 Z.2.2.2.2.1.2.2.2.2.2.1 Z.2.2.2.2.1.2.2.2.2.2.2.1 Z.2.2.2.2.1.2.2.2.2.2.2.2.1 Z.2.2.2.2.1.2.2.2.2.2.2.2.2.1 Z.2.2.2.2.1.2.2.2.2.2.2.2.2.2.1 Z.2.2.2.2.1.2.2.2.2.2.2.2.2.2.2.1 Z.2.2.2.2.1.2.2.2.2.2.2.2.2.2.2.2.1 Z.2.2.2.2.1.2.2.2.2.2.2.2.2.2.2.2.2 Z.2.2.2.2.2.1.1 Z.2.2.2.2.2.1.2.1 Z.2.2.2.2.2.1.2.2.1 Z.2.2.2.2.2.1.2.2.2.1 Z.2.2.2.2.2.1.2.2.2.2.1 Z.2.2.2.2.2.1.2.2.2.2.2.1 Z.2.2.2.2.2.1.2.2.2.2.2.2.1 Z.2.2.2.2.2.1.2.2.2.2.2.2.2.1 Z.2.2.2.2.2.1.2.2.2.2.2.2.2.2.1 Z.2.2.2.2.2.1.2.2.2.2.2.2.2.2.2.1 Z.2.2.2.2.2.1.2.2.2.2.2.2.2.2.2.2.1 Z.2.2.2.2.2.1.2.2.2.2.2.2.2.2.2.2.2.1 Z.2.2.2.2.2.1.2.2.2.2.2.2.2.2.2.2.2.2 Z.2.2.2.2.2.2.1.1 Z.2.2.2.2.2.2.1.2.1 Z.2.2.2.2.2.2.1.2.2.1 Z.2.2.2.2.2.2.1.2.2.2.1 Z.2.2.2.2.2.2.1.2.2.2.2.1 Z.2.2.2.2.2.2.1.2.2.2.2.2.1 Z.2.2.2.2.2.2.1.2.2.2.2.2.2.1 Z.2.2.2.2.2.2.1.2.2.2.2.2.2.2.1 Z.2.2.2.2.2.2.1.2.2.2.2.2.2.2.2.1 Z.2.2.2.2.2.2.1.2.2.2.2.2.2.2.2.2.1 Z.2.2.2.2.2.2.1.2.2.2.2.2.2.2.2.2.2.1 Z.2.2.2.2.2.2.1.2.2.2.2.2.2.2.2.2.2.2.1 Z.2.2.2.2.2.2.1.2.2.2.2.2.2.2.2.2.2.2.2 Z.2.2.2.2.2.2.2.1.1 Z.2.2.2.2.2.2.2.1.2.1 Z.2.2.2.2.2.2.2.1.2.2.1 Z.2.2.2.2.2.2.2.1.2.2.2.1 Z.2.2.2.2.2.2.2.1.2.2.2.2.1 Z.2.2.2.2.2.2.2.1.2.2.2.2.2.1 Z.2.2.2.2.2.2.2.1.2.2.2.2.2.2.1 Z.2.2.2.2.2.2.2.1.2.2.2.2.2.2.2.1 Z.2.2.2.2.2.2.2.1.2.2.2.2.2.2.2.2.1 Z.2.2.2.2.2.2.2.1.2.2.2.2.2.2.2.2.2.1 Z.2.2.2.2.2.2.2.1.2.2.2.2.2.2.2.2.2.2.1 Z.2.2.2.2.2.2.2.1.2.2.2.2.2.2.2.2.2.2.2.1 Z.2.2.2.2.2.2.2.1.2.2.2.2.2.2.2.2.2.2.2.2 Z.2.2.2.2.2.2.2.2.1.1 Z.2.2.2.2.2.2.2.2.1.2.1 Z.2.2.2.2.2.2.2.2.1.2.2.1 Z.2.2.2.2.2.2.2.2.1.2.2.2.1 (J7 X G Z.2.2.2.2.2.2.2.2.1.2.2.2.2.1 Z.2.2.2.2.2.2.2.2.1.2.2.2.2.2.1 Z.2.2.2.2.2.2.2.2.1.2.2.2.2.2.2.1 Z.2.2.2.2.2.2.2.2.1.2.2.2.2.2.2.2.1 Z.2.2.2.2.2.2.2.2.1.2.2.2.2.2.2.2.2.1 Z.2.2.2.2.2.2.2.2.1.2.2.2.2.2.2.2.2.2.1 Z.2.2.2.2.2.2.2.2.1.2.2.2.2.2.2.2.2.2.2.1 Z.2.2.2.2.2.2.2.2.1.2.2.2.2.2.2.2.2.2.2.2.1 Z.2.2.2.2.2.2.2.2.1.2.2.2.2.2.2.2.2.2.2.2.2 Z.2.2.2.2.2.2.2.2.2.1 Z.2.2.2.2.2.2.2.2.2.2.1 Z.2.2.2.2.2.2.2.2.2.2.2.1 Z.2.2.2.2.2.2.2.2.2.2.2.2.1 Z.2.2.2.2.2.2.2.2.2.2.2.2.2.1 Z.2.2.2.2.2.2.2.2.2.2.2.2.2.2)
end Sk
open PySem PySem.W PyProof.Rows
set_option maxRecDepth 100000 in
set_option maxHeartbeats 0 in
theorem PySem.Challenge.cw_soundkin_s01_answers_holds : PySem.Challenge.rw_soundkin_s01_answers.Holds := by
 refine holds_os (r:=PySem.Challenge.rw_soundkin_s01_answers) (d:=⟨"answers",L2.jr Sk.Bq,L2.i3 Sk.Bq,L2.bB Sk.Bq,Sk.WQ Sk.Bq⟩) (kwd:=[]) (q:=Sk.vw) (loose:=[]) (Xt:=Sk.xt) (XP:=XL Sk.vw []) (Yf:=fun s=>s.heap) (Ya:=fun w=>Sk.JI (Sk.EW w)) (YP:=fun w=>Sk.LM (Sk.EW w)) (N:=4620) (Sk.QR (fun w=>(Sk.MH w).1) Sk.Ub Sk.Ua) (fun w=>Sk.Vr (Sk.EW w)) (fun w=>Sk.MZ (Sk.EW w)) (fun s e=>xl_of s (lQ.mp e).1) XL.keeps (by kernel_rfl) (by kernel_rfl) (by kernel_rfl) (fun s e=>recFacts_of (lQ.mp e).2) os_shapes (by decide +kernel) (by decide +kernel) ⟨by kernel_rfl,by kernel_rfl,by kernel_rfl,by kernel_rfl,by kernel_rfl,by decide +kernel⟩ ⟨[.list [.int 0,.int 2]],by decide +kernel,by decide +kernel⟩ ?hc
 refine L2.Gh (r:=PySem.Challenge.rw_soundkin_s01_answers) (k:=16) (CX:=L2.fG) (ps:=["calls"]) (K:=fun w=>Sk.SV (Sk.EW w)) (sp:=Sk.Hr) (by decide +kernel) rfl rfl ⟨rfl,by decide,by decide⟩ (fun w h Y=>Sk.Vs Y) ?F ?S (fun _ _ _ _ z=>z)
 case F =>
  intro w mg fa h Y KX G hmg
  exact Sk.Uy (Sk.MH w).2 KX G hmg
 case S =>
  intro K H xs a hO hwi hask hx
  cases hx with
  | cons h1 h2 =>
   cases h2
   cases h1 with
   | lst hs ha =>
    have e:=L2.IP a.1 _ ha
    subst e
    exact ⟨_,a.1,rfl,hs,hask,fun H' p hp=>.lst (L2.cI.of hp) (L2.IW _)⟩
