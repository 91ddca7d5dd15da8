import PyProof.Rows.All
import KE.BitLaws
import KE.KSortTupG
import KE.OsGo
import KE.OsHead
import Open.SpecLaws
import OpenK.AllK
import PyProof.CollectWalk
import PyProof.DictKinds
import PyProof.EqAt
import PyProof.EqKinds
import PyProof.Rows.SetFrom
import PyProof.Rows.SortRunsAny
import PyProof.Rows.SortShellAny
import PyProof.Rows.SortWalk
import PyProof.SetKind
import PyProof.SetRoads
import PyProof.TupleCall
import PySem.Challenge.RW_soundkin_s01_answers
import Wide.All
import Wide.FinOn
set_option Elab.async false
set_option linter.all false
set_option maxRecDepth 100000
set_option maxHeartbeats 4000000
open Array renaming forIn_toList→Mc,getD→Kf,getElem?_eq_getElem→cx,getElem?_eq_none_iff→mR,getElem?_eq_none→iF,getElem?_eq_some_iff→Af,getElem?_map→Mb,getElem?_toList→gM,length_toList→cM,map_append→kO,map_extract→iP,map_push→mQ,map_reverse→j3,replicate→jz,size_map→iX,swapIfInBounds_def→CS,toArray_toList→iY,toList_map→i4,toList_push→wK,toList_zip→Qz,toList→EE
open Bool renaming and_eq_true_iff→JY,and_eq_true→bx,eq_iff_iff→eJ,false_and→ip,false_eq_true→iI,false_ne_true→bg,noConfusion→dM,not_eq_false'→vt,not_eq_true'→Qy,not_eq_true→kY,or_eq_true→rN,true_and→jy
open Decidable renaming byContradiction→dR
open False renaming elim→fg
open ForInStep renaming yield→o4
open HAppend renaming hAppend→Ml
open Iff renaming rfl→QF
open Int renaming toNat_natCast→bR,toNat→jX,zero_add→GO
open List renaming all_append→T2,all_cons→jx,all_eq_false→Qx,all_eq_true→dJ,all_map→Fo,any_cons→jw,any_eq_true→qc,any_map→mH,append_assoc→dB,append_nil→bV,cons_append→qb,contains_iff_mem→gQ,drop_drop→fD,drop_eq_getElem_cons→dt,drop_eq_nil_of_le→qC,drop_left→il,drop_length→p9,drop_succ_cons→mF,drop→ja,eraseDups_cons→ji,exists_mem_of_ne_nil→g8,ext_getElem?→oZ,filterMap_cons→fF,filter_append→gL,filter_cons→cE,filter_eq_nil_iff→kg,filter_map→zU,filter→oW,find?_cons→cH,find?_eq_none→nE,findSome?_append→sR,findSome?_cons→eh,flatMap_append→gA,flatMap_cons→bN,flatMap_map→QP,flatMap_nil→kX,flatten_append→jh,flatten_cons→j9,foldl_cons→d4,forIn_cons→jE,forIn_nil→j8,getD_eq_getElem?_getD→gN,getElem?_append_left→oa,getElem?_append_right→fE,getElem?_cons_succ→Fi,getElem?_cons_zero→qe,getElem?_drop→nD,getElem?_eq_getElem→aE,getElem?_eq_none→bG,getElem?_eq_some_iff→bT,getElem?_map→aO,getElem?_range→jg,getElem?_set_ne→tL,getElem?_set_self→ka,getElem?_set→Qw,getElem?_zip_eq_some→CO,getElem_mem→kW,getElem_of_mem→uz,head?_drop→rM,length_append→aK,length_cons→aS,length_drop→cq,length_eq_zero_iff→cW,length_eraseIdx_of_lt→Br,length_erase_of_mem→o6,length_filter_le→cY,length_map→ae,length_nil→eG,length_pos_iff→L8,length_pos_of_mem→Fu,length_range'→Mj,length_range→c4,length_replicate→kR,length_set→lP,length_singleton→gP,length_take→bM,length_zipIdx→Mi,length_zip→rL,length→dF,lookup_cons→fV,lookup→jT,mapM_cons→UG,mapM_toArray→Qv,map_append→aX,map_congr_left→dm,map_cons→bo,map_eq_nil_iff→L7,map_id'→qt,map_id→JR,map_map→br,map_nil→fC,map_set→Fn,map_snd_zip→QO,map_toArray→kU,map→eB,mem_append_left→JW,mem_append_right→eR,mem_append→bq,mem_cons_of_mem→ao,mem_cons_self→ax,mem_cons→aI,mem_erase_of_ne→tK,mem_filterMap→vq,mem_filter→fH,mem_flatMap→p8,mem_flatten→QN,mem_iff_getElem?→kQ,mem_map→aU,mem_of_find?_eq_some→CN,mem_of_getElem?→aV,mem_of_mem_drop→JV,mem_of_mem_take→lE,mem_range→dH,mem_singleton→bB,mem_zipIdx→TZ,ne_nil_of_mem→iH,nil_append→TY,nodup_append→Qu,nodup_cons→eX,nodup_range→QM,of_mem_zip→iN,pairwise_append→tJ,pairwise_cons→dE,pairwise_iff_getElem→g6,pairwise_lt_range→qB,pairwise_map→gi,pairwise_mergeSort→Fh,perm_cons→Bo,range'_succ→QL,range'→tf,range_add→UE,range_eq_range'→tI,range_succ_eq_map→qA,range_succ→TX,range→bp,removeAll→UD,replicate→tq,size_toArray→bA,sum_cons→CU,tail_drop→tp,take_add_one→oY,take_append_drop→kP,take_left→nA,take_length→bE,take_of_length_le→Ft,take_sublist→Qt,zipIdx_cons→QK,zipIdx_nil→TV,zip_cons_cons→jI,zip_nil_right→vp
open List.Pairwise renaming imp_of_mem→wM
open List.Perm renaming refl→jF,swap→xI
open List.Sublist renaming refl→CP
open Nat renaming add_assoc→pS,add_comm→mO,add_sub_cancel_left→gk,le_add_right→fX,le_of_eq→mN,le_of_lt→kE,le_of_succ_le→kH,le_refl→aL,le_succ→hW,le_trans→aD,lt_irrefl→dn,lt_of_le_of_lt→aG,lt_of_le_of_ne→Qs,lt_of_lt_of_le→cz,lt_of_not_le→iz,lt_succ_of_lt→dD,lt_succ_self→dP,lt_trans→kD,min_eq_left→mC,min_le_right→TU,mul_succ→xE,ne_of_gt→fY,ne_of_lt→ba,not_succ_le_self→L6,pow_le_pow_right→lK,sub_self→xD,succ_le_succ→ee,succ_ne_self→TR,zero_add→mM,zero_le→aR
open Ne renaming symm→gU
open Option renaming bind_eq_some_iff→o5,bind_some→Mh,getD_none→Mg,isSome_iff_exists→nZ,isSome_some→JU,map_eq_some_iff→fz,map_some→qk
open Option.some renaming injEq→C3,inj→aJ
open Or renaming inl→bj,inr→p5
open PyFlat renaming atMost→TQ,calls→p7,played→Bn,rows→Fm,row→JP,told→xC
open PyProof renaming noPylong_small→CM
open PyProof.Rows renaming AllBare→z5,IntsAre→eK,IsTup→qo,Keyed→dY,SortSt→dN,boot_list→sU,boot_min→FD,boot_range→GK,boot_sorted→Ra,callWith_builtin1→tM,callWith_type1→cK,kmk_tree→nY,listUpdate_at→Kc,seqEpoch_at→Q9,sortedAll_at→wL,sortedAll_old→vv,subscriptTail_builtinR→Qp
open PyProof.Rows.F renaming entry_set_update_loop→JX,plain_set_update_loop→rR
open PyProof.Rows.SortSt renaming mk'→p6
open PySem renaming Addr→aj,Around→cA,BindsTo→Fl,Builtin→UC,DictEntry→fq,Env→C5,FuncData→bI,Heap→bU,IsItemIterOut→Ke,IsItemIter→ki,IsPair→gn,IsRangeIter→CT,IsTupleKey→GL,IsZip→nX,Keyword→Mz,Model→Me,NameKind→ie,Obj→fA,Params→yp,Pos→jK,Program→aY,PyData→yo,Result→qM,Scope→jH,Sem→o8,Shared→au,Spec→gH,Stmt→d5,Str→cp,Value→ag,Within→EC,World→bO,ZipApart→z6,attributeBase→iZ,boot_len→bb,builtinLookup_eq_fast→QJ,callWith→FC,call_meets→GJ,codeAny_builtin→eA,codeAny_call_builtin→TM,codeAny_mono→jD,evalArgs_none→uv,isSubtype_stop→pQ,isSubtype_type→wH,mainGlobals→dZ,mem_of_lookup→cS,method_meetsIn→GN,plainId_quiet→dw,pushCells_keeps→uy,rawInt→gm,scanBound→sT,seqIndex_neg→Ob,seqIndex_of→Q8,sizeLine_eq→kK,sizeLine→aA,starEach→bQ,sysModules→eV,wpAny_Call_Name_kw→d8,wpAny_Call_method→qv,wpAny_askSetting→Cv,wpAny_attempt→iy,wpAny_bind→aa,wpAny_callSpecial?_slot→c9,wpAny_call_entry→c5,wpAny_dictEntries→ij,wpAny_dictEpoch→j6,wpAny_execs_nil→ux,wpAny_fieldsOf→k7,wpAny_field→eW,wpAny_forIn_list→Cu,wpAny_handled→qX,wpAny_holding→dj,wpAny_isInstance→iJ,wpAny_isOneOf_itemiter→uu,wpAny_isOneOf_keyiter→QI,wpAny_ite_split→nP,wpAny_letGo→gu,wpAny_letOwnedTupleGo_items→Fq,wpAny_letOwnedTupleGo_zip→JS,wpAny_loadPart'→dU,wpAny_mkInt→Q7,wpAny_mono→hG,wpAny_newList→Kb,wpAny_newObj_type→cv,wpAny_newTuple→wG,wpAny_notOrdered_dict→vh,wpAny_of_eq→jn,wpAny_onRaise→yj,wpAny_passesOwn→iW,wpAny_pure→ak,wpAny_pyIter_list→ig,wpAny_pyIter_rangeiter→Qo,wpAny_pyIter_slot→qu,wpAny_pyIter_tuple→zO,wpAny_pyIter_zip→sV,wpAny_pyNext_list_end→fZ,wpAny_pyNext_list_item→fL,wpAny_pyNext_range_end→Qn,wpAny_rule→jm,wpAny_seqItems→c7,wpAny_setEntries_of→xF,wpAny_setField_rec→eM,wpAny_setField→fK,wpAny_setState_of→jb,wpAny_specialOf→EB,wpAny_standAt→Ka,wpAny_throw→vQ,wpAny_truthy_bool→eY,wpAny_tryCatch→fJ,wpAny_typeNameOfWhole_itemiter→iK,wpAny_typeNameOfWhole_keyiter→iQ,wpAny_typeNameOf_itemiter→jJ,wpAny_typeNameOf_keyiter→j4,wpAny_typeOf→oU,wpAny_updateSeq_pair→wJ,wpAny_updateSeq→ic
open PySem.Around renaming under_plainId→dh,under→CV
open PySem.Builtin.Builtins renaming bindParams→jY
open PySem.Builtin.Dict renaming showsAll→jG,updateFrom→xO
open PySem.Builtin.Dict_items renaming dictOf→QU,newIterator→QT,ownedTupleFields→nV,ownedTupleIsFree→nU,ownsTuple→fG,pairFromOwner→o7
open PySem.Builtin.Frozenset renaming newClass→T8,sizeOf→T7,updateFrom→T6
open PySem.Builtin.List renaming listExtendWith→vn,listItems→nF,listLengthHint→vm,listSameRef→xt,listTooLong→lT
open PySem.Builtin.Range renaming rangeSize→gZ,small→zW
open PySem.Builtin.SmallTypes renaming nextOf→di,ownedTupleHandOut→nH,ownedTupleIsFree→fU
open PySem.Builtin.Tuple renaming tupleHashOf→lu
open PySem.Calls renaming Name_function_global→Ae,callWith_builtin→Fj,call_function_entry→nT,evalArgs_plain→HV,spliced_cons→iE,spliced_nil→j0
open PySem.Code renaming isFrame→Fp
open PySem.F renaming args_dict_get_3→Bq,args_dict_itemiterator_next_1→zV,args_dict_items_1→QR,args_dict_keyiterator_next_1→Ad,args_tuple_iterator_next_1→CQ,args_zip_next_1→UJ,called_set→jq,entry_dict_get→CL,entry_dict_itemiterator_next→Ac,entry_dict_items→T4,entry_dict_keyiterator_next→Bs,entry_tuple_iterator_next→C4,plainAttrs_dict→zP,plainAttrs_list→bK,plain_extend_loop→QQ,plain_list_iadd→UI,plain_max_loop→jr,plain_min_loop→iD,slot_dict_get→ql,slot_dict_itemiterator_next→gj,slot_dict_items_iter→Ma,slot_dict_items→qd,slot_dict_keyiterator_next→gC,slot_dict_values→T3,slot_list_append→cC,slot_list_extend→fT,slot_list_getattribute→kI,slot_list_lt→Fg,slot_tuple_iterator_next→jf,slot_zip_next→tz,type_dict_items→UH,type_list_append→cB,type_list_extend→fS
open PySem.Heap renaming ExtBut→oX,SameBut→eC,get?_push_of_some→ay,get?_push_size→aH,get?_update_ne→L9,get?_update_other→dC,get?_update_self→cQ,lt_size→aN,size_push→cN
open PySem.Heap.DictOf renaming new→Fv
open PySem.Heap.SameBut renaming update→c6
open PySem.IsRange renaming new→ED
open PySem.NameKind renaming cell→zT,free→kF
open PySem.PassesOwn renaming never→bH
open PySem.PyData renaming depthAll→Qr,eqvAll→ur,eqv→JQ
open PySem.Sem renaming wp_bind'→kC,wp_pure'→mL,wp_pure→Kd,wp→Bz
open PySem.SeqAt renaming EqAt→mK,shaped→wI
open PySem.SeqAt.EqAt renaming int_int→C1,int_str→C0,same→HS,str_int→CZ
open PySem.Shared renaming TypeIs→Bm
open PySem.Str renaming ofString→dG
open PySem.W renaming Frag→ai,WData→i9,WRecords→L5,WalkOS→Qq,WellAll→tN,callWith_K0→Fs,callWith_K→HU,cellsFrom_some→CK,codeIn→jU,emptyDict→fu,findIn→du,fnOf→gY,handedIn→L4,hasDictIn→nB,instObj→gR,isFn→vc,kcp_self→L3,kdl_call→L1,keepIn→aP,ktu_apart→JT,length_le_weightAllW→xN,lookIn→rK,makesIn→xH,methodCall_KW→C2,methodObj→vj,mg_none_of→c8,mg_of→nQ,nsIn→pR,plainGet_of→sW,plainGet→kG,plainOver→vi,takerIn→xG
open PySem.W.Codec renaming app→xB,denoteAll→qz,encAll→mB,withinAll→QS
open PySem.W.WData renaming weightAll→qw
open PySi35 renaming answers_asked→sQ,answers→mI,calls→UB,shape→g4,whole→cF
open Si35 renaming Beside→cT,Col→bJ,Col→lF,Costs→dq,Costs→hX,Rows→QH,SOUND→mZ,Sound→qm,St→dz,Tree→cD,Word→eF,beside→ft,best→tV,choicesAt→de,choose→lD,colAt→qr,cost→iO,envsOf→oV,fewest→bC,formOk→dA,init→QG,insertAll→j7,leaveOut→k8,ok→fI,olds→aZ,patterns→az,reflex→jS,rowLe→Mf,share→kT,step→bu,treeOk→sZ,trees→eN,without→j5,wordOk→sY
open Si35.Tree renaming leaves→HR,out→mP
open Si35Neutral renaming asked1→i7,asked→CY,callOf→rQ,colsOf→i6,natural→Bp,pairsOf→g5,rowOf→lR,short→lQ,start→CW,step→hU,treeOf→i5
open Std.Legacy.Range renaming forIn_eq_forIn_range'→nG
open Sum renaming inl→gF,inr→uw
open Sum.inl renaming inj→UA
open Sum.inr renaming inj→Uz
open True renaming intro→qp
namespace Sk
open Si35
def bump (t:List (lF×Nat))(c:lF):List (lF×Nat) :=
 if (t.any fun kv=>decide (kv.1=c))=true then t.map (fun kv=>if kv.1=c then (kv.1,kv.2+1) else kv) else t++[(c,1)]
def gJ (l:List lF):List (lF×Nat):=l.eraseDups.map fun c=>(c,(l.filter fun x=>x==c).length)
theorem ia {α:Type}[BEq α][LawfulBEq α](x:α)(l:List α):x∈l.eraseDups↔x∈l:=by
 suffices h:∀ (n:Nat) (l:List α),l.length≤n→(x∈l.eraseDups↔x∈l) from h l.length l (aL _)
 intro n
 induction n with
 | zero =>
  intro l h
  have:l=[]:=cW.mp (by omega)
  subst this;simp
 | succ n ih =>
  intro l h
  match l,h with
  | [],_=>simp
  | a::r,h =>
   rw[ji,aI,aI,ih _ (aD (cY _ _) (by simpa using h)),fH]
   by_cases e:x=a
   ·simp[e]
   ·simp[e]
theorem Ly {α:Type}[BEq α][LawfulBEq α](l:List α)(x:α):(l++[x]).eraseDups=if l.contains x then l.eraseDups else l.eraseDups++[x]:=by
 rw[List.eraseDups_append]
 by_cases h:l.contains x=true
 ·rw[if_pos h]
  have:[x].removeAll l=[]:=by simp[UD,gQ.mp h]
  rw[this];simp
 ·rw[if_neg h]
  have h':¬ x∈l:=fun q=>h (gQ.mpr q)
  have:[x].removeAll l=[x]:=by simp[UD,h']
  rw[this]
  simp[ji]
theorem GV (l:List lF)(c:lF):gJ (l++[c])=bump (gJ l) c:=by
 unfold gJ bump
 rw[Ly]
 have a:((l.eraseDups.map fun c=>(c,(l.filter fun x=>x==c).length)).any fun kv=>decide (kv.1=c))=l.contains c:=by
  rw[mH,eJ,qc,gQ]
  constructor
  ·rintro ⟨x,hx,e⟩
   have e':x=c:=by simpa using e
   subst e'
   exact (ia _ _).mp hx
  ·intro h
   exact ⟨c,(ia _ _).mpr h,by simp⟩
 rw[a]
 by_cases h:l.contains c=true
 ·rw[if_pos h,if_pos h,br]
  refine dm fun x _=>?_
  show (x,((l++[c]).filter fun y=>y==x).length)=if x=c then (x,(l.filter fun y=>y==x).length+1) else (x,(l.filter fun y=>y==x).length)
  by_cases e:x=c
  ·subst e;simp[gL,cE]
  ·rw[if_neg e]
   have e':(c==x)=false:=by simpa using fun z:c=x=>e z.symm
   simp[gL,cE,e']
 ·rw[if_neg h,if_neg h,aX]
  have h':¬ c∈l:=fun q=>h (gQ.mpr q)
  congr 1
  ·refine dm fun x hx=>?_
   have hx':=(ia x l).mp hx
   have e:¬ x=c:=fun z=>h' (z▸hx')
   have e':(c==x)=false:=by simpa using fun z:c=x=>e z.symm
   simp[gL,cE,e']
  ·have z:l.filter (fun x=>x==c)=[]:=by
    rw[kg]
    intro x hx q
    have:x=c:=by simpa using q
    exact h' (this▸hx)
   simp[gL,cE,z]
theorem y4 (l:List lF):(gJ l).map (·.1)=l.eraseDups:=by
 unfold gJ
 rw[br]
 exact JR _
theorem Em {α:Type}[BEq α][LawfulBEq α]:∀ (n:Nat) (l:List α),l.length≤n→l.eraseDups.length≤l.length
 | _,[],_=>by simp
 | 0,_::_,h=>by simp at h
 | n+1,a::r,h=>by
  rw[ji,aS,aS]
  have h1:=cY (fun b=>!b==a) r
  have:=Em n (r.filter fun b=>!b==a) (by simp at h;omega)
  omega
theorem Jt {α:Type}[BEq α][LawfulBEq α](l:List α):l.eraseDups.length≤l.length:=Em l.length l (aL _)
theorem HG {α:Type}[BEq α][LawfulBEq α](l:List α):l.eraseDups.Nodup:=by
 suffices h:∀ (n:Nat) (l:List α),l.length≤n→l.eraseDups.Nodup from h l.length l (aL _)
 intro n
 induction n with
 | zero =>
  intro l h
  have:l=[]:=cW.mp (by omega)
  subst this;simp
 | succ n ih =>
  intro l h
  match l,h with
  | [],_=>simp
  | a::r,h =>
   rw[ji,eX]
   refine ⟨fun q=>?_,ih _ (aD (cY _ _) (by simpa using h))⟩
   have:=(ia _ _).mp q
   simp at this
theorem nR:∀ {l m:List Nat},l.Pairwise (·<·)→m.Pairwise (·<·)→(∀ x,x∈l↔x∈m)→l=m
 | [],[],_,_,_=>rfl
 | [],b::m,_,_,h=>absurd ((h b).mpr ax) (by simp)
 | a::l,[],_,_,h=>absurd ((h a).mp ax) (by simp)
 | a::l,b::m,hl,hm,h=>by
  obtain ⟨h1,h2⟩:=dE.mp hl
  obtain ⟨g1,g2⟩:=dE.mp hm
  have e:a=b:=by
   rcases aI.mp ((h a).mp ax) with q | q
   ·exact q
   ·rcases aI.mp ((h b).mpr ax) with q' | q'
    ·exact q'.symm
    ·have:=h1 b q'
     have:=g1 a q
     omega
  subst e
  rw[nR h2 g2 fun x=>⟨fun q=>by
   rcases aI.mp ((h x).mp (ao _ q)) with z | z
   ·have:=h1 x q;omega
   ·exact z,fun q=>by
   rcases aI.mp ((h x).mpr (ao _ q)) with z | z
   ·have:=g1 x q;omega
   ·exact z⟩]
theorem rb (l:List Nat):((l.mergeSort fun a b=>decide (a≤b)).eraseDups).Pairwise (·<·):=by
 have h:(l.mergeSort fun a b=>decide (a≤b)).Pairwise fun a b=>decide (a≤b)=true:=Fh (fun a b c h1 h2=>by simp at *;omega) (fun a b=>by simp;omega) l
 have h':(l.mergeSort fun a b=>decide (a≤b)).Pairwise (·≤·):=h.imp fun q=>by simpa using q
 revert h'
 generalize l.mergeSort (fun a b=>decide (a≤b))=m
 suffices q:∀ (n:Nat) (m:List Nat),m.length≤n→m.Pairwise (·≤·)→m.eraseDups.Pairwise (·<·) from q m.length m (aL _)
 intro n
 induction n with
 | zero =>
  intro l h _
  have:l=[]:=cW.mp (by omega)
  subst this;simp
 | succ n ih =>
  intro l h hp
  match l,h,hp with
  | [],_,_=>simp
  | a::r,h,hp =>
   obtain ⟨p1,p2⟩:=dE.mp hp
   rw[ji,dE]
   refine ⟨fun x hx=>?_,ih _ (aD (cY _ _) (by simpa using h)) (p2.filter _)⟩
   have hx':=fH.mp ((ia _ _).mp hx)
   have:=p1 x hx'.1
   have:¬ x=a:=by simpa using hx'.2
   omega
theorem pV (l:List Nat)(x:Nat):x∈(l.mergeSort fun a b=>decide (a≤b)).eraseDups↔x∈l:=by
 rw[ia]
 exact List.mem_mergeSort
def gT:Tree→List Int
 | .leaf l=>[(l:Int)]
 | .node a b=>-1::(gT a++gT b)
def size:Tree→Nat
 | .leaf _=>1
 | .node a b=>1+(size a+size b)
theorem fQ:∀ t:Tree,(gT t).length=size t
 | .leaf _=>rfl
 | .node a b=>by simp[gT,size,fQ a,fQ b];omega
theorem size_pos:∀ t:Tree,0<size t
 | .leaf _=>Nat.one_pos
 | .node a b=>by simp[size];omega
def lV (ts:List Tree):List Int:=ts.flatMap gT
def outs (ts:List Tree):List Nat:=ts.flatMap Tree.out
theorem KG (t:Tree)(ts:List Tree):outs (t::ts)=t.out++outs ts:=by simp[outs]
theorem A1 (l:Nat)(ts:List Tree):lV (.leaf l::ts)=(l:Int)::lV ts:=by simp[lV,gT]
theorem A0 (a b:Tree)(ts:List Tree):lV (.node a b::ts)=-1::lV (a::b::ts):=by simp[lV,gT]
theorem AX (l:Nat)(ts:List Tree):outs (.leaf l::ts)=0::l::outs ts:=by simp[outs,Tree.out]
theorem AW (a b:Tree)(ts:List Tree):outs (.node a b::ts)=1::outs (a::b::ts):=by simp[outs,Tree.out]
theorem O7:lV []=[]:=rfl
theorem yQ (t:Tree):lV [t]=gT t:=by simp[lV]
theorem OO (t:Tree):outs [t]=t.out:=by simp[outs]
def wr (x:Int):List Int:=if x=-1 then [1] else [0,x]
theorem FE:∀ t:Tree,(gT t).flatMap wr=Si35.ints t.out
 | .leaf l=>by
  have:¬ ((l:Int)=-1):=by omega
  simp[gT,wr,Tree.out,Si35.ints,this]
 | .node a b=>by
  have h1:=FE a
  have h2:=FE b
  simp only[gT,bN,gA,h1,h2,Tree.out,Si35.ints]
  simp[wr]
theorem tZ:∀ t:Tree,(gT t).filter (fun x=>decide (x≠-1))=t.leaves.map fun (l:Nat)=>(l:Int)
 | .leaf l=>by
  have:¬ ((l:Int)=-1):=by omega
  simp[gT,Tree.leaves,this]
 | .node a b=>by
  have h1:=tZ a
  have h2:=tZ b
  simp only[gT,cE,gL,h1,h2,Tree.leaves,aX]
  simp
def subAt:Tree→Nat→Tree
 | t,0=>t
 | .leaf l,_+1=>.leaf l
 | .node a b,i+1=>if i<size a then subAt a i else subAt b (i - size a)
def putAt (l:Nat):Tree→Nat→Tree
 | t,0=>.node t (.leaf l)
 | .leaf i,_+1=>.leaf i
 | .node a b,i+1=>if i<size a then .node (putAt l a i) b else .node a (putAt l b (i - size a))
theorem lL:∀ (t:Tree) (i:Nat),i<size t→∃ pre suf,pre.length=i∧gT t=pre++(gT (subAt t i)++suf)∧∀ l,gT (putAt l t i)=pre++(-1::(gT (subAt t i)++((l:Nat):Int)::suf))
 | t,0,_=>⟨[],[],rfl,by simp[subAt],fun l=>by simp[subAt,putAt,gT]⟩
 | .leaf _,i+1,h=>by simp[size] at h
 | .node a b,i+1,h=>by
  by_cases c:i<size a
  ·obtain ⟨pre,suf,h1,h2,h3⟩:=lL a i c
   refine ⟨-1::pre,suf++gT b,by simp[h1],?_,fun l=>?_⟩
   ·simp[subAt,c,gT,h2]
   ·simp[subAt,putAt,c,gT,h3 l]
  ·obtain ⟨pre,suf,h1,h2,h3⟩:=lL b (i - size a) (by simp[size] at h;omega)
   refine ⟨-1::(gT a++pre),suf,by simp[h1,fQ];omega,?_,fun l=>?_⟩
   ·simp[subAt,c,gT,h2]
   ·simp[subAt,putAt,c,gT,h3 l]
theorem mz (l:Nat):∀ t:Tree,insertAll l t=(bp (size t)).map (putAt l t)
 | .leaf i=>by simp[insertAll,size,putAt]
 | .node a b=>by
  have e:bp (size (.node a b))=0::((bp (size a)).map (·+1)++(bp (size b)).map fun j=>(size a+j)+1):=by
   rw[size,mO,qA,UE,aX,br]
   rfl
  rw[e,insertAll,mz l a,mz l b,bo,aX,br,br,br,br]
  refine congr (congrArg List.cons rfl) (congr (congrArg Ml (dm fun i hi=>?_)) (dm fun i hi=>?_))
  ·have:i<size a:=dH.mp hi
   simp[putAt,this]
  ·have:¬ size a+i<size a:=by omega
   simp[putAt,this]
theorem Oq (l:Nat):∀ (t:Tree) (i:Nat),i<size t→size (putAt l t i)=size t+2
 | t,i,h=>by
  obtain ⟨pre,suf,h1,h2,h3⟩:=lL t i h
  have e1:=congrArg dF h2
  have e2:=congrArg dF (h3 l)
  simp[fQ] at e1 e2
  omega
theorem pI:∀ (n:Nat) (t:Tree),t∈trees (n+1)→size t=2*n+1
 | 0,t,h=>by
  simp[trees] at h
  subst h;rfl
 | n+1,t,h=>by
  simp only[trees,p8] at h
  obtain ⟨u,hu,ht⟩:=h
  have:=pI n u hu
  rw[mz,aU] at ht
  obtain ⟨i,hi,rfl⟩:=ht
  rw[Oq _ _ _ (dH.mp hi)];omega
theorem zw (l:Nat)(t:Tree):(insertAll l t).length=size t:=by rw[mz];simp
theorem gG:∀ n:Nat,(trees (n+2)).length=(trees (n+1)).length*(2*n+1):=fun n=>by
 rw[trees]
 have h:=fun t ht=>pI n t ht
 generalize trees (n+1)=ts at h
 induction ts with
 | nil=>simp
 | cons t ts ih =>
  rw[bN,aK,zw,h t ax,ih fun u hu=>h u (ao _ hu),aS,Nat.succ_mul ts.length]
  omega
theorem Az:∀ n,n≤5→(trees n).length≤105
 | 0,_=>by simp[trees]
 | 1,_=>by simp[trees]
 | 2,_=>by rw[gG];simp[trees]
 | 3,_=>by rw[gG,gG];simp[trees]
 | 4,_=>by rw[gG,gG,gG];simp[trees]
 | 5,_=>by rw[gG,gG,gG,gG];simp[trees]
theorem DC:∀ n,trees (n+1)≠[]
 | 0=>by simp[trees]
 | n+1=>fun h=>by
  have:=gG n
  rw[h] at this
  have z:(trees (n+1)).length≠0:=fun q=>DC n (cW.mp q)
  have:(trees (n+1)).length*(2*n+1)=0:=this.symm
  rcases Nat.mul_eq_zero.mp this with q | q
  ·exact z q
  ·omega
def gW (t:Tree)(i:Nat):List Nat:=match subAt t i with
 | .leaf _=>[]
 | .node a _=>[i+1,i+1+size a]
theorem NH (t:Tree)(i:Nat)(h:i<size t):(gT t)[i]?=some (match subAt t i with
  | .leaf l=>(l:Int)
  | .node _ _=>-1):=by
 obtain ⟨pre,suf,h1,h2,_⟩:=lL t i h
 rw[h2,fE (by omega),h1,xD]
 cases subAt t i<;>simp[gT]
theorem ou:∀ (t:Tree) (i:Nat) (a b:Tree),i<size t→subAt t i=.node a b→i+1+size a+size b≤size t∧subAt t (i+1)=a∧subAt t (i+1+size a)=b
 | t,0,a,b,h,e=>by
  have e:t=.node a b:=by simpa [subAt] using e
  subst e
  have h1:=size_pos a
  refine ⟨by simp[size];omega,?_,?_⟩
  ·simp only[subAt,h1,if_true]
  ·have:0+1+size a=size a+1:=by omega
   rw[this]
   simp only[subAt,dn,if_false,xD]
 | .leaf _,i+1,a,b,h,e=>by simp[size] at h
 | .node c d,i+1,a,b,h,e=>by
  by_cases q:i<size c
  ·have e:subAt c i=.node a b:=by simpa [subAt,q] using e
   obtain ⟨g1,g2,g3⟩:=ou c i a b q e
   refine ⟨by simp[size];omega,?_,?_⟩
   ·have:i+1<size c:=by have:=size_pos a;have:=size_pos b;omega
    simp[subAt,this,g2]
   ·have:i+1+size a<size c:=by have:=size_pos b;omega
    have z:i+1+1+size a=(i+1+size a)+1:=by omega
    rw[z]
    simp[subAt,this,g3]
  ·have e:subAt d (i - size c)=.node a b:=by simpa [subAt,q] using e
   obtain ⟨g1,g2,g3⟩:=ou d (i - size c) a b (by simp[size] at h;omega) e
   refine ⟨by simp[size];omega,?_,?_⟩
   ·have:¬ i+1<size c:=by omega
    have z:i+1 - size c=i - size c+1:=by omega
    simp[subAt,this,z,g2]
   ·have:¬ i+1+size a<size c:=by omega
    have z:i+1+1+size a=(i+1+size a)+1:=by omega
    have z2:i+1+size a - size c=i - size c+1+size a:=by omega
    rw[z]
    simp[subAt,this,z2,g3]
theorem DY {t:Tree}{i j:Nat}(h:i<size t)(m:j∈gW t i):i<j∧j<size t:=by
 unfold gW at m
 cases e:subAt t i with
 | leaf l=>rw[e] at m;simp at m
 | node a b =>
  rw[e] at m
  obtain ⟨g,_,_⟩:=ou t i a b h e
  have:=size_pos a
  have:=size_pos b
  simp at m
  omega
theorem parent:∀ (t:Tree) (j:Nat),0<j→j<size t→∃ i,i<j∧j∈gW t i
 | .leaf _,j,h,h2=>by simp[size] at h2;omega
 | .node a b,j,h,h2=>by
  have top:gW (.node a b) 0=[1,1+size a]:=by simp[gW,subAt]
  by_cases c1:j=1
  ·exact ⟨0,h,by rw[top,c1];simp⟩
  by_cases c2:j=1+size a
  ·exact ⟨0,h,by rw[top,c2];simp⟩
  by_cases c:j - 1<size a
  ·obtain ⟨i,hi,m⟩:=parent a (j - 1) (by omega) c
   refine ⟨i+1,by omega,?_⟩
   have q:i<size a:=by omega
   unfold gW at m ⊢
   simp only[subAt,q,if_true]
   cases e:subAt a i with
   | leaf l=>rw[e] at m;simp at m
   | node x y=>rw[e] at m;simp at m ⊢;omega
  ·obtain ⟨i,hi,m⟩:=parent b (j - 1 - size a) (by omega) (by simp[size] at h2;omega)
   refine ⟨size a+i+1,by omega,?_⟩
   have q:¬ size a+i<size a:=by omega
   unfold gW at m ⊢
   simp only[subAt,q,if_false,gk]
   cases e:subAt b i with
   | leaf l=>rw[e] at m;simp at m
   | node x y=>rw[e] at m;simp at m ⊢;omega
def Cr:Cost→List Cost→Prop
 | none,l=>∀ x∈l,x=none
 | some v,l=>some v∈l∧∀ w,some w∈l→v≤w
theorem zu:∀ (l:List Cost) (m:Cost),Cr (l.foldl (fun (m c:Cost)=>match m,c with
 | none,x=>x
 | some x,none=>some x
 | some x,some y=>if y<x then some y else some x) m) (m::l)
 | [],none=>by
  intro x hx
  simpa using hx
 | [],some v=>⟨ax,fun w hw=>by simp at hw;omega⟩
 | c::l,m=>by
  rw[d4]
  have ih:=zu l (match m,c with
   | none,x=>x
   | some x,none=>some x
   | some x,some y=>if y<x then some y else some x)
  revert ih
  generalize l.foldl _ _=r
  cases m with
  | none =>
   intro ih
   cases r with
   | none=>intro x hx;rcases aI.mp hx with e | hx;exact e;exact ih x hx
   | some v=>exact ⟨ao _ ih.1,fun w hw=>ih.2 w (by rcases aI.mp hw with e | hw;cases e;exact hw)⟩
  | some x =>
   cases c with
   | none =>
    intro ih
    cases r with
    | none=>exact absurd (ih (some x) ax) (by simp)
    | some v =>
     refine ⟨?_,fun w hw=>ih.2 w ?_⟩
     ·rcases aI.mp ih.1 with e | h
      ·rw[e];exact ax
      ·exact ao _ (ao _ h)
     ·rcases aI.mp hw with e | h
      ·rw[e];exact ax
      ·rcases aI.mp h with e | h
       ·cases e
       ·exact ao _ h
   | some y =>
    show Cr r ((if y<x then some y else some x)::l)→_
    intro ih
    cases r with
    | none =>
     have:=ih _ ax
     split at this<;>cases this
    | some v =>
     have h1:=ih.1
     have h2:=ih.2
     refine ⟨?_,fun w hw=>?_⟩
     ·rcases aI.mp h1 with e | h
      ·split at e
       ·rw[e];exact ao _ ax
       ·rw[e];exact ax
      ·exact ao _ (ao _ h)
     ·have low:∀ z,(if y<x then some y else some x)=some z→v≤z:=fun z e=>h2 z (by rw[e];exact ax)
      by_cases q:y<x
      ·have:=low y (if_pos q)
       rcases aI.mp hw with e | hw
       ·cases e;omega
       ·rcases aI.mp hw with e | hw
        ·cases e;exact this
        ·exact h2 w (ao _ hw)
      ·have:=low x (if_neg q)
       rcases aI.mp hw with e | hw
       ·cases e;exact this
       ·rcases aI.mp hw with e | hw
        ·cases e;omega
        ·exact h2 w (ao _ hw)
theorem uZ (l:List Cost):Cr (least l) l:=by
 have h:=zu l none
 unfold least
 revert h
 generalize l.foldl _ none=r
 cases r with
 | none=>exact fun h x hx=>h x (ao _ hx)
 | some v=>exact fun h=>⟨by rcases aI.mp h.1 with e | q;cases e;exact q,fun w hw=>h.2 w (ao _ hw)⟩
theorem Eb {l:List Cost}{v:Nat}(h1:some v∈l)(h2:∀ w,some w∈l→v≤w):least l=some v:=by
 have h:=uZ l
 revert h
 cases least l with
 | none=>exact fun h=>absurd (h _ h1) (by simp)
 | some u =>
  intro h
  have:=h.2 v h1
  have:=h2 u h.1
  congr 1
  omega
theorem pN (c:lF):(choicesAt c).Pairwise (·<·):=rb _
theorem xm (c:lF)(x:Nat):x∈choicesAt c↔x∈c.sounds∧x≠0:=by
 unfold choicesAt
 rw[pV,fH]
 simp
def below (k:hX)(c:lF)(s:Nat)(t:Tree):List Cost:=(choicesAt c).map fun x=>plus (some (cost k s x)) (t.costFrom k c x)
def mb (k:hX)(c:lF)(t:Tree):List (Nat×Nat):=(choicesAt c).filterMap fun s=>(t.costFrom k c s).map fun x=>(s,x)
theorem nN {k:hX}{c:lF}{t:Tree}{s x:Nat}:(s,x)∈mb k c t↔s∈choicesAt c∧t.costFrom k c s=some x:=by
 unfold mb
 rw[vq]
 constructor
 ·rintro ⟨y,hy,e⟩
  cases q:t.costFrom k c y with
  | none=>rw[q] at e;cases e
  | some z =>
   rw[q] at e
   cases e
   exact ⟨hy,q⟩
 ·rintro ⟨h1,h2⟩
  exact ⟨s,h1,by rw[h2];rfl⟩
theorem sO {k:hX}{c:lF}{s:Nat}{t:Tree}{v:Nat}:some v∈below k c s t↔∃ x r,(x,r)∈mb k c t∧v=cost k s x+r:=by
 unfold below
 rw[aU]
 constructor
 ·rintro ⟨x,hx,e⟩
  cases q:t.costFrom k c x with
  | none=>rw[q] at e;cases e
  | some r =>
   rw[q] at e
   exact ⟨x,r,nN.mpr ⟨hx,q⟩,(aJ e).symm⟩
 ·rintro ⟨x,r,h,rfl⟩
  obtain ⟨h1,h2⟩:=nN.mp h
  exact ⟨x,h1,by rw[h2];rfl⟩
theorem zC {p:Nat→Bool}:∀ {l:List Nat} {x:Nat},l.Pairwise (·<·)→x∈l→p x=true→(∀ y∈l,p y=true→x≤y)→l.find? p=some x
 | [],x,_,h,_,_=>by simp at h
 | a::l,x,hl,h,hp,hm=>by
  obtain ⟨h1,h2⟩:=dE.mp hl
  rw[cH]
  rcases aI.mp h with e | h
  ·subst e;rw[hp]
  ·cases q:p a with
   | true =>
    have:=hm a ax q
    have:=h1 x h
    omega
   | false=>exact zC h2 h hp fun y hy=>hm y (ao _ hy)
theorem Iw {k:hX}{c:lF}{s:Nat}{t:Tree}{x r:Nat}(h:(x,r)∈mb k c t)(hm:∀ y q,(y,q)∈mb k c t→cost k s x+r<cost k s y+q∨(cost k s x+r=cost k s y+q∧x≤y)) :
  least (below k c s t)=some (cost k s x+r)∧nextOf k c s t=x:=by
 have e:least (below k c s t)=some (cost k s x+r):=Eb (sO.mpr ⟨x,r,h,rfl⟩) fun w hw=>by
  obtain ⟨y,q,hy,rfl⟩:=sO.mp hw
  rcases hm y q hy with z | z<;>omega
 refine ⟨e,?_⟩
 obtain ⟨hx,hr⟩:=nN.mp h
 have e':nextOf k c s t=((choicesAt c).find? fun y=>plus (some (cost k s y)) (t.costFrom k c y)==least (below k c s t)).getD 0:=rfl
 rw[e',e,zC (pN c) hx (by rw[hr];exact beq_self_eq_true _) fun y hy q=>?_]
 ·rfl
 ·have q:=eq_of_beq q
  cases z:t.costFrom k c y with
  | none=>rw[z] at q;cases q
  | some r' =>
   rw[z] at q
   have q:cost k s y+r'=cost k s x+r:=aJ q
   rcases hm y r' (nN.mpr ⟨hy,z⟩) with w | w<;>omega
theorem yq (k:hX)(c:lF)(hc:choicesAt c≠[]):∀ t:Tree,mb k c t≠[]
 | .leaf l=>by
  by_cases e:c.sounds.getD l 0=0
  ·obtain ⟨x,hx⟩:=g8 _ hc
   exact iH (nN (x:=0) |>.mpr ⟨hx,by unfold Tree.costFrom;exact if_pos (.inl e)⟩)
  ·have hl:l<c.sounds.length:=dR fun q=>e (by rw[gN,bG (by omega)];rfl)
   have hx:c.sounds.getD l 0∈choicesAt c:=(xm c _).mpr ⟨by rw[gN,aE hl];exact kW _,e⟩
   exact iH (nN (x:=0) |>.mpr ⟨hx,by unfold Tree.costFrom;exact if_pos (.inr rfl)⟩)
 | .node a b=>by
  obtain ⟨x,hx⟩:=g8 _ hc
  have low:∀ t,mb k c t≠[]→∃ v,least (below k c x t)=some v:=fun t ht=>by
   obtain ⟨⟨y,r⟩,hy⟩:=g8 _ ht
   have h:=uZ (below k c x t)
   cases e:least (below k c x t) with
   | some v=>exact ⟨v,rfl⟩
   | none =>
    rw[e] at h
    exact absurd (h _ (sO.mpr ⟨y,r,hy,rfl⟩)) (by simp)
  obtain ⟨v,hv⟩:=low a (yq k c hc a)
  obtain ⟨u,hu⟩:=low b (yq k c hc b)
  refine iH (a:=(x,v+u)) (nN.mpr ⟨hx,?_⟩)
  show plus (least (below k c x a)) (least (below k c x b))=_
  rw[hv,hu]
  rfl
def lv (k:hX)(c:lF)(s:Nat)(t:Tree):Nat:=(least (below k c s t)).getD 0
theorem zI (k:hX)(c:lF)(s:Nat)(t:Tree)(hc:choicesAt c≠[]):least (below k c s t)=some (lv k c s t):=by
 obtain ⟨⟨y,r⟩,hy⟩:=g8 _ (yq k c hc t)
 have h:=uZ (below k c s t)
 unfold lv
 cases e:least (below k c s t) with
 | some v=>rfl
 | none =>
  rw[e] at h
  exact absurd (h _ (sO.mpr ⟨y,r,hy,rfl⟩)) (by simp)
theorem El {α β:Type}{f g:α→Option β}:∀ {l:List α},(∀ a∈l,f a=g a)→l.filterMap f=l.filterMap g
 | [],_=>rfl
 | a::l,h=>by rw[fF,fF,h a ax,El fun b hb=>h b (ao _ hb)]
theorem RZ (k:hX)(c:lF)(a b:Tree):mb k c (.node a b)=(choicesAt c).map fun s=>(s,lv k c s a+lv k c s b):=by
 by_cases hc:choicesAt c=[]
 ·unfold mb;rw[hc];rfl
 ·unfold mb
  rw[← List.filterMap_eq_map]
  refine El fun s _=>?_
  show (plus (least (below k c s a)) (least (below k c s b))).map _=_
  rw[zI k c s a hc,zI k c s b hc]
  rfl
theorem R0 (k:hX)(c:lF)(l:Nat):mb k c (.leaf l)=((choicesAt c).filter fun s=>decide (c.sounds.getD l 0=0∨c.sounds.getD l 0=s)).map fun s=>(s,0):=by
 unfold mb
 induction choicesAt c with
 | nil=>rfl
 | cons x r ih =>
  rw[fF,cE,ih]
  unfold Tree.costFrom
  by_cases q:c.sounds.getD l 0=0∨c.sounds.getD l 0=x
  ·rw[if_pos q,if_pos (decide_eq_true q)];rfl
  ·rw[if_neg q,if_neg (by rw[decide_eq_false q];decide)];rfl
theorem Ow (k:hX)(t:Tree)(c:lF){m:Nat}(h:(mb k c t=[]∧m=0)∨((∃ x,(x,m)∈mb k c t)∧∀ p∈mb k c t,m≤p.2)):t.score k c=m:=by
 unfold Tree.score
 rcases h with ⟨h,rfl⟩ | ⟨⟨x,hx⟩,hm⟩
 ·rw[if_pos (dR fun q=>yq k c q t h)]
 ·obtain ⟨h1,h2⟩:=nN.mp hx
  rw[if_neg (iH h1),Eb (v:=m) (aU.mpr ⟨x,h1,h2⟩) fun w hw=>?_]
  ·rfl
  ·obtain ⟨y,hy,e⟩:=aU.mp hw
   exact hm (y,w) (nN.mpr ⟨hy,e⟩)
theorem OE (k:hX)(t:Tree)(c:lF):t.roots k c=((mb k c t).filter fun p=>decide (p.2=t.score k c)).map (·.1):=by
 unfold Tree.roots mb
 generalize t.score k c=m
 induction choicesAt c with
 | nil=>rfl
 | cons x r ih =>
  rw[cE,fF,ih]
  cases e:t.costFrom k c x with
  | none=>rfl
  | some v =>
   show _=eB _ (oW _ ((x,v)::_))
   rw[cE]
   by_cases q:v=m
   ·subst q
    rw[if_pos (beq_self_eq_true _),if_pos (decide_eq_true rfl)]
    rfl
   ·rw[if_neg (by simpa using q),if_neg (by simpa using q)]
theorem OD (k:hX)(t:Tree)(c:lF)(hc:choicesAt c≠[]):t.roots k c≠[]:=by
 have h:=uZ ((choicesAt c).map fun s=>t.costFrom k c s)
 obtain ⟨⟨y,r⟩,hy⟩:=g8 _ (yq k c hc t)
 obtain ⟨h1,h2⟩:=nN.mp hy
 cases e:least ((choicesAt c).map fun s=>t.costFrom k c s) with
 | none =>
  rw[e] at h
  exact absurd (h (some r) (aU.mpr ⟨y,h1,h2⟩)) (by simp)
 | some v =>
  rw[e] at h
  obtain ⟨x,hx,ex⟩:=aU.mp h.1
  have es:t.score k c=v:=by unfold Tree.score;rw[if_neg hc,e];rfl
  refine iH (a:=x) (fH.mpr ⟨hx,?_⟩)
  rw[ex,es]
  exact beq_self_eq_true _
theorem Hc (k:hX)(t:Tree)(c:lF)(hc:choicesAt c=[]):t.roots k c=[]:=by unfold Tree.roots;rw[hc];rfl
theorem iw (k:hX)(c:lF):∀ (t:Tree) (s:Nat),(t.states k c s).length=size t
 | .leaf _,s=>rfl
 | .node a b,s=>by simp[Tree.states,size,iw k c a,iw k c b];omega
theorem ra (k:hX)(c:lF)(t:Tree)(s:Nat):(t.states k c s)[0]?=some s:=by cases t<;>rfl
theorem pU (k:hX)(c:lF):∀ (t:Tree) (s i:Nat),i<size t→∃ si pre suf,pre.length=i∧t.states k c s=pre++((subAt t i).states k c si++suf)
 | t,s,0,_=>⟨s,[],[],rfl,by simp[subAt]⟩
 | .leaf _,s,i+1,h=>by simp[size] at h
 | .node a b,s,i+1,h=>by
  by_cases q:i<size a
  ·obtain ⟨si,pre,suf,h1,h2⟩:=pU k c a (nextOf k c s a) i q
   exact ⟨si,s::pre,suf++b.states k c (nextOf k c s b),by simp[h1],by simp[Tree.states,h2,subAt,q]⟩
  ·obtain ⟨si,pre,suf,h1,h2⟩:=pU k c b (nextOf k c s b) (i - size a) (by simp[size] at h;omega)
   exact ⟨si,s::(a.states k c (nextOf k c s a)++pre),suf,by simp[h1,iw];omega,by simp[Tree.states,h2,subAt,q]⟩
theorem Ko (k:hX)(c:lF)(t:Tree)(s i:Nat)(a b:Tree)(h:i<size t)(e:subAt t i=.node a b):∃ si,(t.states k c s)[i]?=some si∧(t.states k c s)[i+1]?=some (nextOf k c si a)∧(t.states k c s)[i+1+size a]?=some (nextOf k c si b):=by
 obtain ⟨si,pre,suf,h1,h2⟩:=pU k c t s i h
 rw[e] at h2
 rw[h2,Tree.states]
 refine ⟨si,?_,?_,?_⟩
 ·rw[fE (by omega),h1,xD];rfl
 ·rw[fE (by omega),h1,gk]
  show ((a.states k c _++b.states k c _)++suf)[0]?=_
  rw[dB,oa (by rw[iw];exact size_pos a)]
  exact ra k c a _
 ·rw[fE (by omega),h1,show i+1+size a - i=size a+1 by omega]
  show ((a.states k c _++b.states k c _)++suf)[size a]?=_
  rw[dB,fE (by rw[iw];exact aL _),iw,xD,oa (by rw[iw];exact size_pos b)]
  exact ra k c b _
theorem qZ (k:hX)(c:lF)(hc:choicesAt c=[]):∀ t:Tree,t.states k c 0=tq (size t) 0
 | .leaf _=>rfl
 | .node a b=>by
  have n:∀ u,nextOf k c 0 u=0:=fun u=>by unfold nextOf;rw[hc];rfl
  rw[Tree.states,n,n,qZ k c hc a,qZ k c hc b,size,List.replicate_append_replicate,mO 1]
  rfl
theorem Kl (l:List Nat):total l=l.sum:=rfl
theorem w8:∀ l m:List Nat,rowLe l m=true∨rowLe m l=true
 | [],_=>.inl rfl
 | _::_,[]=>.inr rfl
 | a::l,b::m=>by
  simp only[rowLe,rN,decide_eq_true_eq,bx,beq_iff_eq]
  have:=w8 l m
  by_cases h:a<b
  ·exact .inl (.inl h)
  ·by_cases h2:b<a
   ·exact .inr (.inl h2)
   ·have e:a=b:=by omega
    rcases this with q | q
    ·exact .inl (.inr ⟨e,q⟩)
    ·exact .inr (.inr ⟨e.symm,q⟩)
theorem w6:∀ l m n:List Nat,rowLe l m=true→rowLe m n=true→rowLe l n=true
 | [],_,_,_,_=>rfl
 | _::_,[],_,h,_=>by simp[rowLe] at h
 | _::_,_::_,[],_,h=>by simp[rowLe] at h
 | a::l,b::m,c::n,h1,h2=>by
  simp only[rowLe,rN,decide_eq_true_eq,bx,beq_iff_eq] at *
  rcases h1 with h1 | ⟨h1,h1'⟩
  ·rcases h2 with h2 | ⟨h2,_⟩
   ·exact .inl (by omega)
   ·exact .inl (by omega)
  ·rcases h2 with h2 | ⟨h2,h2'⟩
   ·exact .inl (by omega)
   ·exact .inr ⟨by omega,w6 l m n h1' h2'⟩
theorem zi:∀ l m:List Nat,rowLe l m=true→rowLe m l=true→l=m
 | [],[],_,_=>rfl
 | [],_::_,_,h=>by simp[rowLe] at h
 | _::_,[],h,_=>by simp[rowLe] at h
 | a::l,b::m,h1,h2=>by
  simp only[rowLe,rN,decide_eq_true_eq,bx,beq_iff_eq] at *
  have e:a=b:=by omega
  subst e
  rw[zi l m (by rcases h1 with h | ⟨_,h⟩;omega;exact h) (by rcases h2 with h | ⟨_,h⟩;omega;exact h)]
theorem w4:∀ {l m:List (List Nat)},l.Perm m→l.Pairwise (fun a b=>rowLe a b=true)→m.Pairwise (fun a b=>rowLe a b=true)→l=m
 | [],m,p,_,_=>by rw[List.nil_perm.mp p]
 | a::l,[],p,_,_=>absurd p.length_eq (by simp)
 | a::l,b::m,p,hl,hm=>by
  obtain ⟨h1,h2⟩:=dE.mp hl
  obtain ⟨g1,g2⟩:=dE.mp hm
  have e:a=b:=by
   rcases aI.mp (p.mem_iff.mp ax) with q | q
   ·exact q
   ·rcases aI.mp (p.mem_iff.mpr ax) with q' | q'
    ·exact q'.symm
    ·exact zi a b (h1 b q') (g1 a q)
  subst e
  rw[w4 ((Bo a).mp p) h2 g2]
theorem LL (k:hX)(n:Nat)(l:List Word){rows:List (List Nat)}(hp:rows.Perm ((((trees n).filter fun t=>decide (t.all k l=(best k n l).1)).map Tree.out)))(hs:rows.Pairwise fun a b=>rowLe a b=true) :
  (best k n l).2.map Tree.out=rows:=by
 have e:(best k n l).2=((trees n).filter fun t=>decide (t.all k l=(best k n l).1)).mergeSort fun a b=>rowLe a.out b.out:=by
  show (eB (fun x=>x.2) (oW _ ((trees n).map fun t=>(t.all k l,t)))).mergeSort _=_
  congr 1
  rw[zU,br]
  refine (List.map_id'' (fun _=>rfl) _).trans (congrArg (fun p=>oW p (trees n)) (funext fun t=>?_))
  show (t.all k l==_)=_
  rw[eJ]
  simp only[beq_iff_eq,decide_eq_true_eq]
  rfl
 rw[e]
 refine w4 (((List.mergeSort_perm _ _).map _).trans hp.symm) ?_ hs
 rw[gi]
 exact Fh (le:=fun (a b:Tree)=>rowLe a.out b.out) (fun a b c h1 h2=>w6 _ _ _ h1 h2) (fun a b=>by simpa using w8 a.out b.out) _
theorem D6:∀ (l:List (Nat×Tree)) (m:Nat),l.foldl (fun (b:Nat) x=>min b x.1) m≤m∧(∀ x∈l,l.foldl (fun (b:Nat) x=>min b x.1) m≤x.1)∧(l.foldl (fun (b:Nat) x=>min b x.1) m=m∨∃ x∈l,l.foldl (fun (b:Nat) x=>min b x.1) m=x.1)
 | [],m=>⟨aL _,fun _ h=>by simp at h,.inl rfl⟩
 | y::l,m=>by
  obtain ⟨h1,h2,h3⟩:=D6 l (min m y.1)
  rw[d4]
  refine ⟨by omega,fun x hx=>?_,?_⟩
  ·rcases aI.mp hx with rfl | hx
   ·omega
   ·exact h2 x hx
  ·rcases h3 with h3 | ⟨x,hx,h3⟩
   ·by_cases q:m≤y.1
    ·exact .inl (by omega)
    ·exact .inr ⟨y,ax,by omega⟩
   ·exact .inr ⟨x,ao _ hx,h3⟩
theorem HL (k:hX)(n:Nat)(l:List Word){m:Nat}(h1:m∈(trees n).map fun t=>t.all k l)(h2:∀ t∈trees n,m≤t.all k l):(best k n l).1=m:=by
 obtain ⟨t,ht,rfl⟩:=aU.mp h1
 show ((trees n).map fun t=>(t.all k l,t)).foldl (fun (b:Nat) x=>min b x.1) ((((trees n).map fun t=>(t.all k l,t)).head?.map fun x=>x.1).getD 0)=_
 obtain ⟨q1,q2,q3⟩:=D6 ((trees n).map fun t=>(t.all k l,t)) ((((trees n).map fun t=>(t.all k l,t)).head?.map fun x=>x.1).getD 0)
 have low:=q2 (t.all k l,t) (aU.mpr ⟨t,ht,rfl⟩)
 have up:t.all k l≤((trees n).map fun t=>(t.all k l,t)).foldl (fun (b:Nat) x=>min b x.1) ((((trees n).map fun t=>(t.all k l,t)).head?.map fun x=>x.1).getD 0):=by
  rcases q3 with q | ⟨x,hx,q⟩
  ·rw[q]
   cases e:trees n with
   | nil=>rw[e] at ht;simp at ht
   | cons u r=>exact h2 u (by rw[e];exact ax)
  ·rw[q]
   obtain ⟨u,hu,rfl⟩:=aU.mp hx
   exact h2 u hu
 exact Nat.le_antisymm low up
theorem rG (l:hX):∀ (n:Nat) (x y:List qm),x.length+y.length≤n→besideFrom l n x y=besideFrom l (x.length+y.length) x y:=by
 intro n
 induction n using Nat.strongRecOn with
 | _ n ih =>
  intro x y h
  match n,x,y,h with
  | n,[],[],_=>cases n<;>rfl
  | 0,a::r,y,h=>simp at h
  | 0,[],b::s,h=>simp at h
  | n+1,a::r,[],h =>
   have e1:=ih n (dP n) r [] (by simp at h ⊢;omega)
   show (besideFrom l n r []).with_ (cost l a 1) (a,1)=(besideFrom l (r.length+0) r []).with_ (cost l a 1) (a,1)
   rw[e1];rfl
  | n+1,[],b::s,h =>
   have e1:=ih n (dP n) [] s (by simp at h ⊢;omega)
   have e2:([]:List qm).length+(b::s).length=s.length+1:=by simp
   rw[e2]
   show (besideFrom l n [] s).with_ (cost l 1 b) (1,b)=(besideFrom l s.length [] s).with_ (cost l 1 b) (1,b)
   rw[e1];simp
  | n+1,a::r,b::s,h =>
   have h':r.length+s.length+1≤n:=by simp at h;omega
   have e1:=ih n (dP n) r s (by omega)
   have e2:=ih n (dP n) r (b::s) (by simp;omega)
   have e3:=ih n (dP n) (a::r) s (by simp;omega)
   have e0:(a::r).length+(b::s).length=(r.length+s.length+1)+1:=by simp;omega
   rw[e0]
   have f1:=ih (r.length+s.length+1) (by omega) r s (by omega)
   have f2:=ih (r.length+s.length+1) (by omega) r (b::s) (by simp;omega)
   have f3:=ih (r.length+s.length+1) (by omega) (a::r) s (by simp;omega)
   show less ((besideFrom l n r s).with_ (cost l a b) (a,b)) (less ((besideFrom l n r (b::s)).with_ (cost l a 1) (a,1)) ((besideFrom l n (a::r) s).with_ (cost l 1 b) (1,b))) =
    less ((besideFrom l (r.length+s.length+1) r s).with_ (cost l a b) (a,b)) (less ((besideFrom l (r.length+s.length+1) r (b::s)).with_ (cost l a 1) (a,1)) ((besideFrom l (r.length+s.length+1) (a::r) s).with_ (cost l 1 b) (1,b)))
   rw[e1,e2,e3,f1,f2,f3]
def QD (l:hX)(x y:List qm)(i j:Nat):Beside:=beside l (x.drop i) (y.drop j)
theorem E8 (l:hX)(a:qm)(r:List qm):beside l (a::r) []=(beside l r []).with_ (cost l a 1) (a,1):=rfl
theorem CJ (l:hX)(b:qm)(s:List qm):beside l [] (b::s)=(beside l [] s).with_ (cost l 1 b) (1,b):=by
 unfold beside
 have e2:([]:List qm).length+(b::s).length=s.length+1:=by simp
 rw[e2]
 show (besideFrom l s.length [] s).with_ (cost l 1 b) (1,b)=_
 simp
theorem E9 (l:hX)(a b:qm)(r s:List qm):beside l (a::r) (b::s) =
  less ((beside l r s).with_ (cost l a b) (a,b)) (less ((beside l r (b::s)).with_ (cost l a 1) (a,1)) ((beside l (a::r) s).with_ (cost l 1 b) (1,b))):=by
 unfold beside
 have e0:(a::r).length+(b::s).length=(r.length+s.length+1)+1:=by simp;omega
 rw[e0]
 show less ((besideFrom l (r.length+s.length+1) r s).with_ (cost l a b) (a,b)) (less ((besideFrom l (r.length+s.length+1) r (b::s)).with_ (cost l a 1) (a,1)) ((besideFrom l (r.length+s.length+1) (a::r) s).with_ (cost l 1 b) (1,b)))=_
 rw[rG l (r.length+s.length+1) r s (by omega),rG l (r.length+s.length+1) r (b::s) (by simp;omega),rG l (r.length+s.length+1) (a::r) s (by simp;omega)]
def JZ (l:hX)(x y:List qm)(i j:Nat):List Beside:=match x[i]?,y[j]? with
 | some a,some b=>[(QD l x y (i+1) (j+1)).with_ (cost l a b) (a,b)]
 | _,_=>[]
def Mo (l:hX)(x y:List qm)(i j:Nat):List Beside:=match x[i]? with
 | some a=>[(QD l x y (i+1) j).with_ (cost l a 1) (a,1)]
 | none=>[]
def QW (l:hX)(x y:List qm)(i j:Nat):List Beside:=match y[j]? with
 | some b=>[(QD l x y i (j+1)).with_ (cost l 1 b) (1,b)]
 | none=>[]
def z0 (l:hX)(x y:List qm)(i j:Nat):List Beside:=if i=x.length∧j=y.length then [⟨0,1,[]⟩] else JZ l x y i j++Mo l x y i j++QW l x y i j
def iR (cs:List Beside):Nat:=match cs with
 | []=>0
 | c::r=>r.foldl (fun m b=>min m b.cost) c.cost
def iV (m:Nat)(cs:List Beside):Beside:=⟨m,((cs.filter fun b=>decide (b.cost=m)).map (·.many)).sum,((cs.filter fun b=>decide (b.cost=m)).head?.map (·.first)).getD []⟩
def tT (cs:List Beside):Beside:=iV (iR cs) cs
theorem Gv (a:Beside):tT [a]=a:=by
 show iV a.cost [a]=a
 simp[iV]
theorem Wc (a b c:Beside):tT [a,b,c]=less a (less b c):=by
 have key:∀ m,iR [a,b,c]=m→tT [a,b,c]=iV m [a,b,c]:=fun m e=>by unfold tT;rw[e]
 have lc:iR [a,b,c]=min (min a.cost b.cost) c.cost:=rfl
 obtain ⟨ca,ma,fa⟩:=a
 obtain ⟨cb,mb,fb⟩:=b
 obtain ⟨cc,mc,fc⟩:=c
 simp only[less]
 simp only at lc
 by_cases h1:cb<cc
 ·rw[if_pos h1]
  by_cases h2:ca<cb
  ·rw[if_pos h2,key ca (by omega)]
   simp[iV,show ¬ cb=ca by omega,show ¬ cc=ca by omega]
  ·rw[if_neg h2]
   by_cases h3:cb<ca
   ·rw[if_pos h3,key cb (by omega)]
    simp[iV,show ¬ ca=cb by omega,show ¬ cc=cb by omega]
   ·rw[if_neg h3,key ca (by omega)]
    simp[iV,show cb=ca by omega,show ¬ cc=ca by omega]
 ·rw[if_neg h1]
  by_cases h1':cc<cb
  ·rw[if_pos h1']
   by_cases h2:ca<cc
   ·rw[if_pos h2,key ca (by omega)]
    simp[iV,show ¬ cb=ca by omega,show ¬ cc=ca by omega]
   ·rw[if_neg h2]
    by_cases h3:cc<ca
    ·rw[if_pos h3,key cc (by omega)]
     simp[iV,show ¬ ca=cc by omega,show ¬ cb=cc by omega]
    ·rw[if_neg h3,key ca (by omega)]
     simp[iV,show ¬ cb=ca by omega,show cc=ca by omega]
  ·rw[if_neg h1']
   by_cases h2:ca<cb
   ·rw[if_pos h2,key ca (by omega)]
    simp[iV,show ¬ cb=ca by omega,show ¬ cc=ca by omega]
   ·rw[if_neg h2]
    by_cases h3:cb<ca
    ·rw[if_pos h3,key cb (by omega)]
     simp[iV,show ¬ ca=cb by omega,show cc=cb by omega]
    ·rw[if_neg h3,key ca (by omega)]
     simp[iV,show cb=ca by omega,show cc=ca by omega]
theorem P5 (l:hX)(x y:List qm){i j:Nat}(hi:i≤x.length)(hj:j≤y.length):tT (z0 l x y i j)=QD l x y i j:=by
 unfold z0 JZ Mo QW QD
 by_cases h:i=x.length∧j=y.length
 ·rw[if_pos h,Gv,h.1,h.2,p9,p9]
  rfl
 ·rw[if_neg h]
  by_cases h1:i<x.length
  ·have ex:x[i]?=some x[i]:=aE h1
   have dx:x.drop i=x[i]::x.drop (i+1):=dt h1
   by_cases h2:j<y.length
   ·have ey:y[j]?=some y[j]:=aE h2
    have dy:y.drop j=y[j]::y.drop (j+1):=dt h2
    rw[ex,ey,dx,dy,E9]
    exact Wc _ _ _
   ·have ey:y[j]?=none:=bG (by omega)
    have dy:y.drop j=[]:=qC (by omega)
    rw[ex,ey,dx,dy,E8]
    exact Gv _
  ·have ex:x[i]?=none:=bG (by omega)
   have dx:x.drop i=[]:=qC (by omega)
   have h2:j<y.length:=by omega
   have ey:y[j]?=some y[j]:=aE h2
   have dy:y.drop j=y[j]::y.drop (j+1):=dt h2
   rw[ex,ey,dx,dy,CJ]
   exact Gv _
theorem zG (l:hX):∀ (n:Nat) (x y:List qm),(besideFrom l n x y).first.length≤n:=by
 intro n
 induction n with
 | zero=>intro x y;simp[besideFrom]
 | succ n ih =>
  intro x y
  match x,y with
  | [],[]=>simp[besideFrom]
  | a::r,[]=>simpa [besideFrom,Beside.with_] using ih r []
  | [],b::s=>simpa [besideFrom,Beside.with_] using ih [] s
  | a::r,b::s =>
   have q:∀ u v:Beside,u.first.length≤n+1→v.first.length≤n+1→(less u v).first.length≤n+1:=by
    intro u v hu hv
    unfold less
    split
    ·exact hu
    ·split
     ·exact hv
     ·exact hu
   have w:∀ (u:Beside) c p,u.first.length≤n→(u.with_ c p).first.length≤n+1:=by
    intro u c p h
    simpa [Beside.with_] using h
   exact q _ _ (w _ _ _ (ih _ _)) (q _ _ (w _ _ _ (ih _ _)) (w _ _ _ (ih _ _)))
def yr (had:List (lF×Nat))(c:lF)(k:Nat):Bool:=had.all fun x=>x.2 != k||share x.1 c
def gf (lim:Nat):List (lF×Nat)→Nat→List lF→Option (List Nat)
 | _,_,[]=>some []
 | had,n,c::l=>(bp (min lim (n+1))).findSome? fun k =>
   if yr had c k=true then (gf lim (had++[(c,k)]) (if k=n then n+1 else n) l).map fun r=>k::r else none
theorem vf {α β:Type}(p:β→Bool)(f:α→List β):∀ l:List α,(l.flatMap f).find? p=l.findSome? fun a=>(f a).find? p
 | []=>rfl
 | a::l=>by
  rw[bN,List.find?_append,eh,vf p f l]
  cases (f a).find? p<;>rfl
theorem tF (p:List Nat→Bool)(k:Nat)(q:List Nat→Bool)(h:∀ r,p (k::r)=q r)(L:List (List Nat)):(L.map fun r=>k::r).find? p=(L.find? q).map fun r=>k::r:=by
 induction L with
 | nil=>rfl
 | cons a L ih =>
  rw[bo,cH,cH,h a]
  cases q a with
  | true=>rfl
  | false=>exact ih
theorem rP {α β:Type}{f g:α→Option β}:∀ {l:List α},(∀ a∈l,f a=g a)→l.findSome? f=l.findSome? g
 | [],_=>rfl
 | a::l,h=>by
  rw[eh,eh,h a ax,rP fun b hb=>h b (ao _ hb)]
theorem iG {α β:Type}{f:α→Option β}:∀ {l:List α},(∀ a∈l,f a=none)→l.findSome? f=none
 | [],_=>rfl
 | a::l,h=>by
  rw[eh,h a ax]
  exact iG fun b hb=>h b (ao _ hb)
theorem pH (lim:Nat):∀ (l:List lF) (had:List (lF×Nat)) (n:Nat),gf lim had n l=(namingsFrom had n l).find? fun r=>r.all fun k=>decide (k<lim)
 | [],had,n=>rfl
 | c::l,had,n=>by
  show ((bp (min lim (n+1))).findSome? fun k=>if yr had c k=true then (gf lim (had++[(c,k)]) (if k=n then n+1 else n) l).map fun r=>k::r else none) =
   ((bp (n+1)).flatMap fun k=>if (had.all fun x=>x.2 != k||share x.1 c)=true then (namingsFrom (had++[(c,k)]) (if k=n then n+1 else n) l).map fun r=>k::r else []).find? _
  rw[vf]
  have e:bp (n+1)=bp (min lim (n+1))++(bp ((n+1) - min lim (n+1))).map (min lim (n+1)+·):=by
   rw[← UE]
   congr 1
   omega
  rw[e,sR]
  have z:((bp ((n+1) - min lim (n+1))).map (min lim (n+1)+·)).findSome? (fun k=>(if (had.all fun x=>x.2 != k||share x.1 c)=true then (namingsFrom (had++[(c,k)]) (if k=n then n+1 else n) l).map fun r=>k::r else []).find? fun r=>r.all fun k=>decide (k<lim))=none:=by
   refine iG fun k hk=>?_
   obtain ⟨d,hd,rfl⟩:=aU.mp hk
   have hd':=dH.mp hd
   have hl:¬ (min lim (n+1)+d<lim):=by omega
   split
   ·rw[tF _ _ (fun _=>false) (fun r=>by simp only[jx,decide_eq_false hl,ip])]
    simp
   ·rfl
  rw[z,Option.or_none]
  refine rP fun k hk=>?_
  have hk':k<lim:=by have:=dH.mp hk;omega
  show (if yr had c k=true then _ else _)=(if yr had c k=true then _ else _:List (List Nat)).find? _
  split
  ·rw[tF _ _ (fun r=>r.all fun k=>decide (k<lim)) (fun r=>by simp only[jx,decide_eq_true hk',jy]),pH lim l]
  ·rfl
theorem yO:∀ (r:List Nat) (m:Nat),r.foldl (fun m k=>max m (k+1)) m=max m (olds r)
 | [],m=>by simp[olds]
 | k::r,m=>by
  unfold olds
  rw[d4,d4,yO r,yO r]
  omega
theorem lM (k:Nat)(r:List Nat):olds (k::r)=max (k+1) (olds r):=by
 unfold olds
 rw[d4,yO r]
 unfold olds
 omega
theorem rX (lim:Nat):∀ r:List Nat,(r.all fun k=>decide (k<lim))=decide (olds r≤lim)
 | []=>by simp[olds]
 | k::r=>by
  rw[jx,rX lim r,lM]
  by_cases h1:k<lim<;>by_cases h2:olds r≤lim<;>simp[h1,h2]<;>omega
theorem ud {α:Type}(f:α→Nat):∀ (l:List α) (a:α),l.foldl (fun (b:Option α) r=>match b with
  | none=>some r
  | some m=>if f r<f m then some r else some m) (some a)=(a::l).find? fun r=>decide (∀ x∈a::l,f r≤f x)
 | [],a=>by simp
 | b::l,a=>by
  rw[d4]
  show l.foldl _ (if f b<f a then some b else some a)=_
  by_cases h:f b<f a
  ·rw[if_pos h,ud f l b]
   have n:¬ ∀ x∈a::b::l,f a≤f x:=fun q=>by
    have:=q b (by simp)
    omega
   rw[cH (a:=a),decide_eq_false n]
   refine congrArg (fun p=>List.find? p (b::l)) (funext fun r=>decide_eq_decide.mpr ⟨fun q x hx=>?_,fun q x hx=>q x (ao _ hx)⟩)
   rcases aI.mp hx with rfl | hx
   ·have:=q b ax
    omega
   ·exact q x hx
  ·rw[if_neg h,ud f l a,cH,cH]
   have d1:decide (∀ x∈a::b::l,f a≤f x)=decide (∀ x∈a::l,f a≤f x):=decide_eq_decide.mpr ⟨fun q x hx=>q x (by simp at hx ⊢;rcases hx with rfl | hx<;>simp[*]),fun q x hx=>by
    simp only[aI] at hx
    rcases hx with rfl | rfl | hx
    ·exact aL _
    ·omega
    ·exact q x (ao _ hx)⟩
   rw[d1]
   by_cases hm:∀ x∈a::l,f a≤f x
   ·rw[decide_eq_true hm]
   ·rw[decide_eq_false hm]
    simp only
    rw[cH]
    have nb:¬ ∀ x∈a::b::l,f b≤f x:=fun q=>hm fun x hx=>by
     rcases aI.mp hx with rfl | hx
     ·exact aL _
     ·have:=q x (by simp[hx])
      have:=q a (by simp)
      omega
    rw[decide_eq_false nb]
    refine congrArg (fun p=>List.find? p l) (funext fun r=>decide_eq_decide.mpr ⟨fun q x hx=>?_,fun q x hx=>q x (by simp at hx ⊢;rcases hx with rfl | hx<;>simp[*])⟩)
    simp only[aI] at hx
    rcases hx with rfl | rfl | hx
    ·exact q _ (by simp)
    ·have:=q a (by simp)
     omega
    ·exact q _ (by simp[hx])
theorem zm:∀ (l:List lF) (had:List (lF×Nat)) (n:Nat),(∀ x∈had,x.2<n)→namingsFrom had n l≠[]
 | [],_,_,_=>by simp[namingsFrom]
 | c::l,had,n,h=>by
  have ih:=zm l (had++[(c,n)]) (n+1) (fun x hx=>by
   rcases bq.mp hx with hx | hx
   ·exact dD (h x hx)
   ·rw[bB.mp hx];exact dP n)
  have ok:(had.all fun x=>x.2 != n||share x.1 c)=true:=dJ.mpr fun x hx=>by
   have:=h x hx
   simp[show ¬ x.2=n by omega]
  intro e
  unfold namingsFrom at e
  rw[List.flatMap_eq_nil_iff] at e
  have:=e n (dH.mpr (dP n))
  rw[if_pos ok,if_pos rfl,L7] at this
  exact ih this
theorem zo:∀ (l:List lF) (had:List (lF×Nat)) (n:Nat) (r:List Nat),r∈namingsFrom had n l→r.length=l.length
 | [],_,_,r,h=>by
  rw[namingsFrom,bB] at h
  subst h
  rfl
 | c::l,had,n,r,h=>by
  unfold namingsFrom at h
  obtain ⟨k,_,hk⟩:=p8.mp h
  split at hk
  ·obtain ⟨r',dQ,rfl⟩:=aU.mp hk
   simp[zo l _ _ r' dQ]
  ·simp at hk
theorem xb:∀ (l:List lF) (had:List (lF×Nat)) (n:Nat) (r:List Nat),r∈namingsFrom had n l→olds r≤n+l.length
 | [],_,_,r,h=>by
  rw[namingsFrom,bB] at h
  rw[h];simp[olds]
 | c::l,had,n,r,h=>by
  unfold namingsFrom at h
  obtain ⟨k,hk0,hk⟩:=p8.mp h
  have hk1:=dH.mp hk0
  split at hk
  ·obtain ⟨r',dQ,rfl⟩:=aU.mp hk
   have:=xb l _ _ r' dQ
   rw[lM,aS]
   split at this<;>omega
  ·simp at hk
theorem oR (l:List lF):∃ r,fewest l=r∧r∈namings l∧(namings l).find? (fun x=>x.all fun k=>decide (k<olds r))=some r∧∀ x∈namings l,olds r≤olds x:=by
 have ne:namings l≠[]:=zm l [] 0 (fun _ h=>by simp at h)
 obtain ⟨a,L,e⟩:∃ a L,namings l=a::L:=by
  cases h:namings l with
  | nil=>exact absurd h ne
  | cons a L=>exact ⟨a,L,rfl⟩
 have f:fewest l=((a::L).find? fun r=>decide (∀ x∈a::L,olds r≤olds x)).getD []:=by
  unfold fewest
  rw[e,d4]
  refine congrArg (fun o=>Option.getD o []) (Eq.trans ?_ (ud olds L a))
  show L.foldl _ (some a)=_
  congr 1
  funext b r
  cases b<;>rfl
 have ex:∃ r∈a::L,∀ x∈a::L,olds r≤olds x:=by
  clear f e ne
  induction L generalizing a with
  | nil=>exact ⟨a,by simp,by simp⟩
  | cons b L ih =>
   obtain ⟨r,hr,q⟩:=ih b
   by_cases h:olds a≤olds r
   ·exact ⟨a,by simp,fun x hx=>by
     rcases aI.mp hx with rfl | hx
     ·exact aL _
     ·exact aD h (q x hx)⟩
   ·exact ⟨r,ao _ hr,fun x hx=>by
     rcases aI.mp hx with rfl | hx
     ·omega
     ·exact q x hx⟩
 obtain ⟨r0,qD,q0⟩:=ex
 cases g:(a::L).find? fun r=>decide (∀ x∈a::L,olds r≤olds x) with
 | none =>
  have:=nE.mp g r0 qD
  exact absurd (decide_eq_true q0) this
 | some r =>
  have hm:=CN g
  have hp:∀ x∈a::L,olds r≤olds x:=by
   have:=List.find?_some g
   simpa only [decide_eq_true_eq] using this
  refine ⟨r,by rw[f,g];rfl,by rw[e];exact hm,?_,by rw[e];exact hp⟩
  rw[e,← g]
  have:∀ x∈a::L,(x.all fun k=>decide (k<olds r))=decide (∀ y∈a::L,olds x≤olds y):=fun x hx=>by
   rw[rX]
   exact decide_eq_decide.mpr ⟨fun h y hy=>aD h (hp y hy),fun h=>h r hm⟩
  clear g f e ne hp hm q0 qD
  generalize a::L=M at this ⊢
  have:∀ (N:List (List Nat)),(∀ x∈N,x∈M)→N.find? (fun x=>x.all fun k=>decide (k<olds r))=N.find? fun x=>decide (∀ y∈M,olds x≤olds y):=by
   intro N
   induction N with
   | nil=>intro _;rfl
   | cons b N ih =>
    intro h
    rw[cH,cH,this b (h b ax),ih fun x hx=>h x (ao _ hx)]
  exact this M fun _ h=>h
theorem Aw (l:List lF)(lim:Nat)(h:lim<olds (fewest l)):gf lim [] 0 l=none:=by
 obtain ⟨r,e,hm,_,q⟩:=oR l
 rw[e] at h
 rw[pH]
 refine nE.mpr fun x hx=>?_
 rw[rX]
 have:=q x hx
 simp only[decide_eq_true_eq]
 omega
theorem U7 (l:List lF):gf (olds (fewest l)) [] 0 l=some (fewest l):=by
 obtain ⟨r,e,hm,g,q⟩:=oR l
 rw[e,pH]
 exact g
theorem zD (l:List lF):(fewest l).length=l.length:=by
 obtain ⟨r,e,hm,_,_⟩:=oR l
 rw[e]
 exact zo l [] 0 r hm
theorem xk (l:List lF):olds (fewest l)≤l.length:=by
 obtain ⟨r,e,hm,_,_⟩:=oR l
 rw[e]
 have:=xb l [] 0 r hm
 omega
def Ii (n:Nat)(ch:List Nat):List Nat:=tf (olds ch) (n - olds ch)
def oneMore (n:Nat)(cs:List (List Nat)):List (List Nat):=cs.flatMap fun ch=>(Ii n ch).map fun x=>ch++[x]
def ch (k a f:Nat):List (List Nat):=choose k f (tf a f)
theorem yc (a f:Nat):ch 0 a f=[[]]:=by unfold ch;cases f<;>rfl
theorem JA (k a:Nat):ch (k+1) a 0=[]:=rfl
theorem yd (k a f:Nat):ch (k+1) a (f+1)=(ch k (a+1) f).map (fun r=>a::r)++ch (k+1) (a+1) f:=rfl
theorem N1:∀ (f k a:Nat) (r:List Nat),r∈ch (k+1) a f→a<olds r
 | 0,k,a,r,h=>by rw[JA] at h;simp at h
 | f+1,k,a,r,h=>by
  rw[yd,bq] at h
  rcases h with h | h
  ·obtain ⟨x,_,rfl⟩:=aU.mp h
   rw[lM];omega
  ·have:=N1 f k (a+1) r h
   omega
def wQ (a n:Nat)(c:List Nat):List Nat:=tf (max a (olds c)) (n - max a (olds c))
theorem uP:∀ (f k a:Nat),ch (k+1) a f=(ch k a f).flatMap fun c=>(wQ a (a+f) c).map fun x=>c++[x]
 | 0,0,a=>by
  rw[JA,yc]
  have e:a - max a (olds [])=0:=by omega
  simp[wQ,e]
 | 0,k+1,a=>rfl
 | f+1,0,a=>by
  rw[yd,yc,yc,uP f 0 (a+1),yc]
  have e0:olds []=0:=rfl
  simp only[bo,fC,bN,kX,bV,TY,wQ,e0,Nat.max_zero]
  rw[show a+(f+1) - a=f+1 by omega,QL,show a+1+f - (a+1)=f by omega]
  rfl
 | f+1,k+1,a=>by
  rw[yd (k+1),yd k,uP f k (a+1),uP f (k+1) (a+1),gA,QP,List.map_flatMap]
  rw[show a+(f+1)=a+1+f by omega]
  refine congr (congrArg Ml ?_) ?_
  ·refine congrArg (fun g=>List.flatMap g (ch k (a+1) f)) (funext fun c=>?_)
   rw[br]
   have e:wQ a (a+1+f) (a::c)=wQ (a+1) (a+1+f) c:=by
    unfold wQ
    rw[lM,show max a (max (a+1) (olds c))=max (a+1) (olds c) by omega]
   rw[e]
   rfl
  ·rw[← uP f k (a+1)]
   have h:=fun r hr=>N1 f k (a+1) r hr
   revert h
   generalize ch (k+1) (a+1) f=L
   intro h
   induction L with
   | nil=>rfl
   | cons r L ih =>
    have:=h r ax
    rw[bN,bN,ih fun x hx=>h x (ao _ hx)]
    congr 1
    unfold wQ
    rw[show max (a+1) (olds r)=max a (olds r) by omega]
theorem E6 (n m:Nat):choose (m+1) n (bp n)=oneMore n (choose m n (bp n)):=by
 have h:=uP n m 0
 unfold ch at h
 rw[← tI,mM] at h
 rw[h]
 unfold oneMore
 refine congrArg (fun g=>List.flatMap g _) (funext fun c=>?_)
 unfold wQ Ii
 rw[Nat.zero_max]
theorem CH (n:Nat):choose 0 n (bp n)=[[]]:=by cases n<;>rfl
theorem pM:∀ (k f:Nat) (l r:List Nat),r∈choose k f l→r.length=k∧∀ x∈r,x∈l
 | 0,f,l,r,h=>by
  have:r=[]:=by cases f<;>cases l<;>simpa [choose] using h
  subst this;simp
 | k+1,0,l,r,h=>by simp[choose] at h
 | k+1,f+1,[],r,h=>by simp[choose] at h
 | k+1,f+1,i::l,r,h=>by
  rw[choose,bq] at h
  rcases h with h | h
  ·obtain ⟨q,hq,rfl⟩:=aU.mp h
   obtain ⟨h1,h2⟩:=pM k f l q hq
   refine ⟨by simp[h1],fun x hx=>?_⟩
   rcases aI.mp hx with e | hx
   ·rw[e];exact ax
   ·exact ao _ (h2 x hx)
  ·obtain ⟨h1,h2⟩:=pM (k+1) f l r h
   exact ⟨h1,fun x hx=>ao _ (h2 x hx)⟩
theorem uf:∀ (k f:Nat) (l:List Nat),(choose k f l).length≤2 ^ f
 | 0,f,l=>by cases f<;>cases l<;>simp[choose]<;>exact Nat.one_le_two_pow
 | k+1,0,l=>by simp[choose]
 | k+1,f+1,[]=>by simp[choose]
 | k+1,f+1,i::l=>by
  rw[choose,aK,ae]
  have:=uf k f l
  have:=uf (k+1) f l
  rw[Nat.pow_succ]
  omega
theorem rF:∀ (f:Nat) (l:List Nat) (k:Nat),l.length<k→choose k f l=[]
 | _,_,0,h=>by omega
 | 0,l,k+1,_=>by cases l<;>rfl
 | f+1,[],k+1,_=>rfl
 | f+1,x::l,k+1,q=>by
  have q':l.length<k:=by simpa using q
  rw[choose,rF f l k q',rF f l (k+1) (by omega)]
  rfl
theorem zF:∀ (l:List Nat),choose l.length l.length l=[l]
 | []=>rfl
 | i::l=>by
  show (choose l.length l.length l).map _++choose (l.length+1) l.length l=_
  rw[zF l,rF _ l (l.length+1) (by omega)]
  rfl
theorem GP (lim:Nat)(l:List lF):(gf lim [] 0 l).isSome=decide (olds (fewest l)≤lim):=by
 by_cases h:olds (fewest l)≤lim
 ·rw[decide_eq_true h,pH,List.find?_isSome]
  obtain ⟨r,e,hr,_,_⟩:=oR l
  refine ⟨r,hr,?_⟩
  rw[rX,← e]
  exact decide_eq_true h
 ·rw[decide_eq_false h,Aw l lim (by omega)]
  rfl
theorem EF (l:List Word):without l (bp l.length)=[]:=by
 unfold without
 rw[L7,kg]
 rintro ⟨w,i⟩ h
 have:=List.snd_lt_of_mem_zipIdx h
 simpa using by omega
theorem Pj (l:List Word)(k m:Nat)(r:List Nat)(hm:m≤l.length)(hb:∀ j<m,∀ o∈choose j l.length (bp l.length),¬ olds (fewest (patterns (without l o)))≤k)
  (hr:(choose m l.length (bp l.length)).find? (fun o=>decide (olds (fewest (patterns (without l o)))≤k))=some r):leaveOut l k=r:=by
 unfold leaveOut
 have e:(bp (l.length+1)).findSome? (fun m=>(choose m l.length (bp l.length)).find? fun o=>decide (olds (fewest (patterns (without l o)))≤k))=some r:=by
  have sp:bp (l.length+1)=bp m++m::tf (m+1) (l.length - m):=by
   rw[tI,tI,← QL,show l.length - m+1=l.length+1 - m by omega]
   have:=List.range'_append_1 (s:=0) (m:=m) (n:=l.length+1 - m)
   rw[mM] at this
   rw[this,show m+(l.length+1 - m)=l.length+1 by omega]
  rw[sp,sR,iG,eh,hr]
  ·rfl
  ·intro j hj
   rw[nE]
   intro o ho
   simpa using hb j (dH.mp hj) o ho
 rw[e]
 rfl
def xS (i:Nat)(c:bJ):Option Nat:=match c.sounds[i]? with
 | some s=>if s=0 then none else some s
 | none=>none
def uC (e i:Nat)(c:bJ):Option Nat:=if c.env=e then xS i c else none
def jR (cs:List bJ)(e i:Nat):Nat:=(cs.findSome? (uC e i)).getD 0
def group (l:List lF)(r:List Nat)(k:Nat):List lF:=((l.zip r).filter fun x=>x.2==k).map (·.1)
theorem AO (l:List lF)(r:List Nat)(n k e:Nat):reflex l r n k e=(bp n).map fun i=>jR (group l r k) e i:=by
 unfold reflex jR group
 refine dm fun i _=>?_
 congr 1
 induction l.zip r with
 | nil=>rfl
 | cons x L ih =>
  rw[cE,cE]
  by_cases h:x.2=k
  ·by_cases h2:x.1.env=e
   ·rw[if_pos (by simp[h,h2]),if_pos (by simp[h]),eh,bo,eh,ih]
    have:uC e i x.1=xS i x.1:=if_pos h2
    rw[this]
    rfl
   ·rw[if_neg (by simp[h2]),if_pos (by simp[h]),bo,eh,ih]
    have:uC e i x.1=none:=if_neg h2
    rw[this]
  ·rw[if_neg (by simp[h]),if_neg (by simp[h]),ih]
theorem Jr (l:List lF)(r:List Nat)(k:Nat):envsOf l r k=(((group l r k).map (·.env)).mergeSort fun a b=>decide (a≤b)).eraseDups:=by
 unfold envsOf group
 rw[br]
 rfl
def groups (l:List lF)(r:List Nat)(n:Nat):List (List lF):=(bp n).map (group l r)
theorem Hx {l:List lF}{r:List Nat}{i:Nat}{c:lF}{x:Nat}(hl:l[i]?=some c)(hr:r[i]?=some x)(k:Nat):group (l.take (i+1)) (r.take (i+1)) k=group (l.take i) (r.take i) k++(if x=k then [c] else []):=by
 have z:(l.take (i+1)).zip (r.take (i+1))=(l.take i).zip (r.take i)++[(c,x)]:=by
  obtain ⟨h1,e1⟩:=bT.mp hl
  obtain ⟨h2,e2⟩:=bT.mp hr
  rw[oY,oY,hl,hr]
  show (l.take i++[c]).zip (r.take i++[x])=_
  rw[List.zip_append (by rw[bM,bM];omega)]
  rfl
 unfold group
 rw[z,gL,aX]
 congr 1
 rw[cE]
 by_cases h:x=k
 ·rw[if_pos (by simp[h]),if_pos h];rfl
 ·rw[if_neg (by simp[h]),if_neg h];rfl
theorem A5 {l:List lF}{r:List Nat}{k:Nat}{c:lF}(h:c∈group l r k):c∈l:=by
 obtain ⟨⟨a,b⟩,h1,rfl⟩:=aU.mp h
 exact (iN (fH.mp h1).1).1
theorem wZ:∀ {l m:List Nat},l.Perm m→l.Pairwise (·≤·)→m.Pairwise (·≤·)→l=m
 | [],m,p,_,_=>by rw[List.nil_perm.mp p]
 | a::l,[],p,_,_=>absurd p.length_eq (by simp)
 | a::l,b::m,p,hl,hm=>by
  obtain ⟨h1,h2⟩:=dE.mp hl
  obtain ⟨g1,g2⟩:=dE.mp hm
  have e:a=b:=by
   rcases aI.mp (p.mem_iff.mp ax) with q | q
   ·exact q
   ·rcases aI.mp (p.mem_iff.mpr ax) with q' | q'
    ·exact q'.symm
    ·have:=h1 b q'
     have:=g1 a q
     omega
  subst e
  rw[wZ ((Bo a).mp p) h2 g2]
theorem rh:∀ {l m:List Nat},l.Nodup→(∀ x∈l,x∈m)→m.length=l.length→m.Perm l
 | [],m,_,_,h=>by rw[cW.mp h]
 | a::l,m,hn,hs,h=>by
  obtain ⟨n1,n2⟩:=eX.mp hn
  have ha:=hs a ax
  have p:=List.perm_cons_erase ha
  refine p.trans ((rh n2 (fun x hx=>?_) ?_).cons a)
  ·have hne:x≠a:=fun e=>n1 (e▸hx)
   exact (tK hne).mpr (hs x (ao _ hx))
  ·rw[o6 ha,h]
   rfl
theorem Rc (n:Nat)(t:Tree)(s:List Nat)(hp:s.Perm t.leaves)(hs:s.Pairwise (·≤·)):treeOk n t=decide (s=bp n):=by
 rw[eJ,decide_eq_true_eq]
 unfold treeOk
 rw[bx,beq_iff_eq,dJ]
 constructor
 ·rintro ⟨h1,h2⟩
  have p:=rh (l:=bp n) (m:=t.leaves) QM (fun x hx=>gQ.mp (h2 x hx)) (by rw[c4,h1])
  exact wZ (hp.trans p) hs (qB.imp fun h=>kE h)
 ·rintro rfl
  refine ⟨by rw[← hp.length_eq,c4],fun x hx=>gQ.mpr (hp.mem_iff.mp hx)⟩
end Sk
namespace L2
open PySem PySem.Spec PyProof.Rows
abbrev Key:=Sum Int cp
def jM:Key→ag→Bool
 | .inl k,v=>ag.isInt k v
 | .inr x,v=>ag.isStrOf x v
def Zj (w:bO):Key→Int
 | .inl k=>hashInt k
 | .inr x=>hashStr w x
theorem d3:∀ {k:Key} {v:ag},jM k v=true→(∃ i t,k=gF i∧v=ag.int i t)∨(∃ x t,k=uw x∧v=ag.str x t)
 | .inl i,v,h=>by
  obtain ⟨t,e⟩:=ag.isInt_shape (k:=i) (v:=v) h
  exact .inl ⟨i,t,rfl,e⟩
 | .inr x,v,h=>by
  obtain ⟨t,e⟩:=ag.isStrOf_shape (x:=x) (v:=v) h
  exact .inr ⟨x,t,rfl,e⟩
theorem Ld (i:Int)(t:Tok):jM (.inl i) (.int i t)=true:=by simp[jM,ag.isInt]
theorem Lc (x:cp)(t:Tok):jM (.inr x) (.str x t)=true:=by simp[jM,ag.isStrOf]
theorem NQ (a b:Int):decide ((gF a:Key)=gF b)=(a==b):=by
 by_cases e:a=b
 ·subst e;simp
 ·have h:¬ (gF a:Key)=gF b:=fun q=>e (UA q)
  rw[decide_eq_false h]
  exact (beq_eq_false_iff_ne.mpr e).symm
theorem NM (a b:cp):decide ((uw a:Key)=uw b)=decide (a=b):=by
 by_cases e:a=b
 ·subst e;simp
 ·have h:¬ (uw a:Key)=uw b:=fun q=>e (Uz q)
  rw[decide_eq_false h,decide_eq_false e]
theorem NP (a:Int)(b:cp):decide ((gF a:Key)=uw b)=false:=decide_eq_false (fun q=>nomatch q)
theorem NO (a:cp)(b:Int):decide ((uw a:Key)=gF b)=false:=decide_eq_false (fun q=>nomatch q)
def dW (prog:aY)(w:bO):PySem.KeyKind prog w Key where
 is:=jM
 hash:=Zj w
 inj:=fun v a b ha hb=>by
  rcases d3 ha with ⟨i,t,rfl,rfl⟩ | ⟨x,t,rfl,rfl⟩
  ·rcases d3 hb with ⟨j,u,rfl,e⟩ | ⟨y,u,rfl,e⟩
   ·injection e with e1 _;rw[e1]
   ·exact nomatch e
  ·rcases d3 hb with ⟨j,u,rfl,e⟩ | ⟨y,u,rfl,e⟩
   ·exact nomatch e
   ·injection e with e1 _;rw[e1]
 byValue:=fun k v h=>by
  rcases d3 h with ⟨i,t,rfl,rfl⟩ | ⟨x,t,rfl,rfl⟩<;>rfl
 pyHash:=fun hv h=>by
  rcases d3 hv with ⟨i,t,rfl,rfl⟩ | ⟨x,t,rfl,rfl⟩
  ·exact wpAny_pyHash_int h
  ·exact wpAny_pyHash_str h
 eqBool:=fun hu hv h=>by
  rcases d3 hu with ⟨i,t,rfl,rfl⟩ | ⟨x,t,rfl,rfl⟩
  ·rcases d3 hv with ⟨j,u,rfl,rfl⟩ | ⟨y,u,rfl,rfl⟩
   ·rw[NQ] at h;exact wpAny_eqBool_int h
   ·rw[NP] at h;exact C0 i t y u _ _ _ _ h
  ·rcases d3 hv with ⟨j,u,rfl,rfl⟩ | ⟨y,u,rfl,rfl⟩
   ·rw[NO] at h;exact CZ x t j u _ _ _ _ h
   ·rw[NM] at h;exact wpAny_eqBool_str h
 «strs»:=fun k x t v h=>by
  rcases d3 h with ⟨i,u,rfl,e⟩ | ⟨y,u,rfl,e⟩
  ·exact nomatch e
  ·injection e with e1 _
   subst e1
   cases v<;>rfl
theorem ER (prog:aY)(w:bO)(i:Int)(t:Tok):(dW prog w).is (.inl i) (.int i t)=true:=Ld i t
theorem EO (prog:aY)(w:bO)(x:cp)(t:Tok):(dW prog w).is (.inr x) (.str x t)=true:=Lc x t
abbrev eD:=Sum Key (List Key)
theorem bz {α β:Type}{R:α→β→Prop}:∀ {l:List α} {m:List β},Paired R l m→l.length=m.length
 | _,_,.nil=>rfl
 | _,_,.cons _ t=>congrArg (·+1) (bz t)
theorem ko {α β:Type}{R:α→β→Prop}:∀ {l:List α} {m:List β} {i:Nat} {b:β},Paired R l m→m[i]?=some b→∃ a,l[i]?=some a∧R a b
 | _,_,i,_,.nil,h=>by simp at h
 | _,_,0,_,.cons r _,h=>by
  cases aJ h
  exact ⟨_,rfl,r⟩
 | _,_,i+1,_,.cons _ t,h=>ko (i:=i) t h
theorem Hb {α:Type}[DecidableEq α](x y:List α):((bp (min x.length y.length)).all (fun j=>decide (x[j]?=y[j]?))&&x.length==y.length)=decide (x=y):=by
 rw[eJ,bx,dJ,decide_eq_true_iff,beq_iff_eq]
 constructor
 ·rintro ⟨h,hl⟩
  refine oZ fun j=>?_
  by_cases hj:j<x.length
  ·exact of_decide_eq_true (h j (dH.mpr (by omega)))
  ·rw[bG (by omega),bG (by omega)]
 ·rintro rfl
  exact ⟨fun _ _=>decide_eq_true rfl,rfl⟩
section
variable {A:cA}{s:au}
theorem DA {α:Type}[DecidableEq α]{R:α→ag→Prop}{a b:aj}{its jts:Array ag}{x y:List α}(hu:A.units<cLine)(he:∀ p q u v,R p u→R q v→mK A.in1 s u v (decide (p=q)))
  (ha:s.heap.IsTuple a its)(hb:s.heap.IsTuple b jts)(hx:Paired R x its.toList)(hy:Paired R y jts.toList)(same:a=b→x=y):mK A s (.ref a) (.ref b) (decide (x=y)):=by
 by_cases hab:a=b
 ·rw[decide_eq_true (same hab),hab]
  exact HS _
 ·have lx:x.length=its.size:=(bz hx).trans cM
  have ly:y.length=jts.size:=(bz hy).trans cM
  rw[← Hb,lx,ly]
  refine mK.of_refs hab (SeqAt.RcAt.tuples ha hb hu fun j h1 h2=>?_)
  obtain ⟨p,hp,rp⟩:=ko hx (i:=j) (b:=its[j]) (by simp[h1])
  obtain ⟨q,hq,rq⟩:=ko hy (i:=j) (b:=jts[j]) (by simp[h2])
  rw[hp,hq]
  have e:decide (some p=some q)=decide (p=q):=decide_eq_decide.mpr ⟨aJ,congrArg _⟩
  rw[e]
  exact he p q _ _ rp rq
theorem Ee {j k:Key}{u v:ag}(hj:jM j u=true)(hk:jM k v=true):mK A s u v (decide (j=k)):=by
 rcases d3 hj with ⟨m,t,rfl,rfl⟩ | ⟨x,t,rfl,rfl⟩
 ·rcases d3 hk with ⟨n,r,rfl,rfl⟩ | ⟨y,r,rfl,rfl⟩
  ·rw[NQ];exact .int_int _ _ _ _
  ·rw[NP];exact .int_str _ _ _ _
 ·rcases d3 hk with ⟨n,r,rfl,rfl⟩ | ⟨y,r,rfl,rfl⟩
  ·rw[NO];exact .str_int _ _ _ _
  ·rw[NM]
   have e:(x==y)=decide (x=y):=by
    by_cases z:x=y
    ·subst z;simp
    ·rw[decide_eq_false z];exact beq_eq_false_iff_ne.mpr z
   rw[← e];exact .str_str _ _ _ _
theorem Ay {prog:aY}{w:bO}{E:ag→au→Prop}{a:aj}{its:Array ag}{d:Nat}{Q:Bool→au→Prop}(ha:s.heap.IsTuple a its)
  (hi:∀ v∈its.toList,∀ Q':Bool→au→Prop,Q' true s→wpAny (model prog w) A (eqIsQuiet d v) Q' E s)(h:Q true s):wpAny (model prog w) A (eqIsQuiet (d+1) (.ref a)) Q E s:=by
 obtain ⟨o,ho,hc,n,hd⟩:=ha
 have hT:s.TypeIs (.ref a) "tuple":=⟨o,ho,hc⟩
 rw[eqIsQuiet]
 refine aa (EB hT F.slot_tuple_eq.lookup (aa (iJ hT isSubtype_tuple_tuple ?_)))
 rw[if_neg (by decide)]
 refine aa (c7 ho hd (aa ?_))
 show wpAny _ _ (forIn its _ _) _ _ s
 rw[← Mc]
 refine Cu _ (fun rest r t=>r.1=none∧t=s∧∀ v∈rest,v∈its.toList) _ (fun v rest r t ⟨h1,h2,h3⟩=>?_) (fun r t ⟨h1,h2,_⟩=>?_) _ _ ⟨rfl,rfl,fun _ z=>z⟩
 ·subst h2
  refine aa (hi v (h3 v ax) _ ?_)
  rw[if_neg (by decide)]
  exact ak ⟨rfl,rfl,fun u hu=>h3 u (ao _ hu)⟩
 ·obtain ⟨r1,r2⟩:=r
  cases (show r1=none from h1)
  subst h2
  exact ak h
end
section
variable (P:aY)(w:bO)
def k6 (h:bU):eD→ag→Prop
 | .inl k,v=>jM k v=true
 | .inr l,v=>∃ b,v=.ref b∧GL (dW P w) h l b
def oE:eD→Int
 | .inl k=>(dW P w).hash k
 | .inr l=>(tupleKind (dW P w)).hash l
def mo:eD→Nat
 | .inl _=>1
 | .inr l=>l.length+1
def mX (h:bU)(ks:List eD)(a:aj):Prop:=∃ its,h.IsTuple a its∧Paired (k6 P w h) ks its.toList
end
section
variable {P:aY}{w:bO}{A:cA}{E:ag→au→Prop}{s:au}
theorem xj {k:Key}{b:aj}(h:jM k (.ref b)=true):False:=by
 rcases d3 h with ⟨_,_,_,e⟩ | ⟨_,_,_,e⟩<;>exact nomatch e
theorem flatItems {ks:List Key}{vs:List ag}(h:ItemsAre (dW P w) ks vs):Paired (fun k v=>jM k v=true) ks vs:=by
 induction h with
 | nil=>exact .nil
 | cons a _ ih=>exact .cons a ih
theorem oQ {h:bU}{l:List Key}{b:aj}(q:GL (dW P w) h l b):∃ its,h.IsTuple b its∧Paired (fun k v=>jM k v=true) l its.toList:=by
 obtain ⟨o,its,n,h1,h2,h3,h4⟩:=q
 exact ⟨its,⟨o,h1,h2,n,h3⟩,flatItems h4⟩
theorem k6.one {h:bU}{x y:eD}{v:ag}(hx:k6 P w h x v)(hy:k6 P w h y v):x=y:=by
 match x,y,hx,hy with
 | .inl j,.inl k,hx,hy=>rw[(dW P w).inj v j k hx hy]
 | .inl j,.inr l,hx,⟨b,e,_⟩=>rw[e] at hx;exact (xj hx).elim
 | .inr l,.inl k,⟨b,e,_⟩,hy=>rw[e] at hy;exact (xj hy).elim
 | .inr l,.inr m,⟨b,e,q⟩,⟨c,e',q'⟩ =>
  rw[e] at e'
  cases e'
  rw[q.inj q']
theorem AU {h:bU}:∀ {x y:List eD} {vs:List ag},Paired (k6 P w h) x vs→Paired (k6 P w h) y vs→x=y
 | _,_,_,.nil,.nil=>rfl
 | _,_,_,.cons a t,.cons b u=>by rw[a.one b,AU t u]
theorem Fd {h:bU}{a:aj}{i j:Array ag}(x:h.IsTuple a i)(y:h.IsTuple a j):i=j:=by
 obtain ⟨o,h1,_,n,h2⟩:=x
 obtain ⟨o',h1',_,n',h2'⟩:=y
 cases h1.symm.trans h1'
 rw[h2] at h2'
 injection h2'
theorem mX.one {h:bU}{a:aj}{x y:List eD}(hx:mX P w h x a)(hy:mX P w h y a):x=y:=by
 obtain ⟨i,t,p⟩:=hx
 obtain ⟨j,u,q⟩:=hy
 cases Fd t u
 exact AU p q
theorem mX.kept {h h':bU}{ks:List eD}{a d:aj}{o:fA}{es ep}(x:mX P w h ks a)(ho:h.get? d=some o)(hd:o.data=.dict es ep)(hs:eC d h h'):mX P w h' ks a:=by
 obtain ⟨its,⟨o',h1,h2,n,h3⟩,p⟩:=x
 have far:a≠d:=fun z=>by
  rw[z,ho] at h1
  cases h1
  rw[hd] at h3
  cases h3
 refine ⟨its,⟨o',(hs.2 a far).trans h1,h2,n,h3⟩,Paired.rec (motive:=fun l m _=>Paired (k6 P w h') l m) .nil (fun {k v _ _} r _ ih=>.cons ?_ ih) p⟩
 cases k with
 | inl k=>exact r
 | inr l=>exact let ⟨b,e,q⟩:=r;⟨b,e,q.keeps ho hd hs⟩
theorem KD {k:eD}{v:ag}{Q:Int→au→Prop}(hu:A.units<cLine)(hv:k6 P w s.heap k v)(h:Q (oE P w k) {s with toks:=s.toks+mo k}):wpAny (model P w) A (pyHash v) Q E s:=by
 match k,hv with
 | .inl k,hv=>exact (dW P w).pyHash (k:=k) hv h
 | .inr l,⟨b,e,q⟩=>rw[e];exact (tupleKind (dW P w)).pyHash hu q h
theorem KE {x y:eD}{u v:ag}(hu:A.units<cLine)(hx:k6 P w s.heap x u)(hy:k6 P w s.heap y v):mK A s u v (decide (x=y)):=by
 match x,y,hx,hy with
 | .inl j,.inl k,hx,hy =>
  have e:decide ((gF j:eD)=.inl k)=decide (j=k):=decide_eq_decide.mpr ⟨UA,congrArg _⟩
  rw[e];exact Ee hx hy
 | .inl j,.inr l,hx,⟨b,e,q⟩ =>
  obtain ⟨its,ht,_⟩:=oQ q
  rw[e,decide_eq_false (fun z=>nomatch z)]
  rcases d3 hx with ⟨_,_,_,z⟩ | ⟨_,_,_,z⟩<;>rw[z]
  ·exact .int_tuple _ _ ht hu
  ·exact .str_tuple _ _ ht hu
 | .inr l,.inl k,⟨b,e,q⟩,hy =>
  obtain ⟨its,ht,_⟩:=oQ q
  rw[e,decide_eq_false (fun z=>nomatch z)]
  rcases d3 hy with ⟨_,_,_,z⟩ | ⟨_,_,_,z⟩<;>rw[z]
  ·exact .tuple_int _ _ ht hu
  ·exact .tuple_str _ _ ht hu
 | .inr l,.inr m,⟨b,e,q⟩,⟨c,e',q'⟩ =>
  have z:decide ((uw l:eD)=.inr m)=decide (l=m):=decide_eq_decide.mpr ⟨Uz,congrArg _⟩
  obtain ⟨its,ht,p⟩:=oQ q
  obtain ⟨jts,hj,p'⟩:=oQ q'
  rw[e,e',z]
  exact DA hu (fun _ _ _ _ h1 h2=>Ee h1 h2) ht hj p p' fun bc=>by subst bc;exact q.inj q'
theorem Hg {k:eD}{v:ag}{d:Nat}{Q:Bool→au→Prop}(hv:k6 P w s.heap k v)(h:Q true s):wpAny (model P w) A (eqIsQuiet (d+1) v) Q E s:=by
 have flat:∀ {j:Key} {u:ag} {m:Nat} {R:Bool→au→Prop},jM j u=true→R true s→wpAny (model P w) A (eqIsQuiet m u) R E s:=fun {j u m R} hj hR=>by
  rw[eqIsQuiet_byValue m ((dW P w).byValue j u hj)]
  exact ak hR
 match k,hv with
 | .inl k,hv=>exact flat hv h
 | .inr l,⟨b,e,q⟩ =>
  obtain ⟨its,ht,p⟩:=oQ q
  rw[e]
  refine Ay ht (fun u hu Q' hQ=>?_) h
  obtain ⟨i,hi⟩:=kQ.mp hu
  obtain ⟨j,_,r⟩:=ko p hi
  exact flat r hQ
theorem Lz {ks:List eD}{a:aj}{Q:Int→au→Prop}(hu:A.units+1<cLine)(hk:mX P w s.heap ks a)
  (h:Q (reduceHash (lu (ks.map (oE P w)))) {s with toks:=s.toks+((ks.map mo).sum+1)}):wpAny (model P w) A (pyHash (.ref a)) Q E s:=by
 obtain ⟨its,⟨o,ho,hc,n,hd⟩,p⟩:=hk
 have hl:ks.length=its.toList.length:=bz p
 refine PySem.W.pyHash_slot (T:="tuple") ⟨o,ho,hc⟩ F.slot_tuple_hash F.entry_tuple_hash (F.args_tuple_hash_1 _) (beq_builtin_none _) (.inr (by omega)) ?_
 refine aa (m:=Builtin.Tuple.tupleItemsOf (.ref a)) (wpAny_tupleItemsOf ho hd (aa ?_))
 rw[← Mc]
 refine Cu _ (fun rest (b:Array Int) t=>∃ m,m≤ks.length∧rest=its.toList.drop m∧b.toList=(ks.take m).map (oE P w)∧t={s with toks:=s.toks+((ks.take m).map mo).sum}) _ ?_ ?_ _ _ ⟨0,aR _,rfl,rfl,rfl⟩
 ·rintro v rest b t ⟨m,hm,hr,hb,rfl⟩
  have lt:m<ks.length:=by
   have:=congrArg dF hr
   rw[aS,cq] at this
   omega
  have hv:its.toList[m]?=some v:=by rw[← rM,← hr];rfl
  obtain ⟨k,hk,r⟩:=ko p hv
  have tk:ks.take (m+1)=ks.take m++[k]:=by
   rw[oY,hk]
   rfl
  have out:∃ m',m'≤ks.length∧rest=its.toList.drop m'∧(b.push (oE P w k)).toList=(ks.take m').map (oE P w) ∧
    ({s with toks:=s.toks+((ks.take m).map mo).sum+mo k}:au)={s with toks:=s.toks+((ks.take m').map mo).sum}:=by
   refine ⟨m+1,lt,?_,?_,?_⟩
   ·rw[← tp,← hr];rfl
   ·rw[tk,aX,← hb];simp
   ·rw[tk];simp[pS]
  refine aa (KD (k:=k) (A:=A.in1) hu r ?_)
  first
   | exact ak out
   | exact aa (ak (ak out))
 ·rintro b t ⟨m,hm,hr,hb,rfl⟩
  have e:m=ks.length:=by
   have:=congrArg dF hr
   rw[eG,cq] at this
   omega
  rw[e,bE] at hb ⊢
  show wpAny _ _ (retInt (lu b.toList)) _ _ _
  rw[hb]
  exact aa (Q7 (ak ⟨_,_,rfl,by simpa [pS] using h⟩))
end
def mq (P:aY)(w:bO):HeapKind P w (List eD) where
 is:=mX P w
 hash:=fun ks=>reduceHash (lu (ks.map (oE P w)))
 draws:=fun ks=>(ks.map mo).sum+1
 room:=fun A=>A.units+1<cLine
 inj:=fun x y=>x.one y
 keeps:=fun x ho hd hs=>x.kept ho hd hs
 pyHash:=fun hu hk h=>Lz hu hk h
 eqBool:=fun {A E s x y a b Q} hu hx hy h=>by
  obtain ⟨its,ha,p⟩:=id hx
  obtain ⟨jts,hb,q⟩:=id hy
  have hu1:A.units<cLine:=by omega
  exact DA (A:=A) hu1 (fun _ _ _ _ h1 h2=>KE (A:=A.in1) hu h1 h2) ha hb p q (fun ab=>by subst ab;exact hx.one hy) _ _ _ _ h
 quiet:=fun {A E s k a Q} hk h=>by
  obtain ⟨its,ha,p⟩:=hk
  refine Ay ha (fun v hv Q' hQ=>?_) h
  obtain ⟨i,hi⟩:=kQ.mp hv
  obtain ⟨j,_,r⟩:=ko p hi
  exact Hg r hQ
theorem wg {P:aY}{w:bO}{A:cA}(hu:A.units+8<cLine):(mq P w).room A.in1:=by
 show A.units+1+1<cLine
 omega
inductive V where
 | hC | bl (b:Bool) | int (i:Int) | str (x:cp) | Fk (b:Array UInt8) | Yo (b:UInt64) | ref (a:aj) | ty (n:String)
 deriving DecidableEq
def RelV:V→ag→Prop
 | .hC,u=>u=ag.none
 | .bl b,u=>u=ag.bool b
 | .int i,u=>∃ t,u=ag.int i t
 | .str x,u=>∃ t,u=ag.str x t
 | .Fk b,u=>∃ t,u=ag.bytes b t
 | .Yo b,u=>∃ t,u=ag.float b t
 | .ref a,u=>u=ag.ref a
 | .ty n,u=>u=ag.type n
abbrev df:List V→List ag→Prop:=Paired RelV
theorem df.length {xs:List V}{us:List ag}(r:df xs us):xs.length=us.length:=Paired.length r
theorem df.get:∀ {xs:List V} {us:List ag} {i:Nat} {x:V},df xs us→xs[i]?=some x→∃ u,us[i]?=some u∧RelV x u
 | _,_,_,_,.nil,e=>by simp at e
 | _,_,0,_,.cons r _,e=>by simp at e;subst e;exact ⟨_,rfl,r⟩
 | _,_,i+1,x,.cons _ t,e=>by
  obtain ⟨u,h1,h2⟩:=df.get (i:=i) (x:=x) t (by simpa using e)
  exact ⟨u,by simpa using h1,h2⟩
theorem df.set {x:V}{u:ag}(r:RelV x u):∀ {xs:List V} {us:List ag} (i:Nat),df xs us→df (xs.set i x) (us.set i u)
 | _,_,_,.nil=>.nil
 | _,_,0,.cons _ t=>.cons r t
 | _,_,i+1,.cons q t=>.cons q (df.set r i t)
theorem df.append:∀ {xs ys:List V} {us ws:List ag},df xs us→df ys ws→df (xs++ys) (us++ws)
 | _,_,_,_,.nil,s=>s
 | _,_,_,_,.cons r t,s=>.cons r (df.append t s)
theorem df.take:∀ {xs:List V} {us:List ag} (n:Nat),df xs us→df (xs.take n) (us.take n)
 | _,_,0,_=>.nil
 | _,_,_+1,.nil=>.nil
 | _,_,n+1,.cons r t=>.cons r (df.take n t)
theorem df.drop:∀ {xs:List V} {us:List ag} (n:Nat),df xs us→df (xs.drop n) (us.drop n)
 | _,_,0,r=>r
 | _,_,_+1,.nil=>.nil
 | _,_,n+1,.cons _ t=>df.drop n t
def qj:Option V→Option ag→Prop
 | some v,some u=>RelV v u
 | none,none=>True
 | _,_=>False
def KV {κ:Type}:List (κ×V)→List (κ×ag)→Prop:=Paired fun (p:κ×V) (q:κ×ag)=>p.1=q.1∧RelV p.2 q.2
def kV:Key→V
 | .inl i=>.int i
 | .inr x=>.str x
inductive HO where
 | lst (xs:List V)
 | tup (xs:List V)
 | dK (kvs:List (Key×V)) | dT (kvs:List (List eD×V))
 | set (S:Int→Bool) (n:Nat)
 | ins (C dx:aj) (fs:List (cp×V))
 | own (x:aj)
 | xd (fs:List (cp×V))
 | met (f x:aj)
 | YN (lo hi:Int)
 | lG (o:fA) (u:HO)
 | UM (ps:Array ag)
 | ext (φ:bU→Prop)
abbrev Hp:=aj→Option HO
def upd (H:Hp)(a:aj)(o:HO):Hp:=fun b=>if b=a then some o else H b
theorem aw {H:Hp}{a:aj}{o:HO}:upd H a o a=some o:=by unfold upd;rw[if_pos rfl]
theorem aT {H:Hp}{a b:aj}{o:HO}(h:b≠a):upd H a o b=H b:=by unfold upd;rw[if_neg h]
theorem ik {H:Hp}{a b:aj}{o u:HO}(h:H a=some o)(h':H b=some u)(d:o≠u):a≠b:=by
 intro e;subst e;rw[h] at h';exact d (aJ h')
theorem dg {H:Hp}{a b:aj}{o:HO}(h:H a=some o)(h':H b=none):a≠b:=by
 intro e;subst e;rw[h] at h';cases h'
def Ub (H:Hp):eD→V→Prop
 | .inl k,v=>v=kV k
 | .inr l,v=>∃ b,v=.ref b∧H b=some (.tup (l.map kV))
def kZ (H:Hp)(a:aj)(ks:List eD):Prop:=∃ vs,H a=some (.tup vs)∧Paired (Ub H) ks vs
theorem Ub.keeps {H H':Hp}(ht:∀ b xs,H b=some (.tup xs)→H' b=some (.tup xs)):∀ {k:eD} {v:V},Ub H k v→Ub H' k v
 | .inl _,_,h=>h
 | .inr _,_,⟨b,e,q⟩=>⟨b,e,ht _ _ q⟩
theorem Xg.keeps {H H':Hp}(ht:∀ b xs,H b=some (.tup xs)→H' b=some (.tup xs)):∀ {ks:List eD} {vs:List V},Paired (Ub H) ks vs→Paired (Ub H') ks vs
 | _,_,.nil=>.nil
 | _,_,.cons a t=>.cons (Ub.keeps ht a) (Xg.keeps ht t)
theorem kZ.keeps {H H':Hp}{a:aj}{ks:List eD}(ht:∀ b xs,H b=some (.tup xs)→H' b=some (.tup xs))(h:kZ H a ks):kZ H' a ks :=
 let ⟨vs,e,q⟩:=h;⟨vs,ht _ _ e,Xg.keeps ht q⟩
section
variable (P:aY)(w:bO)
def fM (H:Hp)(h:bU)(a:aj):HO→Prop
 | .lst xs=>xs.length≤aA∧∃ (its:List ag) (n:Nat),df xs its∧h.get? a=some {cls:=.type "list",data:=.seq its.toArray n}
 | .tup xs=>xs.length≤aA∧∃ its:List ag,df xs its∧qo h a its.toArray
 | .dK kvs=>kvs.length≤aA∧(a==eV)=false∧∃ vs,KV kvs vs∧h.DictOf (dW P w) a vs
 | .dT kvs=>kvs.length≤aA∧(a==eV)=false∧∃ xs:List (List eD×aj×ag),
   Paired (fun (p:List eD×V) (q:List eD×aj×ag)=>p.1=q.1∧kZ H q.2.1 p.1∧RelV p.2 q.2.2) kvs xs ∧
   ∃ o es ep,h.get? a=some o∧o.ExactDict∧o.data=.dict es ep∧es.toList=xs.map (entryOfKey (mq P w))∧(xs.map (·.1)).Nodup
 | .set S n=>h.SetOf (intKind P w) a S n
 | .ins C dx fs=>H dx=some (.own a)∧fs.length≤1000∧dx≠a∧h.get? a=some (gR C dx) ∧
   ∃ mA,h.Ns1 dx mA∧(∀ f,qj (fs.lookup f) (mA f))∧EC mA (fs.map (·.1))
 | .own _=>∃ o,h.get? a=some o
 | .xd fs=>∃ mA,h.Ns1 a mA∧∀ f,qj (fs.lookup f) (mA f)
 | .YN lo hi=>∃ t u v,h.get? a=some {cls:=.type "range",data:=.fields #[.int lo t,.int hi u,.int 1 v]}
 | .lG o u=>h.get? a=some o∧fM H h a u
 | .UM ps=>h.get? a=some {cls:=.none,data:=.fields ps}
 | .met f x=>h.get? a=some (vj (.ref f) (.ref x))
 | .ext φ=>φ h∧(∃ o,h.get? a=some o)∧∀ h1 h2:bU,φ h1→(∀ o,h1.get? a=some o→h2.get? a=some o)→φ h2
def qf (H:Hp)(h:bU):Prop:=∀ a o,H a=some o→fM P w H h a o
end
section
variable {P:aY}{w:bO}{H H':Hp}{h h':bU}{a:aj}{o:HO}
theorem fM.lt (x:fM P w H h a o):a<h.objs.size:=by
 cases o with
 | lst xs=>obtain ⟨_,_,_,_,e⟩:=x;exact aN e
 | tup xs=>obtain ⟨_,_,_,p⟩:=x;exact p.lt
 | dK kvs=>obtain ⟨_,_,_,_,o,_,_,e,_⟩:=x;exact aN e
 | dT kvs=>obtain ⟨_,_,_,_,o,_,_,e,_⟩:=x;exact aN e
 | set S n=>obtain ⟨o,_,_,_,e,_⟩:=x;exact aN e
 | ins C dx fs=>obtain ⟨_,_,_,e,_⟩:=x;exact aN e
 | own y=>obtain ⟨_,e⟩:=x;exact aN e
 | xd fs=>obtain ⟨_,⟨_,_,_,e,_⟩,_⟩:=x;exact aN e
 | YN lo hi=>obtain ⟨_,_,_,e⟩:=x;exact aN e
 | lG ob u=>obtain ⟨e,_⟩:=x;exact aN e
 | UM ps=>exact aN (show h.get? a=some _ from x)
 | met f y=>exact aN (show h.get? a=some _ from x)
 | ext φ=>obtain ⟨_,⟨_,e⟩,_⟩:=x;exact aN e
theorem Paired.U0 {α β:Type}{F G:α→β→Prop}:∀ {l₁:List α} {l₂:List β},Paired F l₁ l₂→(∀ a b,F a b→G a b)→Paired G l₁ l₂
 | _,_,.nil,_=>.nil
 | _,_,.cons r t,f=>.cons (f _ _ r) (Paired.U0 t f)
theorem fM.zY (x:fM P w H h a o)(k:∀ b u,(b=a∨H b=some (.own a))→h.get? b=some u→h'.get? b=some u)
  (ho:∀ b,H b=some (.own a)→H' b=some (.own a))(ht:∀ b xs,H b=some (.tup xs)→H' b=some (.tup xs)):fM P w H' h' a o:=by
 induction o with
 | lst xs=>obtain ⟨z,its,n,r,e⟩:=x;exact ⟨z,its,n,r,k _ _ (.inl rfl) e⟩
 | tup xs=>obtain ⟨z,its,r,ob,e,c⟩:=x;exact ⟨z,its,r,ob,k _ _ (.inl rfl) e,c⟩
 | dK kvs=>obtain ⟨z,y,vs,r,ob,es,ep,e,c⟩:=x;exact ⟨z,y,vs,r,ob,es,ep,k _ _ (.inl rfl) e,c⟩
 | dT kvs =>
  obtain ⟨z,y,xs,r,ob,es,ep,e,c⟩:=x
  exact ⟨z,y,xs,Paired.U0 r fun p q z=>⟨z.1,kZ.keeps ht z.2.1,z.2.2⟩,ob,es,ep,k _ _ (.inl rfl) e,c⟩
 | set S n=>obtain ⟨ob,es,ep,t,e,c⟩:=x;exact ⟨ob,es,ep,t,k _ _ (.inl rfl) e,c⟩
 | ins C dx fs =>
  obtain ⟨d,z,ne,e,mA,⟨od,es,ep,e2,c⟩,r⟩:=x
  exact ⟨ho _ d,z,ne,k _ _ (.inl rfl) e,mA,⟨od,es,ep,k _ _ (.inr d) e2,c⟩,r⟩
 | own y=>obtain ⟨ob,e⟩:=x;exact ⟨ob,k _ _ (.inl rfl) e⟩
 | xd fs=>obtain ⟨mA,⟨od,es,ep,e,c⟩,r⟩:=x;exact ⟨mA,⟨od,es,ep,k _ _ (.inl rfl) e,c⟩,r⟩
 | YN lo hi=>obtain ⟨t,u,v,e⟩:=x;exact ⟨t,u,v,k _ _ (.inl rfl) e⟩
 | lG ob u ih=>obtain ⟨e,q⟩:=x;exact ⟨k _ _ (.inl rfl) e,ih q⟩
 | UM ps =>
  have e:h.get? a=some {cls:=.none,data:=.fields ps}:=x
  show h'.get? a=some {cls:=.none,data:=.fields ps}
  exact k a _ (.inl rfl) e
 | met f y =>
  have e:h.get? a=some (vj (.ref f) (.ref y)):=x
  show h'.get? a=some (vj (.ref f) (.ref y))
  exact k a _ (.inl rfl) e
 | ext φ=>obtain ⟨p,⟨o,e⟩,st⟩:=x;exact ⟨st _ _ p fun o q=>k _ _ (.inl rfl) q,⟨o,k _ _ (.inl rfl) e⟩,st⟩
theorem qf.lt (x:qf P w H h)(e:H a=some o):a<h.objs.size:=(x a o e).lt
theorem qf.fresh (x:qf P w H h)(e:h.objs.size≤a):H a=none:=by
 cases q:H a with
 | none=>rfl
 | some u=>exact absurd (cz (x.lt q) e) (dn _)
theorem qf.kept (x:qf P w H h)(k:∀ b u,h.get? b=some u→h'.get? b=some u):qf P w H h':=fun a o e =>
 (x a o e).zY (fun b u _ q=>k b u q) (fun _ q=>q) fun _ _ q=>q
theorem qf.laid (x:qf P w H h)(k:∀ b u,h.get? b=some u→h'.get? b=some u)(hp:h.objs.size≤a)(new:fM P w (upd H a o) h' a o):qf P w (upd H a o) h':=fun b u e=>by
 have hn:=x.fresh hp
 by_cases hb:b=a
 ·subst hb;rw[aw] at e;cases e;exact new
 ·rw[aT hb] at e
  exact (x b u e).zY (fun c v _ q=>k c v q) (fun c q=>by rw[aT (dg q hn)];exact q) fun c xs q=>by rw[aT (dg q hn)];exact q
end
def Rd (H:Hp)(a:aj)(u:HO):Prop:=H a=some u∨∃ o,H a=some (.lG o u)
theorem Rd.ok {P:aY}{w:bO}{H:Hp}{h:bU}{a:aj}{u:HO}(r:Rd H a u)(x:qf P w H h):fM P w H h a u:=by
 rcases r with r | ⟨o,r⟩
 ·exact x a u r
 ·obtain ⟨_,q⟩:=x a _ r
  exact q
def QY:Option HO→Prop
 | some (.lst _)=>True
 | some (.dK _)=>True
 | some (.dT _)=>True
 | some (.set _ _)=>True
 | some (.ins _ _ _)=>True
 | some (.ext _)=>True
 | _=>False
section
variable {P:aY}{w:bO}{H:Hp}{h h':bU}{x e:aj}{o':HO}
theorem qf.write (ok:qf P w H h)(mu:QY (H x))(he:e=x∨H e=some (.own x))(k:∀ b u,b≠e→h.get? b=some u→h'.get? b=some u)(heo:∃ u,h'.get? e=some u)
  (new:fM P w (upd H x o') h' x o'):qf P w (upd H x o') h':=fun b u q=>by
 have nown:∀ c y,H c=some (.own y)→c≠x:=fun c y r z=>by subst z;rw[r] at mu;exact mu
 have ntup:∀ c xs,H c=some (.tup xs)→c≠x:=fun c xs r z=>by subst z;rw[r] at mu;exact mu
 by_cases hb:b=x
 ·subst hb;rw[aw] at q;cases q;exact new
 ·rw[aT hb] at q
  by_cases hbe:b=e
  ·have q':H b=some (.own x):=by
    rcases he with z | z
    ·exact absurd (hbe.trans z) hb
    ·rw[hbe];exact z
   rw[q] at q';cases q'
   obtain ⟨v,hv⟩:=heo
   exact ⟨v,by rw[hbe];exact hv⟩
  ·refine (ok b u q).zY (fun c v hc r=>k c v ?_ r) (fun c r=>by rw[aT (nown c b r)];exact r) fun c xs r=>by rw[aT (ntup c xs r)];exact r
   rcases hc with rfl | hc
   ·exact hbe
   ·rintro rfl
    rcases he with z | z
    ·exact nown c b hc z
    ·rw[hc] at z;cases z;exact hb rfl
end
structure Un (fs ex:List aj)(H H':Hp)(h h':bU):Prop where
 keep:∀ b o,h.get? b=some o→H b=none→b∉fs→b∉ex→h'.get? b=some o
 slot:∀ b o,h.get? b=some o→H b=none→b∈fs→b∉ex→∃ sl,h'.get? b=some {o with slots:=sl}
 free:∀ b o,h.get? b=some o→H b=none→b∉ex→H' b=none
 there:∀ b o,h.get? b=some o→b∉ex→∃ o',h'.get? b=some o'
 Bu:∀ b xs,H b=some (.tup xs)→H' b=some (.tup xs)
 yl:∀ b o u,H b=some (.lG o u)→H' b=some (.lG o u)
 Bv:∀ b ps,H b=some (.UM ps)→∃ more,H' b=some (.UM (ps++more))
section
variable {fs fs' ex ex':List aj}{H H1 H2:Hp}{h h1 h2 h':bU}{a x e:aj}{o:HO}
theorem Un.any (u:Un fs ex H H1 h h1){b:aj}{ob:fA}(q:h.get? b=some ob)(n:H b=none)(hx:b∉ex):∃ sl,h1.get? b=some {ob with slots:=sl}:=by
 by_cases hb:b∈fs
 ·exact u.slot b ob q n hb hx
 ·exact ⟨ob.slots,u.keep b ob q n hb hx⟩
theorem Un.kept (k:∀ b u,h.get? b=some u→h'.get? b=some u):Un fs ex H H h h' :=
 ⟨fun b ob q _ _ _=>k b ob q,fun b ob q _ _ _=>⟨ob.slots,k b ob q⟩,fun _ _ _ n _=>n,fun b ob q _=>⟨ob,k b ob q⟩,fun _ _ q=>q,fun _ _ _ q=>q,fun _ ps q=>⟨#[],by rw[q];simp⟩⟩
theorem Un.refl:Un fs ex H H h h:=Un.kept fun _ _ q=>q
theorem Un.laid (k:∀ b u,h.get? b=some u→h'.get? b=some u)(hp:h.objs.size≤a)(hn:H a=none):Un fs ex H (upd H a o) h h' where
 keep:=fun b u q _ _ _=>k b u q
 slot:=fun b u q _ _ _=>⟨u.slots,k b u q⟩
 free:=fun b u q n _=>by rw[aT (ba (cz (aN q) hp))];exact n
 there:=fun b u q _=>⟨u,k b u q⟩
 Bu:=fun b xs q=>by rw[aT (dg q hn)];exact q
 yl:=fun b u xs q=>by rw[aT (dg q hn)];exact q
 Bv:=fun b ps q=>⟨#[],by rw[aT (dg q hn),q];simp⟩
theorem Un.write (mu:QY (H x))(he:e=x∨H e=some (.own x))(k:∀ b u,b≠e→h.get? b=some u→h'.get? b=some u)(heo:∃ u,h'.get? e=some u):Un fs ex H (upd H x o) h h':=by
 have hx:∀ b,H b=none→b≠x:=fun b n z=>by subst z;rw[n] at mu;exact mu
 have hb:∀ b,H b=none→b≠e:=fun b n z=>by
  subst z
  rcases he with r | r
  ·exact hx b n r
  ·rw[n] at r;cases r
 have hm:∀ b u,H b=some u→¬ QY (some u)→b≠x:=fun b u q nm z=>by subst z;rw[q] at mu;exact nm mu
 refine ⟨fun b u q n _ _=>k b u (hb b n) q,fun b u q n _ _=>⟨u.slots,k b u (hb b n) q⟩,fun b u q n _=>by rw[aT (hx b n)];exact n,fun b u q _=>?_,
  fun b xs q=>by rw[aT (hm b _ q fun z=>z)];exact q,fun b u xs q=>by rw[aT (hm b _ q fun z=>z)];exact q,fun b ps q=>⟨#[],by rw[aT (hm b _ q fun z=>z),q];simp⟩⟩
 by_cases hbe:b=e
 ·subst hbe;exact heo
 ·exact ⟨u,k b u hbe q⟩
end
def Yh (h:bU)(H:Hp):List aj:=(bp h.objs.size).filter fun a=>(H a).isSome
def Bx (h:bU)(H:Hp):bU:=PySem.W.hideAll h (Yh h H)
theorem Lm (h:bU)(H:Hp):(Bx h H).objs.size=h.objs.size:=PySem.W.hideAll_size _ _
theorem Px {h:bU}{H:Hp}{b:aj}{o:fA}(e:h.get? b=some o)(n:H b=none):(Bx h H).get? b=some o :=
 PySem.W.hideAll_get _ e fun hm=>by
  have q:(H b).isSome=true:=(fH.mp hm).2
  rw[n] at q;simp at q
theorem RU {h:bU}{H:Hp}{b:aj}{o:fA}(e:(Bx h H).get? b=some o):h.get? b=some o∧H b=none:=by
 have e':h.get? b=some o:=PySem.W.of_hideAll (Yh h H) e
 refine ⟨e',?_⟩
 cases q:H b with
 | none=>rfl
 | some x =>
  have hm:b∈Yh h H:=fH.mpr ⟨dH.mpr (aN e'),by simp[q]⟩
  have z:(Bx h H).get? b=none:=PySem.W.hideAll_none (Yh h H) hm
  rw[z] at e;cases e
structure Mod (K:ai)(mg:cp→Option ag)(base:bU):Prop where
 Ym:K.In base
 glob:base.Ns dZ mg
 blt:∃ mb,base.Ns builtinsNs mb∧∀ x:cp,x≠"__name__"→mb x=bootBuiltins x
 nolimit:base.NoLimit
structure Cx where
 prog:aY
 w:bO
 K:ai
 mg:cp→Option ag
 base:bU
 A:cA
 N:List cp
 s_0:au
 H_0:Hp
 env:C5
 outer:List C5
 stack:List C5
 ex:List aj
 fn:cp→Bool
 calm:Bool
 pn:List (aj×fA)
 xe:ag→au→Prop
def Mn (l:List C5):List aj:=l.filterMap (·.frame)
abbrev Cx.fs (X:Cx):List aj:=Mn X.outer
def WO (sc:jH)(x:cp):Prop:=sc.names.lookup x=some .local∨sc.names.lookup x=some .cell∨sc.names.lookup x=some .free
def Loc (sc:jH)(x:cp):Prop:=sc.names.lookup x=some .local∨sc.names.lookup x=some .cell
def Look (env:C5)(h:bU)(m:cp→Option ag)(x:cp)(u:ag):Prop :=
 (env.kindOf x=some .local∧m x=some u)∨((env.kindOf x=some .cell∨env.kindOf x=some .free)∧∃ c,env.cells.lookup x=some c∧h.IsCell c (some u))
structure Cx.Ok (X:Cx):Prop where
 mod:Mod X.K X.mg X.base
 kind:X.env.scope.kind=.function
 glob:X.env.globals=dZ
 blt:X.env.builtins=builtinsNs
 above:X.s_0.heap.objs.size≤X.env.locals
 inj:∀ x y c,X.env.cells.lookup x=some c→X.env.cells.lookup y=some c→x=y
 has:∀ x,(X.env.kindOf x=some .cell∨X.env.kindOf x=some .free)→∃ c,X.env.cells.lookup x=some c
 WN:∀ x c,X.fn x=true→X.env.cells.lookup x=some c→X.s_0.heap.objs.size≤c
 hd:X.calm=true→X.A.handled=none
 frames:X.A.frames=some X.stack
 Yk:X.stack=X.outer∨(X.stack=X.env::X.outer∧X.env.frame=some X.env.locals)
 Yp:∀ b∈X.ex,b≠X.env.locals∧∀ x c,X.env.cells.lookup x=some c→c≠b
 bs:∀ b o,X.base.get? b=some o→X.s_0.heap.get? b=some o∧X.H_0 b=none
 QX:X.base.objs.size≤X.s_0.heap.objs.size
 Mt:∀ b o,X.base.get? b=some o→b∉X.ex
 Mv:∀ b∈X.ex,b∉X.fs
 xy:X.s_0.heap.FunFrames X.base X.outer
 UN:∀ b∈X.fs,X.H_0 b=none
structure Inv (X:Cx)(pins:List (aj×fA))(σ:List (Option V))(H:Hp)(s:au):Prop where
 ok:X.Ok
 os:s.os=X.s_0.os
 bare:z5 s.gens
 base:Un X.fs X.ex X.H_0 H X.s_0.heap s.heap
 loc:∃ m,s.heap.Ns X.env.locals m∧∀ (i:Nat) (x:cp) (v:V),X.N[i]?=some x→σ[i]?=some (some v)→WO X.env.scope x→∃ u,RelV v u∧Look X.env s.heap m x u
 cell:∀ x c,X.env.cells.lookup x=some c→∃ v,s.heap.IsCell c v
 free:H X.env.locals=none
 mT:∀ x c,X.env.cells.lookup x=some c→H c=none
 pin:∀ p∈X.pn++pins,s.heap.get? p.1=some p.2∧H p.1=none∧p.1≠X.env.locals∧p.1∉X.fs∧∀ v,p.2.data≠.cell v
 fj:qf X.prog X.w H s.heap
 len:σ.length=X.N.length
section
variable {X:Cx}{pins:List (aj×fA)}{σ:List (Option V)}{H H':Hp}{s:au}{h':bU}
theorem Cx.Ok.Zf (ok:X.Ok){b:aj}{o:fA}(e:X.base.get? b=some o):b∉X.fs:=fun hb=>by
 have:=(ok.xy.mem hb).1
 rw[e] at this;cases this
theorem Inv.bs (I:Inv X pins σ H s):∀ b o,X.base.get? b=some o→s.heap.get? b=some o∧H b=none:=fun b o e =>
 ⟨I.base.keep b o (I.ok.bs b o e).1 (I.ok.bs b o e).2 (I.ok.Zf e) (I.ok.Mt b o e),I.base.free b o (I.ok.bs b o e).1 (I.ok.bs b o e).2 (I.ok.Mt b o e)⟩
theorem Inv.bk (I:Inv X pins σ H s):∀ b o,X.base.get? b=some o→s.heap.get? b=some o:=fun b o e=>(I.bs b o e).1
theorem Inv.mod (I:Inv X pins σ H s):Mod X.K X.mg X.base:=I.ok.mod
theorem Inv.HY (I:Inv X pins σ H s):X.K.In s.heap:=I.ok.mod.Ym.keeps I.bk
theorem Inv.lt (I:Inv X pins σ H s):X.env.locals<s.heap.objs.size:=let ⟨_,hn,_⟩:=I.loc;hn.lt
theorem Inv.sz (I:Inv X pins σ H s):X.s_0.heap.objs.size≤s.heap.objs.size:=aD I.ok.above (kE I.lt)
theorem Inv.Ze (I:Inv X pins σ H s){a:aj}(h:s.heap.objs.size≤a):a∉X.fs:=fun hb=>by
 obtain ⟨_,o,ho,_⟩:=I.ok.xy.mem hb
 exact absurd (cz (aN ho) (aD I.sz h)) (dn _)
theorem Inv.UO (I:Inv X pins σ H s):∀ x c,X.env.cells.lookup x=some c→c≠X.env.locals:=fun x c e z=>by
 obtain ⟨v,o,ho,hd⟩:=I.cell x c e
 obtain ⟨m,⟨o',es,ep,ho',hd',_⟩,_⟩:=I.loc
 rw[z,ho'] at ho;cases ho;rw[hd'] at hd;cases hd
theorem Inv.xy (I:Inv X pins σ H s):s.heap.FunFrames X.base X.outer:=by
 have all:∀ (l:List C5),(∀ b∈Mn l,b∈X.fs)→X.s_0.heap.FunFrames X.base l→s.heap.FunFrames X.base l:=by
  intro l
  induction l with
  | nil=>intro _ _;trivial
  | cons env r ih =>
   intro hs hl
   obtain ⟨hk,⟨L,o,hf,hn,ho,hd⟩,hr⟩:=hl
   have hL:L∈X.fs:=hs L (by unfold Mn;rw[fF,hf];exact ax)
   obtain ⟨sl,e⟩:=I.base.slot L o ho (I.ok.UN L hL) hL fun z=>I.ok.Mv L z hL
   exact ⟨hk,⟨L,_,hf,hn,e,hd⟩,ih (fun b hb=>hs b (by unfold Mn;rw[fF,hf];exact ao _ hb)) hr⟩
 exact all X.outer (fun _ hb=>hb) I.ok.xy
theorem Inv.stack (I:Inv X pins σ H s):s.heap.FunFrames X.base X.stack:=by
 rcases I.ok.Yk with e | ⟨e,hf⟩
 ·rw[e];exact I.xy
 ·rw[e]
  obtain ⟨m,hn,_⟩:=I.loc
  refine .cons (by rw[I.ok.kind];decide) hf hn ?_ I.xy
  exact bU.get?_none_of_le (aD I.ok.QX I.ok.above)
theorem Inv.FI (I:Inv X pins σ H s):∀ b∈Mn X.stack,b∈X.env.locals::X.fs:=fun b hb=>by
 rcases I.ok.Yk with e | ⟨e,hf⟩
 ·rw[e] at hb;exact ao _ hb
 ·rw[e] at hb
  unfold Mn at hb
  rw[fF,hf] at hb
  exact hb
theorem Inv.Iu (I:Inv X pins σ H s):∀ b∈Mn X.stack,H b=none:=fun b hb=>by
 rcases aI.mp (I.FI b hb) with e | hb
 ·rw[e];exact I.free
 ·obtain ⟨_,o,ho,_⟩:=I.ok.xy.mem hb
  exact I.base.free b o ho (I.ok.UN b hb) fun z=>I.ok.Mv b z hb
theorem Inv.step {g':Array GenState}{t':Nat}{d':Drawn}{ch:List aj}(I:Inv X pins σ H s)
  (hch:∀ b∈ch,(b∈X.ex∨X.s_0.heap.objs.size≤b)∧b≠X.env.locals∧(∀ x c,X.env.cells.lookup x=some c→c≠b)∧∀ p∈X.pn++pins,p.1≠b)
  (keep:∀ b o,b≠X.env.locals→b∉X.fs→b∉ch→s.heap.get? b=some o→H b=none→h'.get? b=some o)
  (slot:∀ b o,b≠X.env.locals→b∈X.fs→b∉ch→s.heap.get? b=some o→H b=none→∃ sl,h'.get? b=some {o with slots:=sl})(free:∀ b o,b∉ch→s.heap.get? b=some o→H b=none→H' b=none)
  (there:∀ b o,b∉ch→s.heap.get? b=some o→∃ o',h'.get? b=some o')
  (Bu:∀ b xs,H b=some (.tup xs)→H' b=some (.tup xs))(yl:∀ b o u,H b=some (.lG o u)→H' b=some (.lG o u))(Bv:∀ b ps,H b=some (.UM ps)→∃ more,H' b=some (.UM (ps++more)))
  (ns:∀ m,s.heap.Ns X.env.locals m→h'.Ns X.env.locals m)(fj:qf X.prog X.w H' h')(hg:z5 g') :
  Inv X pins σ H' {s with heap:=h',gens:=g',drawn:=d',toks:=t'}:=by
 have neL:∀ b o,X.s_0.heap.get? b=some o→b≠X.env.locals:=fun b o e=>ba (cz (aN e) I.ok.above)
 have neC:∀ b o,X.s_0.heap.get? b=some o→b∉X.ex→b∉ch:=fun b o e hx hb=>by
  rcases (hch b hb).1 with z | z
  ·exact hx z
  ·exact absurd (cz (aN e) z) (dn _)
 have cellK:∀ x c,X.env.cells.lookup x=some c→∀ v,s.heap.IsCell c v→h'.IsCell c v:=fun x c e v ⟨o,ho,hd⟩=>by
  have nch:c∉ch:=fun z=>(hch c z).2.2.1 x c e rfl
  by_cases hc:c∈X.fs
  ·obtain ⟨sl,q⟩:=slot c o (I.UO x c e) hc nch ho (I.mT x c e)
   exact ⟨_,q,hd⟩
  ·exact ⟨o,keep c o (I.UO x c e) hc nch ho (I.mT x c e),hd⟩
 refine ⟨I.ok,I.os,hg,⟨fun b o e n hb hx=>?_,fun b o e n hb hx=>?_,fun b o e n hx=>?_,fun b o e hx=>?_,fun b xs e=>Bu b xs (I.base.Bu b xs e),fun b o xs e=>yl b o xs (I.base.yl b o xs e),fun b ps e=>?_⟩,?_,fun x c e=>?_,?_,fun x c e=>?_,fun p hp=>?_,fj,I.len⟩
 ·exact keep b o (neL b o e) hb (neC b o e hx) (I.base.keep b o e n hb hx) (I.base.free b o e n hx)
 ·obtain ⟨sl,e1⟩:=I.base.slot b o e n hb hx
  obtain ⟨sl',e2⟩:=slot b _ (neL b o e) hb (neC b o e hx) e1 (I.base.free b o e n hx)
  exact ⟨sl',e2⟩
 ·obtain ⟨o',e1⟩:=I.base.there b o e hx
  exact free b o' (neC b o e hx) e1 (I.base.free b o e n hx)
 ·obtain ⟨o',e1⟩:=I.base.there b o e hx
  exact there b o' (neC b o e hx) e1
 ·obtain ⟨m1,e1⟩:=I.base.Bv b ps e
  obtain ⟨m2,e2⟩:=Bv b _ e1
  exact ⟨m1++m2,by rw[e2,Array.append_assoc]⟩
 ·obtain ⟨m,hn,hl⟩:=I.loc
  refine ⟨m,ns m hn,fun i x v e1 e2 e3=>?_⟩
  obtain ⟨u,r,l⟩:=hl i x v e1 e2 e3
  refine ⟨u,r,?_⟩
  rcases l with l | ⟨k,c,e,z⟩
  ·exact .inl l
  ·exact .inr ⟨k,c,e,cellK x c e _ z⟩
 ·obtain ⟨v,z⟩:=I.cell x c e
  exact ⟨v,cellK x c e v z⟩
 ·obtain ⟨m,⟨o,_,_,ho,_⟩,_⟩:=I.loc
  exact free _ o (fun z=>(hch _ z).2.1 rfl) ho I.free
 ·obtain ⟨v,o,ho,hd⟩:=I.cell x c e
  exact free c o (fun z=>(hch c z).2.2.1 x c e rfl) ho (I.mT x c e)
 ·obtain ⟨e,n,ne,nf,d⟩:=I.pin p hp
  have nch:p.1∉ch:=fun z=>(hch p.1 z).2.2.2 p hp rfl
  exact ⟨keep p.1 p.2 ne nf nch e n,free p.1 p.2 nch e n,ne,nf,d⟩
theorem Inv.un {t':Nat}(I:Inv X pins σ H s)(u:Un X.fs [] H H' s.heap h')(fj:qf X.prog X.w H' h'):Inv X pins σ H' {s with heap:=h',toks:=t'}:=by
 obtain ⟨m,⟨o,es,ep,ho,r⟩,_⟩:=id I.loc
 obtain ⟨sl,hL⟩:=u.any ho I.free (by simp)
 exact I.step (g':=s.gens) (d':=s.drawn) (ch:=[]) (fun _ z=>nomatch z) (fun b o _ hb _ e n=>u.keep b o e n hb (by simp)) (fun b o _ hb _ e n=>u.slot b o e n hb (by simp)) (fun b o _ e n=>u.free b o e n (by simp)) (fun b o _ e=>u.there b o e (by simp)) u.Bu u.yl u.Bv (fun m' hm=>by
  obtain ⟨o',es',ep',ho',r'⟩:=hm
  rw[ho] at ho';cases ho'
  exact ⟨_,es',ep',hL,r'⟩) fj I.bare
theorem Inv.call {g':Array GenState}{t':Nat}{d':Drawn}{ch:List aj}(I:Inv X pins σ H s)(u:Un (Mn X.stack) ch H H' s.heap h')(fj:qf X.prog X.w H' h')(hg:z5 g')
  (hch:∀ b∈ch,(b∈X.ex∨X.s_0.heap.objs.size≤b)∧b≠X.env.locals∧(∀ x c,X.env.cells.lookup x=some c→c≠b)∧∀ p∈X.pn++pins,p.1≠b) :
  Inv X pins σ H' {s with heap:=h',gens:=g',drawn:=d',toks:=t'}:=by
 obtain ⟨m,⟨o,es,ep,ho,r⟩,_⟩:=id I.loc
 obtain ⟨sl,hL⟩:=u.any ho I.free fun z=>(hch _ z).2.1 rfl
 exact I.step (ch:=ch) hch (fun b o hL hb hc e n=>u.keep b o e n (fun z=>(aI.mp (I.FI b z)).elim hL hb) hc) (fun b o _ _ hc e n=>u.any e n hc) (fun b o hc e n=>u.free b o e n hc) (fun b o hc e=>u.there b o e hc) u.Bu u.yl u.Bv (fun m' hm=>by
  obtain ⟨o',es',ep',ho',r'⟩:=hm
  rw[ho] at ho';cases ho'
  exact ⟨_,es',ep',hL,r'⟩) fj hg
theorem Inv.turned {t':Nat}{it:aj}(I:Inv X pins σ H s)(k:∀ b o,b≠it→s.heap.get? b=some o→h'.get? b=some o)(hn:H it=none)(hL:it≠X.env.locals)
  (h1:it∈X.ex∨X.s_0.heap.objs.size≤it)(h2:∀ x c,X.env.cells.lookup x=some c→c≠it)(h3:∀ p∈X.pn++pins,p.1≠it):Inv X pins σ H {s with heap:=h',toks:=t'}:=by
 have nit:∀ b u,H b=some u→b≠it:=fun b u e z=>by rw[z,hn] at e;cases e
 refine I.step (g':=s.gens) (d':=s.drawn) (ch:=[it]) (fun b hb=>?_) (fun b o _ _ hc e _=>k b o (fun z=>hc (by simp[z])) e) (fun b o _ _ hc e _=>⟨o.slots,k b o (fun z=>hc (by simp[z])) e⟩) (fun _ _ _ _ n=>n)
  (fun b o hc e=>⟨o,k b o (fun z=>hc (by simp[z])) e⟩) (fun _ _ e=>e) (fun _ _ _ e=>e) (fun b ps e=>⟨#[],by rw[e];simp⟩) (fun m hm=>?_) (fun b u e=>?_) I.bare
 ·have e:b=it:=by simpa using hb
  subst e
  exact ⟨h1,hL,h2,h3⟩
 ·obtain ⟨o,es,ep,ho,r⟩:=hm
  exact ⟨o,es,ep,k _ o (gU hL) ho,r⟩
 ·refine (I.fj b u e).zY (fun c v hc q=>k c v ?_ q) (fun _ q=>q) fun _ _ q=>q
  rcases hc with z | z
  ·rw[z];exact nit b u e
  ·exact nit c _ z
theorem Inv.tok (I:Inv X pins σ H s)(t:Nat):Inv X pins σ H {s with toks:=t}:=I.un (h':=s.heap) (t':=t) Un.refl I.fj
theorem Inv.kept {t':Nat}(I:Inv X pins σ H s)(k:∀ b u,s.heap.get? b=some u→h'.get? b=some u):Inv X pins σ H {s with heap:=h',toks:=t'}:=I.un (Un.kept k) (I.fj.kept k)
theorem Inv.laid {a:aj}{o:HO}{t':Nat}(I:Inv X pins σ H s)(k:∀ b u,s.heap.get? b=some u→h'.get? b=some u)(hp:s.heap.objs.size≤a)(new:fM X.prog X.w (upd H a o) h' a o) :
  Inv X pins σ (upd H a o) {s with heap:=h',toks:=t'}:=I.un (Un.laid k hp (I.fj.fresh hp)) (I.fj.laid k hp new)
theorem Inv.write {x e:aj}{o:HO}{t':Nat}(I:Inv X pins σ H s)(mu:QY (H x))(he:e=x∨H e=some (.own x))(k:∀ b u,b≠e→s.heap.get? b=some u→h'.get? b=some u)(heo:∃ u,h'.get? e=some u)
  (new:fM X.prog X.w (upd H x o) h' x o):Inv X pins σ (upd H x o) {s with heap:=h',toks:=t'}:=I.un (Un.write mu he k heo) (I.fj.write mu he k heo new)
theorem Inv.weak {σ':List (Option V)}(I:Inv X pins σ H s)(hl:σ'.length=σ.length)(w:∀ (i:Nat) v,σ'[i]?=some (some v)→σ[i]?=some (some v)):Inv X pins σ' H s :=
 ⟨I.ok,I.os,I.bare,I.base,let ⟨m,hn,hl'⟩:=I.loc;⟨m,hn,fun i x v e1 e2 e3=>hl' i x v e1 (w i v e2) e3⟩,I.cell,I.free,I.mT,I.pin,I.fj,hl.trans I.len⟩
theorem Inv.IV {pins':List (aj×fA)}(I:Inv X pins σ H s)(h:∀ p∈pins',s.heap.get? p.1=some p.2∧H p.1=none∧p.1≠X.env.locals∧p.1∉X.fs∧∀ v,p.2.data≠.cell v):Inv X pins' σ H s :=
 ⟨I.ok,I.os,I.bare,I.base,I.loc,I.cell,I.free,I.mT,fun p hp=>(bq.mp hp).elim (fun z=>I.pin p (JW _ z)) (h p),I.fj,I.len⟩
theorem yP {N:List cp}(hN:N.Nodup){i j:Nat}{x:cp}(a:N[i]?=some x)(b:N[j]?=some x):i=j:=by
 obtain ⟨h1,e1⟩:=bT.mp a
 obtain ⟨h2,e2⟩:=bT.mp b
 exact (List.getElem_inj hN).mp (e1.trans e2.symm)
theorem AD {M:Me}{A:cA}{E:ag→au→Prop}{i:Nat}{x:cp}{v:V}{u:ag}{Q:Unit→au→Prop}(I:Inv X pins σ H s)(hN:X.N.Nodup)(hi:X.N[i]?=some x)(hx:Loc X.env.scope x)(r:RelV v u)
  (h:∀ s',Inv X pins (σ.set i (some v)) H s'→(∃ a,eC a s.heap s'.heap∧(a=X.env.locals∨X.env.cells.lookup x=some a))→Q () s')(hf:X.fn x=true∨X.env.scope.names.lookup x=some .local:=by first | exact .inl rfl | exact .inr rfl | assumption):wpAny M A (storeName X.env x u) Q E s:=by
 obtain ⟨m,hn,hl⟩:=id I.loc
 have hcls:(X.env.scope.kind==.class||(X.env.scope.kind==.module&&X.env.locals != X.env.globals))=false:=by rw[I.ok.kind];rfl
 have hiσ:i<σ.length:=by rw[I.len];exact (bT.mp hi).1
 have UO:=I.UO
 have tracked:∀ {a:aj} {h':bU},(∃ o,s.heap.get? a=some o∧H a=none)→eC a s.heap h'→qf X.prog X.w H h':=fun {a h'} ha hs b ob e=>by
  obtain ⟨_,_,hfree⟩:=ha
  refine (I.fj b ob e).zY (fun c w' hc q=>(hs.2 c ?_).trans q) (fun _ q=>q) fun _ _ q=>q
  rintro rfl
  rcases hc with rfl | hc
  ·rw[hfree] at e;cases e
  ·rw[hfree] at hc;cases hc
 rcases hx with hk | hk
 ·refine wpAny_storeName_local hk hn (fun h' hn' hs=>?_) hcls
  obtain ⟨oL,_,_,hoL,_⟩:=id hn
  refine h _ ⟨I.ok,I.os,I.bare,⟨fun b o e n hb hx=>?_,fun b o e n hb hx=>?_,I.base.free,fun b o e hx=>?_,I.base.Bu,I.base.yl,I.base.Bv⟩,⟨_,hn',fun j y v' e1 e2 e3=>?_⟩,fun y c e=>?_,I.free,I.mT,fun p hp=>?_,tracked ⟨oL,hoL,I.free⟩ hs,by simpa using I.len⟩ ⟨_,hs,.inl rfl⟩
  ·exact (hs.2 b (ba (cz (aN e) I.ok.above))).trans (I.base.keep b o e n hb hx)
  ·obtain ⟨sl,e1⟩:=I.base.slot b o e n hb hx
   exact ⟨sl,(hs.2 b (ba (cz (aN e) I.ok.above))).trans e1⟩
  ·obtain ⟨o',e1⟩:=I.base.there b o e hx
   exact ⟨o',(hs.2 b (ba (cz (aN e) I.ok.above))).trans e1⟩
  ·by_cases hj:j=i
   ·subst hj
    rw[hi] at e1;cases e1
    rw[ka hiσ] at e2
    cases e2
    exact ⟨u,r,.inl ⟨hk,by simp⟩⟩
   ·rw[tL (gU hj)] at e2
    obtain ⟨u',r',q⟩:=hl j y v' e1 e2 e3
    refine ⟨u',r',?_⟩
    rcases q with ⟨k,e⟩ | ⟨k,c,e,z⟩
    ·refine .inl ⟨k,?_⟩
     have:y≠x:=fun e=>hj (yP hN e1 (e▸hi))
     simp[this,e]
    ·exact .inr ⟨k,c,e,z.sameBut hs (UO y c e)⟩
  ·obtain ⟨w',z⟩:=I.cell y c e
   exact ⟨w',z.sameBut hs (UO y c e)⟩
  ·obtain ⟨e,n,ne,nf,d⟩:=I.pin p hp
   exact ⟨(hs.2 p.1 ne).trans e,n,ne,nf,d⟩
 ·have hfn:X.fn x=true:=by
   rcases hf with z | z
   ·exact z
   ·rw[z] at hk;cases hk
  obtain ⟨c,hc⟩:=I.ok.has x (.inl hk)
  obtain ⟨w',z⟩:=I.cell x c hc
  refine wpAny_storeName_cell I.ok.kind hk hc z (fun h' hc' hs=>?_)
  obtain ⟨oc,hoc,hocd⟩:=id z
  refine h {s with heap:=h'} ⟨I.ok,I.os,I.bare,⟨fun b o e n hb hx=>?_,fun b o e n hb hx=>?_,I.base.free,fun b o e hx=>?_,I.base.Bu,I.base.yl,I.base.Bv⟩,⟨m,hn.sameBut hs (gU (UO x c hc)),fun j y v' e1 e2 e3=>?_⟩,fun y c' e=>?_,I.free,I.mT,fun p hp=>?_,tracked ⟨oc,hoc,I.mT x c hc⟩ hs,by simpa using I.len⟩ ⟨c,hs,.inr hc⟩
  ·exact (hs.2 b (ba (cz (aN e) (I.ok.WN x c hfn hc)))).trans (I.base.keep b o e n hb hx)
  ·obtain ⟨sl,e1⟩:=I.base.slot b o e n hb hx
   exact ⟨sl,(hs.2 b (ba (cz (aN e) (I.ok.WN x c hfn hc)))).trans e1⟩
  ·obtain ⟨o',e1⟩:=I.base.there b o e hx
   exact ⟨o',(hs.2 b (ba (cz (aN e) (I.ok.WN x c hfn hc)))).trans e1⟩
  ·by_cases hj:j=i
   ·subst hj
    rw[hi] at e1;cases e1
    rw[ka hiσ] at e2
    cases e2
    exact ⟨u,r,.inr ⟨.inl hk,c,hc,hc'⟩⟩
   ·rw[tL (gU hj)] at e2
    obtain ⟨u',r',q⟩:=hl j y v' e1 e2 e3
    refine ⟨u',r',?_⟩
    rcases q with q | ⟨k,c',e,z'⟩
    ·exact .inl q
    ·refine .inr ⟨k,c',e,z'.sameBut hs ?_⟩
     rintro rfl
     exact hj (yP hN e1 (I.ok.inj _ _ _ e hc▸hi))
  ·by_cases hcc:c'=c
   ·subst hcc;exact ⟨_,hc'⟩
   ·obtain ⟨w2,z2⟩:=I.cell y c' e
    exact ⟨w2,z2.sameBut hs hcc⟩
  ·obtain ⟨e,n,ne,nf,d⟩:=I.pin p hp
   refine ⟨(hs.2 p.1 ?_).trans e,n,ne,nf,d⟩
   intro q
   rw[q,hoc] at e
   have q':oc=p.2:=aJ e
   exact d w' (by rw[← q'];exact hocd)
theorem DE {M:Me}{A:cA}{E:ag→au→Prop}{i:Nat}{x:cp}{v:V}{u:ag}{Q:Unit→au→Prop}(I:Inv X pins σ H s)(hN:X.N.Nodup)(hi:X.N[i]?=some x)(hx:Loc X.env.scope x)(r:RelV v u)
  (h:∀ s',Inv X pins (σ.set i (some v)) H s'→Q () s')(hf:X.fn x=true∨X.env.scope.names.lookup x=some .local:=by first | exact .inl rfl | exact .inr rfl | assumption):wpAny M A (storeName X.env x u) Q E s :=
 AD I hN hi hx r (fun s' I' _=>h s' I') hf
theorem Inv.XT {s':au}{ch:List aj}(I:Inv X pins σ H s)(ho:s'.os=s.os)(u:Un (Mn X.stack) ch H H' s.heap s'.heap)(fj:qf X.prog X.w H' s'.heap)(hg:z5 s'.gens)
  (hch:∀ b∈ch,(b∈X.ex∨X.s_0.heap.objs.size≤b)∧b≠X.env.locals∧(∀ x c,X.env.cells.lookup x=some c→c≠b)∧∀ p∈X.pn++pins,p.1≠b):Inv X pins σ H' s':=by
 obtain ⟨h',g',d',t',o'⟩:=s'
 have e:o'=s.os:=ho
 subst e
 exact I.call (g':=g') (t':=t') (d':=d') u fj hg hch
end
abbrev XK:=ag→Option aj→Hp→Prop
abbrev St:=List (Option V)
abbrev VK:=V→Hp→Prop
abbrev TE:=St→Hp→VK→Prop
abbrev TT:=St→Hp→(Bool→Hp→Prop)→Prop
abbrev TA:=St→Hp→(List V→Hp→Prop)→Prop
structure Ends where
 nx:St→Hp→Prop
 rt:VK
 bk:St→Hp→Prop:=fun _ _=>False
 ct:St→Hp→Prop:=fun _ _=>False
abbrev TS:=Ends→St→Hp→Prop
def EP (X:Cx)(pins:List (aj×fA))(σ:St)(Q:VK)(u:ag)(s':au):Prop:=∃ v H',Inv X pins σ H' s'∧RelV v u∧Q v H'
def TP (X:Cx)(pins:List (aj×fA))(σ:St)(Q:Bool→Hp→Prop)(b:Bool)(s':au):Prop:=∃ H',Inv X pins σ H' s'∧Q b H'
def AP (X:Cx)(pins:List (aj×fA))(σ:St)(Q:List V→Hp→Prop)(us:List ag)(s':au):Prop:=∃ vs H',Inv X pins σ H' s'∧df vs us∧Q vs H'
def SP (X:Cx)(pins:List (aj×fA))(D:Ends)(f:Flow)(s':au):Prop :=
 match f with
 | .next=>∃ σ' H',Inv X pins σ' H' s'∧D.nx σ' H'
 | .brk=>∃ σ' H',Inv X pins σ' H' s'∧D.bk σ' H'
 | .cont=>∃ σ' H',Inv X pins σ' H' s'∧D.ct σ' H'
 | .ret u=>∃ v σ' H',Inv X pins σ' H' s'∧RelV v u∧D.rt v H'
def PE (X:Cx)(e:Expr)(t:TE):Prop :=
 ∀ (pins:List (aj×fA)) (s:au) (σ:St) (H:Hp) (Q:VK),Inv X pins σ H s→t σ H Q→wpAny (model X.prog X.w) X.A (eval e X.env) (EP X pins σ Q) X.xe s
def PT (X:Cx)(e:Expr)(t:TT):Prop :=
 ∀ (pins:List (aj×fA)) (s:au) (σ:St) (H:Hp) (Q:Bool→Hp→Prop),Inv X pins σ H s→t σ H Q→wpAny (model X.prog X.w) X.A (isTrue e X.env (eval e X.env)) (TP X pins σ Q) X.xe s
def PW (X:Cx)(e:Expr)(t:TT):Prop :=
 ∀ (whole:o8 ag) (pins:List (aj×fA)) (s:au) (σ:St) (H:Hp) (Q:Bool→Hp→Prop),Inv X pins σ H s→t σ H Q→wpAny (model X.prog X.w) X.A (isTrue e X.env whole) (TP X pins σ Q) X.xe s
theorem PW.pt {X:Cx}{e:Expr}{t:TT}(h:PW X e t):PT X e t:=h _
def PA (X:Cx)(es:List Expr)(t:TA):Prop :=
 ∀ (pos:jK) (pins:List (aj×fA)) (s:au) (σ:St) (H:Hp) (Q:List V→Hp→Prop),Inv X pins σ H s→t σ H Q→wpAny (model X.prog X.w) X.A (spliced (backTo pos (bQ es X.env))) (AP X pins σ Q) X.xe s
def PS (X:Cx)(st:d5)(t:TS):Prop :=
 ∀ (pins:List (aj×fA)) (s:au) (σ:St) (H:Hp) (D:Ends),Inv X pins σ H s→t D σ H→wpAny (model X.prog X.w) X.A (exec st X.env) (SP X pins D) X.xe s
def J0 (X:Cx)(st:List d5)(t:TS):Prop :=
 ∀ (pins:List (aj×fA)) (s:au) (σ:St) (H:Hp) (D:Ends),Inv X pins σ H s→t D σ H→wpAny (model X.prog X.w) X.A (execs st X.env) (SP X pins D) X.xe s
theorem gI {α:Type}{t:o8 α}{Q Q':α→au→Prop}{M:Me}{A:cA}{E:ag→au→Prop}{s:au}(h:wpAny M A t Q E s)(hQ:∀ a s,Q a s→Q' a s):wpAny M A t Q' E s:=hG h hQ fun _ _ x=>x
section
variable {X:Cx}
def WW (i:Nat):TE:=fun σ H Q=>∃ v,σ[i]?=some (some v)∧Q v H
def tC (v:V):TE:=fun _ H Q=>Q v H
theorem Vr {i:Nat}{x:cp}{pos:jK}(hN:X.N[i]?=some x)(hv:WO X.env.scope x)(hd:(x==("__debug__":cp))=false:=by decide)(hcd:(x==("__classdict__":cp))=false:=by decide):PE X (.Name x pos) (WW i):=by
 intro pins s σ H Q I h
 obtain ⟨v,e,h⟩:=h
 obtain ⟨m,hn,hl⟩:=I.loc
 obtain ⟨u,r,l⟩:=hl i x v hN e hv
 have fin:EP X pins σ Q u s:=⟨v,H,I,r,h⟩
 rcases l with ⟨hk,hm⟩ | ⟨hk,c,hc,hcell⟩
 ·exact wpAny_Name (wpAny_loadName_local I.ok.kind hk hn hm fin) hd
 ·rcases hk with hk | hk
  ·exact wpAny_Name (wpAny_loadName_cell I.ok.kind hk hc hcell fin) hd
  ·exact wpAny_Name (wpAny_loadName_free I.ok.kind hk hc hcell fin hcd) hd
theorem aW {i j pos}:PE X (.Constant (.int i) j pos) (tC (.int i)):=fun _ _ _ H _ I h=>wpAny_Constant_int ⟨.int i,H,I.tok _,⟨_,rfl⟩,h⟩
theorem Ai {b j pos}:PE X (.Constant (.bool b) j pos) (tC (.bl b)):=fun _ _ _ H _ I h=>Constant_bool ⟨.bl b,H,I,rfl,h⟩
theorem nM {j pos}:PE X (.Constant .none j pos) (tC .hC):=fun _ _ _ H _ I h=>Constant_none ⟨.hC,H,I,rfl,h⟩
def Gl (X:Cx)(x:cp):Prop:=X.env.kindOf x=some .globalImplicit
theorem Cc {E:ag→au→Prop}{pins:List (aj×fA)}{s:au}{σ:St}{H:Hp}{x:cp}{u:ag}{pos:jK}{Q:ag→au→Prop}(I:Inv X pins σ H s)(hg:Gl X x)(hm:X.mg x=some u)(h:Q u s)
  (hd:(x==("__debug__":cp))=false:=by decide):wpAny (model X.prog X.w) X.A (eval (.Name x pos) X.env) Q E s :=
 Ae I.ok.kind hg (Calls.loadGlobal_global (by rw[I.ok.glob];exact I.mod.glob.keeps I.bk) hm h) hd
theorem jl {E:ag→au→Prop}{pins:List (aj×fA)}{s:au}{σ:St}{H:Hp}{x:cp}{u:ag}{pos:jK}{Q:ag→au→Prop}(I:Inv X pins σ H s)(hg:Gl X x)(hm:X.mg x=none)(hv:bootBuiltins x=some u)(h:Q u s)
  (hn:x≠"__name__":=by decide)(hd:(x==("__debug__":cp))=false:=by decide):wpAny (model X.prog X.w) X.A (eval (.Name x pos) X.env) Q E s:=by
 obtain ⟨mb,h1,h2⟩:=I.mod.blt
 exact Ae I.ok.kind hg (Calls.loadGlobal_builtin (by rw[I.ok.glob];exact I.mod.glob.keeps I.bk) hm (by rw[I.ok.blt];exact h1.keeps I.bk) ((h2 x hn).trans hv) h) hd
theorem bX {x:cp}{v:V}{u:ag}{pos:jK}(hg:Gl X x)(hm:X.mg x=some u)(r:RelV v u)(hd:(x==("__debug__":cp))=false:=by decide):PE X (.Name x pos) (tC v) :=
 fun _ _ _ H _ I h=>Cc I hg hm ⟨v,H,I,r,h⟩ hd
variable {a b:Expr}{ta tb:TE}{pos:jK}
def tB (t:TE):TT:=fun σ H Q=>t σ H fun x H1=>∃ c,x=.bl c∧Q c H1
theorem pj {e:Expr}{t:TE}(h:PE X e t)(he:∀ whole,isTrue e X.env whole=(do let v ← whole;standAt e.pos;holding [v] (truthy v)):=by intro _;rfl):PT X e (tB t):=by
 intro pins s σ H Q I hw
 refine isTrue_plain (gI (h pins s σ H _ I hw) fun v s1 ⟨x,H1,I1,r1,q1⟩=>?_) (he _)
 obtain ⟨d,rfl,q⟩:=q1
 cases r1
 exact eY ⟨H1,I1,q⟩
variable {tA tB':TT}{rest:List Expr}
def WY (t u:TT):TT:=fun σ H Q=>t σ H fun c H1=>if c=true then u σ H1 Q else Q false H1
def Z5 (t u:TT):TT:=fun σ H Q=>t σ H fun c H1=>if c=true then Q true H1 else u σ H1 Q
def Y3 (t:TT):TT:=fun σ H Q=>t σ H fun c H1=>Q (!c) H1
theorem pB (ha:PT X a tA):PW X (.BoolOp .And [a] pos) tA:=by
 intro wh pins s σ H Q I h
 refine isTrue_and (gI (ha pins s σ H Q I h) fun c s1 e=>?_)
 cases c with
 | true=>exact isTrue_and_nil e
 | false=>exact e
theorem BE (ha:PT X a tA):PW X (.BoolOp .Or [a] pos) tA:=by
 intro wh pins s σ H Q I h
 refine isTrue_or (gI (ha pins s σ H Q I h) fun c s1 e=>?_)
 cases c with
 | false=>exact isTrue_or_nil e
 | true=>exact e
theorem ph (ha:PT X a tA)(hb:PW X (.BoolOp .And (b::rest) pos) tB'):PW X (.BoolOp .And (a::b::rest) pos) (WY tA tB'):=by
 intro wh pins s σ H Q I h
 refine isTrue_and (gI (ha pins s σ H _ I h) fun c s1 ⟨H1,I1,q1⟩=>?_)
 cases c with
 | true=>exact hb wh pins s1 σ H1 Q I1 q1
 | false=>exact ⟨H1,I1,q1⟩
theorem Ih (ha:PT X a tA)(hb:PW X (.BoolOp .Or (b::rest) pos) tB'):PW X (.BoolOp .Or (a::b::rest) pos) (Z5 tA tB'):=by
 intro wh pins s σ H Q I h
 refine isTrue_or (gI (ha pins s σ H _ I h) fun c s1 ⟨H1,I1,q1⟩=>?_)
 cases c with
 | true=>exact ⟨H1,I1,q1⟩
 | false=>exact hb wh pins s1 σ H1 Q I1 q1
theorem tO (ha:PT X a tA):PT X (.UnaryOp .Not a pos) (Y3 tA):=by
 intro pins s σ H Q I h
 exact isTrue_not (ha pins s σ H (fun c H1=>Q (!c) H1) I h)
def Xu (ta tb:TE):TE:=fun σ H Q=>ta σ H fun x H1=>∃ c,x=.bl c∧if c=true then tb σ H1 Q else Q (.bl false) H1
theorem NC {op}{t:TE}(h:PE X a t):PE X (.BoolOp op [a] pos) t:=fun pins s σ H Q I hw=>BoolOp_one (h pins s σ H Q I hw)
theorem Gi (ha:PE X a ta)(hb:PE X (.BoolOp .And (b::rest) pos) tb):PE X (.BoolOp .And (a::b::rest) pos) (Xu ta tb):=by
 intro pins s σ H Q I h
 refine BoolOp_and (gI (ha pins s σ H _ I h) fun v s1 ⟨x,H1,I1,r1,q1⟩=>?_)
 obtain ⟨c,rfl,q1⟩:=q1
 cases r1
 refine eY ?_
 cases c with
 | true=>exact hb pins s1 σ H1 Q I1 q1
 | false=>exact ⟨.bl false,H1,I1,rfl,q1⟩
def Z6 (t:TT)(ta tb:TE):TE:=fun σ H Q=>t σ H fun c H1=>if c=true then ta σ H1 Q else tb σ H1 Q
theorem yL {c:Expr}(hc:PT X c tA)(ha:PE X a ta)(hb:PE X b tb):PE X (.IfExp c a b pos) (Z6 tA ta tb):=by
 intro pins s σ H Q I h
 refine wpAny_IfExp (gI (hc pins s σ H _ I h) fun d s1 ⟨H1,I1,q1⟩=>?_)
 cases d with
 | true=>exact ha pins s1 σ H1 Q I1 q1
 | false=>exact hb pins s1 σ H1 Q I1 q1
end
def cG (K:ai)(H:Hp)(a:aj)(xs:List V):Prop :=
 Rd H a (.lst xs) ∨
  ∃ (o:fA) (its:Array ag) (n:Nat),K.lookup a=some o∧o.cls=.type "list"∧o.dict=none∧o.data=.seq its n∧its.size≤aA∧df xs its.toList
def fN (K:ai)(H:Hp)(a:aj)(xs:List V):Prop :=
 Rd H a (.tup xs) ∨
  ∃ (o:fA) (its:Array ag) (n:Nat),K.lookup a=some o∧o.cls=.type "tuple"∧o.data=.seq its n∧its.size≤aA∧df xs its.toList
def Zq:ag→Option V
 | .none=>some .hC
 | .bool b=>some (.bl b)
 | .int i _=>some (.int i)
 | .str x _=>some (.str x)
 | .bytes b _=>some (.Fk b)
 | .float b _=>some (.Yo b)
 | .ref a=>some (.ref a)
 | .type n=>some (.ty n)
 | _=>none
theorem RelV.abs {x:V}{u:ag}(r:RelV x u):Zq u=some x:=by
 cases x with
 | hC=>cases r;rfl
 | bl _=>cases r;rfl
 | int _=>obtain ⟨t,rfl⟩:=r;rfl
 | str _=>obtain ⟨t,rfl⟩:=r;rfl
 | Fk _=>obtain ⟨t,rfl⟩:=r;rfl
 | Yo _=>obtain ⟨t,rfl⟩:=r;rfl
 | ref _=>cases r;rfl
 | ty _=>cases r;rfl
theorem RelV.inj {x y:V}{u:ag}(r:RelV x u)(q:RelV y u):x=y:=aJ (r.abs.symm.trans q.abs)
theorem df.inj:∀ {xs ys:List V} {us:List ag},df xs us→df ys us→xs=ys
 | _,_,_,.nil,.nil=>rfl
 | _,_,_,.cons r t,.cons r' t'=>by rw[r.inj r',df.inj t t']
section
variable {X:Cx}{pins:List (aj×fA)}{σ:St}{H:Hp}{s:au}{a:aj}{xs ys:List V}
theorem cG.of {K:ai}(h:H a=some (.lst xs)):cG K H a xs:=.inl (.inl h)
theorem fN.of {K:ai}(h:H a=some (.tup xs)):fN K H a xs:=.inl (.inl h)
theorem Inv.list (I:Inv X pins σ H s)(h:cG X.K H a xs):∃ its:List ag,df xs its∧PlainL s.heap a its.toArray∧xs.length≤aA:=by
 rcases h with h | ⟨o,its,n,hk,hc,hd,hs,hz,r⟩
 ·obtain ⟨z,its,n,r,e⟩:=h.ok I.fj
  exact ⟨its,r,⟨_,n,e,rfl,rfl,rfl⟩,z⟩
 ·refine ⟨its.toList,r,⟨o,n,I.HY a o hk,hc,hd,by simpa using hs⟩,?_⟩
  have e:=r.length
  simp only[cM] at e
  omega
theorem Inv.tuple (I:Inv X pins σ H s)(h:fN X.K H a xs):∃ its:List ag,df xs its∧qo s.heap a its.toArray∧xs.length≤aA:=by
 rcases h with h | ⟨o,its,n,hk,hc,hs,hz,r⟩
 ·obtain ⟨z,its,r,p⟩:=h.ok I.fj
  exact ⟨its,r,p,z⟩
 ·refine ⟨its.toList,r,⟨o,I.HY a o hk,hc,n,by simpa using hs⟩,?_⟩
  have e:=r.length
  simp only[cM] at e
  omega
theorem Inv.uY (I:Inv X pins σ H s)(h:cG X.K H a xs)(h':cG X.K H a ys):xs=ys:=by
 obtain ⟨its,r,⟨o,n,e,_,_,d⟩,_⟩:=I.list h
 obtain ⟨its',r',⟨o',n',e',_,_,d'⟩,_⟩:=I.list h'
 rw[e] at e';cases e'
 rw[d] at d'
 injection d' with d1 _
 have:its=its':=by simpa using congrArg EE d1
 subst this
 exact r.inj r'
theorem Inv.vT (I:Inv X pins σ H s)(h:fN X.K H a xs)(h':fN X.K H a ys):xs=ys:=by
 obtain ⟨its,r,⟨o,e,_,n,d⟩,_⟩:=I.tuple h
 obtain ⟨its',r',⟨o',e',_,n',d'⟩,_⟩:=I.tuple h'
 rw[e] at e';cases e'
 rw[d] at d'
 injection d' with d1 _
 have:its=its':=by simpa using congrArg EE d1
 subst this
 exact r.inj r'
end
abbrev Cx.zX (X:Cx)(E:ag→au→Prop):Cx:={X with xe:=E}
abbrev Cx.Yl (X:Cx):Cx:=X.zX fun _ _=>False
theorem Cx.Ok.zX {X:Cx}(ok:X.Ok)(E:ag→au→Prop):(X.zX E).Ok :=
 ⟨ok.mod,ok.kind,ok.glob,ok.blt,ok.above,ok.inj,ok.has,ok.WN,ok.hd,ok.frames,ok.Yk,ok.Yp,ok.bs,ok.QX,ok.Mt,ok.Mv,ok.xy,ok.UN⟩
theorem Cx.Ok.qN {X:Cx}{E:ag→au→Prop}(ok:(X.zX E).Ok):X.Ok :=
 ⟨ok.mod,ok.kind,ok.glob,ok.blt,ok.above,ok.inj,ok.has,ok.WN,ok.hd,ok.frames,ok.Yk,ok.Yp,ok.bs,ok.QX,ok.Mt,ok.Mv,ok.xy,ok.UN⟩
section
variable {X:Cx}{pins:List (aj×fA)}{σ:St}{H:Hp}{s:au}{E:ag→au→Prop}
theorem Inv.zX (I:Inv X pins σ H s)(E:ag→au→Prop):Inv (X.zX E) pins σ H s:=⟨I.ok.zX E,I.os,I.bare,I.base,I.loc,I.cell,I.free,I.mT,I.pin,I.fj,I.len⟩
theorem Inv.qN (I:Inv (X.zX E) pins σ H s):Inv X pins σ H s:=⟨I.ok.qN,I.os,I.bare,I.base,I.loc,I.cell,I.free,I.mT,I.pin,I.fj,I.len⟩
theorem SP.qN {D:Ends}{f:Flow}{s':au}(h:SP (X.zX E) pins D f s'):SP X pins D f s':=by
 cases f with
 | next=>obtain ⟨σ',H',I,q⟩:=h;exact ⟨σ',H',I.qN,q⟩
 | brk=>obtain ⟨σ',H',I,q⟩:=h;exact ⟨σ',H',I.qN,q⟩
 | cont=>obtain ⟨σ',H',I,q⟩:=h;exact ⟨σ',H',I.qN,q⟩
 | ret u=>obtain ⟨v,σ',H',I,r,q⟩:=h;exact ⟨v,σ',H',I.qN,r,q⟩
theorem J0.Yl {st:List d5}{t:TS}(h:J0 X.Yl st t):J0 X st t:=fun pins s σ H D I hw =>
 hG (h pins s σ H D (I.zX _) hw) (fun _ _ q=>q.qN) fun _ _ z=>fg z
end
section
variable {X:Cx}{st:d5}{rest:List d5}{t u:TS}{e:Expr}{te:TE}{pos:jK}
def Xl:TS:=fun D σ H=>D.nx σ H
def UR (t u:TS):TS:=fun D σ H=>t {D with nx:=u D} σ H
theorem cU:J0 X [] Xl:=fun _ _ σ H _ I h=>ux ⟨σ,H,I,h⟩
theorem aF (h1:PS X st t)(h2:J0 X rest u):J0 X (st::rest) (UR t u):=by
 intro pins s σ H D I h
 refine wpAny_execs_cons (gI (h1 pins s σ H {D with nx:=u D} I h) fun f s1 q=>?_)
 cases f with
 | next =>
  obtain ⟨σ',H',I',q⟩:=q
  exact h2 pins s1 σ' H' D I' q
 | ret v=>exact q
 | brk=>exact q
 | cont=>exact q
theorem aQ (h1:PS X st t):J0 X [st] t:=by
 intro pins s σ H D I h
 refine wpAny_execs_cons (gI (h1 pins s σ H D I h) fun f s1 q=>?_)
 cases f with
 | next=>exact ux q
 | ret v=>exact q
 | brk=>exact q
 | cont=>exact q
theorem Inv.quiet {pins:List (aj×fA)}{σ:St}{H:Hp}{s:au}(I:Inv X pins σ H s):interactive X.env=false:=by simp[interactive,I.ok.kind]
def Xq (te:TE):TS:=fun D σ H=>te σ H fun _ H1=>D.nx σ H1
theorem fP (he:PE X e te)(hs:swapsWith e none pos.line X.env=pure false:=by rfl):PS X (.Expr e pos) (Xq te):=by
 intro pins s σ H D I h
 exact wpAny_Expr_any (gI (he pins s σ H _ I h) fun v s1 ⟨x,H1,I1,r1,q1⟩=>⟨σ,H1,I1,q1⟩) I.quiet hs
def Y2 (te:TE):TS:=fun D σ H=>te σ H D.rt
theorem bL (he:PE X e te):PS X (.Return (some e) pos) (Y2 te):=by
 intro pins s σ H D I h
 exact wpAny_Return_some (gI (he pins s σ H _ I h) fun v s1 ⟨x,H1,I1,r1,q1⟩=>⟨x,σ,H1,I1,r1,q1⟩)
def Y5 (c:TT)(t u:TS):TS:=fun D σ H=>c σ H fun b H1=>if b=true then t D σ H1 else u D σ H1
theorem eE {c:Expr}{a b:List d5}{tc:TT}(hc:PT X c tc)(ha:J0 X a t)(hb:J0 X b u):PS X (.If c a b pos) (Y5 tc t u):=by
 intro pins s σ H D I h
 refine wpAny_If (gI (hc pins s σ H _ I h) fun d s1 ⟨H1,I1,q1⟩=>?_)
 cases d with
 | true=>exact ha pins s1 σ H1 D I1 q1
 | false=>exact hb pins s1 σ H1 D I1 q1
end
abbrev TG:=V→St→Hp→(St→Hp→Prop)→Prop
abbrev UP:=List V→St→Hp→(St→Hp→Prop)→Prop
def PG (X:Cx)(target:Expr)(t:TG):Prop :=
 ∀ (pins:List (aj×fA)) (s:au) (σ:St) (H:Hp) (v:V) (u:ag) (Q:St→Hp→Prop),Inv X pins σ H s→RelV v u→t v σ H Q →
  wpAny (model X.prog X.w) X.A (assign target X.env u) (fun _ s'=>∃ σ' H',Inv X pins σ' H' s'∧Q σ' H') X.xe s
def Yq (X:Cx)(ts:List Expr)(t:UP):Prop :=
 ∀ (pins:List (aj×fA)) (s:au) (σ:St) (H:Hp) (vs:List V) (us:List ag) (Q:St→Hp→Prop),Inv X pins σ H s→df vs us→t vs σ H Q →
  wpAny (model X.prog X.w) X.A (assignInOrder ((assignEach ts X.env).map (·.2)) us) (fun _ s'=>∃ σ' H',Inv X pins σ' H' s'∧Q σ' H') X.xe s
abbrev U6:=V→V→V→Hp→(Hp→Prop)→Prop
def Xe (X:Cx)(t:U6):Prop :=
 ∀ (pins:List (aj×fA)) (s:au) (σ:St) (H:Hp) (o i v:V) (ov iv u:ag) (Q:Hp→Prop),Inv X pins σ H s→RelV o ov→RelV i iv→RelV v u→t o i v H Q →
  wpAny (model X.prog X.w) X.A (setItem ov iv u) (fun _ s'=>∃ H',Inv X pins σ H' s'∧Q H') X.xe s
section
variable {X:Cx}{pos:jK}
def oh (i:Nat):TG:=fun v σ H Q=>Q (σ.set i (some v)) H
theorem cI {i:Nat}{x:cp}(hN:X.N.Nodup)(hi:X.N[i]?=some x)(hx:Loc X.env.scope x)(hf:X.fn x=true∨X.env.scope.names.lookup x=some .local:=by first | exact .inl rfl | exact .inr rfl | assumption):PG X (.Name x pos) (oh i):=by
 intro pins s σ H v u Q I r h
 exact wpAny_assign_Name (DE I hN hi hx r (fun s' I'=>⟨_,H,I',h⟩) hf)
def W9:UP:=fun vs σ H Q=>vs=[]∧Q σ H
def Nb (t:TG)(u:UP):UP:=fun vs σ H Q=>∃ v r,vs=v::r∧t v σ H fun σ' H'=>u r σ' H' Q
theorem uI:Yq X [] W9:=by
 intro pins s σ H vs us Q I r h
 obtain ⟨e,h⟩:=h
 subst e
 cases r
 exact assignInOrder_nil ⟨σ,H,I,h⟩
theorem je {e:Expr}{es:List Expr}{t:TG}{u:UP}(h1:PG X e t)(h2:Yq X es u)
  (hs:(assignEach (e::es) X.env).map (·.2)=assign e X.env::(assignEach es X.env).map (·.2):=by rfl):Yq X (e::es) (Nb t u):=by
 intro pins s σ H vs us Q I r h
 obtain ⟨v,vr,e1,h⟩:=h
 subst e1
 cases r with
 | cons r rr =>
  rw[hs]
  refine assignInOrder_cons (gI (h1 pins s σ H _ _ _ I r h) fun _ s1 ⟨σ1,H1,I1,q1⟩=>?_)
  exact h2 pins s1 σ1 H1 _ _ Q I1 rr q1
def W8 (K:ai)(n:Nat)(t:UP):TG:=fun v σ H Q=>∃ a xs,v=.ref a∧fN K H a xs∧xs.length=n∧t xs σ H Q
theorem yz {es:List Expr}{k:Nat}{t:UP}{n:Nat}(hc:X.calm=true)(h:Yq X es t)
  (hn:(assignEach es X.env).length=n:=by rfl)(hst:(assignEach es X.env).findIdx? (·.1)=none:=by rfl):PG X (.Tuple es k pos) (W8 X.K n t):=by
 intro pins s σ H v u Q I r hw
 obtain ⟨a,xs,e1,hq,hl,hw⟩:=hw
 subst e1
 cases r
 obtain ⟨its,rv,ht,hz⟩:=I.tuple hq
 refine assign_Tuple_tuple (I.ok.hd hc) ht (by simp[hn,← hl,rv.length]) hst fun h' hx=>?_
 have I1:Inv X pins σ H {s with heap:=h'}:=I.kept (t':=s.toks) fun b o e=>hx b o (ba (aN e)) e
 exact h pins _ σ H xs _ Q I1 (by simpa using rv) hw
def Zn (to ti:TE)(t:U6):TG:=fun v σ H Q=>to σ H fun o H1=>ti σ H1 fun i H2=>t o i v H2 fun H3=>Q σ H3
theorem BG {o i:Expr}{to ti:TE}{t:U6}(ho:PE X o to)(hi:PE X i ti)(hs:Xe X t)
  (ha:∀ v,assign (.Subscript o i pos) X.env v=(do
   let ov ← holding [v] (eval o X.env)
   let iv ← holding [v,ov] (eval i X.env)
   standAt pos
   holding [v,ov,iv] (setItem ov iv v)
   release [v,ov,iv] []):=by intro _;rfl):PG X (.Subscript o i pos) (Zn to ti t):=by
 intro pins s σ H v u Q I r h
 rw[ha]
 refine aa (dj (gI (ho pins s σ H _ I h) fun ov s1 ⟨x,H1,I1,r1,q1⟩=>?_))
 refine aa (dj (gI (hi pins s1 σ H1 _ I1 q1) fun iv s2 ⟨y,H2,I2,r2,q2⟩=>?_))
 refine aa (Ka (aa (dj (gI (hs pins s2 σ H2 x y v ov iv u _ I2 r1 r2 r q2) fun _ s3 ⟨H3,I3,q3⟩=>?_))))
 exact wpAny_release ⟨σ,H3,I3,q3⟩
def QZ (te:TE)(g:TG):TS:=fun D σ H=>te σ H fun x H1=>g x σ H1 D.nx
theorem BF {tg e:Expr}{te:TE}{g:TG}(he:PE X e te)(hg:PG X tg g)(hs:swapsWithSole [tg] e pos.line X.env=pure false:=by rfl)(hw:swappedStores [tg] e X.env=pure none:=by rfl)
  (h1:(assignEach [tg] X.env).map (·.2)=[assign tg X.env]:=by rfl):PS X (.Assign [tg] e pos) (QZ te g):=by
 intro pins s σ H D I h
 refine wpAny_Assign_stores (gI (he pins s σ H _ I h) fun v s1 ⟨x,H1,I1,r1,q1⟩=>?_) hs hw
 rw[h1]
 exact gI (hg pins s1 σ H1 x v _ I1 r1 q1) fun _ s2 q=>q
theorem cw {i:Nat}{x:cp}{e:Expr}{te:TE}{pos':jK}(hN:X.N.Nodup)(hi:X.N[i]?=some x)(hx:Loc X.env.scope x)(he:PE X e te)(hs:swapsWith e (some (.Name x pos')) pos.line X.env=pure false:=by rfl)(hf:X.fn x=true∨X.env.scope.names.lookup x=some .local:=by first | exact .inl rfl | exact .inr rfl | assumption) :
  PS X (.Assign [.Name x pos'] e pos) (QZ te (oh i)):=by
 intro pins s σ H D I h
 refine wpAny_Assign_Name (gI (he pins s σ H _ I h) fun v s1 ⟨y,H1,I1,r1,q1⟩=>?_) hs
 exact DE I1 hN hi hx r1 (fun s2 I2=>⟨_,H1,I2,q1⟩) hf
end
section
variable {X:Cx}{pos:jK}
def U9 (c:TT)(tb:TS):TS:=fun D σ H=>∃ W:Nat→St→Hp→Prop,(∃ m,W m σ H)∧∀ m σ H,W m σ H →
 c σ H fun b H1=>if b=true then ∃ N:St→Hp→Prop,(∀ σ' H',N σ' H'→∃ m',m'<m∧W m' σ' H')∧tb {D with nx:=N,ct:=N,bk:=D.nx} σ H1 else D.nx σ H1
theorem mn {c:Expr}{body:List d5}{tc:TT}{tb:TS}(hp:PassesOwn (model X.prog X.w) X.A X.env X.xe)(hc:PT X c tc)(hb:J0 X body tb):PS X (.While c body [] pos) (U9 tc tb):=by
 intro pins s σ H D I h
 obtain ⟨W,⟨m0,w0⟩,turn⟩:=h
 refine wpAny_While (codeAny_whileLoop (fun n s'=>∃ σ' H',Inv X pins σ' H' s'∧W n σ' H') ?_ m0 ⟨σ,H,I,w0⟩)
 rintro n s1 ⟨σ1,H1,I1,w1⟩
 refine iW hp (gI (hc pins s1 σ1 H1 _ I1 (turn n σ1 H1 w1)) fun b s2 ⟨H2,I2,q2⟩=>?_)
 cases b with
 | true =>
  obtain ⟨N,hN,q2⟩:=q2
  rw[if_pos rfl]
  refine iW hp (gI (hb pins s2 σ1 H2 _ I2 q2) fun f s3 q3=>?_)
  cases f with
  | next =>
   obtain ⟨σ3,H3,I3,n3⟩:=q3
   obtain ⟨m',hm,w3⟩:=hN σ3 H3 n3
   exact ⟨m',hm,σ3,H3,I3,w3⟩
  | cont =>
   obtain ⟨σ3,H3,I3,n3⟩:=q3
   obtain ⟨m',hm,w3⟩:=hN σ3 H3 n3
   exact ⟨m',hm,σ3,H3,I3,w3⟩
  | brk=>exact q3
  | ret v=>exact q3
 | false =>
  rw[if_neg bg]
  exact ux ⟨σ1,H2,I2,q2⟩
end
structure It where
 go:Nat→Hp→Prop
 zS:Nat→Hp→V→Hp→Prop
 stop:Nat→Hp→Prop
def xA (X:Cx)(pins:List (aj×fA))(H:Hp)(b:aj):Prop :=
 H b=none∧b≠X.env.locals∧b∉X.fs∧(b∈X.ex∨X.s_0.heap.objs.size≤b)∧(∀ x c,X.env.cells.lookup x=some c→c≠b)∧∀ p∈X.pn++pins,p.1≠b
theorem Inv.C8 {X:Cx}{pins:List (aj×fA)}{σ:St}{H H':Hp}{s:au}{b:aj}(I:Inv X pins σ H s)(hb:s.heap.objs.size≤b)(hn:H' b=none):xA X pins H' b:=by
 refine ⟨hn,fY (cz I.lt hb),I.Ze hb,.inr (aD I.sz hb),fun x c e z=>?_,fun p hp z=>?_⟩
 ·obtain ⟨v,q⟩:=I.cell x c e
  exact absurd (cz q.lt (by rw[z];exact hb)) (dn _)
 ·exact absurd (cz (aN (I.pin p hp).1) (by rw[z];exact hb)) (dn _)
structure Turn (P:aY)(w:bO)(K:ai)(tg:Expr)(J:It)(fp:List aj)(it:aj)(tn:Nat→bU→Prop):Prop where
 mem:it∈fp
 obj:∀ i h,tn i h→∀ b∈fp,∃ o,h.get? b=some o∧∀ v,o.data≠.cell v
 keep:∀ i h h',tn i h→(∀ b∈fp,∀ o,h.get? b=some o→h'.get? b=some o)→tn i h'
 item:∀ (X:Cx),X.prog=P→X.w=w→X.K=K→X.calm=true→∀ (i:Nat) (pins:List (aj×fA)) (s:au) (σ:St) (H:Hp) (E:ag→au→Prop),Inv X pins σ H s→(∀ b∈fp,xA X pins H b)→tn i s.heap→J.go i H →
  wpAny (model P w) X.A (pyNext (.ref it)) (fun r s1=>∃ u,r=some u ∧
   wpAny (model P w) X.A (letOwnedTupleGo tg (.ref it) u) (fun _ s2=>∃ x H',Inv X pins σ H' s2∧RelV x u∧J.zS i H x H'∧tn (i+1) s2.heap∧∀ b∈fp,H' b=none) E s1) E s
 done:∀ (X:Cx),X.prog=P→X.w=w→X.K=K→X.calm=true→∀ (i:Nat) (pins:List (aj×fA)) (s:au) (σ:St) (H:Hp) (E:ag→au→Prop),Inv X pins σ H s→(∀ b∈fp,xA X pins H b)→tn i s.heap→J.stop i H →
  wpAny (model P w) X.A (pyNext (.ref it)) (fun r s1=>r=none∧Inv X pins σ H s1) E s
 self:∀ (A:cA) (i:Nat) (s:au) (Q:ag→au→Prop) (E:ag→au→Prop),tn i s.heap→Q (.ref it) s→wpAny (model P w) A (pyIter (.ref it)) Q E s
abbrev TI:=St→Hp→(It→Hp→Prop)→Prop
def WR (X:Cx)(pins:List (aj×fA))(σ:St)(tg:Expr)(R:It→Hp→Prop)(itv:ag)(s2:au):Prop :=
 ∃ (it:aj) (fp:List aj) (tn:Nat→bU→Prop) (J:It) (H':Hp),itv=.ref it∧Inv X pins σ H' s2∧Turn X.prog X.w X.K tg J fp it tn∧tn 0 s2.heap∧(∀ b∈fp,xA X pins H' b)∧R J H'
def PI (X:Cx)(tg iter:Expr)(wi:TI):Prop :=
 ∀ (pins:List (aj×fA)) (s:au) (σ:St) (H:Hp) (R:It→Hp→Prop),Inv X pins σ H s→wi σ H R →
  wpAny (model X.prog X.w) X.A (eval iter X.env) (fun v s1=>wpAny (model X.prog X.w) X.A (pyIter v) (WR X pins σ tg R) X.xe s1) X.xe s
theorem Ik {M:Me}{A:cA}{E:ag→au→Prop}{s:au}{tg:Expr}{it:aj}{u:ag}{o:fA}{n:String}{vs:Array ag}{Q:Unit→au→Prop}(ho:s.heap.get? it=some o)(hc:o.cls=.type n)(hd:o.data=.fields vs)
  (hn:["enumerate","zip","dict_itemiterator","dict_reverseitemiterator","odict_iterator","itertools.zip_longest","itertools.pairwise"].contains n=false)(hQ:Q () s):wpAny M A (letOwnedTupleGo tg (.ref it) u) Q E s:=by
 unfold letOwnedTupleGo
 cases tg<;>first
  | exact ak hQ
  | (cases u<;>first
    | exact ak hQ
    | (refine aa (wpAny_load ho ?_)
       rw[hc,hd]
       show wpAny M A (if (["enumerate","zip","dict_itemiterator","dict_reverseitemiterator","odict_iterator","itertools.zip_longest","itertools.pairwise"].contains n&&vs[0]?==some (gm _))=true then _ else _) Q E s
       rw[if_neg (by intro h;rw[hn,ip] at h;cases h)]
       exact ak hQ))
def Ah (K:ai)(a:aj):It :=
 ⟨fun i H=>∃ xs x,cG K H a xs∧xs[i]?=some x,fun i H x H'=>H'=H∧∀ xs,cG K H a xs→xs[i]?=some x,fun i H=>∃ xs,cG K H a xs∧xs.length≤i⟩
def Ud (K:ai)(a:aj):It :=
 ⟨fun i H=>∃ xs x,fN K H a xs∧xs[i]?=some x,fun i H x H'=>H'=H∧∀ xs,fN K H a xs→xs[i]?=some x,fun i H=>∃ xs,fN K H a xs∧xs.length≤i⟩
def J2 (lo:Int)(n:Nat):It:=⟨fun i _=>i<n,fun i H x H'=>H'=H∧x=.int (lo+i),fun i _=>n≤i⟩
theorem Kj {P:aY}{w:bO}{K:ai}{tg:Expr}(a it:aj):Turn P w K tg (Ah K a) [it] it (fun i h=>h.IsListIter it a i) where
 mem:=by simp
 obj:=fun i h st b hb=>by
  have e:b=it:=by simpa using hb
  subst e
  obtain ⟨o,e,c,d⟩:=st
  exact ⟨o,e,fun v z=>by rw[d] at z;cases z⟩
 keep:=fun i h h' st k=>st.at fun o e=>k it (by simp) o e
 item:=by
  intro X hP hw hK hc i pins s σ H E I hf st hg
  subst hP hw hK
  obtain ⟨xs,x,hq,hx⟩:=hg
  obtain ⟨its,rv,p,hz⟩:=I.list hq
  obtain ⟨u,hu,ru⟩:=rv.get hx
  obtain ⟨f0,f1,f2,f3,f4,f5⟩:=hf it (by simp)
  refine fL st p.isList (x:=u) (by simpa using hu) fun h' st' sb=>?_
  have I1:Inv X pins σ H {s with heap:=h'}:=I.turned (t':=s.toks) (fun b o hb e=>(sb.2 b hb).trans e) f0 f1 f3 f4 f5
  obtain ⟨o,e,c,d⟩:=id st'
  exact ⟨u,rfl,Ik (s:={s with heap:=h'}) e c d (by decide) ⟨x,H,I1,ru,⟨rfl,fun ys hy=>by rw[I.uY hy hq];exact hx⟩,st',fun b hb=>(hf b hb).1⟩⟩
 done:=by
  intro X hP hw hK hc i pins s σ H E I hf st hg
  subst hP hw hK
  obtain ⟨xs,hq,hx⟩:=hg
  obtain ⟨its,rv,p,hz⟩:=I.list hq
  obtain ⟨f0,f1,f2,f3,f4,f5⟩:=hf it (by simp)
  have hl:=rv.length
  exact fZ (I.ok.hd hc) st p.isList (by simp;omega) fun h' eb=>⟨rfl,I.turned (t':=s.toks) (fun b o hb e=>eb b o hb e) f0 f1 f3 f4 f5⟩
 self:=fun _ _ _ _ _ st h=>wpAny_pyIter_listiter st h
theorem GR {P:aY}{w:bO}{K:ai}{tg:Expr}(a it:aj):Turn P w K tg (Ud K a) [it] it (fun i h=>h.IsTupleIter it a i) where
 mem:=by simp
 obj:=fun i h st b hb=>by
  have e:b=it:=by simpa using hb
  subst e
  obtain ⟨o,e,c,d⟩:=st
  exact ⟨o,e,fun v z=>by rw[d] at z;cases z⟩
 keep:=fun i h h' st k=>st.at fun o e=>k it (by simp) o e
 item:=by
  intro X hP hw hK hc i pins s σ H E I hf st hg
  subst hP hw hK
  obtain ⟨xs,x,hq,hx⟩:=hg
  obtain ⟨its,rv,p,hz⟩:=I.tuple hq
  obtain ⟨u,hu,ru⟩:=rv.get hx
  obtain ⟨f0,f1,f2,f3,f4,f5⟩:=hf it (by simp)
  refine wpAny_pyNext_tuple_item st (show s.heap.IsTuple a its.toArray from p) (x:=u) (by simpa using hu) fun h' st' sb=>?_
  have I1:Inv X pins σ H {s with heap:=h'}:=I.turned (t':=s.toks) (fun b o hb e=>(sb.2 b hb).trans e) f0 f1 f3 f4 f5
  obtain ⟨o,e,c,d⟩:=id st'
  exact ⟨u,rfl,Ik (s:={s with heap:=h'}) e c d (by decide) ⟨x,H,I1,ru,⟨rfl,fun ys hy=>by rw[I.vT hy hq];exact hx⟩,st',fun b hb=>(hf b hb).1⟩⟩
 done:=by
  intro X hP hw hK hc i pins s σ H E I hf st hg
  subst hP hw hK
  obtain ⟨xs,hq,hx⟩:=hg
  obtain ⟨its,rv,p,hz⟩:=I.tuple hq
  obtain ⟨f0,f1,f2,f3,f4,f5⟩:=hf it (by simp)
  have hl:=rv.length
  exact wpAny_pyNext_tuple_end (I.ok.hd hc) st (show s.heap.IsTuple a its.toArray from p) (by simp;omega) fun h' eb=>⟨rfl,I.turned (t':=s.toks) (fun b o hb e=>eb b o hb e) f0 f1 f3 f4 f5⟩
 self:=fun _ _ _ _ _ st h=>wpAny_pyIter_tupleiter st h
theorem GS {P:aY}{w:bO}{K:ai}{tg:Expr}(it:aj)(lo:Int)(n:Nat):Turn P w K tg (J2 lo n) [it] it (fun i h=>CT h it (lo+(i:Nat)*1) ((n:Int) - (i:Nat)) 1) where
 mem:=by simp
 obj:=fun i h st b hb=>by
  have e:b=it:=by simpa using hb
  subst e
  exact ⟨_,st,fun v z=>by
   have z':Data.fields _=Data.cell v:=z
   cases z'⟩
 keep:=fun i h h' st k=>k it (by simp) _ st
 item:=by
  intro X hP hw hK hc i pins s σ H E I hf st hg
  subst hP hw hK
  obtain ⟨f0,f1,f2,f3,f4,f5⟩:=hf it (by simp)
  have W:=Walks.range (prog:=X.prog) (w:=X.w) (I.ok.hd hc) it lo 1 n
  refine W.item i s _ _ hg st fun v h' tk hv st' kk=>?_
  obtain ⟨t,rfl⟩:=hv
  have I1:Inv X pins σ H {s with heap:=h',toks:=tk}:=I.turned (fun b o hb e=>kk b o (by simpa using hb) e) f0 f1 f3 f4 f5
  refine ⟨_,rfl,Ik (s:={s with heap:=h',toks:=tk}) (n:="range_iterator") st' rfl rfl (by decide) ⟨.int (lo+i),H,I1,⟨t,?_⟩,⟨rfl,rfl⟩,st',fun b hb=>(hf b hb).1⟩⟩
  rw[Int.mul_one]
 done:=by
  intro X hP hw hK hc i pins s σ H E I hf st hg
  subst hP hw hK
  obtain ⟨f0,f1,f2,f3,f4,f5⟩:=hf it (by simp)
  exact Qn (I.ok.hd hc) st (by have:n≤i:=hg;omega) fun h' eb=>⟨rfl,I.turned (t':=s.toks) (fun b o hb e=>eb b o hb e) f0 f1 f3 f4 f5⟩
 self:=fun _ _ _ _ _ st h=>Qo st h
section
variable {X:Cx}{tg:Expr}
def XM (K:ai)(tl:TE):TI:=fun σ H R=>tl σ H fun x H1=>∃ a,x=.ref a∧(∃ xs,cG K H1 a xs)∧R (Ah K a) H1
def Zm (K:ai)(tl:TE):TI:=fun σ H R=>tl σ H fun x H1=>∃ a,x=.ref a∧(∃ xs,fN K H1 a xs)∧R (Ud K a) H1
theorem d9 {l:Expr}{tl:TE}(hl:PE X l tl):PI X tg l (XM X.K tl):=by
 intro pins s σ H R I h
 refine gI (hl pins s σ H _ I h) fun v s1 ⟨x,H1,I1,r1,q1⟩=>?_
 obtain ⟨a,e,⟨xs,hq⟩,q⟩:=q1
 subst e
 cases r1
 obtain ⟨its,rv,p,hz⟩:=I1.list hq
 refine ig p.isList ?_
 refine ⟨s1.heap.objs.size,[s1.heap.objs.size],_,_,H1,rfl,I1.kept (t':=s1.toks) fun b o e=>ay _ e,Kj a _,⟨_,aH _ rfl,rfl,rfl⟩,fun b hb=>?_,q⟩
 have e:b=s1.heap.objs.size:=by simpa using hb
 subst e
 exact I1.C8 (aL _) (I1.fj.fresh (aL _))
theorem NB {l:Expr}{tl:TE}(hl:PE X l tl):PI X tg l (Zm X.K tl):=by
 intro pins s σ H R I h
 refine gI (hl pins s σ H _ I h) fun v s1 ⟨x,H1,I1,r1,q1⟩=>?_
 obtain ⟨a,e,⟨xs,hq⟩,q⟩:=q1
 subst e
 cases r1
 obtain ⟨its,rv,p,hz⟩:=I1.tuple hq
 refine zO (show s1.heap.IsTuple a its.toArray from p) ?_
 refine ⟨s1.heap.objs.size,[s1.heap.objs.size],_,_,H1,rfl,I1.kept (t':=s1.toks) fun b o e=>ay _ e,GR a _,⟨_,aH _ rfl,rfl,rfl⟩,fun b hb=>?_,q⟩
 have e:b=s1.heap.objs.size:=by simpa using hb
 subst e
 exact I1.C8 (aL _) (I1.fj.fresh (aL _))
theorem DS {pins:List (aj×fA)}{σ:St}{H:Hp}{s:au}{R:It→Hp→Prop}{E:ag→au→Prop}{lo hi:Int}{t u v:Tok}{tk:Nat}(I:Inv X pins σ H s)(h1:-(2 ^ 62)≤lo)(h2:lo<2 ^ 62)(h3:-(2 ^ 62)≤hi)(h4:hi<2 ^ 62)
  (q:R (J2 lo (hi - lo).toNat) H):wpAny (model X.prog X.w) X.A (pyIter (.ref s.heap.objs.size)) (WR X pins σ tg R) E {s with heap:=s.heap.push {cls:=.type "range",data:=.fields #[.int lo t,.int hi u,.int 1 v]},toks:=tk}:=by
 refine wpAny_pyIter_range (ED ..) (small_one h1 h2 h3 h4) ?_
 have I1:Inv X pins σ H {s with heap:=s.heap.push {cls:=.type "range",data:=.fields #[.int lo t,.int hi u,.int 1 v]},toks:=tk}:=I.kept fun b o e=>ay _ e
 refine ⟨(s.heap.push {cls:=.type "range",data:=.fields #[.int lo t,.int hi u,.int 1 v]}).objs.size,[(s.heap.push {cls:=.type "range",data:=.fields #[.int lo t,.int hi u,.int 1 v]}).objs.size],_,_,H,rfl,
  I1.kept (t':=tk) fun b o e=>ay _ e,GS _ lo (hi - lo).toNat,?_,fun b hb=>?_,q⟩
 ·have e1:lo+((0:Nat):Int)*1=lo:=by simp
  have e2:(((hi - lo).toNat:Nat):Int) - ((0:Nat):Int)=gZ lo hi 1:=by rw[rangeSize_one];split<;>omega
  show CT _ _ (lo+((0:Nat):Int)*1) ((((hi - lo).toNat:Nat):Int) - ((0:Nat):Int)) 1
  rw[e1,e2]
  exact aH _ rfl
 ·have e:b=(s.heap.push {cls:=.type "range",data:=.fields #[.int lo t,.int hi u,.int 1 v]}).objs.size:=by simpa using hb
  subst e
  exact I1.C8 (aL _) (I1.fj.fresh (aL _))
def XJ (ta:TA):TI:=fun σ H R=>ta σ H fun vs H1=>∃ j:Int,vs=[.int j]∧-(2 ^ 62)≤j∧j<2 ^ 62∧R (J2 0 j.toNat) H1
def XI (ta:TA):TI:=fun σ H R=>ta σ H fun vs H1=>∃ i j:Int,vs=[.int i,.int j]∧(-(2 ^ 62)≤i∧i<2 ^ 62∧-(2 ^ 62)≤j∧j<2 ^ 62)∧R (J2 i (j - i).toNat) H1
theorem oO {a:Expr}{ta:TA}{p pos:jK}(hg:Gl X "range")(hm:X.mg "range"=none)(ha:PA X [a] ta)(hs:bQ [a] X.env=[(false,eval a X.env)]:=by rfl):PI X tg (.Call (.Name "range" p) [a] [] pos) (XJ ta):=by
 intro pins s σ H R I h
 refine Call_ (jl I hg hm GK (cK (gI (ha pos pins s σ H _ I h) fun us s1 ⟨vs,H1,I1,r1,q1⟩=>?_) hs rfl))
 obtain ⟨j,e,q1,q2,q⟩:=q1
 subst e
 cases r1 with
 | cons r rr =>
  cases rr
  obtain ⟨t,rfl⟩:=r
  exact call_range_1 (DS I1 (by omega) (by omega) q1 q2 (by simpa using q))
theorem AR {a b:Expr}{ta:TA}{p pos:jK}(hg:Gl X "range")(hm:X.mg "range"=none)(ha:PA X [a,b] ta)(hs:bQ [a,b] X.env=[(false,eval a X.env),(false,eval b X.env)]:=by rfl)(hs2:bQ [b] X.env=[(false,eval b X.env)]:=by rfl) :
  PI X tg (.Call (.Name "range" p) [a,b] [] pos) (XI ta):=by
 intro pins s σ H R I h
 refine Call_ (jl I hg hm GK (cK (gI (ha pos pins s σ H _ I h) fun us s1 ⟨vs,H1,I1,r1,q1⟩=>?_) (by rw[hs,hs2]) (by rw[hs2];rfl)))
 obtain ⟨i,j,e,⟨q1,q2,q3,q4⟩,q⟩:=q1
 subst e
 cases r1 with
 | cons r rr =>
  cases rr with
  | cons r' rr =>
   cases rr
   obtain ⟨t,rfl⟩:=r
   obtain ⟨t',rfl⟩:=r'
   exact call_range_2 (DS I1 q1 q2 q3 q4 q)
def Y6 (wi:TI)(g:TG)(tb:TS):TS:=fun D σ H=>wi σ H fun J H1=>∃ W:Nat→Nat→St→Hp→Prop,(∃ m,W 0 m σ H1)∧∀ i m σ H,W i m σ H →
 (J.stop i H∧D.nx σ H)∨(J.go i H∧∃ N:St→Hp→Prop,(∀ σ' H',N σ' H'→∃ m',m'<m∧W (i+1) m' σ' H')∧∀ x H',J.zS i H x H'→g x σ H' fun σ2 H2=>tb {D with nx:=N,ct:=N,bk:=D.nx} σ2 H2)
def yy (fp:List aj)(h:bU):List (aj×fA):=fp.filterMap fun b=>(h.get? b).map fun o=>(b,o)
theorem ua {fp:List aj}{h:bU}{b:aj}{o:fA}(hb:b∈fp)(e:h.get? b=some o):(b,o)∈yy fp h:=vq.mpr ⟨b,hb,by rw[e];rfl⟩
theorem KW {fp:List aj}{h:bU}{p:aj×fA}(hp:p∈yy fp h):p.1∈fp∧h.get? p.1=some p.2:=by
 obtain ⟨b,hb,e⟩:=vq.mp hp
 cases q:h.get? b with
 | none=>rw[q] at e;cases e
 | some o =>
  rw[q] at e
  have e':(b,o)=p:=aJ e
  subst e'
  exact ⟨hb,q⟩
theorem Inv.pinned {pins:List (aj×fA)}{σ:St}{H:Hp}{s:au}{fp:List aj}(I:Inv X pins σ H s)(hf:∀ b∈fp,xA X pins H b)(ho:∀ b∈fp,∃ o,s.heap.get? b=some o∧∀ v,o.data≠.cell v):Inv X (pins++yy fp s.heap) σ H s :=
 I.IV fun p hp=>(bq.mp hp).elim (fun z=>I.pin p (eR _ z)) fun z=>by
  obtain ⟨hb,e⟩:=KW z
  obtain ⟨f0,f1,f2,_⟩:=hf p.1 hb
  obtain ⟨o,e',d⟩:=ho p.1 hb
  rw[e] at e';cases e'
  exact ⟨e,f0,f1,f2,d⟩
theorem Inv.uR {pins pl:List (aj×fA)}{σ:St}{H:Hp}{s:au}(I:Inv X (pins++pl) σ H s):Inv X pins σ H s:=I.IV fun p hp=>I.pin p (eR _ (JW _ hp))
theorem gp {iter:Expr}{body:List d5}{wi:TI}{g:TG}{tb:TS}{pos:jK}(hp:PassesOwn (model X.prog X.w) X.A X.env X.xe)(hc:X.calm=true)(hi:PI X tg iter wi)(hg:PG X tg g)(hb:J0 X body tb)
  (hs:∀ x,foldedSetIterable iter X.env x=pure x:=by intro _;rfl):PS X (.For tg iter body [] pos) (Y6 wi g tb):=by
 intro pins s σ H D I h
 refine wpAny_For (gI (hi pins s σ H _ I h) fun v s1 h1=>gI h1 fun itv s2 h2=>?_) hs
 obtain ⟨it,fp,tn,J,H2,e,I2,T,st2,f2,W,⟨m0,w0⟩,turn⟩:=h2
 subst e
 have stat:∀ {H':Hp},(∀ b∈fp,H' b=none)→∀ b∈fp,xA X pins H' b:=fun hn b hb=>⟨hn b hb,(f2 b hb).2⟩
 refine codeAny_forLoop_any (fun n s'=>∃ i σ' H',Inv X pins σ' H' s'∧tn i s'.heap∧(∀ b∈fp,H' b=none)∧W i n σ' H') ?_ m0 ⟨0,σ,H2,I2,st2,fun b hb=>(f2 b hb).1,w0⟩
 rintro n s3 ⟨i,σ3,H3,I3,st3,fr3,w3⟩
 rcases turn i n σ3 H3 w3 with ⟨stop,qn⟩ | ⟨go,N,hN,step⟩
 ·refine iW hp (gI (T.done X rfl rfl rfl hc i pins s3 σ3 H3 X.xe I3 (stat fr3) st3 stop) fun r s4 ⟨hr,I4⟩=>?_)
  subst hr
  exact ux ⟨σ3,H3,I4,qn⟩
 ·refine iW hp (gI (T.item X rfl rfl rfl hc i pins s3 σ3 H3 X.xe I3 (stat fr3) st3 go) fun r s4 ⟨u,hr,h4⟩=>?_)
  subst hr
  refine iW hp (gI h4 fun _ s5 ⟨x,H5,I5,r5,y5,st5,fr5⟩=>?_)
  have I5':=I5.pinned (stat fr5) (T.obj _ _ st5)
  refine iW hp (gI (hg _ s5 σ3 H5 x u _ I5' r5 (step x H5 y5)) fun _ s6 ⟨σ6,H6,I6,q6⟩=>?_)
  refine iW hp (gI (hb _ s6 σ6 H6 _ I6 q6) fun f s7 q7=>?_)
  have again:∀ {σ7:St} {H7:Hp},Inv X (pins++yy fp s5.heap) σ7 H7 s7→N σ7 H7→∃ m,m<n∧∃ i σ' H',Inv X pins σ' H' s7∧tn i s7.heap∧(∀ b∈fp,H' b=none)∧W i m σ' H':=fun {σ7 H7} I7 n7=>by
   obtain ⟨m',hm,w7⟩:=hN σ7 H7 n7
   refine ⟨m',hm,i+1,σ7,H7,I7.uR,T.keep _ _ _ st5 fun b hb o e=>(I7.pin (b,o) (eR _ (eR _ (ua hb e)))).1,fun b hb=>?_,w7⟩
   obtain ⟨o,e,d⟩:=T.obj _ _ st5 b hb
   exact (I7.pin (b,o) (eR _ (eR _ (ua hb e)))).2.1
  cases f with
  | next=>obtain ⟨σ7,H7,I7,n7⟩:=q7;exact again I7 n7
  | cont=>obtain ⟨σ7,H7,I7,n7⟩:=q7;exact again I7 n7
  | brk=>obtain ⟨σ7,H7,I7,q7⟩:=q7;exact ⟨σ7,H7,I7.uR,q7⟩
  | ret v=>obtain ⟨x7,σ7,H7,I7,r7,q7⟩:=q7;exact ⟨x7,σ7,H7,I7.uR,r7,q7⟩
end
theorem iC {K:ai}{a:aj}{xs:List V}{g:TG}{tb:TS}{D:Ends}{σ:St}{H:Hp}(Pv:Nat→St→Hp→Prop)(h0:Pv 0 σ H)(hl:∀ i σ H,i≤xs.length→Pv i σ H→cG K H a xs)
  (hs:∀ i x σ H,xs[i]?=some x→Pv i σ H→g x σ H fun σ2 H2=>tb {D with nx:=Pv (i+1),ct:=Pv (i+1),bk:=D.nx} σ2 H2)(hd:∀ σ H,Pv xs.length σ H→D.nx σ H) :
  ∃ W:Nat→Nat→St→Hp→Prop,(∃ m,W 0 m σ H)∧∀ i m σ H,W i m σ H →
   ((Ah K a).stop i H∧D.nx σ H)∨((Ah K a).go i H∧∃ N:St→Hp→Prop,(∀ σ' H',N σ' H'→∃ m',m'<m∧W (i+1) m' σ' H')∧∀ x H',(Ah K a).zS i H x H'→g x σ H' fun σ2 H2=>tb {D with nx:=N,ct:=N,bk:=D.nx} σ2 H2):=by
 refine ⟨fun i m σ H=>m=xs.length - i∧i≤xs.length∧Pv i σ H,⟨xs.length,by simp,aR _,h0⟩,?_⟩
 rintro i m σ H ⟨rfl,hi,p⟩
 have q:=hl i σ H hi p
 by_cases jV:i<xs.length
 ·refine .inr ⟨⟨xs,xs[i],q,by simp[jV]⟩,Pv (i+1),fun σ' H' p'=>⟨xs.length - (i+1),by omega,rfl,jV,p'⟩,fun x H' y=>?_⟩
  obtain ⟨e,y⟩:=y
  subst e
  exact hs i x σ _ (y xs q) p
 ·have e:i=xs.length:=by omega
  subst e
  exact .inl ⟨⟨xs,q,aL _⟩,hd σ H p⟩
theorem oP {lo:Int}{n:Nat}{g:TG}{tb:TS}{D:Ends}{σ:St}{H:Hp}(Pv:Nat→St→Hp→Prop)(h0:Pv 0 σ H)
  (hs:∀ i σ H,i<n→Pv i σ H→g (.int (lo+i)) σ H fun σ2 H2=>tb {D with nx:=Pv (i+1),ct:=Pv (i+1),bk:=D.nx} σ2 H2)(hd:∀ σ H,Pv n σ H→D.nx σ H) :
  ∃ W:Nat→Nat→St→Hp→Prop,(∃ m,W 0 m σ H)∧∀ i m σ H,W i m σ H →
   ((J2 lo n).stop i H∧D.nx σ H)∨((J2 lo n).go i H∧∃ N:St→Hp→Prop,(∀ σ' H',N σ' H'→∃ m',m'<m∧W (i+1) m' σ' H')∧∀ x H',(J2 lo n).zS i H x H'→g x σ H' fun σ2 H2=>tb {D with nx:=N,ct:=N,bk:=D.nx} σ2 H2):=by
 refine ⟨fun i m σ H=>m=n - i∧i≤n∧Pv i σ H,⟨n,by simp,aR _,h0⟩,?_⟩
 rintro i m σ H ⟨rfl,hi,p⟩
 by_cases jV:i<n
 ·refine .inr ⟨jV,Pv (i+1),fun σ' H' p'=>⟨n - (i+1),by omega,rfl,jV,p'⟩,fun x H' y=>?_⟩
  obtain ⟨e,y⟩:=y
  subst e y
  exact hs i σ _ jV p
 ·have e:i=n:=by omega
  subst e
  exact .inl ⟨aL _,hd σ H p⟩
abbrev R2:=V→V→Hp→VK→Prop
def xP (X:Cx)(f:ag→ag→o8 ag)(r:R2):Prop :=
 ∀ (pins:List (aj×fA)) (s:au) (σ:St) (H:Hp) (x y:V) (v u:ag) (Q:VK),Inv X pins σ H s→RelV x v→RelV y u→r x y H Q →
  wpAny (model X.prog X.w) X.A (f v u) (EP X pins σ Q) X.xe s
def YX (X:Cx)(f:ag→o8 ag)(r:V→Hp→VK→Prop):Prop :=
 ∀ (pins:List (aj×fA)) (s:au) (σ:St) (H:Hp) (x:V) (v:ag) (Q:VK),Inv X pins σ H s→RelV x v→r x H Q →
  wpAny (model X.prog X.w) X.A (f v) (EP X pins σ Q) X.xe s
def lC (X:Cx)(f:ag)(r:List V→Hp→VK→Prop):Prop :=
 ∀ (pins:List (aj×fA)) (s:au) (σ:St) (H:Hp) (xs:List V) (us:List ag) (Q:VK),Inv X pins σ H s→df xs us→r xs H Q →
  wpAny (model X.prog X.w) X.A (call f us) (EP X pins σ Q) X.xe s
def Yi (r:R2)(ta tb:TE):TE:=fun σ H Q=>ta σ H fun x H1=>tb σ H1 fun y H2=>r x y H2 Q
def Z3 (r:V→Hp→VK→Prop)(ta:TE):TE:=fun σ H Q=>ta σ H fun x H1=>r x H1 Q
def rI (C:Int→Int→Prop)(g:Int→Int→V):R2:=fun x y H Q=>∃ i j,x=.int i∧y=.int j∧C i j∧Q (g i j) H
def QA (g:Int→Int→V):R2:=fun x y H Q=>∃ i j,x=.int i∧y=.int j∧Q (g i j) H
def rU (g:Int→V):V→Hp→VK→Prop:=fun x H Q=>∃ i,x=.int i∧Q (g i) H
section
variable {X:Cx}{a b c:Expr}{ta tb tc:TE}{pos:jK}
theorem U3 (ha:PE X a ta)(hb:PE X b tb){pins:List (aj×fA)}{s:au}{σ:St}{H:Hp}{R:V→V→Hp→Prop}(I:Inv X pins σ H s)
  (h:ta σ H fun x H1=>tb σ H1 fun y H2=>R x y H2){Q:ag→au→Prop}{f:ag→ag→o8 ag}
  (hf:∀ v u s2 x y H2,Inv X pins σ H2 s2→RelV x v→RelV y u→R x y H2→wpAny (model X.prog X.w) X.A (f v u) Q X.xe s2) :
  wpAny (model X.prog X.w) X.A (eval a X.env) (fun v s₁=>wpAny (model X.prog X.w) X.A (eval b X.env) (fun u s₂=>wpAny (model X.prog X.w) X.A (f v u) Q X.xe s₂) X.xe s₁) X.xe s:=by
 refine gI (ha pins s σ H _ I h) fun v s1 ⟨x,H1,I1,r1,q1⟩=>?_
 refine gI (hb pins s1 σ H1 _ I1 q1) fun u s2 ⟨y,H2,I2,r2,q2⟩=>?_
 exact hf v u s2 x y H2 I2 r1 r2 q2
theorem dX {op:Operator}{r:R2}(ho:xP X (binaryOp op) r)(ha:PE X a ta)(hb:PE X b tb):PE X (.BinOp a op b pos) (Yi r ta tb):=by
 intro pins s σ H Q I h
 exact wpAny_BinOp (U3 ha hb I h fun v u s2 x y H2 I2 rx ry q=>ho pins s2 σ H2 x y v u Q I2 rx ry q)
theorem qG {op:UnaryOp}{r:V→Hp→VK→Prop}(ho:YX X (unaryOp op) r)(ha:PE X a ta):PE X (.UnaryOp op a pos) (Z3 r ta):=by
 intro pins s σ H Q I h
 exact UnaryOp_ (gI (ha pins s σ H _ I h) fun v s1 ⟨x,H1,I1,r1,q1⟩=>ho pins s1 σ H1 x v Q I1 r1 q1)
theorem opI {f:ag→ag→o8 ag}{C:Int→Int→Prop}{g:Int→Int→Int}
  (rule:∀ (i j:Int) (t u:Tok) (s:au) (Q:ag→au→Prop) (E:ag→au→Prop),C i j→Q (.int (g i j) s.toks) {s with toks:=s.toks+1}→wpAny (model X.prog X.w) X.A (f (.int i t) (.int j u)) Q E s) :
  xP X f (rI C fun i j=>.int (g i j)):=by
 intro pins s σ H x y v u Q I rx ry h
 obtain ⟨i,j,rfl,rfl,hc,q⟩:=h
 obtain ⟨t,rfl⟩:=rx
 obtain ⟨t',rfl⟩:=ry
 exact rule i j t t' s _ _ hc ⟨.int (g i j),H,I.tok _,⟨_,rfl⟩,q⟩
theorem W5 {f:ag→ag→o8 ag}{g:Int→Int→Int}
  (rule:∀ (i j:Int) (t u:Tok) (s:au) (Q:ag→au→Prop) (E:ag→au→Prop),Q (.int (g i j) s.toks) {s with toks:=s.toks+1}→wpAny (model X.prog X.w) X.A (f (.int i t) (.int j u)) Q E s) :
  xP X f (QA fun i j=>.int (g i j)):=by
 intro pins s σ H x y v u Q I rx ry h
 obtain ⟨i,j,rfl,rfl,q⟩:=h
 obtain ⟨t,rfl⟩:=rx
 obtain ⟨t',rfl⟩:=ry
 exact rule i j t t' s _ _ ⟨.int (g i j),H,I.tok _,⟨_,rfl⟩,q⟩
theorem Q2 {f:ag→ag→o8 ag}{g:Int→Int→Bool}
  (rule:∀ (i j:Int) (t u:Tok) (s:au) (Q:ag→au→Prop) (E:ag→au→Prop),Q (.bool (g i j)) s→wpAny (model X.prog X.w) X.A (f (.int i t) (.int j u)) Q E s) :
  xP X f (QA fun i j=>.bl (g i j)):=by
 intro pins s σ H x y v u Q I rx ry h
 obtain ⟨i,j,rfl,rfl,q⟩:=h
 obtain ⟨t,rfl⟩:=rx
 obtain ⟨t',rfl⟩:=ry
 exact rule i j t t' s _ _ ⟨.bl (g i j),H,I,rfl,q⟩
def Xh (i j:Int):Prop:=0<j∧j<1073741824
theorem eL:xP X (binaryOp .Add) (QA fun i j=>.int (i+j)):=W5 fun _ _ _ _ _ _ _ q=>add_int q
theorem ND:xP X (binaryOp .Sub) (QA fun i j=>.int (i - j)):=W5 fun _ _ _ _ _ _ _ q=>sub_int q
theorem Rz:xP X (binaryOp .FloorDiv) (rI Xh fun i j=>.int (i / j)):=opI fun i j _ _ _ _ _ hc q=>by
 have h1:(0:Int)<j:=hc.1
 have h2:j<1073741824:=hc.2
 exact floordiv_int (by omega) (by rw[Int.fdiv_eq_ediv_of_nonneg i (by omega)];exact q) (.inl (CM (by omega)))
theorem Z2 {f:ag→o8 ag}{g:Int→Int}
  (rule:∀ (i:Int) (t:Tok) (s:au) (Q:ag→au→Prop) (E:ag→au→Prop),Q (.int (g i) s.toks) {s with toks:=s.toks+1}→wpAny (model X.prog X.w) X.A (f (.int i t)) Q E s) :
  YX X f (rU fun i=>.int (g i)):=by
 intro pins s σ H x v Q I rx h
 obtain ⟨i,rfl,q⟩:=h
 obtain ⟨t,rfl⟩:=rx
 exact rule i t s _ _ ⟨.int (g i),H,I.tok _,⟨_,rfl⟩,q⟩
theorem lW:YX X (unaryOp .USub) (rU fun i=>.int (-i)):=Z2 fun _ _ _ _ _ q=>neg_int q
end
def W1:V→V→Bool
 | .hC,.hC=>true | .hC,.int _=>true | .int _,.hC=>true | .hC,.bl _=>true | .bl _,.hC=>true | .hC,.str _=>true | .str _,.hC=>true
 | .int _,.int _=>true | .bl _,.bl _=>true | .str _,.str _=>true | .Fk _,.Fk _=>true
 | .int _,.str _=>true | .str _,.int _=>true | .bl _,.str _=>true | .str _,.bl _=>true
 | _,_=>false
def Z9:R2:=fun x y H Q=>W1 x y=true∧Q (.bl (decide (x=y))) H
def Z8:R2:=fun x y H Q=>W1 x y=true∧Q (.bl (!decide (x=y))) H
theorem Jx {i j:Int}:decide (V.int i=V.int j)=(i==j):=by
 rw[eJ]
 simp
theorem NY {i j:Bool}:decide (V.bl i=V.bl j)=(i==j):=by
 rw[eJ]
 simp
theorem Jw {i j:cp}:decide (V.str i=V.str j)=(i==j):=by
 rw[eJ]
 simp
theorem Jy {i j:Array UInt8}:decide (V.Fk i=V.Fk j)=(i.toList==j.toList):=by
 rw[eJ]
 cases i
 cases j
 simp
section
variable {X:Cx}{a b c:Expr}{ta tb tc:TE}{pos:jK}
theorem eO {pins:List (aj×fA)}{σ:St}{H:Hp}{s:au}{Q:VK}{k k':Bool}(I:Inv X pins σ H s)(q:Q (.bl k) H)(e:k=k'):EP X pins σ Q (.bool k') s:=by
 subst e
 exact ⟨.bl k,H,I,rfl,q⟩
theorem gw:xP X (compareOp .Eq) Z9:=by
 intro pins s σ H x y v u Q I rx ry h
 obtain ⟨hs,q⟩:=h
 cases x with
 | hC =>
  cases rx
  cases y with
  | hC=>cases ry;exact PySem.EqNone.eq_none_none (eO I q (by simp))
  | bl j=>cases ry;exact PySem.EqNone.eq_none_bool (eO I q (by simp))
  | int j=>obtain ⟨t',rfl⟩:=ry;exact PySem.EqNone.eq_none_int (eO I q (by simp))
  | str j=>obtain ⟨t',rfl⟩:=ry;exact PySem.EqNone.eq_none_str (eO I q (by simp))
  | _=>exact absurd (show false=true from hs) bg
 | bl i =>
  cases rx
  cases y with
  | hC=>cases ry;exact PySem.EqNone.eq_bool_none (eO I q (by simp))
  | bl j=>cases ry;exact eq_bool (eO I q NY)
  | str j=>obtain ⟨t',rfl⟩:=ry;exact PySem.EqMixed.eq_bool_str (eO I q (by simp))
  | _=>exact absurd (show false=true from hs) bg
 | int i =>
  obtain ⟨t,rfl⟩:=rx
  cases y with
  | hC=>cases ry;exact PySem.EqNone.eq_int_none (eO I q (by simp))
  | int j=>obtain ⟨t',rfl⟩:=ry;exact eq_int (eO I q Jx)
  | str j=>obtain ⟨t',rfl⟩:=ry;exact PySem.EqMixed.eq_int_str (eO I q (by simp))
  | _=>exact absurd (show false=true from hs) bg
 | str i =>
  obtain ⟨t,rfl⟩:=rx
  cases y with
  | hC=>cases ry;exact PySem.EqNone.eq_str_none (eO I q (by simp))
  | bl j=>cases ry;exact PySem.EqMixed.eq_str_bool (eO I q (by simp))
  | int j=>obtain ⟨t',rfl⟩:=ry;exact PySem.EqMixed.eq_str_int (eO I q (by simp))
  | str j=>obtain ⟨t',rfl⟩:=ry;exact eq_str (eO I q Jw)
  | _=>exact absurd (show false=true from hs) bg
 | Fk i =>
  obtain ⟨t,rfl⟩:=rx
  cases y with
  | Fk j=>obtain ⟨t',rfl⟩:=ry;exact PySem.W.eq_bytes (eO I q Jy)
  | _=>exact absurd (show false=true from hs) bg
 | _=>cases y<;>exact absurd (show false=true from hs) bg
theorem wN:xP X (compareOp .NotEq) Z8:=by
 intro pins s σ H x y v u Q I rx ry h
 obtain ⟨hs,q⟩:=h
 cases x with
 | hC =>
  cases rx
  cases y with
  | hC=>cases ry;exact PySem.EqNone.ne_none_none (eO I q (by simp))
  | bl j=>cases ry;exact PySem.EqNone.ne_none_bool (eO I q (by simp))
  | int j=>obtain ⟨t',rfl⟩:=ry;exact PySem.EqNone.ne_none_int (eO I q (by simp))
  | str j=>obtain ⟨t',rfl⟩:=ry;exact PySem.EqNone.ne_none_str (eO I q (by simp))
  | _=>exact absurd (show false=true from hs) bg
 | bl i =>
  cases rx
  cases y with
  | hC=>cases ry;exact PySem.EqNone.ne_bool_none (eO I q (by simp))
  | bl j=>cases ry;exact ne_bool (eO I q (congrArg not NY))
  | str j=>obtain ⟨t',rfl⟩:=ry;exact PySem.EqMixed.ne_bool_str (eO I q (by simp))
  | _=>exact absurd (show false=true from hs) bg
 | int i =>
  obtain ⟨t,rfl⟩:=rx
  cases y with
  | hC=>cases ry;exact PySem.EqNone.ne_int_none (eO I q (by simp))
  | int j=>obtain ⟨t',rfl⟩:=ry;exact ne_int (eO I q (congrArg not Jx))
  | str j=>obtain ⟨t',rfl⟩:=ry;exact PySem.EqMixed.ne_int_str (eO I q (by simp))
  | _=>exact absurd (show false=true from hs) bg
 | str i =>
  obtain ⟨t,rfl⟩:=rx
  cases y with
  | hC=>cases ry;exact PySem.EqNone.ne_str_none (eO I q (by simp))
  | bl j=>cases ry;exact PySem.EqMixed.ne_str_bool (eO I q (by simp))
  | int j=>obtain ⟨t',rfl⟩:=ry;exact PySem.EqMixed.ne_str_int (eO I q (by simp))
  | str j=>obtain ⟨t',rfl⟩:=ry;exact ne_str (eO I q (congrArg not Jw))
  | _=>exact absurd (show false=true from hs) bg
 | Fk i =>
  obtain ⟨t,rfl⟩:=rx
  cases y with
  | Fk j=>obtain ⟨t',rfl⟩:=ry;exact PySem.W.ne_bytes (eO I q (congrArg not Jy))
  | _=>exact absurd (show false=true from hs) bg
 | _=>cases y<;>exact absurd (show false=true from hs) bg
theorem wO:xP X (compareOp .Lt) (QA fun i j=>.bl (decide (i<j))):=Q2 fun _ _ _ _ _ _ _ q=>lt_int q
theorem mS:xP X (compareOp .LtE) (QA fun i j=>.bl (decide (i≤j))):=Q2 fun _ _ _ _ _ _ _ q=>le_int q
theorem Dg:xP X (compareOp .Gt) (QA fun i j=>.bl (decide (j<i))):=Q2 fun _ _ _ _ _ _ _ q=>gt_int q
theorem Dh:xP X (compareOp .GtE) (QA fun i j=>.bl (decide (j≤i))):=Q2 fun _ _ _ _ _ _ _ q=>ge_int q
theorem Gj:xP X (compareOp .Is) (fun x y H Q=>y=.hC∧Q (.bl (decide (x=.hC))) H):=by
 intro pins s σ H x y v u Q I rx ry h
 obtain ⟨rfl,q⟩:=h
 cases ry
 refine is_none_gen (eO I q ?_)
 cases x<;>first
  | (cases rx;rfl)
  | (obtain ⟨t,rfl⟩:=rx;rfl)
theorem x4:xP X (compareOp .IsNot) (fun x y H Q=>y=.hC∧Q (.bl (!decide (x=.hC))) H):=by
 intro pins s σ H x y v u Q I rx ry h
 obtain ⟨rfl,q⟩:=h
 cases ry
 refine isnot_none_gen (eO I q ?_)
 cases x<;>first
  | (cases rx;rfl)
  | (obtain ⟨t,rfl⟩:=rx;rfl)
theorem cj (b:Expr){op:CmpOp}(h:op≠.In:=by decide)(h2:op≠.NotIn:=by decide):behindInMarks op b=false:=by
 have e1:(op==CmpOp.In)=false:=by cases op<;>first | rfl | exact absurd rfl h
 have e2:(op==CmpOp.NotIn)=false:=by cases op<;>first | rfl | exact absurd rfl h2
 cases b<;>simp[behindInMarks,e1,e2]
theorem pE {op:CmpOp}{r:R2}(ho:xP X (compareOp op) r)(ha:PE X a ta)(hb:PE X b tb)(hm:behindInMarks op b=false):PE X (.Compare a [op] [b] pos) (Yi r ta tb):=by
 intro pins s σ H Q I h
 exact wpAny_Compare1 (U3 ha hb I h fun v u s2 x y H2 I2 rx ry q=>ho pins s2 σ H2 x y v u Q I2 rx ry q) hm
def MB (t:TE):TT:=fun σ H Q=>t σ H fun x H'=>∃ k,x=.bl k∧Q k H'
theorem bS {op:CmpOp}{r:R2}(ho:xP X (compareOp op) r)(ha:PE X a ta)(hb:PE X b tb)(hm:behindInMarks op b=false):PT X (.Compare a [op] [b] pos) (MB (Yi r ta tb)):=by
 intro pins s σ H Q I h
 refine wpAny_isTrue_Compare1 (gI (ha pins s σ H _ I h) fun v s1 ⟨x,H1,I1,r1,q1⟩=>gI (hb pins s1 σ H1 _ I1 q1) fun u s2 ⟨y,H2,I2,r2,q2⟩ =>
  gI (ho pins s2 σ H2 x y v u _ I2 r1 r2 q2) fun c s3 ⟨z,H3,I3,r3,k,e,q3⟩=>?_) hm
 subst e
 cases r3
 exact eY ⟨H3,I3,q3⟩
def FH (r r':R2)(ta tb tc:TE):TE:=fun σ H Q=>ta σ H fun x H1=>tb σ H1 fun y H2=>r x y H2 fun z H3=>∃ k,z=.bl k ∧
 (if k=true then tc σ H3 fun w' H4=>r' y w' H4 Q else Q (.bl false) H3)
theorem ON {op op':CmpOp}{r r':R2}(ho:xP X (compareOp op) r)(ho':xP X (compareOp op') r')(ha:PE X a ta)(hb:PE X b tb)(hc:PE X c tc)
  (hm:lastMarks [op,op'] [b,c]=false:=by with_unfolding_all rfl):PE X (.Compare a [op,op'] [b,c] pos) (FH r r' ta tb tc):=by
 intro pins s σ H Q I h
 refine Compare_chain (gI (ha pins s σ H _ I h) fun v s1 ⟨x,H1,I1,r1,q1⟩=>chain_link (gI (hb pins s1 σ H1 _ I1 q1) fun u s2 ⟨y,H2,I2,r2,q2⟩ =>
  gI (ho pins s2 σ H2 x y v u _ I2 r1 r2 q2) fun d s3 ⟨z,H3,I3,r3,k,e,q3⟩=>?_)) hm
 subst e
 cases r3
 refine eY ?_
 cases k with
 | false=>exact ite_ff ⟨.bl false,H3,I3,rfl,q3⟩
 | true=>exact ite_tt (chain_last (gI (hc pins s3 σ H3 _ I3 q3) fun w' s4 ⟨z',H4,I4,r4,q4⟩=>ho' pins s4 σ H4 y z' u w' Q I4 r2 r4 q4))
theorem uU {op op':CmpOp}{r r':R2}(ho:xP X (compareOp op) r)(ho':xP X (compareOp op') r')(ha:PE X a ta)(hb:PE X b tb)(hc:PE X c tc)
  (hm:lastMarks [op,op'] [b,c]=false:=by with_unfolding_all rfl):PT X (.Compare a [op,op'] [b,c] pos) (MB (FH r r' ta tb tc)):=by
 intro pins s σ H Q I h
 refine isTrue_chain (gI (ha pins s σ H _ I h) fun v s1 ⟨x,H1,I1,r1,q1⟩=>test_link (gI (hb pins s1 σ H1 _ I1 q1) fun u s2 ⟨y,H2,I2,r2,q2⟩ =>
  gI (ho pins s2 σ H2 x y v u _ I2 r1 r2 q2) fun d s3 ⟨z,H3,I3,r3,k,e,q3⟩=>?_)) hm
 subst e
 cases r3
 refine eY ?_
 cases k with
 | false =>
  obtain ⟨k',e',q'⟩:=q3
  cases e'
  exact ite_ff ⟨H3,I3,q'⟩
 | true =>
  refine ite_tt (test_last (gI (hc pins s3 σ H3 _ I3 q3) fun w' s4 ⟨z',H4,I4,r4,q4⟩=>gI (ho' pins s4 σ H4 y z' u w' _ I4 r2 r4 q4) fun d' s5 ⟨z2,H5,I5,r5,k2,e2,q5⟩=>?_))
  subst e2
  cases r5
  exact eY ⟨H5,I5,q5⟩
theorem BH:(aA:Nat)<2 ^ 63:=by rw[kK];decide
theorem vals1 {x:V}{us:List ag}(r:df [x] us):∃ u,us=[u]∧RelV x u:=by
 cases r with
 | cons r1 r2=>cases r2;exact ⟨_,rfl,r1⟩
theorem vals2 {x y:V}{us:List ag}(r:df [x,y] us):∃ u w',us=[u,w']∧RelV x u∧RelV y w':=by
 cases r with
 | cons r1 r2 =>
  cases r2 with
  | cons r3 r4=>cases r4;exact ⟨_,_,rfl,r1,r3⟩
theorem LH (hc:X.calm=true):lC X (.builtin "min") (fun xs H Q=>∃ i j,xs=[.int i,.int j]∧Q (.int (if j<i then j else i)) H):=by
 intro pins s σ H xs us Q I r h
 obtain ⟨i,j,rfl,q⟩:=h
 obtain ⟨u,w',rfl,⟨t,rfl⟩,⟨t',rfl⟩⟩:=vals2 r
 refine min_two_ints (I.ok.hd hc) fun h' tk k=>⟨_,H,I.kept k,?_,q⟩
 by_cases hj:j<i
 ·rw[if_pos hj,if_pos hj];exact ⟨_,rfl⟩
 ·rw[if_neg hj,if_neg hj];exact ⟨_,rfl⟩
end
structure Fz (h:bU)(x dx C:aj)(mA:cp→Option ag):Prop where
 obj:h.get? x=some (gR C dx)
 ns:h.Ns1 dx mA
 ne:dx≠x
theorem K7 {h:bU}{dx:aj}{mA:cp→Option ag}(n:h.Ns1 dx mA):∃ od,h.get? dx=some od∧∀ name,rK name od=some (mA name):=by
 obtain ⟨o,es,ep,ho,hd,hk,_,hm⟩:=n
 refine ⟨o,ho,fun name=>?_⟩
 have e:=hm name
 unfold nsFind findBy at e
 rw[← Array.find?_toList] at e
 unfold rK
 rw[hd]
 dsimp only
 split
 ·rename_i y q
  rw[q] at e
  exact congrArg some e
 ·rename_i q
  rw[q] at e
  have a:es.toList.any (·.refKey)=false:=by
   rw[List.any_eq_false]
   intro y hy
   obtain ⟨z,t,hkey⟩:=hk y (Array.mem_toList_iff.mp hy)
   simp[fq.refKey,hkey]
  have a':¬ es.toList.any (·.refKey)=true:=by rw[a];exact bg
  rw[if_neg a']
  exact congrArg some e
theorem Fz.look {h:bU}{x dx C:aj}{mA:cp→Option ag}(I:Fz h x dx C mA):∃ od,PySem.W.InstAt h x (gR C dx) C (some od)∧∀ name,rK name od=some (mA name) :=
 let ⟨od,ho,hl⟩:=K7 I.ns
 ⟨od,⟨I.obj,rfl,rfl,ho⟩,hl⟩
section
variable {prog:aY}{w:bO}{A:cA}{E:ag→au→Prop}{s:au}{K:ai}{x dx C f:aj}{mA:cp→Option ag}{name:cp}{v:ag}
theorem get_map {expr:Bool}{Q:ag→au→Prop}(X:K.In s.heap)(I:Fz s.heap x dx C mA)(hg:kG K C name=true)(hh:nB K C=true)
  (ha:du K (.ref C) name=some none)(hv:mA name=some v)(hv':L4 v=true)(h:Q v {s with toks:=s.toks+1}) :
  wpAny (model prog w) A (getAttr (.ref x) name expr) Q E s:=by
 obtain ⟨od,J,hl⟩:=I.look
 exact PySem.W.get_value X J (sW hg).1 (PySem.W.findObj_own hh ha rfl (by rw[hl,hv])) hv' h
theorem Py {pl:o8 Bool}{Q:ag×List ag→au→Prop}(X:K.In s.heap)(I:Fz s.heap x dx C mA)(hg:kG K C name=true)
  (hf:du K (.ref C) name=some (some (.ref f)))(ht:vc K (.ref f)=true)(hv:mA name=none)(h:Q (.ref f,[.ref x]) s) :
  wpAny (model prog w) A (getMethod (.ref x) name pl) Q E s:=by
 obtain ⟨od,J,hl⟩:=I.look
 exact PySem.W.method_fn X J (sW hg).1 (sW hg).2 hf (beq_iff_eq.mp ht) (by show (rK name od).map (·.isSome)=some false;rw[hl,hv];rfl) h
theorem Rn {ns:List cp}{Q:Unit→au→Prop}(X:K.In s.heap)(I:Fz s.heap x dx C mA)
  (hs:du K (.ref C) "__setattr__"=some (some (.builtin "object.__setattr__")))(hp:vi K C=true)(ht:xG K C name=some none)(hh:nB K C=true)
  (hw:EC mA ns)(hsz:ns.length≤aA)
  (h:∀ h',Fz h' x dx C (fun y=>if y=name then some v else mA y)→eC dx s.heap h'→Q () {s with heap:=h',toks:=s.toks+2}) :
  wpAny (model prog w) A (setAttr (.ref x) name v) Q E s:=by
 obtain ⟨od,J,hl⟩:=I.look
 refine PySem.W.set_plain X J hs (PySem.W.osa_open (s:={s with toks:=s.toks+1}) (r:=none) X J hp ht fun b=>?_)
 obtain ⟨cd,hc,hd'⟩:=PySem.W.any_some hh
 have hx:s.heap.get? x=some ⟨.ref C,some dx,.plain,#[]⟩:=I.obj
 refine aa (ak (aa (aa (wpAny_loadPart hx (aa (PySem.W.Looks.here (s:={s with toks:=s.toks+1}) (PySem.W.looks_clsIn X hc) ?_))))))
 rw[hd']
 refine ak (a:=some dx) (aa (ak (aa ?_)))
 refine wpAny_nsSet1 (s:={s with toks:=s.toks+1}) I.ns fun h' hn2 hs2=>?_
 obtain ⟨oD,esD,epD,hoD,hdD,hcD⟩:=hn2.count (EC.cons name v hw)
 refine aa (wpAny_lookBehind hoD (by rw[hdD];exact pastItsLine_dict (aD hcD (by rw[aS];omega))) ?_)
 exact ak (h _ ⟨(hs2.2 _ (gU I.ne)).trans I.obj,hn2,I.ne⟩ hs2)
theorem O9 {R:qM→au→Prop}{vs:List ag}{kw:List (cp×ag)}(X:K.In s.heap)(hm:xH K C=true)
  (hi:du K (.ref C) "__init__"=some (some (.ref f)))(hf:PySem.W.typeIn K (.ref f)=some (.type "function"))
  (h:codeAny (model prog w) (A.under (.builtin "type.__call__" ⟨.ref C::vs,kw⟩)) (.call (.ref f) ⟨.ref (s.heap.objs.size+1)::vs,kw⟩) (PySem.W.InitBack (s.heap.objs.size+1) R)
   {s with heap:=(s.heap.push fu).push (gR C s.heap.objs.size)}) :
  codeAny (model prog w) A (.call (.ref C) ⟨vs,kw⟩) R s:=by
 obtain ⟨hh,g,d,t,os⟩:=s
 exact PySem.W.make_core (PySem.W.makes_of X hm) (PySem.W.looks_findIn X hi) (fun self=>PySem.W.bind_fn X self hf) (.inl rfl) h
end
def ir (f:cp)(v:V):List (cp×V)→List (cp×V)
 | []=>[(f,v)]
 | (g,x)::r=>if g=f then (g,v)::r else (g,x)::ir f v r
theorem xh (f g:cp)(v:V):∀ fs:List (cp×V),(ir f v fs).lookup g=if g=f then some v else fs.lookup g
 | []=>by
  show jT g [(f,v)]=_
  by_cases h:g=f
  ·have hb:(g==f)=true:=beq_iff_eq.mpr h
   simp only[jT,hb,if_pos h]
  ·have hb:(g==f)=false:=beq_eq_false_iff_ne.mpr h
   simp only[jT,hb,if_neg h]
 | (k,x)::r=>by
  have ih:=xh f g v r
  rw[show ir f v ((k,x)::r)=(if k=f then (k,v)::r else (k,x)::ir f v r) from rfl]
  by_cases hk:k=f
  ·rw[if_pos hk]
   by_cases h:g=k
   ·have hb:(g==k)=true:=beq_iff_eq.mpr h
    simp only[jT,hb,if_pos (h.trans hk)]
   ·have hb:(g==k)=false:=beq_eq_false_iff_ne.mpr h
    simp only[jT,hb,if_neg (fun e:g=f=>h (e.trans hk.symm))]
  ·rw[if_neg hk]
   by_cases h:g=k
   ·have hb:(g==k)=true:=beq_iff_eq.mpr h
    simp only[jT,hb,if_neg (fun e:g=f=>hk (h.symm.trans e))]
   ·have hb:(g==k)=false:=beq_eq_false_iff_ne.mpr h
    simp only[jT,hb]
    exact ih
theorem wq (f:cp)(v:V):∀ fs:List (cp×V),f∈(ir f v fs).map (·.1)∧∀ g,g∈fs.map (·.1)→g∈(ir f v fs).map (·.1)
 | []=>⟨by simp[ir],fun g h=>by simp at h⟩
 | (k,x)::r=>by
  obtain ⟨i1,i2⟩:=wq f v r
  rw[show ir f v ((k,x)::r)=(if k=f then (k,v)::r else (k,x)::ir f v r) from rfl]
  by_cases hk:k=f
  ·rw[if_pos hk]
   subst hk
   exact ⟨by simp,fun g h=>by simpa using h⟩
  ·rw[if_neg hk]
   refine ⟨?_,fun g h=>?_⟩
   ·rw[bo]
    exact ao _ i1
   ·rw[bo] at h ⊢
    rcases aI.mp h with e | e
    ·exact aI.mpr (.inl e)
    ·exact ao _ (i2 g e)
theorem xi (f:cp)(v:V):∀ fs:List (cp×V),(ir f v fs).length≤fs.length+1
 | []=>by simp[ir]
 | (k,x)::r=>by
  have ih:=xi f v r
  rw[show ir f v ((k,x)::r)=(if k=f then (k,v)::r else (k,x)::ir f v r) from rfl]
  by_cases hk:k=f
  ·rw[if_pos hk,aS,aS];omega
  ·rw[if_neg hk,aS,aS];omega
theorem qj.some_of {v:V}{o:Option ag}(r:qj (some v) o):∃ u,o=some u∧RelV v u:=by
 cases o with
 | none=>exact (show False from r).elim
 | some u=>exact ⟨u,rfl,r⟩
theorem qj.none_of {o:Option ag}(r:qj none o):o=none:=by
 cases o with
 | none=>rfl
 | some u=>exact (show False from r).elim
theorem Ln {v:V}{u:ag}(r:RelV v u):L4 u=true:=by
 cases v with
 | hC=>cases (show u=ag.none from r);rfl
 | bl b=>cases (show u=ag.bool b from r);rfl
 | int i=>obtain ⟨t,e⟩:=(show ∃ t,u=ag.int i t from r);cases e;rfl
 | str x=>obtain ⟨t,e⟩:=(show ∃ t,u=ag.str x t from r);cases e;rfl
 | Fk b=>obtain ⟨t,e⟩:=(show ∃ t,u=ag.bytes b t from r);cases e;rfl
 | Yo b=>obtain ⟨t,e⟩:=(show ∃ t,u=ag.float b t from r);cases e;rfl
 | ref a=>cases (show u=ag.ref a from r);rfl
 | ty n=>cases (show u=ag.type n from r);rfl
section
variable {P:aY}{w:bO}{H H':Hp}{h h':bU}{a C dx:aj}{fs fs':List (cp×V)}
theorem Ce (fj:qf P w H h)(e:H a=some (.ins C dx fs)):∃ mA,Fz h a dx C mA∧(∀ f,qj (fs.lookup f) (mA f))∧EC mA (fs.map (·.1))∧fs.length≤1000∧H dx=some (.own a):=by
 obtain ⟨d,z,ne,ob,mA,n,r,q⟩:=(show fM P w H h a (.ins C dx fs) from fj a _ e)
 exact ⟨mA,⟨ob,n,ne⟩,r,q,z,d⟩
end
structure QE (K:ai)(C:aj):Prop where
 pg:kG K C cp.empty=true
 hd:nB K C=true
 po:vi K C=true
 sa:du K (.ref C) "__setattr__"=some (some (.builtin "object.__setattr__"))
theorem QE.get {K:ai}{C:aj}(c:QE K C)(f:cp):kG K C f=true:=c.pg
def lZ (K:ai)(C:aj)(f:cp):Prop:=du K (.ref C) f=some none
theorem lZ.Xj {K:ai}{C:aj}{f:cp}(n:lZ K C f):xG K C f=some none:=by
 unfold xG
 rw[show du K (.ref C) f=some none from n]
 rfl
structure ym (K:ai)(C:aj)(m:cp)(f:aj):Prop where
 at_:du K (.ref C) m=some (some (.ref f))
 fn:vc K (.ref f)=true
 kp:aP K (.ref f)=true
section
variable {X:Cx}{pins:List (aj×fA)}{σ:St}{H:Hp}{s:au}{a C dx:aj}{fs:List (cp×V)}{f:cp}{v:V}{A:cA}{E:ag→au→Prop}
theorem Hy {b:Bool}{Q:ag→au→Prop}(I:Inv X pins σ H s)(e:H a=some (.ins C dx fs))(c:QE X.K C)(n:lZ X.K C f)(l:fs.lookup f=some v)
  (h:∀ u s',Inv X pins σ H s'→RelV v u→Q u s'):wpAny (model X.prog X.w) A (getAttr (.ref a) f b) Q E s:=by
 obtain ⟨mA,O,r,_,_,_⟩:=Ce I.fj e
 obtain ⟨u,hu,ru⟩:=qj.some_of (v:=v) (o:=mA f) (by rw[← l];exact r f)
 exact get_map I.HY O (c.get f) c.hd n hu (Ln ru) (h u _ (I.tok _) ru)
theorem zy {m:cp}{g:aj}{pl:o8 Bool}{Q:ag×List ag→au→Prop}(I:Inv X pins σ H s)(e:H a=some (.ins C dx fs))(c:QE X.K C)(k:ym X.K C m g)(l:fs.lookup m=none)
  (h:Q (.ref g,[.ref a]) s):wpAny (model X.prog X.w) A (getMethod (.ref a) m pl) Q E s:=by
 obtain ⟨mA,O,r,_,_,_⟩:=Ce I.fj e
 have hn:mA m=none:=qj.none_of (by rw[← l];exact r m)
 exact Py I.HY O (c.get m) k.at_ k.fn hn h
theorem Ha {y:V}{u:ag}{Q:Unit→au→Prop}(I:Inv X pins σ H s)(e:H a=some (.ins C dx fs))(c:QE X.K C)(n:lZ X.K C f)(hl:fs.length<1000)(ry:RelV y u)
  (h:∀ s',Inv X pins σ (upd H a (.ins C dx (ir f y fs))) s'→Q () s'):wpAny (model X.prog X.w) A (setAttr (.ref a) f u) Q E s:=by
 obtain ⟨mA,O,r,wi,_,ho⟩:=Ce I.fj e
 have hz:(fs.map (·.1)).length≤aA:=by rw[ae,kK];omega
 refine Rn I.HY O c.sa c.po n.Xj c.hd wi hz fun h' O' sb=>h _ ?_
 have hd:∃ o,h'.get? dx=some o:=let ⟨o,_,_,e',_⟩:=O'.ns;⟨o,e'⟩
 refine I.write (x:=a) (e:=dx) (by rw[e];exact qp) (.inr ho) (fun b q hb z=>(sb.2 b hb).trans z) hd ?_
 refine ⟨by rw[aT O.ne];exact ho,?_,O.ne,O'.obj,_,O'.ns,fun g=>?_,fun g hg=>?_⟩
 ·have:=xi f y fs;omega
 ·show qj ((ir f y fs).lookup g) (if g=f then some u else mA g)
  rw[xh]
  by_cases q:g=f
  ·rw[if_pos q,if_pos q];exact ry
  ·rw[if_neg q,if_neg q];exact r g
 ·by_cases q:g=f
  ·rw[q];exact (wq f y fs).1
  ·refine (wq f y fs).2 g (wi g fun z=>hg ?_)
   show (if g=f then some u else mA g)=none
   rw[if_neg q];exact z
theorem Inv.made (I:Inv X pins σ H s):Inv X pins σ (upd (upd H s.heap.objs.size (.own (s.heap.objs.size+1))) (s.heap.objs.size+1) (.ins C s.heap.objs.size []))
  {s with heap:=(s.heap.push fu).push (gR C s.heap.objs.size)}:=by
 have e1:(s.heap.push fu).get? s.heap.objs.size=some fu:=aH s.heap rfl
 have e2:((s.heap.push fu).push (gR C s.heap.objs.size)).get? (s.heap.objs.size+1)=some (gR C s.heap.objs.size):=by
  have:=aH (s.heap.push fu) (o:=gR C s.heap.objs.size) rfl
  rwa [cN] at this
 have e3:(s.heap.push fu).Ns s.heap.objs.size (fun _=>none):=⟨fu,#[],_,e1,rfl,(fun e he=>absurd he (by simp)),fun _=>rfl⟩
 have I1:=I.laid (a:=s.heap.objs.size) (o:=.own (s.heap.objs.size+1)) (h':=s.heap.push fu) (t':=s.toks) (fun b u q=>ay _ q) (aL _) ⟨_,e1⟩
 refine I1.laid (a:=s.heap.objs.size+1) (o:=.ins C s.heap.objs.size []) (t':=s.toks) (fun b u q=>ay _ q) (mN (cN _ _)) ?_
 have ne:s.heap.objs.size≠s.heap.objs.size+1:=ba (dP _)
 refine ⟨by rw[aT ne,aw],aR _,ne,e2,fun _=>none,(bU.Ns1.of_empty e3).at fun o q=>ay _ q,fun _=>qp,fun y hy=>absurd rfl hy⟩
theorem Th {prog:aY}{w:bO}{env:C5}{e:Expr}{f:cp}{pos:jK}{s:au}{Q:ag→au→Prop}(hb:iZ e f env (eval e env)=eval e env)
  (h:wpAny (model prog w) A (eval e env) (fun o s₁=>wpAny (model prog w) A (getAttr o f true) Q E s₁) E s):wpAny (model prog w) A (eval (.Attribute e f pos) env) Q E s :=
 Attribute_any_ h (by rw[arm_eval_Attribute,hb])
end
def WX (K:ai)(ta:TE)(f:cp):TE:=fun σ H Q=>ta σ H fun x H1=>∃ a C dx fs v,x=.ref a∧H1 a=some (.ins C dx fs)∧QE K C∧lZ K C f∧fs.lookup f=some v∧Q v H1
def Y7 (K:ai)(ta tv:TE)(f:cp):TS:=fun D σ H=>tv σ H fun y H1=>ta σ H1 fun x H2=>∃ a C dx fs,x=.ref a∧H2 a=some (.ins C dx fs)∧QE K C∧lZ K C f∧fs.length<1000 ∧
 D.nx σ (upd H2 a (.ins C dx (ir f y fs)))
section
variable {X:Cx}{o e value:Expr}{f:cp}{pos pos' lU:jK}{ta tv:TE}
theorem eU (he:PE X e ta)(hb:iZ e f X.env (eval e X.env)=eval e X.env):PE X (.Attribute e f pos) (WX X.K ta f):=by
 intro pins s σ H Q I h
 refine Th hb (gI (he pins s σ H _ I h) fun u s1 ⟨x,H1,I1,rx,a,C,dx,fs,v,ex,ea,c,n,l,q⟩=>?_)
 subst ex
 obtain rfl:u=ag.ref a:=rx
 exact Hy I1 ea c n l fun u' s2 I2 ru=>⟨v,H1,I2,ru,q⟩
theorem tP (ha:PE X o ta)(hv:PE X value tv)(hs:swapsWith value (some (.Attribute o f pos')) pos.line X.env=pure false):PS X (.Assign [.Attribute o f pos'] value pos) (Y7 X.K ta tv f):=by
 intro pins s σ H D I h
 refine plainObj_wpAny_Assign_Attribute (gI (hv pins s σ H _ I h) fun u s1 ⟨y,H1,I1,ry,q⟩=>gI (ha pins s1 σ H1 _ I1 q) fun ov s2 ⟨x,H2,I2,rx,a,C,dx,fs,ex,ea,c,n,l,q2⟩=>?_) hs
 subst ex
 obtain rfl:ov=ag.ref a:=rx
 exact Ha I2 ea c n l ry fun s3 I3=>⟨σ,_,I3,q2⟩
end
section
variable {X:Cx}{pins:List (aj×fA)}{σ:St}{H:Hp}{s:au}{A:cA}{E:ag→au→Prop}{Q:ag→au→Prop}{c:ag}{b:Bool}
end
structure fO (k:Nat)(A:cA):Prop where
 hd:A.handled=none
 dp:A.depth+3*k+5<recursionLimit
 un:A.units+16*k+200<cLine
theorem fO.mono {j k:Nat}{A:cA}(r:fO k A)(h:j≤k):fO j A:=⟨r.hd,by have:=r.dp;omega,by have:=r.un;omega⟩
theorem fO.deeper {k:Nat}{A:cA}(r:fO (k+1) A)(env:C5):fO k (A.deeper env) :=
 ⟨r.hd,by have:=r.dp;show A.depth+1+3*k+5<_;omega,by have:=r.un;show A.units+3+16*k+200<_;omega⟩
theorem Ho {A:cA}{C:aj}{us:List ag}{kw:List (cp×ag)}:(A.under (.builtin "type.__call__" ⟨.ref C::us,kw⟩)).depth=A.depth+1:=by
 first | rfl | simp[CV,Code.weight,Code.isCreation,Code.isGuard,Code.isCaller,Code.frames,Fp,guardIds]
theorem Hn {A:cA}{C:aj}{us:List ag}{kw:List (cp×ag)}:(A.under (.builtin "type.__call__" ⟨.ref C::us,kw⟩)).units=A.units+1:=by
 first | rfl | simp[CV,Code.cUnits,Code.frames,Fp]
theorem fO.make {k:Nat}{A:cA}(r:fO (k+1) A)(C:aj)(us:List ag)(kw:List (cp×ag)):fO k (A.under (.builtin "type.__call__" ⟨.ref C::us,kw⟩)) :=
 ⟨r.hd,by have:=r.dp;rw[Ho];omega,by have:=r.un;rw[Hn];omega⟩
theorem fO.depth {k:Nat}{A:cA}(r:fO k A):A.depth<recursionLimit:=by have:=r.dp;omega
theorem fO.units {k:Nat}{A:cA}(r:fO k A):A.units+64<cLine:=by have:=r.un;omega
def Mr:TA:=fun _ H Q=>Q [] H
def Xs (ta:TE)(tr:TA):TA:=fun σ H Q=>ta σ H fun x H1=>tr σ H1 fun xs H2=>Q (x::xs) H2
section
variable {X:Cx}{e:Expr}{es:List Expr}{te:TE}{t:TA}{pos:jK}
theorem aB:PA X [] Mr:=fun _ _ _ _ H Q I h=>j0 ⟨[],H,I,.nil,h⟩
theorem ah (ha:PE X e te)(hr:PA X es t)(hs:bQ (e::es) X.env=(false,eval e X.env)::bQ es X.env:=by rfl):PA X (e::es) (Xs te t):=by
 intro pos pins s σ H Q I h
 rw[hs]
 show wpAny _ _ (spliced ((false,eval e X.env)::backTo pos (bQ es X.env))) _ _ s
 refine iE (gI (ha pins s σ H _ I h) fun u s1 ⟨x,H1,I1,r1,q1⟩=>?_)
 exact gI (hr pos pins s1 σ H1 _ I1 q1) fun us s2 ⟨xs,H2,I2,r2,q2⟩=>⟨x::xs,H2,I2,.cons r1 r2,q2⟩
def Y1 (t:TA):TE:=fun σ H Q=>t σ H fun xs H1=>xs.length≤aA∧∀ p,H1 p=none→Q (.ref p) (upd H1 p (.tup xs))
def Y4 (t:TA):TE:=fun σ H Q=>t σ H fun xs H1=>xs.length≤aA∧∀ p,H1 p=none→Q (.ref p) (upd H1 p (.lst xs))
theorem jj {x1}(h:PA X es t):PE X (.Tuple es x1 pos) (Y1 t):=by
 intro pins s σ H Q I hq
 refine wpAny_Tuple_spliced (gI (h pos pins s σ H _ I hq) fun us s1 ⟨xs,H1,I1,r,z,q⟩=>⟨by rw[← r.length];exact z,?_⟩)
 have hf:H1 s1.heap.objs.size=none:=I1.fj.fresh (aL _)
 refine ⟨.ref s1.heap.objs.size,upd H1 s1.heap.objs.size (.tup xs),I1.laid (t':=s1.toks) (fun b u e=>ay _ e) (aL _) ?_,rfl,q _ hf⟩
 exact ⟨z,us,r,⟨_,aH _ rfl,rfl,_,rfl⟩⟩
theorem cP (h:PA X es t):PE X (.List es pos) (Y4 t):=by
 intro pins s σ H Q I hq
 refine wpAny_List_spliced (gI (h pos pins s σ H _ I hq) fun us s1 ⟨xs,H1,I1,r,z,q⟩=>⟨by rw[← r.length];exact z,?_⟩)
 have hf:H1 s1.heap.objs.size=none:=I1.fj.fresh (aL _)
 refine ⟨.ref s1.heap.objs.size,upd H1 s1.heap.objs.size (.lst xs),I1.laid (t':=s1.toks) (fun b u e=>ay _ e) (aL _) ?_,rfl,q _ hf⟩
 exact ⟨z,us,0,r,aH _ rfl⟩
end
abbrev Sp:=List V→Hp→VK→XK→Prop
abbrev Md:=List C5→Hp→au→XK→ag→au→Prop
structure FA (P:aY)(w:bO)(K:ai)(mg:cp→Option ag)(base:bU)(A:cA)(outer:List C5)(s:au)(H:Hp):Prop where
 frames:A.frames=some outer
 mod:Mod K mg base
 bs:∀ b o,base.get? b=some o→s.heap.get? b=some o∧H b=none
 QX:base.objs.size≤s.heap.objs.size
 xy:s.heap.FunFrames base outer
 UN:∀ b∈Mn outer,H b=none
 fj:qf P w H s.heap
 bare:z5 s.gens
def CE (outer:List C5)(P:aY)(w:bO)(H:Hp)(s:au)(Q:VK)(u:ag)(s':au):Prop :=
 ∃ v H',s'.os=s.os∧z5 s'.gens∧Un (Mn outer) [] H H' s.heap s'.heap∧qf P w H' s'.heap∧RelV v u∧Q v H'
def CR (CX:Md)(outer:List C5)(P:aY)(w:bO)(H:Hp)(s:au)(Q:VK)(E:XK)(r:qM)(s':au):Prop :=
 match r with
 | .ok (.ret u)=>CE outer P w H s Q u s'
 | .ok _=>False
 | .error e=>CX outer H s E e s'
structure cO (P:aY)(w:bO)(K:ai)(mg:cp→Option ag)(base:bU)(CX:Md)(k:Nat)(f:aj)(fd:bI)(ps:List cp)(sp:Sp):Prop where
 len:∀ vs H Q E,sp vs H Q E→vs.length=ps.length
 run:∀ (A:cA) (outer:List C5) (s:au) (H:Hp) (args:Args) (us:List ag) (vs:List V) (Q:VK) (E:XK),fO k A→FA P w K mg base A outer s H→Fl s fd args (ps.zip us)→df vs us→sp vs H Q E →
  codeAny (model P w) A (.call (.ref f) args) (CR CX outer P w H s Q E) s
theorem FA.make {P:aY}{w:bO}{K:ai}{mg:cp→Option ag}{base:bU}{A:cA}{outer:List C5}{s:au}{H:Hp}(e:FA P w K mg base A outer s H)(C:aj)(us:List ag)(kw:List (cp×ag)) :
  FA P w K mg base (A.under (.builtin "type.__call__" ⟨.ref C::us,kw⟩)) outer s H:=⟨by first | exact e.frames | (simpa [CV,Code.envs,Fp,pushEnvs] using e.frames),e.mod,e.bs,e.QX,e.xy,e.UN,e.fj,e.bare⟩
section
variable {X:Cx}{pins:List (aj×fA)}{σ:St}{H:Hp}{s s':au}
theorem Inv.Xa (I:Inv X pins σ H s):FA X.prog X.w X.K X.mg X.base X.A X.stack s H :=
 ⟨I.ok.frames,I.ok.mod,I.bs,aD I.ok.QX I.sz,I.stack,I.Iu,I.fj,I.bare⟩
theorem Inv.after {Q:VK}{u:ag}(I:Inv X pins σ H s)(h:CE X.stack X.prog X.w H s Q u s'):EP X pins σ Q u s':=by
 obtain ⟨v,H',os,bare,un,fj,r,q⟩:=h
 obtain ⟨hh,g,d,t,os'⟩:=s'
 obtain rfl:os'=s.os:=os
 exact ⟨v,H',I.call (h':=hh) (g':=g) (d':=d) (t':=t) (ch:=[]) un fj bare (fun b z=>absurd z (by simp)),r,q⟩
end
def Xt (sp:Sp)(dvs:List V)(E:XK)(t:TA):TE:=fun σ H Q=>t σ H fun vs H1=>sp (vs++dvs) H1 Q E
def Ug (C:aj)(m:cp)(sp:Sp)(dvs:List V)(E:XK)(ta:TE)(t:TA):TE:=fun σ H Q=>ta σ H fun x H1=>∃ a dx fs,x=.ref a∧H1 a=some (.ins C dx fs)∧fs.lookup m=none ∧
 t σ H1 fun vs H2=>sp (x::(vs++dvs)) H2 Q E
def Xo (C:aj)(sp:Sp)(dvs:List V)(E:XK)(t:TA):TE:=fun σ H Q=>t σ H fun vs H1=>∀ x dx,H1 x=none→H1 dx=none→dx≠x →
 sp (.ref x::(vs++dvs)) (upd (upd H1 dx (.own x)) x (.ins C dx [])) (fun v H2=>v=.hC∧Q (.ref x) H2) E
def Binds (K:ai)(fd:bI)(ps:List cp)(ds:List ag):Prop :=
 ∀ (s:au) (us:List ag),K.In s.heap→(us++ds).length=ps.length→Fl s fd ⟨us,[]⟩ (ps.zip (us++ds))
theorem Binds.all {K:ai}{fd:bI}{ps:List cp}(h:∀ us:List ag,us.length=ps.length→bindArgs fd ⟨us,[]⟩=pure (ps.zip us)):Binds K fd ps []:=fun s us _ hl=>by
 rw[bV] at hl ⊢
 exact .of_eq (h us hl)
def tU (CX:Md)(X:Cx)(E:XK):Prop:=∀ (pins:List (aj×fA)) (σ:St) (H:Hp) (s:au) (e:ag) (s':au),Inv X pins σ H s→CX X.stack H s E e s'→X.xe e s'
section
variable {X:Cx}{CX:Md}{k:Nat}{f C:aj}{fd:bI}{ps:List cp}{sp:Sp}{dvs:List V}{ds:List ag}{E:XK}{x m:cp}{p pos apos:jK}{e o:Expr}{es:List Expr}{ta:TE}{t:TA}
theorem Gb {pins:List (aj×fA)}{σ:St}{H:Hp}{s:au}{Q:VK}{us:List ag}{vs:List V}(F:cO X.prog X.w X.K X.mg X.base CX k f fd ps sp)(hr:fO k X.A)(hb:Binds X.K fd ps ds)(hd:df dvs ds)(hx:tU CX X E)
  (I:Inv X pins σ H s)(r:df vs us)(h:sp (vs++dvs) H Q E):wpAny (model X.prog X.w) X.A (call (.ref f) us) (EP X pins σ Q) X.xe s:=by
 have r2:df (vs++dvs) (us++ds):=r.append hd
 have hl:(us++ds).length=ps.length:=by rw[← r2.length];exact F.len _ _ _ _ h
 refine wpAny_call (jD (F.run X.A X.stack s H ⟨us,[]⟩ (us++ds) (vs++dvs) Q E hr I.Xa (hb s us I.HY hl) r2 h) fun r s' hq=>?_)
 cases r with
 | error e=>exact hx pins σ H s e s' I hq
 | ok fl =>
  cases fl with
  | ret u=>exact I.after hq
  | next=>exact fg hq
  | brk=>exact fg hq
  | cont=>exact fg hq
theorem bY (F:cO X.prog X.w X.K X.mg X.base CX k f fd ps sp)(hr:fO k X.A)(hg:Gl X x)(hm:X.mg x=some (.ref f))(hk:aP X.K (.ref f)=true)(hb:Binds X.K fd ps ds)(hd:df dvs ds)(hx:tU CX X E)
  (ha:PA X (e::es) t)(hdb:(x==("__debug__":cp))=false:=by decide)(he:bQ (e::es) X.env=(false,eval e X.env)::bQ es X.env:=by rfl)(hpl:(backTo pos (bQ es X.env)).any (·.1)=false:=by rfl) :
  PE X (.Call (.Name x p) (e::es) [] pos) (Xt sp dvs E t):=by
 intro pins s σ H Q I h
 refine d8 (Cc I hg hm ?_ hdb)
 refine HU (h₀:=X.base) I.ok.mod.Ym hk (gI (ha pos pins s σ H _ I h) fun us s1 ⟨vs,H1,I1,r,q⟩=>⟨I1.HY,?_⟩) he hpl
 exact Gb F hr hb hd hx I1 r q
theorem hZ {pl:o8 Bool}(he:PE X o ta)(c:QE X.K C)(hm:ym X.K C m f)(F:cO X.prog X.w X.K X.mg X.base CX k f fd ps sp)(hr:fO k X.A)(hb:Binds X.K fd ps ds)(hd:df dvs ds)(hx:tU CX X E)(ha:PA X (e::es) t)
  (hst:bQ (e::es) X.env=(false,eval e X.env)::bQ es X.env:=by rfl)(hpl:(backTo pos (bQ es X.env)).any (·.1)=false:=by rfl)
  (ht:eval (.Call (.Attribute o m apos) (e::es) [] pos) X.env=(do
   let ov ← eval o X.env
   standAt apos.atName
   let (f,first) ← holding [ov] (getMethod ov m pl)
   FC pos f first (backTo pos (bQ (e::es) X.env)) (backToKw pos (keywordEach [] X.env))):=by rfl) :
  PE X (.Call (.Attribute o m apos) (e::es) [] pos) (Ug C m sp dvs E ta t):=by
 intro pins s σ H Q I h
 refine C2 (pl:=pl) (gI (he pins s σ H _ I h) fun u s1 ⟨x,H1,I1,rx,a,dx,fs,ex,ea,l,q⟩=>?_) ht
 subst ex
 obtain rfl:u=ag.ref a:=rx
 refine zy I1 ea c hm l ?_
 refine HU (first:=[.ref a]) (h₀:=X.base) I.ok.mod.Ym hm.kp (gI (ha pos pins s1 σ H1 _ I1 q) fun us s2 ⟨vs,H2,I2,r,q2⟩=>⟨I2.HY,?_⟩) hst hpl
 exact Gb (us:=.ref a::us) (vs:=.ref a::vs) F hr hb hd hx I2 (.cons rfl r) q2
theorem uV {pl:o8 Bool}(he:PE X o ta)(c:QE X.K C)(hm:ym X.K C m f)(F:cO X.prog X.w X.K X.mg X.base CX k f fd ps sp)(hr:fO k X.A)(hb:Binds X.K fd ps ds)(hd:df dvs ds)(hx:tU CX X E)
  (ht:eval (.Call (.Attribute o m apos) [] [] pos) X.env=(do
   let ov ← eval o X.env
   standAt apos.atName
   let (f,first) ← holding [ov] (getMethod ov m pl)
   FC pos f first (backTo pos (bQ [] X.env)) (backToKw pos (keywordEach [] X.env))):=by rfl) :
  PE X (.Call (.Attribute o m apos) [] [] pos) (Ug C m sp dvs E ta Mr):=by
 intro pins s σ H Q I h
 refine C2 (pl:=pl) (gI (he pins s σ H _ I h) fun u s1 ⟨x,H1,I1,rx,a,dx,fs,ex,ea,l,q⟩=>?_) ht
 subst ex
 obtain rfl:u=ag.ref a:=rx
 refine zy I1 ea c hm l ?_
 exact Fs (first:=[.ref a]) I1.HY hm.kp (Gb (us:=[.ref a]) (vs:=[.ref a]) F hr hb hd hx I1 (.cons rfl .nil) q)
structure Mk (K:ai)(C f:aj):Prop where
 makes:xH K C=true
 init:du K (.ref C) "__init__"=some (some (.ref f))
 fn:vc K (.ref f)=true
 kp:aP K (.ref C)=true
theorem OA {pins:List (aj×fA)}{σ:St}{H:Hp}{s:au}{Q:VK}{us:List ag}{vs:List V}(M:Mk X.K C f)(F:cO X.prog X.w X.K X.mg X.base CX k f fd ps sp)(hr:fO (k+1) X.A)(hb:Binds X.K fd ps ds)(hd:df dvs ds)
  (hx:tU CX X E)(I:Inv X pins σ H s)(r:df vs us)
  (h:∀ x dx,H x=none→H dx=none→dx≠x→sp (.ref x::(vs++dvs)) (upd (upd H dx (.own x)) x (.ins C dx [])) (fun v H2=>v=.hC∧Q (.ref x) H2) E) :
  wpAny (model X.prog X.w) X.A (call (.ref C) us) (EP X pins σ Q) X.xe s:=by
 have hq:=h (s.heap.objs.size+1) s.heap.objs.size (I.fj.fresh (hW _)) (I.fj.fresh (aL _)) (ba (dP _))
 have I2:=Inv.made (C:=C) I
 have r2:df (V.ref (s.heap.objs.size+1)::(vs++dvs)) (ag.ref (s.heap.objs.size+1)::(us++ds)):=.cons rfl (r.append hd)
 have hl:(ag.ref (s.heap.objs.size+1)::us++ds).length=ps.length:=by
  have e:=r2.length
  rw[F.len _ _ _ _ hq] at e
  exact e.symm
 refine wpAny_call (O9 (f:=f) I.HY M.makes M.init (beq_iff_eq.mp M.fn) (jD (F.run _ X.stack _ _ ⟨ag.ref (s.heap.objs.size+1)::us,[]⟩ (ag.ref (s.heap.objs.size+1)::(us++ds)) _ _ E (hr.make C us [])
  (I2.Xa.make C us []) (hb _ (ag.ref (s.heap.objs.size+1)::us) I2.HY hl) r2 hq) fun r s' hq'=>?_))
 cases r with
 | error e=>exact hx pins σ _ _ e s' I2 hq'
 | ok fl =>
  cases fl with
  | ret u =>
   obtain ⟨v,H',I3,rv,ev,q3⟩:=I2.after hq'
   subst ev
   exact ⟨rv,⟨V.ref (s.heap.objs.size+1),H',I3,rfl,q3⟩⟩
  | next=>exact fg hq'
  | brk=>exact fg hq'
  | cont=>exact fg hq'
theorem OM (M:Mk X.K C f)(F:cO X.prog X.w X.K X.mg X.base CX k f fd ps sp)(hr:fO (k+1) X.A)(hg:Gl X x)(hm:X.mg x=some (.ref C))(hb:Binds X.K fd ps ds)(hd:df dvs ds)(hx:tU CX X E)
  (hdb:(x==("__debug__":cp))=false:=by decide):PE X (.Call (.Name x p) [] [] pos) (Xo C sp dvs E Mr):=by
 intro pins s σ H Q I h
 refine d8 (Cc I hg hm ?_ hdb)
 exact Fs I.HY M.kp (OA (us:=[]) M F hr hb hd hx I .nil h)
end
section
variable {X:Cx}{CX:Md}{k:Nat}{f C:aj}{fd:bI}{ps ks:List cp}{sp:Sp}{E:XK}{x m:cp}{p pos apos kpos:jK}{e o:Expr}{es:List Expr}{kws:List Mz}{te ta:TE}{t tk:TA}{nm:Option cp}
variable {g:List ag→List ag→List ag}{gV:List V→List V→List V}
end
structure bW (N P:List cp)(sc:jH):Prop where
 kind:sc.kind=.function
 co:sc.isCoroutine=false
 gen:sc.isGenerator=false
 nd:N.Nodup
 pre:N.take P.length=P
 par:∀ x∈P,sc.names.lookup x=some .local∨sc.names.lookup x=some .cell
 VA:∀ y∈sc.names,y.2≠.free
theorem Be {kindOf:cp→Option ie}{x:cp}:∀ {binds:List (cp×ag)} {m:cp→Option ag},(∀ v,(x,v)∉binds)→bindL kindOf binds m x=m x
 | [],_,_=>rfl
 | (n,v)::r,m,h=>by
  unfold bindL
  rw[Be fun w hw=>h w (ao _ hw)]
  split
  ·have:x≠n:=by rintro rfl;exact h v ax
   simp[this]
  ·rfl
theorem Bg {kindOf:cp→Option ie}{x:cp}:∀ {binds:List (cp×ag)} {m:cp→Option ag},(∀ v,(x,v)∉binds)→bindC kindOf binds m x=m x
 | [],_,_=>rfl
 | (n,v)::r,m,h=>by
  unfold bindC
  rw[Bg fun w hw=>h w (ao _ hw)]
  split
  ·rfl
  ·have:x≠n:=by rintro rfl;exact h v ax
   simp[this]
theorem Bf {kindOf:cp→Option ie}{x:cp}{v:ag}:∀ {P:List cp} {vs:List ag} {i:Nat} {m:cp→Option ag},P.Nodup→P[i]?=some x→vs[i]?=some v→kindOf x=some .local →
  bindL kindOf (P.zip vs) m x=some v
 | [],_,_,_,_,h,_,_=>by simp at h
 | _::_,[],_,_,_,_,h,_=>by simp at h
 | p::P,w::vs,0,m,nd,h1,h2,hk=>by
  simp at h1 h2;subst h1;subst h2
  show bindL kindOf ((p,w)::P.zip vs) m p=_
  unfold bindL
  rw[Be fun v hv=>(eX.mp nd).1 (iN hv).1,if_pos hk]
  simp
 | p::P,w::vs,i+1,m,nd,h1,h2,hk=>by
  show bindL kindOf ((p,w)::P.zip vs) m x=_
  unfold bindL
  exact Bf (i:=i) (eX.mp nd).2 (by simpa using h1) (by simpa using h2) hk
theorem Bh {kindOf:cp→Option ie}{x:cp}{v:ag}:∀ {P:List cp} {vs:List ag} {i:Nat} {m:cp→Option ag},P.Nodup→P[i]?=some x→vs[i]?=some v→kindOf x≠some .local →
  bindC kindOf (P.zip vs) m x=some v
 | [],_,_,_,_,h,_,_=>by simp at h
 | _::_,[],_,_,_,_,h,_=>by simp at h
 | p::P,w::vs,0,m,nd,h1,h2,hk=>by
  simp at h1 h2;subst h1;subst h2
  show bindC kindOf ((p,w)::P.zip vs) m p=_
  unfold bindC
  rw[Bg fun v hv=>(eX.mp nd).1 (iN hv).1,if_neg hk]
  simp
 | p::P,w::vs,i+1,m,nd,h1,h2,hk=>by
  show bindC kindOf ((p,w)::P.zip vs) m x=_
  unfold bindC
  exact Bh (i:=i) (eX.mp nd).2 (by simpa using h1) (by simpa using h2) hk
def start (N:List cp)(vs:List V):St:=vs.map some++tq (N.length - vs.length) none
def J8 (CX:Md)(P:aY)(w:bO)(K:ai)(mg:cp→Option ag)(base:bU)(N:List cp)(qual:cp)(scope:jH)(f:aj)(cd:ag)(A:cA)(outer:List C5)(s:au)(H:Hp)(E:XK):Cx where
 prog:=P
 w:=w
 K:=K
 mg:=mg
 base:=base
 A:=A.deeper (envOfC qual scope s.heap.objs.size f cd)
 N:=N
 s_0:=s
 H_0:=H
 env:=envOfC qual scope s.heap.objs.size f cd
 outer:=outer
 stack:=envOfC qual scope s.heap.objs.size f cd::outer
 ex:=[]
 calm:=true
 fn:=fun _=>true
 pn:=[]
 xe:=fun e s'=>wpAny (model P w) (A.deeper (envOfC qual scope s.heap.objs.size f cd)) (leaving (envOfC qual scope s.heap.objs.size f cd) e) (fun _ s''=>CX outer H s E e s'') (fun e' s''=>CX outer H s E e' s'') s'
theorem En {sc:jH}{n:Nat}{x:cp}(h:sc.names.lookup x=some .cell):∃ c,(cellsFrom n sc.names []).lookup x=some c:=by
 have q:=CK sc.names n [] (.inl h)
 exact nZ.mp q
theorem Lh {CX:Md}{P:aY}{w:bO}{K:ai}{mg:cp→Option ag}{base:bU}{N ps:List cp}{qual:cp}{scope:jH}{f:aj}{cd:ag}{A:cA}{outer:List C5}{s s1:au}{H:Hp}{E:XK}{us:List ag}{vs:List V}
  (S:bW N ps scope)(hd:A.handled=none)(e0:FA P w K mg base A outer s H)(hl:vs.length=ps.length)(r:df vs us)
  (x:InCallC s s.heap.objs.size (bindL (envOfC qual scope s.heap.objs.size f cd).kindOf (ps.zip us) fun _=>none) (cellsFrom (s.heap.objs.size+1) scope.names []) (bindC (envOfC qual scope s.heap.objs.size f cd).kindOf (ps.zip us) fun _=>none) s1) :
  Inv (J8 CX P w K mg base N qual scope f cd A outer s H E) [] (start N vs) H s1:=by
 have hpl:ps.length≤N.length:=by have:=congrArg dF S.pre;rw[bM] at this;omega
 obtain ⟨h1,tk,rfl,hk⟩:=x.done
 have noA:∀ b:aj,b∉(J8 CX P w K mg base N qual scope f cd A outer s H E).ex:=fun b z=>absurd (show b∈([]:List aj) from z) (by simp)
 refine ⟨⟨e0.mod,S.kind,rfl,rfl,aL _,fun y z c h1 h2=>?_,fun y hy=>?_,fun y c _ h=>?_,fun _=>hd,cA.frames_deeper e0.frames,.inr ⟨rfl,rfl⟩,fun b z=>absurd z (noA b),e0.bs,e0.QX,fun b _ _=>noA b,fun b z=>absurd z (noA b),e0.xy,e0.UN⟩,
  rfl,e0.bare,Un.kept hk,⟨_,x.toInCall.ns,fun i y v h1 h2 h3=>?_⟩,fun y c h=>⟨_,x.cell y c h⟩,e0.fj.fresh (aL _),fun y c h=>?_,fun p hp=>absurd (show p∈([]:List (aj×fA)) from hp) (by simp),e0.fj.kept hk,?_⟩
 ·exact name_of_addr x.apart (cS h1) (cS h2)
 ·have hy:scope.names.lookup y=some .cell∨scope.names.lookup y=some .free:=hy
  rcases hy with hy | hy
  ·exact En hy
  ·exact absurd rfl (S.VA _ (cS hy))
 ·exact kE (x.above y c (cS h))
 ·have hi:i<vs.length:=by
   unfold start at h2
   by_cases hi:i<vs.length
   ·exact hi
   ·rw[fE (by simpa using hi)] at h2
    rw[List.getElem?_replicate] at h2
    split at h2<;>cases h2
  have ha:vs[i]?=some v:=by
   unfold start at h2
   rw[oa (by simpa using hi),aO] at h2
   cases e:vs[i]? with
   | none=>rw[e] at h2;cases h2
   | some a=>rw[e] at h2;cases h2;rfl
  obtain ⟨u,hu,rv⟩:=r.get ha
  have hp:ps[i]?=some y:=by
   rw[← S.pre,List.getElem?_take_of_lt (by omega)];exact h1
  have ndP:ps.Nodup:=by rw[← S.pre];exact S.nd.sublist (Qt _ _)
  refine ⟨u,rv,?_⟩
  rcases S.par y (aV hp) with k | k
  ·exact .inl ⟨k,Bf ndP hp hu k⟩
  ·obtain ⟨c,e⟩:=En (n:=s.heap.objs.size+1) k
   refine .inr ⟨.inl k,c,e,?_⟩
   have q:=x.cell y c e
   rw[Bh ndP hp hu (by show scope.names.lookup y≠_;rw[k];decide)] at q
   exact q
 ·exact e0.fj.fresh (kE (x.above y c (cS h)))
 ·unfold start
  show _=N.length
  rw[aK,ae,kR]
  omega
theorem XO {CX:Md}{P:aY}{w:bO}{K:ai}{mg:cp→Option ag}{base:bU}{k:Nat}{f:aj}{name qual:cp}{params:Arguments}{body:List d5}{scope:jH}{dV kV doc pm iq ct oc:ag}{an od:Option aj}
  {osl:Array (Option ag)}{N ps:List cp}{sp:Sp}(lk:K.lookup f=some ⟨oc,od,.func (gY name qual params body scope dV kV doc pm an iq ct),osl⟩)(hcd:jU K iq qual=true)(S:bW N ps scope)
  (len:∀ vs H Q E,sp vs H Q E→vs.length=ps.length)
  (hbody:∀ (A:cA) (outer:List C5) (s:au) (H:Hp) (vs:List V) (Q:VK) (E:XK),fO k (A.deeper (envOfC qual scope s.heap.objs.size f iq))→sp vs H Q E →
   ∃ t,J0 (J8 CX P w K mg base N qual scope f iq A outer s H E) body t∧t {nx:=fun _ H'=>Q .hC H',rt:=Q} (start N vs) H) :
  cO P w K mg base CX (k+1) f (gY name qual params body scope dV kV doc pm an iq ct) ps sp:=by
 refine ⟨len,fun A outer s H args us vs Q E hr e0 hb r hsp=>?_⟩
 have hl:=len _ _ _ _ hsp
 have KX:K.In s.heap:=e0.mod.Ym.keeps fun b o e=>(e0.bs b o e).1
 have lim:s.heap.NoLimit:=e0.mod.nolimit.keeps fun b o e=>(e0.bs b o e).1
 have hkind:∀ y∈ps.zip us,scope.names.lookup y.1=some .local∨(scope.names.lookup y.1=some .cell∧((cellsFrom (s.heap.objs.size+1) scope.names []).lookup y.1).isSome=true):=fun ⟨n,v⟩ hy=>by
  rcases S.par n (iN hy).1 with q | q
  ·exact .inl q
  ·exact .inr ⟨q,CK _ _ _ (.inl q)⟩
 refine codeAny_call_function hr.depth (KX _ _ lk) rfl S.co S.gen rfl (PySem.W.codeRec_of KX hcd) (hb _ _ _ _ ?_)
 refine wpAny_newFunctionEnv_cells S.kind hkind fun env he s1 x=>?_
 subst he
 refine ⟨lim.keeps x.toInCall.keep,codeAny_func ?_⟩
 obtain ⟨t,ht,hq⟩:=hbody A outer s H vs Q E (hr.deeper _) hsp
 have I:Inv (J8 CX P w K mg base N qual scope f iq A outer s H E) [] (start N vs) H s1:=Lh S hr.hd e0 hl r x
 refine hG (ht [] s1 (start N vs) H _ I hq) (fun fl s' hs=>?_) fun e s' hs=>hs
 have fin:∀ {σ':St} {H':Hp} {v:V} {u:ag},Inv (J8 CX P w K mg base N qual scope f iq A outer s H E) [] σ' H' s'→RelV v u→Q v H'→CE outer P w H s Q u s' :=
  fun {σ' H' v u} J rv q=>⟨v,H',J.os,J.bare,J.base,J.fj,rv,q⟩
 cases fl with
 | ret u =>
  obtain ⟨v,σ',H',J,rv,q⟩:=hs
  exact fin J rv q
 | next =>
  obtain ⟨σ',H',J,q⟩:=hs
  exact fin (v:=V.hC) (u:=ag.none) J rfl q
 | brk =>
  obtain ⟨_,_,_,q⟩:=hs
  exact fg q
 | cont =>
  obtain ⟨_,_,_,q⟩:=hs
  exact fg q
section
variable {X:Cx}{x:cp}{p pos:jK}{e:Expr}{es:List Expr}{t:TA}{id T:String}{r:List V→Hp→VK→Prop}
def ZI (r:List V→Hp→VK→Prop)(t:TA):TE:=fun σ H Q=>t σ H fun vs H1=>r vs H1 Q
theorem bP (hc:lC X (.builtin id) r)(hg:Gl X x)(hm:X.mg x=none)(hv:bootBuiltins x=some (.builtin id))(ha:PA X (e::es) t)(hn:x≠"__name__":=by decide)(hdb:(x==("__debug__":cp))=false:=by decide)
  (he:bQ (e::es) X.env=(false,eval e X.env)::bQ es X.env:=by rfl)(hpl:(backTo pos (bQ es X.env)).any (·.1)=false:=by rfl):PE X (.Call (.Name x p) (e::es) [] pos) (ZI r t):=by
 intro pins s σ H Q I h
 refine d8 (jl I hg hm hv ?_ hn hdb)
 exact tM (gI (ha pos pins s σ H _ I h) fun us s1 ⟨vs,H1,I1,r1,q1⟩=>hc pins s1 σ H1 vs us Q I1 r1 q1) he hpl
theorem kl (hc:lC X (.type T) r)(hg:Gl X x)(hm:X.mg x=none)(hv:bootBuiltins x=some (.type T))(ha:PA X (e::es) t)(hn:x≠"__name__":=by decide)(hdb:(x==("__debug__":cp))=false:=by decide)
  (he:bQ (e::es) X.env=(false,eval e X.env)::bQ es X.env:=by rfl)(hpl:(backTo pos (bQ es X.env)).any (·.1)=false:=by rfl):PE X (.Call (.Name x p) (e::es) [] pos) (ZI r t):=by
 intro pins s σ H Q I h
 refine d8 (jl I hg hm hv ?_ hn hdb)
 exact cK (gI (ha pos pins s σ H _ I h) fun us s1 ⟨vs,H1,I1,r1,q1⟩=>hc pins s1 σ H1 vs us Q I1 r1 q1) he hpl
end
end L2
namespace HT
open PySem PyProof.Rows
def lexLt:List Int→List Int→Bool
 | [],[]=>false
 | [],_::_=>true
 | _::_,[]=>false
 | x::xs,y::ys=>if x=y then lexLt xs ys else decide (x<y)
theorem hJ (x y:Int)(xs ys:List Int):lexLt (x::xs) (y::ys)=if x=y then lexLt xs ys else decide (x<y):=rfl
theorem tD:lexLt [] []=false:=rfl
theorem mD (y:Int)(ys:List Int):lexLt [] (y::ys)=true:=rfl
theorem rO (x:Int)(xs:List Int):lexLt (x::xs) []=false:=rfl
theorem PU (A:cA)(s:au)(a:Int)(t:Tok)(c:Int)(u:Tok):∃ e,mK A s (.int a t) (.int c u) e∧(e=true↔a=c) :=
 ⟨(a==c),C1 a t c u,by simp⟩
theorem yK (A:cA)(s:au)(a:Int)(t:Tok)(c:Int)(u:Tok)(prog:aY)(w:bO)(E:ag→au→Prop)(Q:ag→au→Prop)(h:Q (.bool (decide (a<c))) s) :
  wpAny (model prog w) A (richCompare .Lt (.int a t) (.int c u)) Q E s :=
 (PyProof.Rows.lt_int h:wpAny (model prog w) A (compareOp .Lt (.int a t) (.int c u)) Q E s)
section
open PySem.SeqAt
open PySem.AutoSeq1 (wpAny_loadPart')
open PySem.MeetsSeq PySem.MeetsSeq2 PySem.MeetsSeq3
theorem z7 (l b:aj)(items items2:Array ag)(n n2:Nat)(dd dd2:Option aj)(sl sl2:Array (Option ag))(ns ms:List Int)(hi:eK items.toList ns)(hj:eK items2.toList ms) :
  Meets (Builtin.«tuple.__lt__» ⟨[.ref l,.ref b],[]⟩)
   (fun _ R s=>s.heap.get? l=some {cls:=.type "tuple",dict:=dd,data:=.seq items n,slots:=sl}∧s.heap.get? b=some {cls:=.type "tuple",dict:=dd2,data:=.seq items2 n2,slots:=sl2} ∧
    R (.ok (.ret (.bool (lexLt ns ms)))) s) :=
 .of_wp fun prog w A R s h=>by
  obtain ⟨hp,g,d,tk,os⟩:=s;obtain ⟨hl,hb,h⟩:=h
  have f2:=AutoSeq1.sub_tuple_tuple
  have z1:items.size=ns.length:=by rw[← hi.length];simp
  have z2:items2.size=ms.length:=by rw[← hj.length];simp
  wp_walk using dU hl,dU hb,Cu _ (fun rest b s'=>b.1=none∧s'=⟨hp,g,d,tk,os⟩∧∃ (vs ws:List ag) (ns' ms':List Int),rest=vs.zip ws ∧
   eK vs ns'∧eK ws ms'∧ns'.length+items2.size=ms'.length+items.size∧R (.ok (.ret (.bool (lexLt ns' ms')))) ⟨hp,g,d,tk,os⟩) _
  case turn =>
   rintro ⟨y,x⟩ rest b s' ⟨hb',rfl,vs,ws,ns',ms',hz,hvi,hwi,hlen,hR⟩
   cases hvi with
   | nil=>rw[List.zip_nil_left] at hz;cases hz
   | cons a t hvi' =>
    cases hwi with
    | nil=>rw[vp] at hz;cases hz
    | cons c u hwi' =>
     rw[jI] at hz
     injection hz with hyx hrest
     injection hyx with hy hx
     subst hy hx
     rw[hJ] at hR
     simp only[aS] at hlen
     obtain ⟨e,he,hiff⟩:=PU A.in1 ⟨hp,g,d,tk,os⟩ a t c u
     refine aa (he prog w _ _ ?_)
     cases e with
     | true =>
      rw[if_pos (hiff.mp rfl)] at hR
      wp_walk
      exact ⟨rfl,rfl,_,_,_,_,hrest,hvi',hwi',by omega,hR⟩
     | false =>
      rw[if_neg (fun q=>absurd (hiff.mpr q) bg)] at hR
      have hri:=yK A.in1 ⟨hp,g,d,tk,os⟩ a t c u prog w
      wp_walk using hri
      exact ⟨_,rfl,by simpa using hR⟩
  case fin =>
   rintro ⟨b1,b2⟩ s' ⟨hb',rfl,vs,ws,ns',ms',hz,hvi,hwi,hlen,hR⟩
   simp only at hb'
   subst hb'
   have hv:lexLt ns' ms'=decide (items.size<items2.size):=by
    cases hvi with
    | nil =>
     cases hwi with
     | nil =>
      simp only[eG] at hlen
      rw[tD]
      exact (decide_eq_false (by omega)).symm
     | cons c u hw =>
      simp only[eG,aS] at hlen
      rw[mD]
      exact (decide_eq_true (by omega)).symm
    | cons a t hv =>
     cases hwi with
     | nil =>
      simp only[eG,aS] at hlen
      rw[rO]
      exact (decide_eq_false (by omega)).symm
     | cons c u hw =>
      rw[jI] at hz
      cases hz
   rw[hv] at hR
   wp_walk
   exact ⟨_,rfl,by simpa [Builtin.Tuple.tupleCompareSizes] using hR⟩
  case h =>
   exact ⟨rfl,rfl,items.toList,items2.toList,ns,ms,rfl,hi,hj,by omega,h⟩
end
section
variable {prog:aY}{w:bO}{A:cA}{E:ag→au→Prop}{s:au}
theorem Hs {l b:aj}{items items2:Array ag}{ns ms:List Int}{Q:ag→au→Prop}(hl:qo s.heap l items)(hb:qo s.heap b items2)(hi:eK items.toList ns)(hj:eK items2.toList ms)
  (hu:A.units<cLine)(h:Q (.bool (lexLt ns ms)) s):wpAny (model prog w) A (compareOp .Lt (.ref l) (.ref b)) Q E s:=by
 obtain ⟨⟨cls,dd,data,sl⟩,ho,hc,n,hd⟩:=id hl
 obtain ⟨⟨cls2,dd2,data2,sl2⟩,ho2,hc2,n2,hd2⟩:=id hb
 simp only at hc hd hc2 hd2
 subst hc hd hc2 hd2
 exact richCompare_meets_room (op:=.Lt) ⟨_,ho,rfl⟩ ⟨_,ho2,rfl⟩ PySem.F.slot_tuple_lt PySem.F.entry_tuple_lt (PySem.F.args_tuple_lt_2 _ _) (z7 l b items items2 n n2 dd dd2 sl sl2 ns ms hi hj)
  ⟨ho,ho2,show ag.bool (lexLt ns ms)≠ag.notImplemented∧Q (.bool (lexLt ns ms)) s from ⟨(fun x=>nomatch x),h⟩⟩ hu
def Ag (n d:Nat):Option Int→Nat
 | none=>d
 | some v=>if v<0 then (v+(n:Int)).toNat else min v.toNat n
theorem DR (n d:Nat):Ag n d none=d:=rfl
theorem xV (n d k:Nat):Ag n d (some (k:Int))=min k n:=by
 show (if (k:Int)<0 then ((k:Int)+(n:Int)).toNat else min (k:Int).toNat n)=min k n
 rw[if_neg (by omega),bR]
end
end HT
namespace L2
open PySem PySem.Spec PyProof.Rows
abbrev TO:=St→Hp→(Option Int→Hp→Prop)→Prop
def PO (X:Cx)(e:Option Expr)(t:TO):Prop :=
 ∀ (pins:List (aj×fA)) (s:au) (σ:St) (H:Hp) (Q:Option Int→Hp→Prop),Inv X pins σ H s→t σ H Q →
  wpAny (model X.prog X.w) X.A (evalPart e X.env) (fun u s'=>∃ o H',Inv X pins σ H' s'∧IsPart u o∧Q o H') X.xe s
def Rg:TO:=fun _ H Q=>Q none H
def Xk (t:TE):TO:=fun σ H Q=>t σ H fun x H1=>∃ i,x=.int i∧Q (some i) H1
theorem intsAre_of {ns:List Int}:∀ {us:List ag},df (ns.map V.int) us→eK us ns:=by
 induction ns with
 | nil=>intro us r;rw[fC] at r;cases r;exact .nil
 | cons n ns ih =>
  intro us r
  rw[bo] at r
  cases r with
  | cons r1 r2 =>
   obtain ⟨t,e⟩:=r1
   subst e
   exact .cons n t (ih r2)
section
variable {X:Cx}{e:Expr}{te:TE}{lo hi:Option Expr}{tl th:TO}{pos p2:jK}
theorem IU:PO X none Rg:=by
 intro pins s σ H Q I h
 rw[evalPart_none]
 exact ak ⟨none,H,I,.none,h⟩
theorem kJ (h:PE X e te):PO X (some e) (Xk te):=by
 intro pins s σ H Q I hw
 rw[evalPart_some]
 refine gI (h pins s σ H _ I hw) fun u s1 ⟨x,H1,I1,r1,q1⟩=>?_
 obtain ⟨i,rfl,q⟩:=q1
 obtain ⟨t,rfl⟩:=r1
 exact ⟨some i,H1,I1,.int i t,q⟩
def ZM (X:Cx)(r:V→Option Int→Option Int→Hp→VK→Prop):Prop :=
 ∀ (pins:List (aj×fA)) (s:au) (σ:St) (H:Hp) (x:V) (v vl vu:ag) (lo hi:Option Int) (sl:aj) (Q:VK),Inv X pins σ H s→RelV x v→s.heap.IsSliceOf sl vl vu .none→IsPart vl lo→IsPart vu hi→r x lo hi H Q →
  ∃ T id,typeLookup (.type T) "__getitem__"=pure (some (.builtin id))∧s.TypeIs v T∧wpAny (model X.prog X.w) X.A (getItem v (.ref sl)) (EP X pins σ Q) X.xe s
def Z4 (r:V→Option Int→Option Int→Hp→VK→Prop)(te:TE)(tl th:TO):TE:=fun σ H Q=>te σ H fun x H1=>tl σ H1 fun l H2=>th σ H2 fun u H3=>r x l u H3 Q
theorem oC {r:V→Option Int→Option Int→Hp→VK→Prop}(hr:ZM X r)(he:PE X e te)(hl:PO X lo tl)(hu:PO X hi th):PE X (.Subscript e (.Slice lo hi none p2) pos) (Z4 r te tl th):=by
 intro pins s σ H Q I h
 refine Subscript_ (gI (he pins s σ H _ I h) fun v s1 ⟨x,H1,I1,r1,q1⟩=>?_)
 refine wpAny_Slice (gI (hl pins s1 σ H1 _ I1 q1) fun vl s2 ⟨l,H2,I2,pl,q2⟩=>gI (hu pins s2 σ H2 _ I2 q2) fun vu s3 ⟨u,H3,I3,pu,q3⟩=>?_)
 rw[evalPart_none]
 refine ak ?_
 have I4:Inv X pins σ H3 {s3 with heap:=s3.heap.push {cls:=.type "slice",data:=.fields #[vl,vu,.none]}}:=I3.kept (t':=s3.toks) fun b ob q=>ay _ q
 obtain ⟨T,id,hT,ht,hg⟩:=hr pins {s3 with heap:=s3.heap.push {cls:=.type "slice",data:=.fields #[vl,vu,.none]}} σ H3 x v vl vu l u s3.heap.objs.size Q I4 r1 (bU.IsSliceOf.new ..) pl pu q3
 show wpAny (model X.prog X.w) X.A (subscriptTail e (.Slice lo hi none p2) v (.ref s3.heap.objs.size)) (EP X pins σ Q) X.xe {s3 with heap:=s3.heap.push {cls:=.type "slice",data:=.fields #[vl,vu,.none]}}
 exact tail_any (ops:=[.ref s3.heap.objs.size,v]) ht hT hg (by with_unfolding_all rfl)
def zZ (xs:List V)(lo hi:Option Int):List V:=(xs.drop (HT.Ag xs.length 0 lo)).take (HT.Ag xs.length xs.length hi - HT.Ag xs.length 0 lo)
theorem E4 (xs:List V)(lo hi:Option Int):(zZ xs lo hi).length≤xs.length:=by
 unfold zZ
 rw[bM,cq]
 omega
end
def Mm (n:Nat)(i:Int):Option Nat:=if 0≤i then (if i<n then some i.toNat else none) else if -(n:Int)≤i then some (i+n).toNat else none
def Ia {α:Type}(xs:List α)(i:Int):Option α:=(Mm xs.length i).bind fun j=>xs[j]?
theorem Jl {n:Nat}{i:Int}{j:Nat}(h:Mm n i=some j):seqIndex? i n=some j∧j<n∧-(n:Int)≤i∧i<n:=by
 unfold Mm at h
 by_cases h0:0≤i
 ·rw[if_pos h0] at h
  by_cases h1:i<n
  ·rw[if_pos h1] at h
   have e:i.toNat=j:=aJ h
   exact ⟨by rw[Q8 h0 h1,e],by omega,by omega,h1⟩
  ·rw[if_neg h1] at h;cases h
 ·rw[if_neg h0] at h
  by_cases h1:-(n:Int)≤i
  ·rw[if_pos h1] at h
   have e:(i+n).toNat=j:=aJ h
   exact ⟨by rw[Ob (by omega) h1,e],by omega,h1,by omega⟩
  ·rw[if_neg h1] at h;cases h
theorem JF {α:Type}{xs:List α}{i:Int}{v:α}(h:Ia xs i=some v):∃ j,seqIndex? i xs.length=some j∧xs[j]?=some v∧j<xs.length∧-(xs.length:Int)≤i∧i<xs.length:=by
 unfold Ia at h
 cases e:Mm xs.length i with
 | none=>rw[e] at h;cases h
 | some j =>
  rw[e] at h
  obtain ⟨h1,h2,h3,h4⟩:=Jl e
  exact ⟨j,h1,h,h2,h3,h4⟩
theorem cg {α:Type}{xs:List α}{j:Nat}{v:α}(h:xs[j]?=some v):Ia xs (j:Int)=some v:=by
 have hj:j<xs.length:=(bT.mp h).1
 have e:Mm xs.length (j:Int)=some j:=by
  unfold Mm
  rw[if_pos (by omega),if_pos (by omega)];simp
 unfold Ia;rw[e];exact h
def Tj (b:Expr):Prop:=∀ o i,subscripted b false o i=operate [o,i] (getItem o i)
def YY (X:Cx)(r:R2):Prop :=
 ∀ (value slice:Expr) (pins:List (aj×fA)) (s:au) (σ:St) (H:Hp) (x y:V) (v u:ag) (Q:VK),Inv X pins σ H s→RelV x v→RelV y u→r x y H Q →
  subscripted slice false v u=operate [v,u] (getItem v u)→wpAny (model X.prog X.w) X.A (subscriptTail value slice v u) (EP X pins σ Q) X.xe s
def MtR (X:Cx)(id:String)(r:V→List V→Hp→VK→Prop):Prop :=
 ∀ (pins:List (aj×fA)) (s:au) (σ:St) (H:Hp) (x:V) (xs:List V) (v:ag) (us:List ag) (Q:VK),Inv X pins σ H s→RelV x v→df xs us→r x xs H Q →
  wpAny (model X.prog X.w) X.A (call (.builtin id) (v::us)) (EP X pins σ Q) X.xe s
section
variable {X:Cx}{a b:Expr}{ta tb:TE}{pos:jK}
theorem cy {r:R2}(hr:YY X r)(ha:PE X a ta)(hb:PE X b tb)(hs:Tj b):PE X (.Subscript a b pos) (Yi r ta tb):=by
 intro pins s σ H Q I h
 exact Subscript_ (U3 ha hb I h fun v u s2 x y H2 I2 rx ry q=>hr a b pins s2 σ H2 x y v u Q I2 rx ry q (hs _ _))
def J7 (K:ai):R2:=fun x y H Q=>∃ p xs i v,x=.ref p∧y=.int i∧cG K H p xs∧Ia xs i=some v∧Q v H
def C6 (K:ai):R2:=fun x y H Q=>∃ p xs i v,x=.ref p∧y=.int i∧fN K H p xs∧Ia xs i=some v∧Q v H
theorem cJ:YY X (J7 X.K):=by
 intro value slice pins s σ H x y v u Q I rx ry h hs
 obtain ⟨p,xs,i,z,rfl,rfl,hq,he,q⟩:=h
 cases rx
 obtain ⟨t,rfl⟩:=ry
 obtain ⟨its,r,pl,hz⟩:=I.list hq
 obtain ⟨j,h1,h2,h3,h4,h5⟩:=JF he
 obtain ⟨w,ew,rw'⟩:=r.get h2
 have hl:=r.length
 have hn:=BH
 have fin:EP X pins σ Q w s:=⟨z,H,I,rw',q⟩
 by_cases h0:0≤i
 ·have hj:i.toNat=j:=by
   rw[Q8 h0 h5] at h1
   exact aJ h1
  exact item_listR pl.isList h0 (by omega) (by rw[hj];simpa using ew) fin hs
 ·have hj:(i+(its.toArray.size:Int)).toNat=j:=by
   rw[Ob (by omega) h4] at h1
   rw[bA,← hl]
   exact aJ h1
  exact Qp (x:=w) pl.isList.typeIs slot_list_getitem.lookup
   (wpAny_getItem_list_neg (Q:=fun r s'=>r=w∧EP X pins σ Q r s') pl.isList (by omega) (by rw[bA]<;>omega) (by omega) (by rw[hj];simpa using ew) ⟨rfl,fin⟩) hs
theorem dO:YY X (C6 X.K):=by
 intro value slice pins s σ H x y v u Q I rx ry h hs
 obtain ⟨p,xs,i,z,rfl,rfl,hq,he,q⟩:=h
 cases rx
 obtain ⟨t,rfl⟩:=ry
 obtain ⟨its,r,pl,hz⟩:=I.tuple hq
 obtain ⟨j,h1,h2,h3,h4,h5⟩:=JF he
 obtain ⟨w,ew,rw'⟩:=r.get h2
 have hl:=r.length
 have hn:=BH
 have fin:EP X pins σ Q w s:=⟨z,H,I,rw',q⟩
 exact Qp (x:=w) pl.typeIs slot_tuple_getitem.lookup
  (getItem_tuple (j:=j) (Q:=fun r s'=>r=w∧EP X pins σ Q r s') pl (by omega) (by omega) (by rw[bA,← hl];exact h1) (by simpa using ew) ⟨rfl,fin⟩) hs
theorem Hm (its:List ag)(n j:Nat)(u:ag):fA.mapSeq (·.setIfInBounds j u) {cls:=.type "list",data:=.seq its.toArray n}={cls:=.type "list",data:=.seq (its.set j u).toArray n}:=by
 simp[fA.mapSeq]
theorem Inv.lst {pins:List (aj×fA)}{σ:St}{H:Hp}{s:au}{p:aj}{xs:List V}(I:Inv X pins σ H s)(h:H p=some (.lst xs)) :
  ∃ (its:List ag) (n:Nat),df xs its∧s.heap.get? p=some {cls:=.type "list",data:=.seq its.toArray n}∧xs.length≤aA:=by
 obtain ⟨z,its,n,r,e⟩:=I.fj p _ h
 exact ⟨its,n,r,e,z⟩
theorem Inv.VM {pins:List (aj×fA)}{σ:St}{H:Hp}{s:au}{p:aj}{xs ys:List V}{its its':List ag}{n n':Nat}{f:fA→fA}(I:Inv X pins σ H s)(h:H p=some (.lst xs))
  (ho:s.heap.get? p=some {cls:=.type "list",data:=.seq its.toArray n})(hf:f {cls:=.type "list",data:=.seq its.toArray n}={cls:=.type "list",data:=.seq its'.toArray n'})(r:df ys its')(hz:ys.length≤aA)(t:Nat) :
  Inv X pins σ (upd H p (.lst ys)) {s with heap:=s.heap.update p f,toks:=t}:=by
 have e:(s.heap.update p f).get? p=some {cls:=.type "list",data:=.seq its'.toArray n'}:=by
  rw[cQ f ho (by rw[hf]<;>rfl),hf]
 refine I.write (x:=p) (e:=p) (by rw[h];trivial) (.inl rfl) (fun b u hb q=>(dC _ _ (gU hb)).trans q) ⟨_,e⟩ ?_
 exact ⟨hz,its',n',r,e⟩
def Xw:V→V→V→Hp→(Hp→Prop)→Prop:=fun o i v H Q=>∃ p xs k j,o=.ref p∧i=.int k∧H p=some (.lst xs)∧Mm xs.length k=some j∧Q (upd H p (.lst (xs.set j v)))
theorem set_list:Xe X Xw:=by
 intro pins s σ H o i v ov iv u Q I ro ri rv h
 obtain ⟨p,xs,k,j,rfl,rfl,hp,hj,q⟩:=h
 cases ro
 obtain ⟨t,rfl⟩:=ri
 obtain ⟨its,n,r,ho,hz⟩:=I.lst hp
 obtain ⟨h1,h2,h3,h4⟩:=Jl hj
 have hl:=r.length
 have hn:=BH
 have I':Inv X pins σ (upd H p (.lst (xs.set j v))) {s with heap:=s.heap.update p (fA.mapSeq (·.setIfInBounds j u))} :=
  I.VM hp ho (Hm its n j u) (r.set rv j) (by rw[lP];exact hz) s.toks
 by_cases h0:0≤k
 ·have hk:k.toNat=j:=by
   rw[Q8 h0 h4] at h1
   exact aJ h1
  exact PySem.W.ki_setAt ho h0 (by omega) (by rw[bA,← hl];exact h4) (by rw[hk];exact ⟨_,I',q⟩)
 ·have hk:(k+(its.toArray.size:Int)).toNat=j:=by
   rw[Ob (by omega) h3] at h1
   rw[bA,← hl]
   exact aJ h1
  exact PySem.W.ki_setBack ho (by omega) (by rw[bA,← hl];exact h3) (by omega) (by rw[hk];exact ⟨_,I',q⟩)
theorem Cy (lo hi:Option Int)(n:Nat):(sliceBounds lo hi none n).1=((HT.Ag n 0 lo:Nat):Int)∧(sliceBounds lo hi none n).2.1=((HT.Ag n n hi:Nat):Int)∧(sliceBounds lo hi none n).2.2=1:=by
 refine ⟨?_,?_,rfl⟩
 ·cases lo with
  | none=>simp[sliceBounds,HT.Ag]
  | some i =>
   simp only[sliceBounds,HT.Ag,Mg,show (1:Int) > 0 by decide,if_true]
   by_cases h:i<0
   ·simp only[h,if_true]<;>omega
   ·simp only[h,if_false]<;>omega
 ·cases hi with
  | none=>simp[sliceBounds,HT.Ag]
  | some i =>
   simp only[sliceBounds,HT.Ag,Mg,show (1:Int) > 0 by decide,if_true]
   by_cases h:i<0
   ·simp only[h,if_true]<;>omega
   ·simp only[h,if_false]<;>omega
theorem z8 (its:List ag)(lo hi:Option Int):slicePick its.toArray lo hi none=((its.drop (HT.Ag its.length 0 lo)).take (HT.Ag its.length its.length hi - HT.Ag its.length 0 lo)).toArray:=by
 obtain ⟨h1,h2,h3⟩:=Cy lo hi its.toArray.size
 unfold slicePick
 rw[h1,h2,h3]
 simp only[sliceRange_one,pick_run,bA]<;>rfl
def Y9 (K:ai):V→Option Int→Option Int→Hp→VK→Prop:=fun x lo hi H Q=>∃ a xs,x=.ref a∧cG K H a xs∧∀ p,H p=none→Q (.ref p) (upd H p (.lst (zZ xs lo hi)))
theorem rT:ZM X (Y9 X.K):=by
 intro pins s σ H x v vl vu lo hi sl Q I rx hs pl pu h
 obtain ⟨a,xs,rfl,hx,q⟩:=h
 cases rx
 obtain ⟨its,r,ht,hz⟩:=I.list hx
 have hlen:=r.length
 refine ⟨"list",_,slot_list_getitem.lookup,ht.isList.typeIs,?_⟩
 refine wpAny_getItem_list_slice ht.isList hs pl pu .none (by simp) ?_ (by rw[bA]<;>omega)
 rw[z8,← hlen]
 refine ⟨.ref s.heap.objs.size,_,I.laid (t':=s.toks) (o:=.lst (zZ xs lo hi)) (fun b ob q=>ay _ q) (aL _) ?_,rfl,q _ (I.fj.fresh (aL _))⟩
 exact ⟨aD (E4 xs lo hi) hz,_,0,(r.drop (HT.Ag xs.length 0 lo)).take (HT.Ag xs.length xs.length hi - HT.Ag xs.length 0 lo),aH _ rfl⟩
def uB:V→Bool
 | .hC=>true
 | .bl _=>true
 | .int _=>true
 | .str _=>true
 | _=>false
def Ua:V→V→Bool
 | .hC,.hC=>true
 | .bl a,.bl b=>a==b
 | .bl a,.int b=>(if a then 1 else 0)==b
 | .int a,.bl b=>a==(if b then 1 else 0)
 | .int a,.int b=>a==b
 | .str a,.str b=>a==b
 | _,_=>false
theorem V5 {A:cA}{s:au}{y x:V}{u v:ag}(ry:RelV y u)(rx:RelV x v)(fy:uB y=true)(fx:uB x=true):mK A s u v (Ua y x):=by
 cases y with
 | hC =>
  cases ry
  cases x with
  | hC=>cases rx;exact HS _
  | bl b=>cases rx;exact mK.none_bool b
  | int b=>obtain ⟨t,rfl⟩:=rx;exact mK.none_int b t
  | str b=>obtain ⟨t,rfl⟩:=rx;exact mK.none_str b t
  | _=>exact absurd (show false=true from fx) bg
 | bl a =>
  cases ry
  cases x with
  | hC=>cases rx;exact mK.bool_none a
  | bl b=>cases rx;exact mK.bool_bool a b
  | int b=>obtain ⟨t,rfl⟩:=rx;exact mK.bool_int a b t
  | str b=>obtain ⟨t,rfl⟩:=rx;exact mK.bool_str a b t
  | _=>exact absurd (show false=true from fx) bg
 | int a =>
  obtain ⟨t',rfl⟩:=ry
  cases x with
  | hC=>cases rx;exact mK.int_none a t'
  | bl b=>cases rx;exact mK.int_bool a t' b
  | int b=>obtain ⟨t,rfl⟩:=rx;exact C1 a t' b t
  | str b=>obtain ⟨t,rfl⟩:=rx;exact C0 a t' b t
  | _=>exact absurd (show false=true from fx) bg
 | str a =>
  obtain ⟨t',rfl⟩:=ry
  cases x with
  | hC=>cases rx;exact mK.str_none a t'
  | bl b=>cases rx;exact mK.str_bool a t' b
  | int b=>obtain ⟨t,rfl⟩:=rx;exact CZ a t' b t
  | str b=>obtain ⟨t,rfl⟩:=rx;exact mK.str_str a t' b t
  | _=>exact absurd (show false=true from fx) bg
 | _=>exact absurd (show false=true from fy) bg
def QV (x:V)(u:ag):Bool:=match u with
 | .none=>Ua .hC x
 | .bool b=>Ua (.bl b) x
 | .int i _=>Ua (.int i) x
 | .str z _=>Ua (.str z) x
 | _=>false
theorem NX {x y:V}{u:ag}(r:RelV y u)(f:uB y=true):QV x u=Ua y x:=by
 cases y with
 | hC=>cases r;rfl
 | bl b=>cases r;rfl
 | int i=>obtain ⟨t,rfl⟩:=r;rfl
 | str z=>obtain ⟨t,rfl⟩:=r;rfl
 | _=>exact absurd (show false=true from f) bg
theorem Ck {x:V}:∀ {xs:List V} {us:List ag},df xs us→xs.all uB=true→us.any (QV x)=xs.any fun y=>Ua y x
 | _,_,.nil,_=>rfl
 | y::xs,u::us,.cons r t,f=>by
  rw[jx,bx] at f
  rw[jw,jw,NX r f.1,Ck t f.2]
theorem yR {A:cA}{s:au}{x:V}{v:ag}(rx:RelV x v)(fx:uB x=true):∀ {xs:List V} {us:List ag},df xs us→xs.all uB=true→∀ u∈us,mK A s u v (QV x u)
 | _,_,.nil,_=>fun u hu=>by cases hu
 | y::xs,u::us,.cons r t,f=>fun u' hu=>by
  rw[jx,bx] at f
  rcases aI.mp hu with rfl | hu
  ·rw[NX r f.1];exact V5 r rx f.1 fx
  ·exact yR rx fx t f.2 u' hu
def WM (x:V)(xs:List V):Bool:=xs.any fun y=>Ua y x
def ZK (K:ai)(neg:Bool):R2:=fun x y H Q=>∃ p xs,y=.ref p∧(cG K H p xs∨fN K H p xs)∧uB x=true∧xs.all uB=true∧Q (.bl (if neg then !WM x xs else WM x xs)) H
theorem CA:xP X (compareOp .NotIn) (ZK X.K true):=by
 intro pins s σ H x y v u Q I rx ry h
 obtain ⟨p,xs,rfl,hq,fx,fs,q⟩:=h
 cases ry
 rcases hq with hq | hq
 ·obtain ⟨its,r,pl,hz⟩:=I.list hq
  refine SeqAt.notIn_listAt (QV x) pl.isList (fun w hw=>yR rx fx r fs w (by simpa using hw)) ⟨.bl _,H,I,rfl,?_⟩
  rw[show its.toArray.any (QV x)=its.any (QV x) by simp,Ck r fs]
  exact q
 ·obtain ⟨its,r,pl,hz⟩:=I.tuple hq
  refine SeqAt.notIn_tupleAt (QV x) pl (fun w hw=>yR rx fx r fs w (by simpa using hw)) ⟨.bl _,H,I,rfl,?_⟩
  rw[show its.toArray.any (QV x)=its.any (QV x) by simp,Ck r fs]
  exact q
theorem bD:lC X (.builtin "len") (fun xs H Q=>∃ p ys,xs=[.ref p]∧(cG X.K H p ys∨fN X.K H p ys)∧Q (.int ys.length) H):=by
 intro pins s σ H xs us Q I r h
 obtain ⟨p,ys,rfl,hq,q⟩:=h
 obtain ⟨u,rfl,rx⟩:=vals1 r
 cases rx
 have hn:=BH
 rcases hq with hq | hq
 ·obtain ⟨its,r',pl,hz⟩:=I.list hq
  have hlen:=r'.length
  exact Calls.call_len_list pl.isList (by simp only[bA]<;>omega) ⟨.int ys.length,H,I.tok _,⟨s.toks+1,by rw[bA,hlen]⟩,q⟩
 ·obtain ⟨its,r',pl,hz⟩:=I.tuple hq
  have hlen:=r'.length
  exact len_tuple pl (by simp only[bA]<;>omega) ⟨.int ys.length,H,I.tok _,⟨s.toks+1,by rw[bA,hlen]⟩,q⟩
theorem CI:lC X (.type "list") (fun xs H Q=>∃ p ys,xs=[.ref p]∧(cG X.K H p ys∨fN X.K H p ys)∧∀ l,H l=none→Q (.ref l) (upd H l (.lst ys))):=by
 intro pins s σ H xs us Q I r h
 obtain ⟨p,ys,rfl,hq,q⟩:=h
 obtain ⟨u,rfl,rx⟩:=vals1 r
 cases rx
 have fin:∀ (its:List ag),df ys its→ys.length≤aA→∀ (h':bU) (c':Nat),(∀ b o',s.heap.get? b=some o'→h'.get? b=some o') →
   h'.get? s.heap.objs.size=some {cls:=.type "list",dict:=none,data:=.seq its.toArray c',slots:=#[]}→EP X pins σ Q (.ref s.heap.objs.size) {s with heap:=h'}:=fun its r' hz h' c' kp e =>
  ⟨.ref s.heap.objs.size,_,I.laid (t':=s.toks) kp (aL _) (show fM X.prog X.w _ h' _ (.lst ys) from ⟨hz,its,c',r',e⟩),rfl,q _ (I.fj.fresh (aL _))⟩
 rcases hq with hq | hq
 ·obtain ⟨its,r',pl,hz⟩:=I.list hq
  have hlen:=r'.length
  obtain ⟨o,ho,hc,n,hd⟩:=pl.isList
  exact call_list_seq p (.inl rfl) ho hc hd (fun h' c' kp e=>fin its r' hz h' c' kp e) (by simp only[bA]<;>omega)
 ·obtain ⟨its,r',pl,hz⟩:=I.tuple hq
  have hlen:=r'.length
  obtain ⟨o,ho,hc,n,hd⟩:=pl
  exact call_list_seq p (.inr rfl) ho hc hd (fun h' c' kp e=>fin its r' hz h' c' kp e) (by simp only[bA]<;>omega)
theorem Ab:lC X (.type "tuple") (fun xs H Q=>∃ p ys,xs=[.ref p]∧((cG X.K H p ys∧∀ l,H l=none→Q (.ref l) (upd H l (.tup ys)))∨(fN X.K H p ys∧Q (.ref p) H))):=by
 intro pins s σ H xs us Q I r h
 obtain ⟨p,ys,rfl,h⟩:=h
 obtain ⟨u,rfl,rx⟩:=vals1 r
 cases rx
 rcases h with ⟨hq,q⟩ | ⟨hq,q⟩
 ·obtain ⟨its,r',pl,hz⟩:=I.list hq
  have hlen:=r'.length
  refine call_tuple_list pl.isList (fun h' kp=>?_) (by simp only[bA]<;>omega)
  have I1:Inv X pins σ H {s with heap:=h'}:=I.kept (t':=s.toks) kp
  have I2:Inv X pins σ (upd H h'.objs.size (.tup ys)) {s with heap:=h'.push {cls:=.type "tuple",data:=.seq its.toArray}} :=
   I1.laid (t':=s.toks) (fun b o e=>ay _ e) (aL _) (show fM X.prog X.w _ _ _ (.tup ys) from ⟨hz,its,r',qo.new _ _⟩)
  exact ⟨.ref h'.objs.size,_,I2,rfl,q _ (I1.fj.fresh (aL _))⟩
 ·obtain ⟨its,r',pl,hz⟩:=I.tuple hq
  exact call_tuple_same pl ⟨.ref p,H,I,rfl,q⟩
def ZH (K:ai)(T:String)(x:V)(H:Hp):Prop:=match x with
 | .str _=>T="str"
 | .int _=>T="int"
 | .ref p=>(T="list"∧∃ xs,cG K H p xs)∨(T="tuple"∧∃ o,K.lookup p=some o∧o.cls=.type "tuple"∧o.dict=none) ∨
   (T="dict"∧((∃ kvs,H p=some (.dK kvs))∨∃ kvs,H p=some (.dT kvs)))∨(T="set"∧∃ S n,H p=some (.set S n))
 | _=>False
theorem U8 {pins:List (aj×fA)}{σ:St}{H:Hp}{s:au}{T:String}{x:V}{v:ag}(I:Inv X pins σ H s)(r:RelV x v)(ty:ZH X.K T x H) :
  s.TypeIs v T∧∀ a,v=.ref a→∃ ob,s.heap.get? a=some ob∧ob.dict=none:=by
 cases x with
 | str z =>
  obtain ⟨t,rfl⟩:=r
  cases (show T="str" from ty)
  exact ⟨typeIs_str s z t,fun _ e=>nomatch e⟩
 | int i =>
  obtain ⟨t,rfl⟩:=r
  cases (show T="int" from ty)
  exact ⟨typeIs_int s i t,fun _ e=>nomatch e⟩
 | ref p =>
  cases r
  rcases ty with ⟨rfl,xs,hq⟩ | ⟨rfl,o,hk,hc,hd⟩ | ⟨rfl,hk⟩ | ⟨rfl,S,n,hk⟩
  ·obtain ⟨its,_,pl,_⟩:=I.list hq
   refine ⟨pl.isList.typeIs,fun a e=>?_⟩
   cases e
   obtain ⟨o,n,e,c,hd,_⟩:=pl
   exact ⟨o,e,hd⟩
  ·refine ⟨⟨o,I.HY p o hk,hc⟩,fun a e=>?_⟩
   cases e
   exact ⟨o,I.HY _ o hk,hd⟩
  ·have z:∃ o,s.heap.get? p=some o∧o.ExactDict:=by
    rcases hk with ⟨kvs,hk⟩ | ⟨kvs,hk⟩
    ·obtain ⟨_,_,_,_,o,_,_,e,ex,_⟩:=I.fj p _ hk
     exact ⟨o,e,ex⟩
    ·obtain ⟨_,_,_,_,o,_,_,e,ex,_⟩:=I.fj p _ hk
     exact ⟨o,e,ex⟩
   obtain ⟨o,e,ex⟩:=z
   refine ⟨⟨o,e,ex.1⟩,fun a e2=>?_⟩
   cases e2
   exact ⟨o,e,ex.2.1⟩
  ·obtain ⟨o,_,_,_,e,ex,_⟩:=I.fj p _ hk
   refine ⟨⟨o,e,ex.1⟩,fun a e2=>?_⟩
   cases e2
   exact ⟨o,e,ex.2.1⟩
 | _=>exact fg ty
def Z7 (K:ai)(T:String)(r:V→List V→Hp→VK→Prop)(to:TE)(t:TA):TE:=fun σ H Q=>to σ H fun x H1=>ZH K T x H1∧t σ H1 fun xs H2=>r x xs H2 Q
variable {o e:Expr}{es:List Expr}{to:TE}{t:TA}{name:cp}{apos jB:jK}{T id:String}{r:V→List V→Hp→VK→Prop}
theorem jL (pa:PlainAttrs T)(slot:Slot T name id)(hty:typeOf (.builtin id)=pure (.type "method_descriptor"))(hm:MtR X id r)(ho:PE X o to)(ha:PA X (e::es) t)
  (hbase:iZ o name X.env (eval o X.env)=eval o X.env:=by rfl)
  (hfew:((backTo jB (bQ (e::es) X.env)).all (fun x=>!x.1)&&(backToKw jB (keywordEach [] X.env)).all (fun x=>x.1.isSome)
   && decide ((e::es).length+([]:List Mz).length+(if ([]:List Mz).isEmpty then 0 else 1)<30))=true:=by rfl)
  (hline:(apos.endLine==jB.line)=true:=by rfl)(hs:bQ (e::es) X.env=(false,eval e X.env)::bQ es X.env:=by rfl)(hplain:(backTo jB (bQ es X.env)).any (·.1)=false:=by rfl) :
  PE X (.Call (.Attribute o name apos) (e::es) [] jB) (Z7 X.K T r to t):=by
 intro pins s σ H Q I h
 refine wpAny_Call_method_late hbase hfew hline rfl (gI (ho pins s σ H _ I h) fun v s1 ⟨x,H1,I1,r1,ty,q1⟩=>?_)
 obtain ⟨h1,h2⟩:=U8 I1 r1 ty
 refine ⟨T,id,pa,slot,hty,h1,h2,?_⟩
 have hA:=ha jB pins s1 σ H1 _ I1 q1
 rw[hs] at hA ⊢
 refine Fj (by show (false||(backTo jB (bQ es X.env)).any (·.1))=false;rw[hplain]<;>rfl) (HV ?_)
 exact gI hA fun us s2 ⟨vs,H2,I2,r2,q2⟩=>hm pins s2 σ H2 x vs v us Q I2 r1 r2 q2
end
def ZN (X:Cx)(id:String)(r:V→List V→Hp→VK→Prop):Prop :=
 ∀ (pins:List (aj×fA)) (s:au) (σ:St) (H:Hp) (x:V) (xs:List V) (v:ag) (us:List ag) (Q:VK),Inv X pins σ H s→RelV x v→df xs us→r x xs H Q →
  wpAny (model X.prog X.w) X.A (call (.builtin id) (v::us)) (EP X pins σ Q) X.xe s
theorem df.one:∀ {x:V} {us:List ag},df [x] us→∃ u,us=[u]∧RelV x u
 | _,_,.cons r .nil=>⟨_,rfl,r⟩
section
variable {X:Cx}{pins:List (aj×fA)}{σ:St}{H:Hp}{s:au}{l b:aj}{xs ys zs:List V}
theorem Inv.W6 {its its':List ag}{n:Nat}{f:Array ag→Array ag}{t':Nat}(I:Inv X pins σ H s)(hH:H l=some (.lst xs))
  (e:s.heap.get? l=some {cls:=.type "list",data:=.seq its.toArray n})(hf:f its.toArray=its'.toArray)(hv:df ys its')(hz:ys.length≤aA) :
  Inv X pins σ (upd H l (.lst ys)) {s with heap:=s.heap.update l (fA.mapSeq f),toks:=t'}:=by
 have q:=PySem.IsL.update e f
 rw[hf] at q
 refine I.write (x:=l) (e:=l) (by rw[hH];exact trivial) (.inl rfl) (fun b' u hb hu=>(dC s.heap (fA.mapSeq f) (gU hb)).trans hu) ⟨_,q⟩ ?_
 exact ⟨hz,its',_,hv,q⟩
theorem Inv.Zg {its:List ag}{t':Nat}(I:Inv X pins σ H s)(hv:df ys its)(hz:ys.length≤aA) :
  Inv X pins σ (upd H s.heap.objs.size (.lst ys)) {s with heap:=s.heap.push {cls:=.type "list",data:=.seq its.toArray},toks:=t'} :=
 I.laid (fun _ _ q=>ay _ q) (aL _) ⟨hz,its,0,hv,aH _ rfl⟩
theorem Inv.fresh (I:Inv X pins σ H s):H s.heap.objs.size=none:=I.fj.fresh (aL _)
theorem Inv.Mu (I:Inv X pins σ H s)(hH:H l=some (.lst xs)):xs.length≤aA∧∃ (its:List ag) (n:Nat),df xs its∧xs.length=its.length∧s.heap.get? l=some {cls:=.type "list",data:=.seq its.toArray n}:=by
 obtain ⟨z,its,n,r,e⟩:=I.fj l _ hH
 exact ⟨z,its,n,r,r.length,e⟩
theorem O6 {n:Nat}(h:n≤aA):lT n=false:=by
 unfold lT
 exact decide_eq_false (by omega)
end
section
variable {X:Cx}
def Ru:V→List V→Hp→VK→Prop:=fun x vs H Q=>∃ l xs y,x=.ref l∧vs=[y]∧H l=some (.lst xs)∧xs.length<aA∧Q .hC (upd H l (.lst (xs++[y])))
theorem gB:ZN X "list.append" Ru:=by
 intro pins s σ H x vs v us Q I rx rv h
 obtain ⟨l,xs,y,rfl,rfl,hH,hz,q⟩:=h
 cases rx
 obtain ⟨u,rfl,ru⟩:=rv.one
 obtain ⟨z,its,n,r,hl,e⟩:=I.Mu hH
 refine GJ F.slot_list_append ⟨_,e,rfl⟩ F.entry_list_append (F.args_list_append_2 _ _) (PySem.list_append l its.toArray n u (by rw[bA];omega)) ⟨e,?_⟩
 refine ⟨.hC,_,I.W6 (its':=its++[u]) hH e (by simp) (r.append (.cons ru .nil)) ?_,rfl,q⟩
 rw[aK,gP]
 omega
def Rt:V→List V→Hp→VK→Prop:=fun x vs H Q=>∃ l b xs zs,x=.ref l∧vs=[.ref b]∧H l=some (.lst xs)∧H b=some (.lst zs)∧xs.length+zs.length≤aA∧Q .hC (upd H l (.lst (xs++zs)))
theorem lN:ZN X "list.extend" Rt:=by
 intro pins s σ H x vs v us Q I rx rv h
 obtain ⟨l,b,xs,zs,rfl,rfl,hH,hB,hz,q⟩:=h
 cases rx
 obtain ⟨u,rfl,ru⟩:=rv.one
 cases ru
 obtain ⟨z,its,n,r,hl,e⟩:=I.Mu hH
 obtain ⟨z2,its2,n2,r2,hl2,e2⟩:=I.Mu hB
 have hsz:its.toArray.size+its2.toArray.size≤aA:=by rw[bA,bA];omega
 have hlong:¬ (!its.toArray.isEmpty&&lT (its.toArray.size+its2.toArray.size))=true:=by
  rw[O6 hsz,Bool.and_false]
  exact bg
 refine GJ F.slot_list_extend ⟨_,e,rfl⟩ F.entry_list_extend (F.args_list_extend_2 _ _)
  (AutoSeq1.list_extend_list_list_0 l its.toArray n b its2.toArray n2 hlong (by rw[bA];omega) (by omega)) ⟨e,e2,?_⟩
 refine ⟨.hC,_,I.W6 (its':=its++its2) hH e (by simp) (r.append r2) ?_,rfl,q⟩
 rw[aK]
 omega
def W4:R2:=fun x y H Q=>∃ l b xs zs,x=.ref l∧y=.ref b∧H l=some (.lst xs)∧H b=some (.lst zs)∧xs.length+zs.length≤aA∧∀ p,H p=none→Q (.ref p) (upd H p (.lst (xs++zs)))
theorem jk:xP X (binaryOp .Add) W4:=by
 intro pins s σ H x y v u Q I rx ry h
 obtain ⟨l,b,xs,zs,rfl,rfl,hH,hB,hz,q⟩:=h
 cases rx
 cases ry
 obtain ⟨z,its,n,r,hl,e⟩:=I.Mu hH
 obtain ⟨z2,its2,n2,r2,hl2,e2⟩:=I.Mu hB
 refine PySem.P.add_list e e2 ?_ (by rw[bA,bA];omega)
 have ea:its.toArray++its2.toArray=(its++its2).toArray:=by simp
 rw[ea]
 exact ⟨.ref _,_,I.Zg (t':=s.toks) (r.append r2) (by rw[aK];omega),rfl,q _ I.fresh⟩
end
section
variable {prog:aY}{w:bO}{A:cA}{E:ag→au→Prop}{s:au}
end
section
variable {X:Cx}
end
theorem df.ints:∀ {ns:List Int} {us:List ag},df (ns.map V.int) us→eK us ns
 | [],us,h=>by
  rw[fC] at h
  cases h
  exact eK.nil
 | n::ns,us,h=>by
  rw[bo] at h
  cases h with
  | cons r t =>
   obtain ⟨k,rfl⟩:=r
   exact eK.cons n k (df.ints t)
theorem pT:∀ {us:List ag} {ns:List Int},eK us ns→df (ns.map V.int) us
 | _,_,.nil=>by rw[fC];exact Paired.nil
 | _,_,.cons n t h=>by rw[bo];exact Paired.cons (show RelV (V.int n) (ag.int n t) from ⟨t,rfl⟩) (pT h)
theorem df.YV:∀ {bs:List Bool} {us:List ag},df (bs.map V.bl) us→us=bs.map ag.bool
 | [],us,h=>by
  rw[fC] at h
  cases h
  rfl
 | b::bs,us,h=>by
  rw[bo] at h
  cases h with
  | cons r t =>
   cases r
   rw[df.YV t,bo]
theorem df.xw {a:aj}{us:List ag}(r:df [V.ref a] us):us=[ag.ref a]:=by
 cases r with
 | cons r t =>
  cases t
  cases r
  rfl
section
variable {prog:aY}{w:bO}{A:cA}{E:ag→au→Prop}{s:au}{l:aj}{its:List ag}{ns:List Int}{Q:ag→au→Prop}
theorem Rh (hh:A.handled=none)(hl:s.heap.IsList l its.toArray)(hi:eK its ns)
  (h:∀ h' tk t',(∀ b o,s.heap.get? b=some o→h'.get? b=some o)→Q (.int ns.sum t') {s with heap:=h',toks:=tk}):wpAny (model prog w) A (call (.builtin "sum") [.ref l]) Q E s:=by
 obtain ⟨xs,e⟩:=hi.allInts.items
 have hn:numsOf (intItems xs).toList=ns:=by rw[← e];exact hi.numsOf
 rw[nums_intItems] at hn
 rw[e] at hl
 refine PySem.sum_intListG hh hl fun h' tk t' hk=>?_
 have:=h h' tk t' hk
 rw[preSum_eq,Ft (by simp),hn];exact this
theorem RY (hh:A.handled=none)(hl:s.heap.IsList l its.toArray)(hi:eK its ns)(hne:0<ns.length)
  (h:∀ h' tk M t',(∀ b o,s.heap.get? b=some o→h'.get? b=some o)→M∈ns→(∀ a,a∈ns→M≤a)→Q (.int M t') {s with heap:=h',toks:=tk}):wpAny (model prog w) A (call (.builtin "min") [.ref l]) Q E s:=by
 obtain ⟨xs,e⟩:=hi.allInts.items
 have hn:numsOf (intItems xs).toList=ns:=by rw[← e];exact hi.numsOf
 rw[nums_intItems] at hn
 subst hn
 rw[e] at hl
 have hsz:0<xs.size:=by simpa using hne
 refine PySem.min_intList hh hl hsz fun v h' tk hv hk=>?_
 obtain ⟨t,rfl⟩:=intItems_at hv
 obtain ⟨h1,h2⟩:=argBest_lt (numAt xs) (xs.size - 1)
 refine h h' tk _ t hk ?_ fun a ha=>?_
 ·rw[numAt_eq];exact PySem.getD_mem (by rw[ae,cM];omega)
 ·obtain ⟨j,hj,rfl⟩:=mem_getD ha
  rw[ae,cM] at hj
  rw[← numAt_eq];exact h2 j (by omega)
end
section
variable {X:Cx}
def W2 (K:ai):List V→Hp→VK→Prop:=fun vs H Q=>∃ (a:aj) (ns:List Int),vs=[V.ref a]∧cG K H a (ns.map V.int)∧Q (.int ns.sum) H
def Za (K:ai):List V→Hp→VK→Prop:=fun vs H Q=>∃ (a:aj) (ns:List Int),vs=[V.ref a]∧cG K H a (ns.map V.int)∧0<ns.length∧∀ m,m∈ns→(∀ y,y∈ns→m≤y)→Q (.int m) H
theorem yA (hc:X.calm=true):lC X (.builtin "sum") (W2 X.K):=by
 intro pins s σ H vs us Q I r h
 obtain ⟨a,ns,rfl,hs,q⟩:=h
 obtain ⟨its,rv,hl,_⟩:=I.list hs
 rw[df.xw r]
 exact Rh (I.ok.hd hc) hl.isList rv.ints fun h' tk t' hk=>⟨.int _,H,I.kept hk,⟨_,rfl⟩,q⟩
theorem NZ (hc:X.calm=true):lC X (.builtin "min") (Za X.K):=by
 intro pins s σ H vs us Q I r h
 obtain ⟨a,ns,rfl,hs,hne,q⟩:=h
 obtain ⟨its,rv,hl,_⟩:=I.list hs
 rw[df.xw r]
 exact RY (I.ok.hd hc) hl.isList rv.ints hne fun h' tk m t' hk h1 h2=>⟨.int _,H,I.kept hk,⟨_,rfl⟩,q m h1 h2⟩
end
section
variable {X:Cx}
end
section
variable {X:Cx}
end
theorem Eh {prog:aY}{w:bO}{A:cA}{E:ag→au→Prop}{s:au}{l:aj}{items:Array ag}{Q:ag→au→Prop}(hl:s.heap.IsList l items)
  (h:∀ s₂:au,s₂={s with heap:=s.heap.push {cls:=.type "list_iterator",data:=.fields #[.ref l,.int 0 0]}} →
   (s₂.heap.IsListIter s.heap.objs.size l 0∧s₂.heap.IsList l items)→l≠s.heap.objs.size→Q (.ref s.heap.objs.size) s₂):wpAny (model prog w) A (pyIter (.ref l)) Q E s:=by
 have jV:l<s.heap.objs.size:=by obtain ⟨_,e,_⟩:=hl;exact aN e
 exact ig hl (h _ rfl ⟨⟨_,aH _ rfl,rfl,rfl⟩,hl.push _⟩ (ba jV))
theorem wX {prog:aY}{w:bO}{A:cA}{bs:List Bool}{its:List ag}(e:its=bs.map ag.bool) :
  TruthOf prog w A (fun i v=>its.toArray[i]?=some v) (fun i=>bs.getD i false):=fun i v s Q E hv hq=>by
 have hv':its[i]?=some v:=by simpa using hv
 rw[e,aO] at hv'
 obtain ⟨b,hb,rfl⟩:=fz.mp hv'
 have hg:bs.getD i false=b:=by rw[gN,hb]<;>rfl
 have hq':Q (bs.getD i false) s:=hq
 rw[hg] at hq'
 exact eY hq'
theorem any_range:∀ bs:List Bool,(bp bs.length).any (fun i=>bs.getD i false)=bs.any id
 | []=>rfl
 | b::bs=>by
  rw[aS,qA,jw,mH,jw,← any_range bs]
  all_goals rfl
theorem all_range:∀ bs:List Bool,(bp bs.length).all (fun i=>bs.getD i false)=bs.all id
 | []=>rfl
 | b::bs=>by
  rw[aS,qA,jx,Fo,jx,← all_range bs]
  all_goals rfl
section
variable {X:Cx}
def Zc (K:ai):List V→Hp→VK→Prop:=fun vs H Q=>∃ (a:aj) (bs:List Bool),vs=[V.ref a]∧cG K H a (bs.map V.bl)∧Q (.bl (bs.any id)) H
def Zd (K:ai):List V→Hp→VK→Prop:=fun vs H Q=>∃ (a:aj) (bs:List Bool),vs=[V.ref a]∧cG K H a (bs.map V.bl)∧Q (.bl (bs.all id)) H
theorem Wa (hc:X.calm=true):lC X (.builtin "any") (Zc X.K):=by
 intro pins s σ H vs us Q I r h
 obtain ⟨a,bs,rfl,hs,q⟩:=h
 obtain ⟨its,rv,hl,_⟩:=I.list hs
 rw[df.xw r]
 have hb:=rv.YV
 refine call_any_walk (Eh hl.isList fun s₂ e2 st hne=>?_)
 subst e2
 refine ⟨_,_,_,_,_,_,_,rfl,Walks.list (A:=X.A.in1) (I.ok.hd hc) _ a hne its.toArray,st,wX hb,fun h' tk hk=>?_⟩
 refine ⟨.bl _,H,I.kept fun b o eo=>hk b o (fun hmem=>?_) (ay _ eo),?_,q⟩
 ·rcases aI.mp hmem with e1 | hmem
  ·exact absurd (e1▸aN eo) (dn _)
  ·cases hmem
 ·show ag.bool _=ag.bool _
  rw[← any_range,hb,bA,ae]
theorem Gu (hc:X.calm=true):lC X (.builtin "all") (Zd X.K):=by
 intro pins s σ H vs us Q I r h
 obtain ⟨a,bs,rfl,hs,q⟩:=h
 obtain ⟨its,rv,hl,_⟩:=I.list hs
 rw[df.xw r]
 have hb:=rv.YV
 refine call_all_walk (Eh hl.isList fun s₂ e2 st hne=>?_)
 subst e2
 refine ⟨_,_,_,_,_,_,_,rfl,Walks.list (A:=X.A.in1) (I.ok.hd hc) _ a hne its.toArray,st,wX hb,fun h' tk hk=>?_⟩
 refine ⟨.bl _,H,I.kept fun b o eo=>hk b o (fun hmem=>?_) (ay _ eo),?_,q⟩
 ·rcases aI.mp hmem with e1 | hmem
  ·exact absurd (e1▸aN eo) (dn _)
  ·cases hmem
 ·show ag.bool _=ag.bool _
  rw[← all_range,hb,bA,ae]
end
mutual
inductive Dp (K:ai)(H:Hp):V→yo→Prop
 | hC:Dp K H .hC .none
 | bl (b:Bool):Dp K H (.bl b) (.bool b)
 | int (i:Int):Dp K H (.int i) (.int i)
 | str (x:cp):Dp K H (.str x) (.str x)
 | lst {a:aj} {xs:List V} {ds:List yo}:cG K H a xs→yt K H xs ds→Dp K H (.ref a) (.list ds)
 | tup {a:aj} {xs:List V} {ds:List yo}:fN K H a xs→yt K H xs ds→Dp K H (.ref a) (.tuple ds)
inductive yt (K:ai)(H:Hp):List V→List yo→Prop
 | nil:yt K H [] []
 | cons {v:V} {vs:List V} {d:yo} {ds:List yo}:Dp K H v d→yt K H vs ds→yt K H (v::vs) (d::ds)
end
section
variable {X:Cx}{pins:List (aj×fA)}{σ:St}{H:Hp}{s:au}
mutual
theorem Dp.reads (I:Inv X pins σ H s):∀ (d:yo) (v:V) (u:ag),Dp X.K H v d→RelV v u→∃ as,Reads s.heap u d as
 | .none,_,_,h,r=>by
  cases h
  cases r
  exact ⟨_,Reads.none⟩
 | .bool b,_,_,h,r=>by
  cases h
  cases r
  exact ⟨_,Reads.bool b⟩
 | .int i,_,_,h,r=>by
  cases h
  obtain ⟨t,rfl⟩:=r
  exact ⟨_,Reads.int i t⟩
 | .str x,_,_,h,r=>by
  cases h
  obtain ⟨t,rfl⟩:=r
  exact ⟨_,Reads.str x t⟩
 | .list ds,_,_,h,r=>by
  cases h with
  | lst hs ha =>
   cases r
   obtain ⟨its,rv,⟨o,n,ho,hc,_,hd⟩,_⟩:=I.list hs
   obtain ⟨as,hr⟩:=Dp.readsAll I ds _ its ha rv
   exact ⟨_,Reads.list ho hc hd hr⟩
 | .tuple ds,_,_,h,r=>by
  cases h with
  | tup hs ha =>
   cases r
   obtain ⟨its,rv,⟨o,ho,hc,n,hd⟩,_⟩:=I.tuple hs
   obtain ⟨as,hr⟩:=Dp.readsAll I ds _ its ha rv
   exact ⟨_,Reads.tuple ho hc hd hr⟩
 | .dict _,_,_,h,_=>by cases h
theorem Dp.readsAll (I:Inv X pins σ H s):∀ (ds:List yo) (vs:List V) (us:List ag),yt X.K H vs ds→df vs us→∃ as,ReadsAll s.heap us ds as
 | [],_,_,h,r=>by
  cases h
  cases r
  exact ⟨_,ReadsAll.nil⟩
 | d::ds,_,_,h,r=>by
  cases h with
  | cons h1 h2 =>
   cases r with
   | cons r1 r2 =>
    obtain ⟨as,q1⟩:=Dp.reads I d _ _ h1 r1
    obtain ⟨bs,q2⟩:=Dp.readsAll I ds _ _ h2 r2
    exact ⟨_,ReadsAll.cons q1 q2⟩
end
end
section
variable {X:Cx}
def Zb (K:ai):R2:=fun x y H Q=>∃ d e,Dp K H x d∧Dp K H y e∧wI d=true∧wI e=true∧Q (.bl (JQ d e)) H
theorem Vs (hu:X.A.units+64<cLine):xP X (compareOp .Eq) (Zb X.K):=by
 intro pins s σ H x y v u Q I rx ry h
 obtain ⟨d,e,hd,he,sd,se,q⟩:=h
 obtain ⟨as,r1⟩:=Dp.reads I d x v hd rx
 obtain ⟨bs,r2⟩:=Dp.reads I e y u he ry
 exact SeqAt.compareEq_shaped r1 r2 sd se hu ⟨.bl _,H,I,rfl,q⟩
end
abbrev Oa (h:bU)(c:aj)(v:Option ag):Prop:=h.IsCell c v
def Y8 (scope sc:jH):jH :=
 {scope with names:=scope.names.map fun (n,k)=>if (k==.free&&sc.kind==.function&&sc.names.lookup n==some .cell) then (n,.cell) else (n,k)}
def fR (cells:List (cp×aj)):List (cp×ie)→List (cp×aj)→List (cp×aj)
 | [],acc=>acc
 | (n,k)::r,acc=>if k==.free then fR cells r ((n,(cells.lookup n).getD 0)::acc) else fR cells r acc
theorem vg (env:C5)(f:cp×ie→List (cp×aj)→o8 (ForInStep (List (cp×aj))))
  (hf:∀ n k c,f (n,k) c=if k==.free then (do let a ← cellOf env n;pure (.yield ((n,a)::c))) else pure (.yield c)) :
  ∀ (names:List (cp×ie)) (acc:List (cp×aj)),(∀ y∈names,y.2=.free→∃ c,env.cells.lookup y.1=some c)→forIn names acc f=pure (fR env.cells names acc)
 | [],acc,_=>by rw[j8];rfl
 | (n,k)::r,acc,h=>by
  rw[jE,hf]
  have ih:=fun acc=>vg env f hf r acc fun y hy=>h y (ao _ hy)
  unfold fR
  by_cases hk:(k==kF)=true
  ·rw[if_pos hk,if_pos hk]
   obtain ⟨c,hc⟩:=h (n,k) ax (by simpa using hk)
   have e:cellOf env n=pure c:=by unfold cellOf;rw[hc]
   rw[e]
   have e2:(env.cells.lookup n).getD 0=c:=by rw[hc];rfl
   rw[e2]
   exact ih _
  ·rw[if_neg hk,if_neg hk]
   exact ih _
theorem HJ {scope:jH}{env:C5}(h:∀ y∈scope.names,y.2=.free→∃ c,env.cells.lookup y.1=some c):closureFor scope env=pure (fR env.cells scope.names []):=by
 simp only[closureFor]
 rw[vg env _ (fun n k c=>rfl) scope.names [] h]
 rfl
theorem mem_lookup {α:Type}:∀ {l:List (cp×α)} {n:cp} {c:α},(n,c)∈l→∃ c',l.lookup n=some c'
 | (k,v)::r,n,c,h=>by
  rw[fV]
  cases hb:n==k with
  | true=>exact ⟨_,rfl⟩
  | false =>
   rcases aI.mp h with e | h
   ·cases e;simp at hb
   ·exact mem_lookup h
theorem nu {cells:List (cp×aj)}:∀ {names:List (cp×ie)} {acc:List (cp×aj)} {n:cp} {c:aj},(n,c)∈fR cells names acc→(n,c)∈acc∨((n,.free)∈names∧c=(cells.lookup n).getD 0)
 | [],_,_,_,h=>.inl h
 | (m,k)::r,acc,n,c,h=>by
  unfold fR at h
  split at h
  ·rename_i hk
   have hk:k=.free:=by simpa using hk
   rcases nu h with h | ⟨h1,h2⟩
   ·rcases aI.mp h with e | h
    ·cases e;exact .inr ⟨hk▸ax,rfl⟩
    ·exact .inl h
   ·exact .inr ⟨ao _ h1,h2⟩
  ·rcases nu h with h | ⟨h1,h2⟩
   ·exact .inl h
   ·exact .inr ⟨ao _ h1,h2⟩
theorem rE {cells:List (cp×aj)}:∀ {names:List (cp×ie)} {acc:List (cp×aj)} {p:cp×aj},p∈acc→p∈fR cells names acc
 | [],_,_,h=>h
 | (m,k)::r,acc,p,h=>by
  unfold fR
  split
  ·exact rE (ao _ h)
  ·exact rE h
theorem rD {cells:List (cp×aj)}:∀ {names:List (cp×ie)} {acc:List (cp×aj)} {n:cp},(n,.free)∈names→(n,(cells.lookup n).getD 0)∈fR cells names acc
 | (m,k)::r,acc,n,h=>by
  unfold fR
  rcases aI.mp h with e | h
  ·cases e
   exact rE ax
  ·split
   ·exact rD h
   ·exact rD h
theorem oS:∀ {names:List (cp×ie)} {h:bU} {acc:List (cp×aj)} {x:cp} {c:aj},(x,c)∈cellsFrom h.objs.size names acc →
  (x,c)∈acc∨((x,.cell)∈names∧h.objs.size≤c∧Oa (pushCells h names) c none)
 | [],_,_,_,_,h=>.inl h
 | (n,k)::r,h,acc,x,c,hm=>by
  unfold cellsFrom at hm
  unfold pushCells
  split at hm
  ·rename_i hk
   rw[if_pos hk]
   have hk:k=.cell:=by simpa using hk
   rw[← cN h {cls:=.type "cell",data:=.cell none}] at hm
   rcases oS hm with hm | ⟨h1,h2,h3⟩
   ·rcases aI.mp hm with e | hm
    ·cases e
     exact .inr ⟨hk▸ax,aL _,_,uy r _ _ _ (aH _ rfl),rfl⟩
    ·exact .inl hm
   ·rw[cN] at h2
    exact .inr ⟨ao _ h1,kH h2,h3⟩
  ·rename_i hk
   rw[if_neg hk]
   rcases oS hm with hm | ⟨h1,h2,h3⟩
   ·exact .inl hm
   ·exact .inr ⟨ao _ h1,h2,h3⟩
theorem sM:∀ {names:List (cp×ie)} {n:Nat} {acc:List (cp×aj)} {p:cp×aj},p∈acc→p∈cellsFrom n names acc
 | [],_,_,_,h=>h
 | (m,k)::r,n,acc,p,h=>by
  unfold cellsFrom
  split
  ·exact sM (ao _ h)
  ·exact sM h
theorem wx:∀ {names:List (cp×ie)} {n:Nat} {acc:List (cp×aj)} {x:cp},(x,.cell)∈names→∃ c,(x,c)∈cellsFrom n names acc
 | (m,k)::r,n,acc,x,h=>by
  unfold cellsFrom
  rcases aI.mp h with e | h
  ·cases e
   exact ⟨n,sM ax⟩
  ·split
   ·exact wx h
   ·exact wx h
theorem wu:∀ {names:List (cp×ie)} {h:bU} {acc:List (cp×aj)} {x y:cp} {c:aj},(∀ p∈acc,p.2<h.objs.size)→(∀ x y c,(x,c)∈acc→(y,c)∈acc→x=y) →
  (x,c)∈cellsFrom h.objs.size names acc→(y,c)∈cellsFrom h.objs.size names acc→x=y
 | [],_,_,_,_,_,_,hi,h1,h2=>hi _ _ _ h1 h2
 | (n,k)::r,h,acc,x,y,c,hl,hi,h1,h2=>by
  unfold cellsFrom at h1 h2
  split at h1
  ·rename_i hk
   rw[if_pos hk] at h2
   rw[← cN h {cls:=.type "cell",data:=.cell none}] at h1 h2
   refine wu (h:=h.push _) (fun p hp=>?_) (fun x y c a b=>?_) h1 h2
   ·rw[cN]
    rcases aI.mp hp with rfl | hp
    ·exact dP _
    ·exact dD (hl p hp)
   ·rcases aI.mp a with e | a<;>rcases aI.mp b with e' | b
    ·cases e;cases e';rfl
    ·cases e;exact absurd (hl _ b) (dn _)
    ·cases e';exact absurd (hl _ a) (dn _)
    ·exact hi _ _ _ a b
  ·rename_i hk
   rw[if_neg hk] at h2
   exact wu hl hi h1 h2
theorem EN {M:Me}{A:cA}{E:ag→au→Prop}{s:au}{scope:jH}{globals:aj}{closure:List (cp×aj)}{qual:cp}{func:Option aj}{code:ag}{around:C5}{builtins:aj}{Q:C5→au→Prop}
  (h:Q (newEnv scope s.heap.objs.size globals (cellsFrom (s.heap.objs.size+1) scope.names closure) qual func code (some around) builtins)
   {s with heap:=pushCells (s.heap.push {cls:=.type "dict",data:=.dict #[]}) scope.names}) :
  wpAny M A (newFunctionEnv scope globals closure [] qual func code (some around) builtins) Q E s:=by
 simp only[newFunctionEnv,JU,if_true]
 refine aa (wpAny_alloc ?_)
 refine aa (wpAny_layCells _ (fun n k c=>rfl) scope.names closure _ _ ?_)
 rw[show ({s with heap:=s.heap.push {cls:=.type "dict",data:=.dict #[]}}:au).heap.objs.size=s.heap.objs.size+1 from cN ..]
 rw[j8]
 exact aa (ak (ak h))
theorem rB {sc:jH}:∀ {names:List (cp×ie)} {x:cp} {k:ie},
  (names.map fun (n,k)=>if (k==kF&&sc.kind==.function&&sc.names.lookup n==some .cell) then (n,zT) else (n,k)).lookup x=some k →
  ∃ k',names.lookup x=some k'∧(k=k'∨(k'=.free∧k=.cell))
 | [],_,_,h=>by simp at h
 | (n,k₀)::r,x,k,h=>by
  have ih:=@rB sc r x k
  have h':jT x ((if (k₀==kF&&sc.kind==.function&&sc.names.lookup n==some .cell)=true then (n,zT) else (n,k₀))::(r.map _))=some k:=h
  cases hx:x==n with
  | true =>
   simp only[fV,hx]
   by_cases hc:(k₀==kF&&sc.kind==.function&&sc.names.lookup n==some .cell)=true
   ·rw[if_pos hc] at h'
    simp only[fV,hx] at h'
    cases h'
    simp only[bx,beq_iff_eq] at hc
    exact ⟨k₀,rfl,.inr ⟨hc.1.1,rfl⟩⟩
   ·rw[if_neg hc] at h'
    simp only[fV,hx] at h'
    cases h'
    exact ⟨_,rfl,.inl rfl⟩
  | false =>
   simp only[fV,hx]
   by_cases hc:(k₀==kF&&sc.kind==.function&&sc.names.lookup n==some .cell)=true
   ·rw[if_pos hc] at h'
    simp only[fV,hx] at h'
    exact ih h'
   ·rw[if_neg hc] at h'
    simp only[fV,hx] at h'
    exact ih h'
structure Dn (N:List cp)(sc scope:jH)(own:List (cp×Nat)):Prop where
 kind:scope.kind=.function
 uniq:∀ y∈scope.names,scope.names.lookup y.1=some y.2
 ix:∀ p∈own,N[p.2]?=some p.1
 free:∀ y∈scope.names,y.2=.free→sc.names.lookup y.1=some .cell∨sc.names.lookup y.1=some .free
 own:∀ y∈scope.names,y.2=.local∨y.2=.cell→y.1∈own.map (·.1)∨y.1∉N
def wipe (σ:St):List Nat→St
 | []=>σ
 | v::vs=>(wipe σ vs).set v none
theorem qY (σ:St):∀ vs:List Nat,(wipe σ vs).length=σ.length
 | []=>rfl
 | v::vs=>by unfold wipe;rw[lP,qY σ vs]
theorem vR {σ:St}{i:Nat}{x:V}:∀ {vs:List Nat},(wipe σ vs)[i]?=some (some x)→σ[i]?=some (some x)∧i∉vs
 | [],h=>⟨h,by simp⟩
 | v::vs,h=>by
  unfold wipe at h
  by_cases hi:v=i
  ·subst hi
   by_cases hv:v<(wipe σ vs).length
   ·rw[ka hv] at h;cases h
   ·rw[bG (by simpa using hv)] at h;cases h
  ·rw[tL hi] at h
   obtain ⟨h1,h2⟩:=vR h
   exact ⟨h1,by simp only[aI,not_or];exact ⟨fun e=>hi e.symm,h2⟩⟩
abbrev Cx.Bt (X:Cx)(s:au)(H:Hp)(scope:jH)(jC:C5)(fp:List aj):Cx:={X with s_0:=s,H_0:=H,env:=jC,outer:=X.stack,ex:=fp,fn:=fun x=>scope.names.lookup x==some .cell,pn:=[],xe:=fun _ _=>False}
section
variable {X:Cx}{pins:List (aj×fA)}{σ:St}{H:Hp}{s:au}
theorem E7 {scope:jH}{own:List (cp×Nat)}{fp:List aj}(I:Inv X pins σ H s)(ok:Dn X.N X.env.scope scope own)(hN:X.N.Nodup)(hfp:∀ b∈fp,xA X pins H b∧b<s.heap.objs.size) :
  Inv (X.Bt s H scope (compEnvC scope (cellsFrom (s.heap.objs.size+1) scope.names (fR X.env.cells scope.names [])) s.heap.objs.size X.env) fp) [] (wipe σ (own.map (·.2))) H {s with heap:=pushCells (s.heap.push {cls:=.type "dict",data:=.dict #[]}) scope.names}:=by
 have hfree:∀ y∈scope.names,y.2=.free→∃ c,X.env.cells.lookup y.1=some c:=fun y hy e=>by
  rcases ok.free y hy e with k | k
  ·exact I.ok.has _ (.inl k)
  ·exact I.ok.has _ (.inr k)
 generalize hcenv:compEnvC scope (cellsFrom (s.heap.objs.size+1) scope.names (fR X.env.cells scope.names [])) s.heap.objs.size X.env=jC
 have kp:∀ b o,s.heap.get? b=some o→(pushCells (s.heap.push {cls:=.type "dict",data:=.dict #[]}) scope.names).get? b=some o:=fun b o e=>uy _ _ _ _ (ay _ e)
 have hL:jC.locals=s.heap.objs.size:=by rw[← hcenv];rfl
 have hcl:jC.cells=cellsFrom (s.heap.objs.size+1) scope.names (fR X.env.cells scope.names []):=by rw[← hcenv];rfl
 have hsc:jC.scope=Y8 scope X.env.scope:=by rw[← hcenv];rfl
 rw[← cN s.heap {cls:=.type "dict",data:=.dict #[]}] at hcl
 have cm:∀ {y c},(y,c)∈fR X.env.cells scope.names []→X.env.cells.lookup y=some c∧c<s.heap.objs.size:=fun {y c} hm=>by
  rcases nu hm with hm | ⟨h1,rfl⟩
  ·cases hm
  ·obtain ⟨c,hc⟩:=hfree _ h1 rfl
   rw[hc]
   obtain ⟨w,z⟩:=I.cell _ _ hc
   exact ⟨rfl,z.lt⟩
 have mem:∀ {y c},jC.cells.lookup y=some c→(X.env.cells.lookup y=some c∧c<s.heap.objs.size)∨(s.heap.objs.size+1≤c∧Oa (pushCells (s.heap.push {cls:=.type "dict",data:=.dict #[]}) scope.names) c none):=fun {y c} e=>by
  rw[hcl] at e
  rcases oS (cS e) with hm | ⟨_,h2,h3⟩
  ·exact .inl (cm hm)
  ·rw[cN] at h2;exact .inr ⟨h2,h3⟩
 have look:∀ {y},scope.names.lookup y=some .free→∃ c,jC.cells.lookup y=some c∧X.env.cells.lookup y=some c:=fun {y} hl=>by
  have hy:(y,kF)∈scope.names:=cS hl
  obtain ⟨c',e'⟩:=mem_lookup (sM (names:=scope.names) (n:=(s.heap.push {cls:=.type "dict",data:=.dict #[]}).objs.size) (rD (cells:=X.env.cells) (acc:=[]) hy))
  rw[← hcl] at e'
  refine ⟨c',e',?_⟩
  rw[hcl] at e'
  rcases oS (cS e') with hm | ⟨h1,_,_⟩
  ·exact (cm hm).1
  ·have:=ok.uniq _ h1
   rw[hl] at this;cases this
 have okB:(X.Bt s H scope jC fp).Ok:=by
  refine ⟨I.ok.mod,by show jC.scope.kind=_;rw[hsc];exact ok.kind,by show jC.globals=_;rw[← hcenv];exact I.ok.glob,by show jC.builtins=_;rw[← hcenv];exact I.ok.blt,by show s.heap.objs.size≤jC.locals;rw[hL];exact aL _,
   fun y z c e1 e2=>?_,fun y hy=>?_,fun y c z e=>?_,I.ok.hd,I.ok.frames,.inl rfl,fun b hb=>⟨?_,fun y c e z=>?_⟩,I.bs,aD I.ok.QX I.sz,fun b o e hb=>?_,fun b hb z=>?_,I.stack,I.Iu⟩
  ·have e1:jC.cells.lookup y=some c:=e1
   have e2:jC.cells.lookup z=some c:=e2
   rw[hcl] at e1 e2
   refine wu (fun p hp=>?_) (fun y z c a b=>I.ok.inj y z c (cm a).1 (cm b).1) (cS e1) (cS e2)
   rw[cN]
   exact dD (cm (y:=p.1) (c:=p.2) hp).2
  ·show ∃ c,jC.cells.lookup y=some c
   have key:∀ k,jC.kindOf y=some k→(k=.cell∨k=.free)→∃ c,jC.cells.lookup y=some c:=fun k hk hk'=>by
    unfold C5.kindOf at hk
    rw[hsc] at hk
    obtain ⟨k',e,r⟩:=rB hk
    have:k'=.cell∨k'=.free:=by
     rcases r with rfl | ⟨rfl,_⟩
     ·exact hk'
     ·exact .inr rfl
    rcases this with rfl | rfl
    ·obtain ⟨c,hm⟩:=wx (n:=(s.heap.push {cls:=.type "dict",data:=.dict #[]}).objs.size) (acc:=fR X.env.cells scope.names []) (cS e)
     obtain ⟨c',e'⟩:=mem_lookup hm
     exact ⟨c',by rw[hcl];exact e'⟩
    ·obtain ⟨c,h1,_⟩:=look e
     exact ⟨c,h1⟩
   rcases hy with hy | hy
   ·exact key _ hy (.inl rfl)
   ·exact key _ hy (.inr rfl)
  ·have z:(scope.names.lookup y==some zT)=true:=z
   have z:scope.names.lookup y=some .cell:=by simpa using z
   have e:jC.cells.lookup y=some c:=e
   rw[hcl] at e
   rcases oS (cS e) with hm | ⟨_,h2,_⟩
   ·rcases nu hm with hm | ⟨h1,_⟩
    ·cases hm
    ·have q:=ok.uniq _ h1
     rw[z] at q;cases q
   ·rw[cN] at h2
    exact kH h2
  ·show b≠jC.locals
   rw[hL];exact ba (hfp b hb).2
  ·have e:jC.cells.lookup y=some c:=e
   rcases mem e with ⟨h1,_⟩ | ⟨h1,_⟩
   ·exact (hfp b hb).1.2.2.2.2.1 y c h1 z
   ·have h2:s.heap.objs.size+1≤b:=by rw[← z];exact h1
    exact absurd (cz (hfp b hb).2 (kH h2)) (dn _)
  ·rcases (hfp b hb).1.2.2.2.1 with z | z
   ·exact I.ok.Mt b o e z
   ·exact absurd (cz (aN e) (aD I.ok.QX z)) (dn _)
  ·rcases aI.mp (I.FI b z) with z | z
   ·exact (hfp b hb).1.2.1 z
   ·exact (hfp b hb).1.2.2.1 z
 refine ⟨okB,rfl,I.bare,Un.kept kp,⟨fun _=>none,?_,fun i y av e1 e2 e3=>?_⟩,fun y c e=>?_,?_,fun y c e=>?_,fun p hp=>?_,I.fj.kept kp,by rw[qY];exact I.len⟩
 ·show bU.Ns _ jC.locals _
  rw[hL]
  exact bU.Ns.keeps (bU.Ns.new ..) fun b o e=>uy _ _ _ _ e
 ·obtain ⟨e2,hne⟩:=vR e2
  have hfr:scope.names.lookup y=some .free∧(jC.kindOf y=some .cell∨jC.kindOf y=some .free):=by
   have key:∀ k,jC.scope.names.lookup y=some k→k=.local∨k=.cell∨k=.free→scope.names.lookup y=some .free∧(jC.kindOf y=some .cell∨jC.kindOf y=some .free):=fun k hk hk'=>by
    have hk0:=hk
    rw[hsc] at hk
    obtain ⟨k',e,r⟩:=rB hk
    have no:¬ (k'=.local∨k'=.cell):=fun hh=>by
     rcases ok.own _ (cS e) hh with e' | e'
     ·obtain ⟨p,hp,hpy⟩:=aU.mp e'
      have e3:=ok.ix p hp
      have:p.1=y:=hpy
      rw[this] at e3
      exact hne (aU.mpr ⟨p,hp,yP hN e3 e1⟩)
     ·exact e' (aV e1)
    rcases r with rfl | ⟨rfl,rfl⟩
    ·rcases hk' with rfl | rfl | rfl
     ·exact absurd (.inl rfl) no
     ·exact absurd (.inr rfl) no
     ·exact ⟨e,.inr hk0⟩
    ·exact ⟨e,.inl hk0⟩
   have e3:WO jC.scope y:=e3
   rcases e3 with e3 | e3 | e3
   ·exact key _ e3 (.inl rfl)
   ·exact key _ e3 (.inr (.inl rfl))
   ·exact key _ e3 (.inr (.inr rfl))
  obtain ⟨m,hn,hl⟩:=I.loc
  have hvis:WO X.env.scope y:=(ok.free _ (cS hfr.1) rfl).elim (fun k=>.inr (.inl k)) (fun k=>.inr (.inr k))
  obtain ⟨w,r,q⟩:=hl i y av e1 e2 hvis
  refine ⟨w,r,.inr ⟨hfr.2,?_⟩⟩
  obtain ⟨c,h1,h2⟩:=look hfr.1
  rcases q with ⟨k,_⟩ | ⟨_,c',e',z⟩
  ·have k:X.env.scope.names.lookup y=some .local:=k
   rcases ok.free _ (cS hfr.1) rfl with k' | k'<;>rw[show X.env.scope.names.lookup y=_ from k'] at k<;>cases k
  ·rw[h2] at e';cases e'
   exact ⟨c,h1,z.keeps kp⟩
 ·have e:jC.cells.lookup y=some c:=e
  rcases mem e with ⟨h1,_⟩ | ⟨_,z⟩
  ·obtain ⟨w,z⟩:=I.cell y c h1
   exact ⟨w,z.keeps kp⟩
  ·exact ⟨_,z⟩
 ·show H jC.locals=none
  rw[hL];exact I.fj.fresh (aL _)
 ·have e:jC.cells.lookup y=some c:=e
  rcases mem e with ⟨h1,_⟩ | ⟨h1,_⟩
  ·exact I.mT y c h1
  ·exact I.fj.fresh (kH h1)
 ·exact absurd (show p∈([]:List (aj×fA))++[] from hp) (by simp)
theorem Wn {E:ag→au→Prop}{D:aj}{xs:List V}{y:V}{v:ag}{Q:ag→au→Prop}(I:Inv X pins σ H s)(hD:H D=some (.lst xs))(hz:xs.length<aA)(r:RelV y v)
  (h:∀ s',Inv X pins σ (upd H D (.lst (xs++[y]))) s'→Q .none s'):wpAny (model X.prog X.w) X.A (call (.builtin "list.append") [.ref D,v]) Q E s:=by
 obtain ⟨hz',its,n,ri,e⟩:=I.fj D _ hD
 have hl:=ri.length
 refine append_at (hsz:=by rw[bA];omega) e fun h' sb ho'=>?_
 refine h {s with heap:=h'} (I.write (t':=s.toks) (by rw[hD];trivial) (.inl rfl) (fun b u hb q=>(sb.2 b hb).trans q) ⟨_,ho'⟩ ⟨by rw[aK];exact hz,its++[v],n+1,ri.append (.cons r .nil),?_⟩)
 rw[ho']
 simp
def WQ (X:Cx)(ifs:List Expr)(t:TT):Prop :=
 ∀ (pins:List (aj×fA)) (s:au) (σ:St) (H:Hp) (Q:Bool→Hp→Prop),Inv X pins σ H s→t σ H Q →
  wpAny (model X.prog X.w) X.A (forIn ifs true fun c r=>if r=true then do let ok ← isTrue c X.env (eval c X.env);pure (o4 ok) else pure (o4 r)) (TP X pins σ Q) X.xe s
def Mq:TT:=fun _ H Q=>Q true H
theorem gq:WQ X [] Mq:=fun _ _ _ H _ I h=>wpAny_tests_nil ⟨H,I,h⟩
theorem pC {c:Expr}{t:TT}(h:PT X c t):WQ X [c] t:=fun pins s σ H Q I hw=>wpAny_tests_one (h pins s σ H Q I hw)
end
theorem J5 {α:Type}{t:o8 α}{Q Q':α→au→Prop}{M:Me}{A:cA}{E:ag→au→Prop}{s:au}(h:wpAny M A t Q (fun _ _=>False) s)(hQ:∀ a s,Q a s→Q' a s):wpAny M A t Q' E s:=hG h hQ fun _ _ z=>fg z
theorem CG {prog:aY}{w:bO}{A:cA}{R:qM→au→Prop}{s:au}{elt target iter:Expr}{ifs:List Expr}{scope:jH}{pos:jK}{it acc:ag}{env:C5}(I:Nat→au→Prop)
  (turn:∀ n s,I n s→wpAny (model prog w) A (pyNext it) (fun r s₁=>match r with
   | none=>R (.ok .next) s₁
   | some v=>wpAny (model prog w) A (letOwnedTupleGo target it v) (fun _ s₁'=>wpAny (model prog w) A (assign target env v) (fun _ s₂ =>
     wpAny (model prog w) A (forIn ifs true fun c r=>if r=true then do let ok ← isTrue c env (eval c env);pure (o4 ok) else pure (o4 r)) (fun ok s₃ =>
      if ok=true then wpAny (model prog w) A (eval elt env) (fun x s₄ =>
       wpAny (model prog w) A (call (.builtin "list.append") [acc,x]) (fun _ s₅=>∃ m,m<n∧I m s₅) (notedBy (model prog w) A env fun e s'=>R (.error e) s') s₄) (notedBy (model prog w) A env fun e s'=>R (.error e) s') s₃
      else ∃ m,m<n∧I m s₃) (notedBy (model prog w) A env fun e s'=>R (.error e) s') s₂) (notedBy (model prog w) A env fun e s'=>R (.error e) s') s₁') (notedBy (model prog w) A env fun e s'=>R (.error e) s') s₁) (notedBy (model prog w) A env fun e s'=>R (.error e) s') s)
  (n:Nat)(h:I n s) :
  codeAny (model prog w) A (.compLoop (.ListComp elt [⟨target,iter,ifs,0⟩] scope pos) 0 it acc env) R s:=by
 refine codeAny_loop rfl I (fun n s hI=>?_) n h
 show wpAny _ A ((compTurn (.ListComp elt [⟨target,iter,ifs,0⟩] scope pos) 0 it acc env).onRaise (fun x=>do noteFrame x env;theTreesLotGoes x)) _ _ s
 refine wpAny_noted ?_
 rw[compTurn_list]
 refine aa (Ka (aa (hG (turn n s hI) (fun r s₁ h₁=>?_) fun _ _ h'=>h')))
 cases r with
 | none=>exact ak h₁
 | some v =>
  refine aa (hG h₁ (fun _ s₁' h₁'=>?_) fun _ _ h'=>h')
  refine aa (hG h₁' (fun _ s₂ h₂=>aa (hG h₂ (fun ok s₃ h₃=>?_) fun _ _ h'=>h')) fun _ _ h'=>h')
  cases ok with
  | false=>exact ak ⟨rfl,h₃⟩
  | true =>
   exact aa (aa (hG h₃ (fun x s₄ h₄=>aa (hG h₄ (fun _ s₅ h₅=>ak (ak ⟨rfl,h₅⟩)) fun _ _ h'=>h')) fun _ _ h'=>h'))
section
variable {X:Cx}
def Yj (wi:TI)(g:TG)(tt:TT)(te:TE)(vs:List Nat):TE:=fun σ H Q=>wi σ H fun J H1=>∀ D,H1 D=none→∃ W:Nat→Nat→Hp→Prop,(∃ m,W 0 m (upd H1 D (.lst [])))∧∀ i m H,W i m H →
 (J.stop i H∧Q (.ref D) H)∨(J.go i H∧∃ Nx:Hp→Prop,(∀ H',Nx H'→∃ m',m'<m∧W (i+1) m' H')∧∀ x H',J.zS i H x H'→g x (wipe σ vs) H' fun σ2 H2=>wipe σ2 vs=wipe σ vs∧tt σ2 H2 fun b H3 =>
  if b=true then te σ2 H3 fun y H4=>∃ acc,H4 D=some (.lst acc)∧acc.length<aA∧Nx (upd H4 D (.lst (acc++[y]))) else Nx H3)
theorem Jg {pins:List (aj×fA)}{s:au}{σ:St}{H:Hp}{Q:VK}{elt tg iter:Expr}{ifs:List Expr}{scope:jH}{own:List (cp×Nat)}{pos pos':jK}{wi:TI}{g:TG}{tt:TT}{te:TE}{use:Option (ag→o8 Unit)}{Qf:ag→au→Prop}
  (hc:X.calm=true)(hN:X.N.Nodup)(I:Inv X pins σ H s)(hi:PI X tg iter wi)(ok:Dn X.N X.env.scope scope own)
  (hg:∀ (s:au) (H:Hp) (C:aj) (cl:List (cp×aj)) (fp:List aj),PG (X.Bt s H scope (compEnvC scope cl C X.env) fp) tg g)(ht:∀ (s:au) (H:Hp) (C:aj) (cl:List (cp×aj)) (fp:List aj),WQ (X.Bt s H scope (compEnvC scope cl C X.env) fp) ifs tt)
  (he:∀ (s:au) (H:Hp) (C:aj) (cl:List (cp×aj)) (fp:List aj),PE (X.Bt s H scope (compEnvC scope cl C X.env) fp) elt te)(hs:∀ x,foldedSetIterable iter X.env x=pure x)
  (h:Yj wi g tt te (own.map (·.2)) σ H Q)
  (hRR:∀ D C s' m H',Inv X pins σ H' s'→Q (.ref D) H'→s'.heap.Ns C m→xA X pins H' C→compPost (model X.prog X.w) X.A X.xe use Qf (.ref D) C (.ok .next) s') :
  wpAny (model X.prog X.w) X.A (comprehension (.ListComp elt [⟨tg,iter,ifs,0⟩] scope pos) scope X.env pos' (newList []) false (eval iter X.env) use) Qf X.xe s:=by
 have hfree:∀ y∈scope.names,y.2=.free→∃ c,X.env.cells.lookup y.1=some c:=fun y hy e=>by
  rcases ok.free y hy e with k | k
  ·exact I.ok.has _ (.inl k)
  ·exact I.ok.has _ (.inr k)
 refine wpAny_comprehension_free (use:=use) rfl hs (HJ hfree) ok.kind (fun y hy e=>by rw[ok.uniq y hy,e])
  (gI (hi pins s σ H _ I h) fun xv s1 hx=>gI hx fun itv s2 h2=>?_)
 obtain ⟨it,fp,tn,J,H2,e,I2,T,st2,f2,q⟩:=h2
 subst e
 refine cv (EN ?_) (by show 0≤aA;decide)
 generalize hD:s2.heap.objs.size=D
 have hDn:H2 D=none:=I2.fj.fresh (mN hD)
 obtain ⟨W,⟨m0,w0⟩,turn⟩:=q D hDn
 generalize hs3:({s2 with heap:=s2.heap.push {cls:=.type "list",data:=.seq ([]:List ag).toArray}}:au)=s3
 have I3:Inv X pins σ (upd H2 D (.lst [])) s3:=by
  rw[← hs3]
  refine I2.laid (t':=s2.toks) (fun b o e=>ay _ e) (mN hD) ⟨aR _,[],0,.nil,?_⟩
  rw[← hD]
  exact aH _ rfl
 have h3:s3.heap=s2.heap.push {cls:=.type "list",data:=.seq ([]:List ag).toArray}:=by rw[← hs3]
 have sz:∀ b∈fp,b<s2.heap.objs.size:=fun b hb=>by
  obtain ⟨o,e,_⟩:=T.obj _ _ st2 b hb
  exact aN e
 have f3:∀ b∈fp,xA X pins (upd H2 D (.lst [])) b∧b<s3.heap.objs.size:=fun b hb=>by
  have jV:=sz b hb
  refine ⟨⟨?_,(f2 b hb).2⟩,by rw[h3,cN];exact dD jV⟩
  rw[aT (by rw[← hD];exact ba jV)]
  exact (f2 b hb).1
 have st3:tn 0 s3.heap:=T.keep _ _ _ st2 fun b _ o e=>by rw[h3];exact ay _ e
 have I4:=E7 I3 ok hN f3
 have pg:=hg s3 (upd H2 D (.lst [])) s3.heap.objs.size (cellsFrom (s3.heap.objs.size+1) scope.names (fR X.env.cells scope.names [])) fp
 have pt:=ht s3 (upd H2 D (.lst [])) s3.heap.objs.size (cellsFrom (s3.heap.objs.size+1) scope.names (fR X.env.cells scope.names [])) fp
 have pe:=he s3 (upd H2 D (.lst [])) s3.heap.objs.size (cellsFrom (s3.heap.objs.size+1) scope.names (fR X.env.cells scope.names [])) fp
 show codeAny _ _ (.compStart (.ListComp elt [⟨tg,iter,ifs,0⟩] scope pos) 0 (.ref it) (.ref D) (compEnvC scope (cellsFrom (s3.heap.objs.size+1) scope.names (fR X.env.cells scope.names [])) s3.heap.objs.size X.env)) (compPost (model X.prog X.w) X.A X.xe use Qf (.ref D) s3.heap.objs.size) {s3 with heap:=pushCells (s3.heap.push {cls:=.type "dict",data:=.dict #[]}) scope.names}
 have nfp:∀ b∈fp,(upd H2 D (.lst [])) b=none:=fun b hb=>(f3 b hb).1.1
 generalize hce:compEnvC scope (cellsFrom (s3.heap.objs.size+1) scope.names (fR X.env.cells scope.names [])) s3.heap.objs.size X.env=ce at I4 pg pt pe ⊢
 have cL:ce.locals=s3.heap.objs.size:=by subst hce;rfl
 generalize hH3:upd H2 D (.lst [])=H3 at I3 I4 pg pt pe w0 nfp f3
 generalize hs4:({s3 with heap:=pushCells (s3.heap.push {cls:=.type "dict",data:=.dict #[]}) scope.names}:au)=s4 at I4 ⊢
 have st4:tn 0 s4.heap:=T.keep _ _ _ st3 fun b _ o e=>by rw[← hs4];exact uy _ _ _ _ (ay _ e)
 have stat:∀ {σ':St} {H':Hp} {s':au},Inv (X.Bt s3 H3 scope ce fp) [] σ' H' s'→(∀ b∈fp,H' b=none)→∀ b∈fp,xA (X.Bt s3 H3 scope ce fp) [] H' b:=fun {σ' H' s'} I' hn b hb =>
  ⟨hn b hb,(I'.ok.Yp b hb).1,I'.ok.Mv b hb,.inl hb,fun x c e=>(I'.ok.Yp b hb).2 x c e,fun p hp=>absurd (show p∈([]:List (aj×fA))++[] from hp) (by simp)⟩
 have loop:codeAny (model X.prog X.w) X.A (.compLoop (.ListComp elt [⟨tg,iter,ifs,0⟩] scope pos) 0 (.ref it) (.ref D) ce) (compPost (model X.prog X.w) X.A X.xe use Qf (.ref D) s3.heap.objs.size) s4:=by
  refine CG (fun n s'=>∃ i H',Inv (X.Bt s3 H3 scope ce fp) [] (wipe σ (own.map (·.2))) H' s'∧tn i s'.heap∧(∀ b∈fp,H' b=none)∧W i n H') ?_ m0 ⟨0,H3,I4,st4,nfp,w0⟩
  rintro n s5 ⟨i,H5,I5,st5,n5,w5⟩
  rcases turn i n H5 w5 with ⟨stop,qq⟩ | ⟨go,Nx,hNx,step⟩
  ·have td:=T.done (X.Bt s3 H3 scope ce fp) rfl rfl rfl hc i [] s5 _ H5 (fun _ _=>False) I5 (stat I5 n5) st5 stop
   refine J5 td fun r s6 ⟨hr,I6⟩=>?_
   subst hr
   have I7:Inv X pins σ H5 s6:=I3.XT (ch:=fp) I6.os I6.base I6.fj I6.bare fun b hb=>⟨(f3 b hb).1.2.2.2.1,(f3 b hb).1.2.1,(f3 b hb).1.2.2.2.2.1,(f3 b hb).1.2.2.2.2.2⟩
   have nC:H5 s3.heap.objs.size=none:=by
    have z:H5 ce.locals=none:=I6.free
    rw[cL] at z
    exact z
   obtain ⟨m,hn,_⟩:=I6.loc
   have hn:s6.heap.Ns ce.locals m:=hn
   rw[cL] at hn
   exact hRR D s3.heap.objs.size s6 m H5 I7 qq hn (I3.C8 (aL _) nC)
  ·have ti:=T.item (X.Bt s3 H3 scope ce fp) rfl rfl rfl hc i [] s5 _ H5 (fun _ _=>False) I5 (stat I5 n5) st5 go
   refine J5 ti fun r s6 ⟨u,hr,h6⟩=>?_
   subst hr
   refine J5 h6 fun _ s7 ⟨x,H7,I7,r7,y7,st7,n7⟩=>?_
   have I7':=I7.pinned (stat I7 n7) (T.obj _ _ st7)
   refine J5 (pg _ s7 _ H7 x u _ I7' r7 (step x H7 y7)) fun _ s8 ⟨σ8,H8,I8,hw8,q8⟩=>?_
   refine J5 (pt _ s8 σ8 H8 _ I8 q8) fun b s9 ⟨H9,I9,q9⟩=>?_
   have fin:∀ {s':au} {H':Hp},Inv (X.Bt s3 H3 scope ce fp) ([]++yy fp s7.heap) σ8 H' s'→Nx H'→∃ m,m<n∧∃ i H',Inv (X.Bt s3 H3 scope ce fp) [] (wipe σ (own.map (·.2))) H' s'∧tn i s'.heap∧(∀ b∈fp,H' b=none)∧W i m H':=fun {s' H'} I' nx=>by
    obtain ⟨m',hm,w'⟩:=hNx H' nx
    have pin':∀ b∈fp,∀ o,s7.heap.get? b=some o→s'.heap.get? b=some o∧H' b=none:=fun b hb o e =>
     let z:=I'.pin (b,o) (eR _ (eR _ (ua hb e)))
     ⟨z.1,z.2.1⟩
    have hl:(wipe σ (own.map (·.2))).length=σ8.length:=by rw[← hw8,qY]
    refine ⟨m',hm,i+1,H',(I'.uR (pins:=[])).weak hl (fun j v e=>?_),T.keep _ _ _ st7 fun b hb o e=>(pin' b hb o e).1,fun b hb=>?_,w'⟩
    ·rw[← hw8] at e
     exact (vR e).1
    ·obtain ⟨o,e,_⟩:=T.obj _ _ st7 b hb
     exact (pin' b hb o e).2
   cases b with
   | false =>
    simp only[iI,if_false] at q9 ⊢
    exact fin I9 q9
   | true =>
    simp only[if_true] at q9 ⊢
    refine J5 (pe _ s9 σ8 H9 _ I9 q9) fun z s10 ⟨yv,H10,I10,r10,acc,hD10,hz10,nx⟩=>?_
    exact Wn (X:=X.Bt s3 H3 scope ce fp) I10 hD10 hz10 r10 fun s11 I11=>fin I11 nx
 exact codeAny_compStart_list loop (T.self X.A 0 _ _ _ st4 loop)
theorem jc {elt tg iter:Expr}{ifs:List Expr}{scope:jH}{own:List (cp×Nat)}{pos:jK}{wi:TI}{g:TG}{tt:TT}{te:TE}(hc:X.calm=true)(hN:X.N.Nodup)(hi:PI X tg iter wi)(ok:Dn X.N X.env.scope scope own)
  (hg:∀ (s:au) (H:Hp) (C:aj) (cl:List (cp×aj)) (fp:List aj),PG (X.Bt s H scope (compEnvC scope cl C X.env) fp) tg g)(ht:∀ (s:au) (H:Hp) (C:aj) (cl:List (cp×aj)) (fp:List aj),WQ (X.Bt s H scope (compEnvC scope cl C X.env) fp) ifs tt)
  (he:∀ (s:au) (H:Hp) (C:aj) (cl:List (cp×aj)) (fp:List aj),PE (X.Bt s H scope (compEnvC scope cl C X.env) fp) elt te)(hs:∀ x,foldedSetIterable iter X.env x=pure x:=by intro _;rfl) :
  PE X (.ListComp elt [⟨tg,iter,ifs,0⟩] scope pos) (Yj wi g tt te (own.map (·.2))):=by
 intro pins s σ H Q I h
 rw[eval_ListComp]
 refine Jg hc hN I hi ok hg ht he hs h fun D C s' m H' I' q hn f=>⟨m,hn,fun h'' sb=>?_⟩
 obtain ⟨f0,f1,f2,f3,f4,f5⟩:=f
 exact ⟨.ref D,H',I'.turned (t':=s'.toks) (fun b o hb e=>(sb.2 b hb).trans e) f0 f1 f3 f4 f5,rfl,q⟩
theorem qT {i:Nat}{y:cp}{py:jK}{elt tg iter:Expr}{ifs:List Expr}{scope:jH}{own:List (cp×Nat)}{pos W0:jK}{wi:TI}{g:TG}{tt:TT}{te:TE}(hc:X.calm=true)(hN:X.N.Nodup)(hy:X.N[i]?=some y)(hyl:X.env.scope.names.lookup y=some .local)
  (hsw:swapsWith (.ListComp elt [⟨tg,iter,ifs,0⟩] scope pos) (some (.Name y py)) W0.line X.env=pure true)(hi:PI X tg iter wi)(ok:Dn X.N X.env.scope scope own)
  (hg:∀ (s:au) (H:Hp) (C:aj) (cl:List (cp×aj)) (fp:List aj),PG (X.Bt s H scope (compEnvC scope cl C X.env) fp) tg g)(ht:∀ (s:au) (H:Hp) (C:aj) (cl:List (cp×aj)) (fp:List aj),WQ (X.Bt s H scope (compEnvC scope cl C X.env) fp) ifs tt)
  (he:∀ (s:au) (H:Hp) (C:aj) (cl:List (cp×aj)) (fp:List aj),PE (X.Bt s H scope (compEnvC scope cl C X.env) fp) elt te)(hs:∀ x,foldedSetIterable iter X.env x=pure x:=by intro _;rfl) :
  PS X (.Assign [.Name y py] (.ListComp elt [⟨tg,iter,ifs,0⟩] scope pos) W0) (QZ (Yj wi g tt te (own.map (·.2))) (oh i)):=by
 intro pins s σ H D I h
 rw[exec_Assign_Name_used _ _ _ _ hsw]
 refine aa (Ka (aa ?_))
 show wpAny _ X.A (do let _ ← comprehension (.ListComp elt [⟨tg,iter,ifs,0⟩] scope pos) scope X.env (firstIterPos [⟨tg,iter,ifs,0⟩] pos) (newList []) false (eval iter X.env) (some (assign (.Name y py) X.env))) _ _ s
 have h:Yj wi g tt te (own.map (·.2)) σ H (fun x H1=>oh i x σ H1 D.nx):=h
 refine aa (gI (Jg (Qf:=fun _ s'=>SP X pins D .next s') hc hN I hi ok hg ht he hs h fun L C s' m H' I' q hn f=>?_) fun _ s' hq=>ak (ak hq))
 show wpAny _ _ (assign (.Name y py) X.env (.ref L)) _ _ _
 refine wpAny_assign_Name (AD (v:=V.ref L) I' hN hy (.inl hyl) rfl (fun s2 I2 ⟨a,sb,ha⟩=>?_) (.inr hyl))
 obtain ⟨f0,f1,f2,f3,f4,f5⟩:=f
 have haC:C≠a:=by
  rcases ha with z | z
  ·rw[z];exact f1
  ·exact fun e=>f4 y a z e.symm
 refine ⟨m,hn.sameBut sb haC,fun h3 sb3=>?_⟩
 exact ⟨_,H',I2.turned (t':=s2.toks) (fun b o hb e=>(sb3.2 b hb).trans e) f0 f1 f3 f4 f5,q⟩
theorem uF {elt:Expr}{gs:List Comprehension}{scope:jH}{pos py:jK}{y:cp}{l:Nat}{env:C5}(hk:env.scope.kind=.function)(hy:env.scope.names.lookup y=some .local)(hl:(py.line==pos.line)=true)
  (ha:(scope.names.any fun (n,k)=>n==y&&(k==.local||k==.cell))=false):swapsWith (.ListComp elt gs scope pos) (some (.Name y py)) l env=pure true:=by
 have ky:env.kindOf y=some .local:=hy
 have hb:env.blockKind=.function:=by unfold C5.blockKind;rw[hk];rfl
 unfold swapsWith
 simp only[hb,ky,ha,Expr.pos,hl]
 rfl
end
theorem Ec {lo:Int}{n:Nat}{g:TG}{tt:TT}{te:TE}{vs:List Nat}{σ:St}{H1:Hp}{D:aj}{Qd:Hp→Prop}(Pv:Nat→Hp→Prop)(h0:Pv 0 (upd H1 D (.lst [])))
  (hs:∀ i H,i<n→Pv i H→g (.int (lo+i)) (wipe σ vs) H fun σ2 H2=>wipe σ2 vs=wipe σ vs∧tt σ2 H2 fun b H3 =>
   if b=true then te σ2 H3 fun y H4=>∃ acc,H4 D=some (.lst acc)∧acc.length<aA∧Pv (i+1) (upd H4 D (.lst (acc++[y]))) else Pv (i+1) H3)(hd:∀ H,Pv n H→Qd H) :
  ∃ W:Nat→Nat→Hp→Prop,(∃ m,W 0 m (upd H1 D (.lst [])))∧∀ i m H,W i m H →
   ((J2 lo n).stop i H∧Qd H)∨((J2 lo n).go i H∧∃ Nx:Hp→Prop,(∀ H',Nx H'→∃ m',m'<m∧W (i+1) m' H')∧∀ x H',(J2 lo n).zS i H x H'→g x (wipe σ vs) H' fun σ2 H2=>wipe σ2 vs=wipe σ vs∧tt σ2 H2 fun b H3 =>
    if b=true then te σ2 H3 fun y H4=>∃ acc,H4 D=some (.lst acc)∧acc.length<aA∧Nx (upd H4 D (.lst (acc++[y]))) else Nx H3):=by
 refine ⟨fun i m H=>m=n - i∧i≤n∧Pv i H,⟨n,by simp,aR _,h0⟩,?_⟩
 rintro i m H ⟨rfl,hi,p⟩
 by_cases jV:i<n
 ·refine .inr ⟨jV,Pv (i+1),fun H' p'=>⟨n - (i+1),by omega,rfl,jV,p'⟩,fun x H' y=>?_⟩
  obtain ⟨e,y⟩:=y
  subst e y
  exact hs i _ jV p
 ·have e:i=n:=by omega
  subst e
  exact .inl ⟨aL _,hd H p⟩
theorem uM {K:ai}{a:aj}{xs:List V}{g:TG}{tt:TT}{te:TE}{vs:List Nat}{σ:St}{H1:Hp}{D:aj}{Qd:Hp→Prop}(Pv:Nat→Hp→Prop)(h0:Pv 0 (upd H1 D (.lst [])))(hl:∀ i H,i≤xs.length→Pv i H→cG K H a xs)
  (hs:∀ i x H,xs[i]?=some x→Pv i H→g x (wipe σ vs) H fun σ2 H2=>wipe σ2 vs=wipe σ vs∧tt σ2 H2 fun b H3 =>
   if b=true then te σ2 H3 fun y H4=>∃ acc,H4 D=some (.lst acc)∧acc.length<aA∧Pv (i+1) (upd H4 D (.lst (acc++[y]))) else Pv (i+1) H3)(hd:∀ H,Pv xs.length H→Qd H) :
  ∃ W:Nat→Nat→Hp→Prop,(∃ m,W 0 m (upd H1 D (.lst [])))∧∀ i m H,W i m H →
   ((Ah K a).stop i H∧Qd H)∨((Ah K a).go i H∧∃ Nx:Hp→Prop,(∀ H',Nx H'→∃ m',m'<m∧W (i+1) m' H')∧∀ x H',(Ah K a).zS i H x H'→g x (wipe σ vs) H' fun σ2 H2=>wipe σ2 vs=wipe σ vs∧tt σ2 H2 fun b H3 =>
    if b=true then te σ2 H3 fun y H4=>∃ acc,H4 D=some (.lst acc)∧acc.length<aA∧Nx (upd H4 D (.lst (acc++[y]))) else Nx H3):=by
 refine ⟨fun i m H=>m=xs.length - i∧i≤xs.length∧Pv i H,⟨xs.length,by simp,aR _,h0⟩,?_⟩
 rintro i m H ⟨rfl,hi,p⟩
 have q:=hl i H hi p
 by_cases jV:i<xs.length
 ·refine .inr ⟨⟨xs,xs[i],q,by simp[jV]⟩,Pv (i+1),fun H' p'=>⟨xs.length - (i+1),by omega,rfl,jV,p'⟩,fun x H' y=>?_⟩
  obtain ⟨e,y⟩:=y
  subst e
  exact hs i x _ (y xs q) p
 ·have e:i=xs.length:=by omega
  subst e
  exact .inl ⟨⟨xs,q,aL _⟩,hd H p⟩
theorem VO {K:ai}{a:aj}{xs:List V}{g:TG}{tt:TT}{te:TE}{vs:List Nat}{σ:St}{H1:Hp}{D:aj}{Qd:Hp→Prop}(Pv:Nat→Hp→Prop)(h0:Pv 0 (upd H1 D (.lst [])))(hl:∀ i H,i≤xs.length→Pv i H→fN K H a xs)
  (hs:∀ i x H,xs[i]?=some x→Pv i H→g x (wipe σ vs) H fun σ2 H2=>wipe σ2 vs=wipe σ vs∧tt σ2 H2 fun b H3 =>
   if b=true then te σ2 H3 fun y H4=>∃ acc,H4 D=some (.lst acc)∧acc.length<aA∧Pv (i+1) (upd H4 D (.lst (acc++[y]))) else Pv (i+1) H3)(hd:∀ H,Pv xs.length H→Qd H) :
  ∃ W:Nat→Nat→Hp→Prop,(∃ m,W 0 m (upd H1 D (.lst [])))∧∀ i m H,W i m H →
   ((Ud K a).stop i H∧Qd H)∨((Ud K a).go i H∧∃ Nx:Hp→Prop,(∀ H',Nx H'→∃ m',m'<m∧W (i+1) m' H')∧∀ x H',(Ud K a).zS i H x H'→g x (wipe σ vs) H' fun σ2 H2=>wipe σ2 vs=wipe σ vs∧tt σ2 H2 fun b H3 =>
    if b=true then te σ2 H3 fun y H4=>∃ acc,H4 D=some (.lst acc)∧acc.length<aA∧Nx (upd H4 D (.lst (acc++[y]))) else Nx H3):=by
 refine ⟨fun i m H=>m=xs.length - i∧i≤xs.length∧Pv i H,⟨xs.length,by simp,aR _,h0⟩,?_⟩
 rintro i m H ⟨rfl,hi,p⟩
 have q:=hl i H hi p
 by_cases jV:i<xs.length
 ·refine .inr ⟨⟨xs,xs[i],q,by simp[jV]⟩,Pv (i+1),fun H' p'=>⟨xs.length - (i+1),by omega,rfl,jV,p'⟩,fun x H' y=>?_⟩
  obtain ⟨e,y⟩:=y
  subst e
  exact hs i x _ (y xs q) p
 ·have e:i=xs.length:=by omega
  subst e
  exact .inl ⟨⟨xs,q,aL _⟩,hd H p⟩
def Xc (N:List cp)(sc scope:jH)(own:List (cp×Nat)):Bool :=
 (match scope.kind with | .function=>true | _=>false)&&(scope.names.all fun y=>decide (scope.names.lookup y.1=some y.2))&&(own.all fun p=>decide (N[p.2]?=some p.1)) &&
  (scope.names.all fun y=>match y.2 with
   | .free=>(match sc.names.lookup y.1 with | some .cell=>true | some .free=>true | _=>false)
   | .local=>decide (y.1∈own.map (·.1))||decide (y.1∉N)
   | .cell=>decide (y.1∈own.map (·.1))||decide (y.1∉N)
   | _=>true)
theorem dS {N:List cp}{sc scope:jH}{own:List (cp×Nat)}(h:Xc N sc scope own=true):Dn N sc scope own:=by
 unfold Xc at h
 simp only[bx,dJ,decide_eq_true_eq] at h
 obtain ⟨⟨⟨h1,h2⟩,h3⟩,h4⟩:=h
 refine ⟨?_,h2,h3,fun y hy e=>?_,fun y hy e=>?_⟩
 ·split at h1
  ·assumption
  ·cases h1
 ·have q:=h4 y hy
  simp only[e] at q
  split at q<;>first | exact .inl (by assumption) | exact .inr (by assumption) | cases q
 ·have q:=h4 y hy
  rcases e with e | e<;>(simp only[e,rN,decide_eq_true_eq] at q;exact q)
section
variable {prog:aY}{w:bO}{A:cA}{R:qM→au→Prop}{s:au}{elt t0 i0 t1 i1:Expr}{ifs0 ifs1:List Expr}{scope:jH}{pos:jK}{it acc:ag}{env:C5}
end
section
variable {X:Cx}
end
section
variable {κ:Type}[DecidableEq κ]
def jZ (kvs:List (κ×V))(k:κ):Option V:=(kvs.find? fun kv=>decide (kv.1=k)).map (·.2)
def putK (kvs:List (κ×V))(k:κ)(v:V):List (κ×V) :=
 if (kvs.any fun kv=>decide (kv.1=k))=true then kvs.map (fun kv=>if kv.1=k then (kv.1,v) else kv) else kvs++[(k,v)]
theorem iA {p:κ×V}{r:List (κ×V)}{k:κ}(e:p.1=k):jZ (p::r) k=some p.2:=by simp[jZ,cH,e]
theorem iB {p:κ×V}{r:List (κ×V)}{k:κ}(e:¬ p.1=k):jZ (p::r) k=jZ r k:=by simp[jZ,cH,e]
theorem uQ (k:κ):∀ kvs:List (κ×V),(kvs.any fun kv=>decide (kv.1=k))=(jZ kvs k).isSome
 | []=>rfl
 | p::r=>by
  rw[jw]
  by_cases e:p.1=k
  ·simp only[iA e,decide_eq_true e,Bool.true_or,JU]
  ·rw[iB e,decide_eq_false e,Bool.false_or];exact uQ k r
theorem Dx (k j:κ)(y:V):∀ kvs:List (κ×V),jZ (kvs.map fun kv=>if kv.1=k then (kv.1,y) else kv) j=(jZ kvs j).map fun x=>if j=k then y else x
 | []=>rfl
 | p::r=>by
  have ih:=Dx k j y r
  rw[bo]
  by_cases h:p.1=k
  ·rw[if_pos h]
   by_cases e:p.1=j
   ·rw[iA (p:=(p.1,y)) e,iA e,qk,if_pos (e.symm.trans h)]
   ·rw[iB (p:=(p.1,y)) e,iB e,ih]
  ·rw[if_neg h]
   by_cases e:p.1=j
   ·rw[iA (p:=p) e,iA e,qk,if_neg (fun z=>h (e.trans z))]
   ·rw[iB (p:=p) e,iB e,ih]
theorem Ax (k j:κ)(y:V):∀ kvs:List (κ×V),jZ kvs k=none→jZ (kvs++[(k,y)]) j=if j=k then some y else jZ kvs j
 | [],_=>by
  by_cases e:k=j
  ·rw[if_pos e.symm];exact iA (p:=(k,y)) e
  ·rw[if_neg (fun z=>e z.symm)];exact iB (p:=(k,y)) e
 | p::r,hn=>by
  rw[qb]
  have hk:¬ p.1=k:=fun z=>by rw[iA z] at hn;cases hn
  rw[iB hk] at hn
  have ih:=Ax k j y r hn
  by_cases e:p.1=j
  ·rw[iA e,iA e,if_neg (fun z=>hk (e.trans z))]
  ·rw[iB e,iB e,ih]
theorem Dv (kvs:List (κ×V))(k j:κ)(y:V):jZ (putK kvs k y) j=if j=k then some y else jZ kvs j:=by
 unfold putK
 by_cases a:(kvs.any fun kv=>decide (kv.1=k))=true
 ·rw[if_pos a,Dx]
  rw[uQ] at a
  by_cases e:j=k
  ·obtain ⟨x,hx⟩:=nZ.mp a
   rw[if_pos e,e,hx,qk,if_pos rfl]
  ·rw[if_neg e]
   cases jZ kvs j with
   | none=>rfl
   | some x=>rw[qk,if_neg e]
 ·rw[if_neg a]
  refine Ax k j y kvs ?_
  rw[uQ] at a
  cases q:jZ kvs k with
  | none=>rfl
  | some x=>rw[q] at a;exact (a rfl).elim
theorem nj (kvs:List (κ×V))(k:κ)(v:V):(putK kvs k v).length≤kvs.length+1:=by
 unfold putK
 split
 ·rw[ae];omega
 ·rw[aK,aS,eG];omega
theorem qj.Lg {o:Option V}{u:Option ag}(r:qj o u):o.isSome=u.isSome:=by
 cases o with
 | none=>cases u with
  | none=>rfl
  | some _=>exact (show False from r).elim
 | some _=>cases u with
  | none=>exact (show False from r).elim
  | some _=>rfl
theorem qj.getD {o:Option V}{u:Option ag}{d:V}{d':ag}(r:qj o u)(rd:RelV d d'):RelV (o.getD d) (u.getD d'):=by
 cases o with
 | none=>cases u with
  | none=>exact rd
  | some _=>exact (show False from r).elim
 | some _=>cases u with
  | none=>exact (show False from r).elim
  | some _=>exact r
theorem KV.val {kvs:List (κ×V)}{vs:List (κ×ag)}(r:KV kvs vs)(k:κ):qj (jZ kvs k) (valueAt vs k):=by
 unfold KV at r
 induction r with
 | nil=>exact qp
 | @cons p q ps qs h t ih =>
  obtain ⟨h1,h2⟩:=h
  by_cases e:p.1=k
  ·have e':q.1=k:=h1.symm.trans e
   have b:valueAt (q::qs) k=some q.2:=by simp[valueAt,cH,e']
   rw[iA e,b];exact h2
  ·have e':¬ q.1=k:=fun z=>e (h1.trans z)
   have b:valueAt (q::qs) k=valueAt qs k:=by simp[valueAt,cH,e']
   rw[iB e,b];exact ih
theorem KV.any {kvs:List (κ×V)}{vs:List (κ×ag)}(r:KV kvs vs)(k:κ):(kvs.any fun kv=>decide (kv.1=k))=vs.any fun kv=>decide (kv.1=k):=by
 unfold KV at r
 induction r with
 | nil=>rfl
 | cons h t ih=>rw[jw,jw,ih,h.1]
theorem KV.UZ {kvs:List (κ×V)}{vs:List (κ×ag)}(r:KV kvs vs)(k:κ){y:V}{u:ag}(ry:RelV y u) :
  KV (kvs.map fun kv=>if kv.1=k then (kv.1,y) else kv) (vs.map fun kv=>if kv.1=k then (kv.1,u) else kv):=by
 unfold KV at r ⊢
 induction r with
 | nil=>exact .nil
 | @cons p q ps qs h t ih =>
  rw[bo,bo]
  refine .cons ?_ ih
  obtain ⟨h1,h2⟩:=h
  by_cases e:p.1=k
  ·rw[if_pos e,if_pos (h1.symm.trans e)];exact ⟨h1,ry⟩
  ·rw[if_neg e,if_neg (fun z=>e (h1.trans z))];exact ⟨h1,h2⟩
theorem KV.put {kvs:List (κ×V)}{vs:List (κ×ag)}(r:KV kvs vs)(k:κ){y:V}{u:ag}(ry:RelV y u):KV (putK kvs k y) (stored vs k u):=by
 unfold putK stored
 rw[r.any k]
 by_cases e:(vs.any fun kv=>decide (kv.1=k))=true
 ·rw[if_pos e,if_pos e];exact r.UZ k ry
 ·rw[if_neg e,if_neg e];exact Paired.snoc r ⟨rfl,ry⟩
theorem KV.length {kvs:List (κ×V)}{vs:List (κ×ag)}(r:KV kvs vs):kvs.length=vs.length:=Paired.length r
end
theorem Aj {P:aY}{w:bO}{k:Key}{u:ag}(r:RelV (kV k) u):(dW P w).is k u=true:=by
 cases k with
 | inl i=>obtain ⟨t,e⟩:=(show ∃ t,u=ag.int i t from r);subst e;exact ER P w i t
 | inr x=>obtain ⟨t,e⟩:=(show ∃ t,u=ag.str x t from r);subst e;exact EO P w x t
theorem A4 {P:aY}{w:bO}:∀ {ks:List Key} {us:List ag},df (ks.map kV) us→ItemsAre (dW P w) ks us
 | [],_,r=>by rw[fC] at r;cases r;exact .nil
 | k::ks,_,r=>by
  rw[bo] at r
  cases r with
  | cons h t=>exact .cons (Aj h) (A4 t)
abbrev KT (H:Hp):List (List eD×V)→List (List eD×aj×ag)→Prop:=Paired fun p q=>p.1=q.1∧kZ H q.2.1 p.1∧RelV p.2 q.2.2
theorem KT.val {H:Hp}{kvs:List (List eD×V)}{xs:List (List eD×aj×ag)}(r:KT H kvs xs)(k:List eD):qj (jZ kvs k) ((atKey xs k).map (·.2)):=by
 induction r with
 | nil=>exact qp
 | @cons p q ps qs h t ih =>
  obtain ⟨h1,_,h2⟩:=h
  by_cases e:p.1=k
  ·have e':q.1=k:=h1.symm.trans e
   have b:atKey (q::qs) k=some q.2:=by simp[atKey,cH,e']
   rw[iA e,b];exact h2
  ·have e':¬ q.1=k:=fun z=>e (h1.trans z)
   have b:atKey (q::qs) k=atKey qs k:=by simp[atKey,cH,e']
   rw[iB e,b];exact ih
theorem KT.UZ {H:Hp}{kvs:List (List eD×V)}{xs:List (List eD×aj×ag)}(r:KT H kvs xs)(k:List eD){y:V}{u:ag}(ry:RelV y u) :
  KT H (kvs.map fun kv=>if kv.1=k then (kv.1,y) else kv) (xs.map (putAt k u)):=by
 induction r with
 | nil=>exact .nil
 | @cons p q ps qs h t ih =>
  rw[bo,bo]
  refine .cons ?_ ih
  obtain ⟨h1,h2,h3⟩:=h
  unfold putAt
  by_cases e:p.1=k
  ·rw[if_pos e,if_pos (h1.symm.trans e)];exact ⟨h1,h2,ry⟩
  ·rw[if_neg e,if_neg (fun z=>e (h1.trans z))];exact ⟨h1,h2,h3⟩
theorem KT.put {H:Hp}{kvs:List (List eD×V)}{xs:List (List eD×aj×ag)}(r:KT H kvs xs)(k:List eD){b:aj}{y:V}{u:ag}(hb:kZ H b k)(ry:RelV y u) :
  KT H (putK kvs k y) (storedH xs k b u):=by
 have e:(kvs.any fun kv=>decide (kv.1=k))=(atKey xs k).isSome:=by
  rw[uQ,(r.val k).Lg,Option.isSome_map]
 unfold putK storedH
 rw[e]
 by_cases q:(atKey xs k).isSome=true
 ·rw[if_pos q,if_pos q];exact r.UZ k ry
 ·rw[if_neg q,if_neg q];exact Paired.snoc r ⟨rfl,hb,ry⟩
theorem KT.keeps {H H':Hp}{kvs:List (List eD×V)}{xs:List (List eD×aj×ag)}(r:KT H kvs xs)(ht:∀ b ys,H b=some (.tup ys)→H' b=some (.tup ys)):KT H' kvs xs :=
 Paired.U0 r fun _ _ z=>⟨z.1,kZ.keeps ht z.2.1,z.2.2⟩
section
variable {P:aY}{w:bO}{H:Hp}{h:bU}{a:aj}
theorem Uk {u:HO}(ok:qf P w H h)(e:Rd H a u):fM P w H h a u:=e.ok ok
theorem Al {kvs:List (Key×V)}(ok:qf P w H h)(e:Rd H a (.dK kvs)):kvs.length≤aA∧(a==eV)=false∧∃ vs,KV kvs vs∧h.DictOf (dW P w) a vs :=
 show fM P w H h a (.dK kvs) from Uk ok e
theorem XR {kvs:List (Key×V)}(ok:qf P w H h)(e:H a=some (.dK kvs)):kvs.length≤aA∧(a==eV)=false∧∃ vs,KV kvs vs∧h.DictOf (dW P w) a vs:=Al ok (.inl e)
theorem PB {ks:List Key}(ok:qf P w H h)(e:H a=some (.tup (ks.map kV))):GL (dW P w) h ks a:=by
 obtain ⟨_,its,r,o,h1,h2,n,h3⟩:=(show fM P w H h a (.tup (ks.map kV)) from ok a _ e)
 exact ⟨o,its.toArray,n,h1,h2,h3,by simpa using A4 r⟩
theorem yN (ok:qf P w H h):∀ {ks:List eD} {vs:List V} {us:List ag},Paired (Ub H) ks vs→df vs us→Paired (k6 P w h) ks us
 | _,_,_,.nil,.nil=>.nil
 | .inl k::_,_,_,.cons a t,.cons r u=>.cons (show jM k _=true from Aj (P:=P) (w:=w) ((show _=kV k from a)▸r)) (yN ok t u)
 | .inr l::_,_,_,.cons a t,.cons r u=>.cons (show ∃ b,_=ag.ref b∧GL (dW P w) h l b from by
   obtain ⟨b,e,q⟩:=a
   subst e
   exact ⟨b,r,PB ok q⟩) (yN ok t u)
theorem BI {ks:List eD}(ok:qf P w H h)(e:kZ H a ks):(mq P w).is h ks a:=by
 obtain ⟨vs,e,q⟩:=e
 obtain ⟨_,its,r,o,h1,h2,n,h3⟩:=(show fM P w H h a (.tup vs) from ok a _ e)
 exact ⟨its.toArray,⟨o,h1,h2,n,h3⟩,by simpa using yN ok q r⟩
theorem Dj {kvs:List (List eD×V)}(ok:qf P w H h)(e:Rd H a (.dT kvs)):kvs.length≤aA∧(a==eV)=false ∧
  ∃ xs,KT H kvs xs∧h.DictOfH (mq P w) a xs:=by
 obtain ⟨z,y,xs,r,o,es,ep,h1,h2,h3,h4,h5⟩:=(show fM P w H h a (.dT kvs) from Uk ok e)
 refine ⟨z,y,xs,r,o,es,ep,h1,h2,h3,h4,fun x hx=>?_,h5⟩
 have all:∀ {l:List (List eD×V)} {m:List (List eD×aj×ag)},KT H l m→∀ x∈m,(mq P w).is h x.1 x.2.1:=by
  intro l m q
  induction q with
  | nil=>intro x hx;exact nomatch hx
  | @cons p q ps qs hq t ih =>
   intro x hx
   rcases aI.mp hx with e | hx
   ·subst e
    exact BI ok (by rw[← hq.1];exact hq.2.1)
   ·exact ih x hx
 exact all r x hx
theorem XQ {kvs:List (List eD×V)}(ok:qf P w H h)(e:H a=some (.dT kvs)):kvs.length≤aA∧(a==eV)=false ∧
  ∃ xs,KT H kvs xs∧h.DictOfH (mq P w) a xs:=Dj ok (.inl e)
end
def uA (H:Hp)(a:aj)(y:V)(r:Option V):Prop :=
 (∃ kvs k,Rd H a (.dK kvs)∧y=kV k∧r=jZ kvs k)∨∃ kvs k b,Rd H a (.dT kvs)∧y=.ref b∧kZ H b k∧r=jZ kvs k
def z4 (H:Hp)(a:aj)(y v:V)(H':Hp):Prop :=
 (∃ kvs k,H a=some (.dK kvs)∧y=kV k∧kvs.length<aA∧H'=upd H a (.dK (putK kvs k v))) ∨
 ∃ kvs k b,H a=some (.dT kvs)∧y=.ref b∧kZ H b k∧kvs.length<aA∧H'=upd H a (.dT (putK kvs k v))
theorem uA.t {H:Hp}{a b:aj}{kvs:List (List eD×V)}{k:List eD}(e:H a=some (.dT kvs))(eb:kZ H b k):uA H a (.ref b) (jZ kvs k):=.inr ⟨kvs,k,b,.inl e,rfl,eb,rfl⟩
theorem z4.k {H:Hp}{a:aj}{kvs:List (Key×V)}{k:Key}{v:V}(e:H a=some (.dK kvs))(hl:kvs.length<aA):z4 H a (kV k) v (upd H a (.dK (putK kvs k v))):=.inl ⟨kvs,k,e,rfl,hl,rfl⟩
theorem z4.t {H:Hp}{a b:aj}{kvs:List (List eD×V)}{k:List eD}{v:V}(e:H a=some (.dT kvs))(eb:kZ H b k)(hl:kvs.length<aA) :
  z4 H a (.ref b) v (upd H a (.dT (putK kvs k v))):=.inr ⟨kvs,k,b,e,rfl,eb,hl,rfl⟩
section
variable {X:Cx}{pins:List (aj×fA)}{σ:St}{H:Hp}{s:au}{a:aj}{y v:V}{u r:ag}{o:Option V}{A:cA}{E:ag→au→Prop}
theorem Inv.YW (I:Inv X pins σ H s):eV<s.heap.objs.size:=by
 have h:dZ<s.heap.objs.size:=(I.mod.glob.keeps I.bk).lt
 exact kD (by decide) h
theorem LB {Q:ag→au→Prop}(hu:A.units+8<cLine)(I:Inv X pins σ H s)(g:uA H a y (some v))(ry:RelV y u)(h:∀ w' s',Inv X pins σ H s'→RelV v w'→Q w' s') :
  wpAny (model X.prog X.w) A (getItem (.ref a) u) Q E s:=by
 rcases g with ⟨kvs,k,e,ey,l⟩ | ⟨kvs,k,b,e,ey,eb,l⟩
 ·subst ey
  obtain ⟨z,hd,vs,rel,dd⟩:=Al I.fj e
  obtain ⟨w',hw,rw'⟩:=qj.some_of (v:=v) (o:=valueAt vs k) (by rw[l];exact rel.val k)
  exact wpAny_getItem_of (Aj ry) dd.mapOf hw (h w' _ (I.tok _) rw')
 ·subst ey
  cases (show u=ag.ref b from ry)
  obtain ⟨z,hd,xs,rel,dd⟩:=Dj I.fj e
  obtain ⟨w',hw,rw'⟩:=qj.some_of (v:=v) (o:=(atKey xs k).map (·.2)) (by rw[l];exact rel.val k)
  obtain ⟨p,hp,hp2⟩:=fz.mp hw
  refine wpAny_getItem_heap (wg hu) (BI I.fj eb) dd hp ?_
  rw[hp2]
  exact h w' _ (I.tok _) rw'
theorem Jz {h':bU}{t':Nat}{ob:HO}(I:Inv X pins σ H s)(mu:QY (H a))(hs:eC a s.heap h')(he:∃ q,h'.get? a=some q)(new:fM X.prog X.w (upd H a ob) h' a ob) :
  Inv X pins σ (upd H a ob) {s with heap:=h',toks:=t'} :=
 I.write (x:=a) (e:=a) mu (.inl rfl) (fun b q hb z=>(hs.2 b hb).trans z) he new
theorem V7 {P:aY}{w:bO}{H':Hp}{h':bU}{kvs:List (Key×V)}{vs:List (Key×ag)}(z:kvs.length≤aA)(hd:(a==eV)=false)(rel:KV kvs vs)(dd:h'.DictOf (dW P w) a vs) :
  fM P w H' h' a (.dK kvs):=⟨z,hd,vs,rel,dd⟩
theorem LA {H':Hp}{Q:Unit→au→Prop}(hu:A.units+8<cLine)(I:Inv X pins σ H s)(g:z4 H a y v H')(ry:RelV y u)(rv:RelV v r)(h:∀ s',Inv X pins σ H' s'→Q () s') :
  wpAny (model X.prog X.w) A (setItem (.ref a) u r) Q E s:=by
 rcases g with ⟨kvs,k,e,ey,l,eH⟩ | ⟨kvs,k,b,e,ey,eb,l,eH⟩
 ·subst ey eH
  obtain ⟨z,hd,vs,rel,dd⟩:=XR I.fj e
  have hz:vs.length≤aA:=by rw[← rel.length];exact z
  have hl:(putK kvs k v).length≤aA:=by have:=nj kvs k v;omega
  refine wpAny_setItem_pairs (hsz:=hz) (Aj ry) dd fun h' dd' hs=>h _ ?_
  have he:∃ q,h'.get? a=some q:=let ⟨q,_,_,hq,_⟩:=dd';⟨q,hq⟩
  exact Jz I (by rw[e];exact qp) hs he (V7 hl hd (rel.put k rv) dd')
 ·subst ey eH
  cases (show u=ag.ref b from ry)
  obtain ⟨z,hd,xs,rel,dd⟩:=XQ I.fj e
  have hz:xs.length≤aA:=by rw[← Paired.length rel];exact z
  have hl:(putK kvs k v).length≤aA:=by have:=nj kvs k v;omega
  refine wpAny_setItem_heap (hsz:=hz) (wg hu) (BI I.fj eb) dd fun h' dd' hs=>h _ ?_
  obtain ⟨q,es,ep,hq,h2,h3,h4,_,h5⟩:=dd'
  refine Jz I (by rw[e];exact qp) hs ⟨q,hq⟩ ⟨hl,hd,_,(rel.put k eb rv).keeps fun c ys ec=>?_,q,es,ep,hq,h2,h3,h4,h5⟩
  rw[aT (ik ec e (fun z=>nomatch z))]
  exact ec
end
section
variable {X:Cx}{pins:List (aj×fA)}{σ:St}{H:Hp}{s:au}{a:aj}{kvs:List (Key×V)}{k:Key}{u:ag}{A:cA}{E:ag→au→Prop}
end
def Xf (i:Expr):Prop:=∀ ov iv,subscripted i false ov iv=operate [ov,iv] (getItem ov iv)
theorem Ri {prog:aY}{w:bO}{A:cA}{E:ag→au→Prop}{s:au}{env:C5}{value slice:Expr}{pos:jK}{T id:String}{Q:ag→au→Prop}
  (hl:typeLookup (.type T) "__getitem__"=pure (some (.builtin id)))(hs:Xf slice)
  (h:wpAny (model prog w) A (eval value env) (fun o s₁=>wpAny (model prog w) A (eval slice env) (fun i s₂=>s₂.TypeIs o T∧wpAny (model prog w) A (getItem o i) Q E s₂) E s₁) E s) :
  wpAny (model prog w) A (eval (.Subscript value slice pos) env) Q E s:=by
 refine Subscript_ (hG h (fun o s₁ h₁=>hG h₁ (fun i s₂ h₂=>?_) fun _ _ x=>x) fun _ _ x=>x)
 obtain ⟨hT,h₂⟩:=h₂
 unfold subscriptTail
 refine aa ?_
 rw[getitemInPython_of_ne hT.not_modules]
 refine aa (EB hT hl ?_)
 have fin:wpAny (model prog w) A (subscripted slice false o i) (fun r s₃=>wpAny (model prog w) A (letTemporaryGo value o r >>= fun _=>pure r) Q E s₃) E s₂:=by
  rw[hs o i]
  exact wpAny_operating (hG h₂ (fun r s₃ h₃=>aa (wpAny_letTemporaryGo (ak h₃))) fun _ _ x=>x)
 first
  | exact ak (aa fin)
  | exact aa (ak (aa fin))
  | exact aa fin
theorem E3 {X:Cx}{pins:List (aj×fA)}{σ:St}{H:Hp}{s:au}{a:aj}{y:V}{o:Option V}(I:Inv X pins σ H s)(g:uA H a y o):s.TypeIs (.ref a) "dict":=by
 rcases g with ⟨kvs,k,e,_,_⟩ | ⟨kvs,k,b,e,_,_,_⟩
 ·obtain ⟨_,_,vs,_,dd⟩:=Al I.fj e
  exact dd.typeIs
 ·obtain ⟨_,_,xs,_,dd⟩:=Dj I.fj e
  exact dd.typeIs
def Xr (td ty:TE):TE:=fun σ H Q=>td σ H fun x H1=>ty σ H1 fun y H2=>∃ a v,x=.ref a∧uA H2 a y (some v)∧Q v H2
def Xv (td ty tv:TE):TS:=fun D σ H=>tv σ H fun v H1=>td σ H1 fun x H2=>ty σ H2 fun y H3=>∃ a H4,x=.ref a∧z4 H3 a y v H4∧D.nx σ H4
section
variable {X:Cx}{o i e value:Expr}{pos pos' lU:jK}{td ty tv:TE}
theorem x3 (hu:X.A.units+8<cLine)(ho:PE X o td)(hi:PE X i ty)(hs:Xf i):PE X (.Subscript o i pos) (Xr td ty):=by
 intro pins s σ H Q I h
 refine Ri PySem.F.slot_dict_getitem.lookup hs (gI (ho pins s σ H _ I h) fun u s1 ⟨x,H1,I1,rx,q1⟩=>gI (hi pins s1 σ H1 _ I1 q1) fun iv s2 ⟨y,H2,I2,ry,a,v,ex,g,q2⟩=>?_)
 subst ex
 obtain rfl:u=ag.ref a:=rx
 exact ⟨E3 I2 g,LB hu I2 g ry fun w' s3 I3 rw'=>⟨v,H2,I3,rw',q2⟩⟩
theorem xY (hu:X.A.units+8<cLine)(ho:PE X o td)(hi:PE X i ty)(hv:PE X value tv)(hs:swapsWith value (some (.Subscript o i pos')) pos.line X.env=pure false) :
  PS X (.Assign [.Subscript o i pos'] value pos) (Xv td ty tv):=by
 intro pins s σ H D I h
 refine wpAny_Assign_Subscript (gI (hv pins s σ H _ I h) fun r s1 ⟨v,H1,I1,rv,q1⟩=>gI (ho pins s1 σ H1 _ I1 q1) fun u s2 ⟨x,H2,I2,rx,q2⟩=>gI (hi pins s2 σ H2 _ I2 q2) fun iv s3 ⟨y,H3,I3,ry,a,H4,ex,g,q3⟩=>?_) hs
 subst ex
 obtain rfl:u=ag.ref a:=rx
 exact LA hu I3 g ry rv fun s4 I4=>⟨σ,H4,I4,q3⟩
end
theorem P2 {P:aY}{w:bO}{H:Hp}(h:bU)(hb:eV<h.objs.size):fM P w H (h.push {cls:=.type "dict",data:=.dict #[]}) h.objs.size (.dK []) :=
 ⟨aR _,beq_eq_false_iff_ne.mpr (gU (ba hb)),[],.nil,Fv h⟩
theorem P1 {P:aY}{w:bO}{H:Hp}(h:bU)(hb:eV<h.objs.size):fM P w H (h.push {cls:=.type "dict",data:=.dict #[]}) h.objs.size (.dT []) :=
 ⟨aR _,beq_eq_false_iff_ne.mpr (gU (ba hb)),[],.nil,_,#[],0,aH _ rfl,⟨rfl,rfl,rfl⟩,rfl,rfl,List.nodup_nil⟩
def Ve:TE:=fun _ H Q=>∀ p,H p=none→Q (.ref p) (upd H p (.dK []))
def Vd:TE:=fun _ H Q=>∀ p,H p=none→Q (.ref p) (upd H p (.dT []))
section
variable {X:Cx}{pos:jK}
theorem DW:PE X (.Dict [] [] pos) Ve:=fun pins s σ H Q I h =>
 wpAny_Dict_empty ⟨.ref s.heap.objs.size,_,I.laid (a:=s.heap.objs.size) (o:=.dK []) (t':=s.toks) (fun _ _ q=>ay _ q) (aL _) (P2 s.heap I.YW),rfl,h _ (I.fj.fresh (aL _))⟩
theorem yM:PE X (.Dict [] [] pos) Vd:=fun pins s σ H Q I h =>
 wpAny_Dict_empty ⟨.ref s.heap.objs.size,_,I.laid (a:=s.heap.objs.size) (o:=.dT []) (t':=s.toks) (fun _ _ q=>ay _ q) (aL _) (P1 s.heap I.YW),rfl,h _ (I.fj.fresh (aL _))⟩
end
def lY (kvs more:List (Key×V)):List (Key×V):=more.foldl (fun acc kv=>putK acc kv.1 kv.2) kvs
theorem KV.merge:∀ {more:List (Key×V)} {rs:List (Key×ag)} {kvs:List (Key×V)} {vs:List (Key×ag)},KV more rs→KV kvs vs→KV (lY kvs more) (merged vs rs):=by
 intro more rs kvs vs r
 unfold KV at r
 induction r generalizing kvs vs with
 | nil=>intro q;exact q
 | @cons p q ps qs h t ih =>
  intro r0
  have e:KV (putK kvs p.1 p.2) (stored vs q.1 q.2):=by
   have:=r0.put p.1 h.2
   rw[← h.1];exact this
  exact ih e
theorem tE:∀ (more kvs:List (Key×V)),(lY kvs more).length≤kvs.length+more.length
 | [],kvs=>by show kvs.length≤kvs.length+0;omega
 | p::r,kvs=>by
  have h1:=tE r (putK kvs p.1 p.2)
  have h2:=nj kvs p.1 p.2
  show (lY (putK kvs p.1 p.2) r).length≤_
  rw[aS];omega
structure M2 (X:Cx)(o:Expr)(m:cp)(apos:jK)(e f:Expr)(jB:jK):Prop where
 base:iZ o m X.env (eval o X.env)=eval o X.env
 few:((backTo jB (bQ [e,f] X.env)).all (fun x=>!x.1)&&(backToKw jB (keywordEach [] X.env)).all (fun x=>x.1.isSome)
  && decide (([e,f]:List Expr).length+([]:List Mz).length+(if ([]:List Mz).isEmpty then 0 else 1)<30))=true
 line:(apos.endLine==jB.line)=true
 trees:backTo jB (bQ [e,f] X.env)=[(false,eval e X.env),(false,eval f X.env)]
def ZO (H:Hp)(a:aj):Prop:=(∃ kvs,Rd H a (.dK kvs))∨∃ kvs,Rd H a (.dT kvs)
theorem VZ {X:Cx}{pins:List (aj×fA)}{σ:St}{H:Hp}{s:au}{a:aj}(I:Inv X pins σ H s)(d:ZO H a) :
  s.TypeIs (.ref a) "dict"∧(∀ b,ag.ref a=.ref b→∃ ob,s.heap.get? b=some ob∧ob.dict=none)∧(a==eV)=false:=by
 rcases d with ⟨kvs,e⟩ | ⟨kvs,e⟩
 ·obtain ⟨_,hd,vs,_,dd⟩:=Al I.fj e
  refine ⟨dd.typeIs,fun b q=>?_,hd⟩
  cases q
  obtain ⟨ob,_,_,h1,h2,_⟩:=dd
  exact ⟨ob,h1,h2.2.1⟩
 ·obtain ⟨_,hd,xs,_,dd⟩:=Dj I.fj e
  refine ⟨dd.typeIs,fun b q=>?_,hd⟩
  cases q
  obtain ⟨ob,_,_,h1,h2,_⟩:=dd
  exact ⟨ob,h1,h2.2.1⟩
section
variable {X:Cx}{pins:List (aj×fA)}{σ:St}{H:Hp}{s:au}{a:aj}{y d:V}{u r:ag}{o:Option V}{A:cA}{E:ag→au→Prop}
theorem V8 {Q:ag→au→Prop}(hu:A.units+8<cLine)(I:Inv X pins σ H s)(g:uA H a y o)(ry:RelV y u)(rd:RelV d r)(h:∀ w' s',Inv X pins σ H s'→RelV (o.getD d) w'→Q w' s') :
  wpAny (model X.prog X.w) A (call (.builtin "dict.get") [.ref a,u,r]) Q E s:=by
 rcases g with ⟨kvs,k,e,ey,l⟩ | ⟨kvs,k,b,e,ey,eb,l⟩
 ·subst ey
  obtain ⟨z,hd,vs,rel,dd⟩:=Al I.fj e
  refine call_meetsIn ql dd.typeIs CL (Bq _ _ _) (meets_dict_get_default (dW X.prog X.w) a (Aj ry) hd r) ⟨_,dd.mapOf,h _ _ (I.tok _) ?_⟩
  rw[l]
  exact (rel.val k).getD rd
 ·subst ey
  cases (show u=ag.ref b from ry)
  obtain ⟨z,hd,xs,rel,dd⟩:=Dj I.fj e
  refine call_meetsIn ql dd.typeIs CL (Bq _ _ _) (meetsH_dict_get_default (mq X.prog X.w) a b hd r) ⟨wg hu,k,xs,BI I.fj eb,dd,h _ _ (I.tok _) ?_⟩
  rw[l]
  exact (rel.val k).getD rd
end
def Vf (td ty tx:TE):TE:=fun σ H Q=>td σ H fun x H1=>∃ a,x=.ref a∧ZO H1 a∧ty σ H1 fun y H2=>tx σ H2 fun z H3=>∃ o,uA H3 a y o∧Q (o.getD z) H3
section
variable {X:Cx}{o e f:Expr}{apos jB:jK}{td ty tx:TE}
theorem DX (hu:X.A.units+8<cLine)(ho:PE X o td)(he:PE X e ty)(hf:PE X f tx)(m:M2 X o "get" apos e f jB):PE X (.Call (.Attribute o "get" apos) [e,f] [] jB) (Vf td ty tx):=by
 intro pins s σ H Q I h
 refine qv m.base m.few m.line PySem.F.plainAttrs_dict ql PySem.F.type_dict_get (gI (ho pins s σ H _ I h) fun u s1 ⟨x,H1,I1,rx,a,ex,d,q1⟩=>?_)
 subst ex
 obtain rfl:u=ag.ref a:=rx
 obtain ⟨t1,t2,_⟩:=VZ I1 d
 refine ⟨t1,t2,?_⟩
 rw[m.trees]
 refine Fj rfl (HV (iE (gI (he pins s1 σ H1 _ I1 q1) fun iv s2 ⟨y,H2,I2,ry,q2⟩ =>
  iE (gI (hf pins s2 σ H2 _ I2 q2) fun fv s3 ⟨z,H3,I3,rz,ov,g,q3⟩=>j0 ?_))))
 exact V8 hu I3 g ry rz fun w' s4 I4 rw'=>⟨_,H3,I4,rw',q3⟩
end
section
variable {X:Cx}{pins:List (aj×fA)}{σ:St}{H:Hp}{s:au}{a:aj}{kvs:List (Key×V)}{A:cA}{E:ag→au→Prop}
end
section
variable {X:Cx}{pins:List (aj×fA)}{σ:St}{H:Hp}{s:au}{a:aj}{y:V}{u:ag}{A:cA}{E:ag→au→Prop}
end
theorem zQ:typeLookup (.type "list") "keys"=pure none:=am_miss_of_fast (by first | decide +kernel | rfl)
theorem Dz:entryFor table "dict.update.loop"=some Builtin.«dict.update.loop»:=entryFor_of_tree (by kernel_rfl)
theorem qQ:plainId "dict.update.loop"=true:=by decide +kernel
section
variable {prog:aY}{w:bO}{A:cA}{E:ag→au→Prop}
theorem K1 {s:au}{a:aj}{o:fA}{xs:Array ag}{k:Nat}{Q:Option ag→au→Prop}(hx:s.heap.get? a=some o)(hc:o.cls=.type "list")(hdat:o.data=.seq xs k)(hd:o.dict=none)(hA:A.handled=none)
  (h:∀ h' tk,(∀ b ob,s.heap.get? b=some ob→h'.get? b=some ob)→Q none {s with heap:=h',toks:=tk}):wpAny (model prog w) A (getAttr? (.ref a) "keys") Q E s:=by
 obtain ⟨c,dct,dat,sl⟩:=o
 simp only at hc hdat hd
 subst hc hdat hd
 obtain ⟨hp,g,d,tk,os⟩:=s
 have hT:∀ tk',(⟨hp,g,d,tk',os⟩:au).TypeIs (.ref a) "list":=fun _=>⟨_,hx,rfl⟩
 have hmiss:=zQ
 have hname:(["__module__","__name__","__qualname__","__doc__","__annotations__"]:List cp).contains "keys"=false:=by decide +kernel
 have hsz:("keys":cp).length+100≤aA:=by first | size_fits | decide +kernel
 have f1:=sub_AttributeError
 have f3:=kI.lookup
 have f4:=kI.bind (.ref a)
 have f5:=am_list_getattr_none
 unfold getAttr? getAttrBy? getAttrBy
 repeat (any_goals (first | assumption | exact hT _ | ((with_reducible show wpAny _ _ (call (ag.builtin "list.__getattribute__") _ _) _ _ _);refine GJ kI (hT _) am_entry_list_getattribute (PySem.F.args_list_getattribute_2 _ _) (meets_getattribute_miss_list a xs k sl "keys" _ hmiss hname hsz) ⟨hx,hA,fun h' tk' e hx'=>?_⟩) | wp_step))
 obtain ⟨t',u',he⟩:=hx'.there
 show wpAny _ _ (getattributeRaised _ _ _ _ _ _ _) _ _ _
 unfold getattributeRaised
 repeat (any_goals (first | assumption | wp_step))
 all_goals first | exact h _ _ hx'.keeps | (dsimp only;repeat (any_goals (first | assumption | exact h _ _ hx'.keeps | wp_step)))
theorem Dy {R:qM→au→Prop}{S I l:aj}{items:Array ag}{res:ag}(hh:A.handled=none)(hlI:l≠I)(hSI:S≠I)(hSl:S≠l) :
  ∀ (rest:List (Key×ag)) (i:Nat) (acc:List (Key×ag)) (ix:Int) (t:Tok) (s:au),items.size=i+rest.length→acc.length+rest.length≤aA →
   (∀ (j:Nat) (q:Key×ag),rest[j]?=some q→∃ (b:aj) (u:ag),items[i+j]?=some (.ref b)∧b≠S∧b≠I∧qo s.heap b #[u,q.2]∧jM q.1 u=true) →
   s.heap.IsListIter I l i→s.heap.IsList l items→s.heap.DictOf (dW prog w) S acc →
   (∀ h' tk,h'.DictOf (dW prog w) S (merged acc rest)→(∀ b o,b≠S→b≠I→s.heap.get? b=some o→h'.get? b=some o)→R (.ok (.ret res)) {s with heap:=h',toks:=tk}) →
   codeAny (model prog w) A (.builtin "dict.update.loop" ⟨[.ref S,.ref I,.int ix t,res],[]⟩) R s
 | [],i,acc,ix,t,s,hsz,hln,ht,hit,hl,hm,hR=>by
  refine eA Dz ?_
  rw[dh qQ _]
  show wpAny _ A.in1 (pyNext (.ref I) >>= _) _ _ s
  refine aa (fZ (A:=A.in1) hh hit hl (by first | exact iF (mN hsz) | (simp at hsz;simp;omega)) fun h' he=>?_)
  show wpAny _ A.in1 (Builtin.Dict.addKeywords S [] >>= _) _ _ _
  refine aa (ak (ak ?_))
  exact hR h' s.toks (hm.extBut he hSI) fun b o _ hb e=>he b o hb e
 | q::rest,i,acc,ix,t,s,hsz,hln,ht,hit,hl,hm,hR=>by
  obtain ⟨b,u,hb,hbS,hbI,htup,hk⟩:=ht 0 q rfl
  rw[aS] at hsz hln
  refine eA Dz ?_
  rw[dh qQ _]
  show wpAny _ A.in1 (pyNext (.ref I) >>= _) _ _ s
  refine aa (fL (x:=.ref b) hit hl (by simpa using hb) fun h1 hit1 hs1=>?_)
  have ht1:qo h1 b #[u,q.2]:=htup.extBut hs1.extBut hbI
  have hl1:h1.IsList l items:=hl.extBut hs1.extBut hlI
  have hm1:h1.DictOf (dW prog w) S acc:=hm.extBut hs1.extBut hSI
  obtain ⟨o,ho,hc,n,hd⟩:=id ht1
  show wpAny _ A.in1 (holding [ag.ref b] _ >>= _) _ _ _
  refine aa (dj ?_)
  refine aa (fJ ?_)
  unfold Builtin.Dict.pairItems
  refine aa (oU (T:="tuple") ⟨o,ho,hc⟩ ?_)
  rw[if_pos (by first | decide | rfl | simp)]
  refine aa (c7 ho hd (ak ?_))
  show wpAny _ A.in1 (holding [u,q.2] (dictSet S u q.2)) _ _ _
  refine dj (wpAny_dictSet_pairs (knd:=dW prog w) (k:=q.1) hk hm1 (fun h2 hm2 hs2=>?_) (by omega))
  refine ak ⟨dw qQ _,Dy (items:=items) hh hlI hSI hSl rest (i+1) (stored acc q.1 q.2) (ix+1) 0 _ (show items.size=i+1+rest.length by omega) ?_ (fun j q' e=>?_) ?_ ?_ hm2 fun h' tk hd' k=>?_⟩
  ·have z:=stored_length_le acc q.1 q.2
   omega
  ·obtain ⟨b',u',hb',hbS',hbI',htup',hk'⟩:=ht (j+1) q' (by simpa using e)
   refine ⟨b',u',?_,hbS',hbI',(htup'.extBut hs1.extBut hbI').extBut hs2.extBut hbS',hk'⟩
   rw[show i+1+j=i+(j+1) by omega]
   exact hb'
  ·exact hit1.at fun o' e=>hs2.extBut I o' (gU hSI) e
  ·exact hl1.extBut hs2.extBut (gU hSl)
  ·exact hR h' tk hd' fun c oc h3 h4 e=>k c oc h3 h4 (hs2.extBut c oc h3 (hs1.extBut c oc h4 e))
theorem xM {s:au}{l:aj}{ol:fA}{items:Array ag}{n:Nat}{prs:List (Key×ag)}{Q:ag→au→Prop}(hh:A.handled=none)(hl:s.heap.get? l=some ol)(hc:ol.cls=.type "list")(hd:ol.dict=none)
  (hdat:ol.data=.seq items n)(hsz:items.size=prs.length)(hln:prs.length≤aA)
  (ht:∀ (j:Nat) (q:Key×ag),prs[j]?=some q→∃ (b:aj) (u:ag),items[j]?=some (.ref b)∧qo s.heap b #[u,q.2]∧jM q.1 u=true)
  (h:∀ h' tk,h'.DictOf (dW prog w) s.heap.objs.size (merged [] prs)→(∀ b o,s.heap.get? b=some o→h'.get? b=some o)→Q (.ref s.heap.objs.size) {s with heap:=h',toks:=tk}) :
  wpAny (model prog w) A (call (.type "dict") [.ref l]) Q E s:=by
 refine callType_codes (Q₁:=fun obj s₁=>obj=.ref s.heap.objs.size∧s₁={s with heap:=s.heap.push {cls:=.type "dict",data:=.dict #[]}}) PySem.F.kt_called_dict (PySem.F.kt_typeCall_dict_1 _) PySem.F.entry_dict_init (kt_code_dict_new _ ⟨rfl,rfl⟩) ?_
 rintro obj s₁ ⟨rfl,rfl⟩
 have hnew:(s.heap.push {cls:=.type "dict",data:=.dict #[]}).DictOf (dW prog w) s.heap.objs.size []:=Fv s.heap
 have k0:∀ b o,s.heap.get? b=some o→(s.heap.push {cls:=.type "dict",data:=.dict #[]}).get? b=some o:=fun b o e=>ay _ e
 refine ⟨hnew.typeIs,PySem.F.args_dict_init_2 _ _,?_⟩
 unfold Builtin.«dict.__init__»
 refine aa ?_
 unfold Builtin.Dict.selfAndRest
 refine aa (vh hnew.typeIs ?_)
 show wpAny _ _ (pure (s.heap.objs.size,[ag.ref l])) _ _ _
 refine ak ?_
 show wpAny _ _ (xO "dict.__init__" s.heap.objs.size (.ref l) [] .none) _ _ _
 unfold xO
 refine aa (oU (T:="list") ⟨ol,k0 _ _ hl,hc⟩ ?_)
 rw[if_pos (by first | decide | rfl | simp)]
 refine aa (K1 (k0 _ _ hl) hc hdat hd hh fun h1 tk1 hk1=>?_)
 rw[if_pos (show (none:Option ag).isNone=true from rfl)]
 refine aa (jm ?_)
 have hl1:h1.IsList l items:=⟨ol,hk1 _ _ (k0 _ _ hl),hc,n,hdat⟩
 have hS1:s.heap.objs.size<h1.objs.size:=by
  have e:(s.heap.push {cls:=.type "dict",data:=.dict #[]}).get? s.heap.objs.size=some {cls:=.type "dict",data:=.dict #[]}:=aH _ rfl
  exact aN (hk1 _ _ e)
 refine aa (ig hl1 ?_)
 have k2:∀ b o,h1.get? b=some o→(h1.push {cls:=.type "list_iterator",data:=.fields #[.ref l,.int 0 0]}).get? b=some o:=fun b o e=>ay _ e
 have jV:l<s.heap.objs.size:=aN hl
 have key:=Dy (prog:=prog) (w:=w) (A:=A.in1) (R:=wants (fun r s₂=>r=.none∧Q (.ref s.heap.objs.size) s₂) E) (S:=s.heap.objs.size) (I:=h1.objs.size) (l:=l) (items:=items) (res:=ag.none) hh
  (ba (kD jV hS1)) (ba hS1) (fY jV) prs 0 [] 0 0
  {s with heap:=h1.push {cls:=.type "list_iterator",data:=.fields #[.ref l,.int 0 0]},toks:=tk1} (by rw[hsz,mM]) (by rw[eG,mM];exact hln)
  (fun j q e=>by
   obtain ⟨b,u,e1,e2,e3⟩:=ht j q e
   have hb:b<s.heap.objs.size:=e2.lt
   exact ⟨b,u,by rw[mM];exact e1,ba hb,ba (kD hb hS1),e2.keeps fun c o z=>k2 _ _ (hk1 _ _ (k0 _ _ z)),e3⟩)
  ⟨_,aH _ rfl,rfl,rfl⟩ (hl1.at fun o e=>k2 _ _ e) ((hnew.at fun o e=>hk1 _ _ e).at fun o e=>k2 _ _ e)
  (fun h' tk hd' k=>⟨rfl,h h' tk hd' fun b o e=>k b o (ba (aN e)) (ba (kD (aN e) hS1)) (k2 _ _ (hk1 _ _ (k0 _ _ e)))⟩)
 first
  | exact ak ⟨dw qQ _,key⟩
  | exact aa (ak (ak ⟨dw qQ _,key⟩))
end
section
variable {X:Cx}
theorem DZ {pins:List (aj×fA)}{σ:St}{H:Hp}{s:au}(I:Inv X pins σ H s):∀ {ps:List aj} {kvs:List (Key×V)},Paired (fun p kv=>fN X.K H p [kV kv.1,kv.2]) ps kvs →
  ∃ prs:List (Key×ag),KV kvs prs∧prs.length=ps.length∧∀ (j:Nat) (q:Key×ag),prs[j]?=some q→∃ (b:aj) (u:ag),ps[j]?=some b∧qo s.heap b #[u,q.2]∧jM q.1 u=true
 | _,_,.nil=>⟨[],.nil,rfl,fun j q e=>by simp at e⟩
 | _,_,.cons (a:=p) (b:=kv) h t=>by
  obtain ⟨prs,r,hl,hp⟩:=DZ I t
  obtain ⟨its,rv,ht,_⟩:=I.tuple h
  obtain ⟨u,y,ei,ru,ry⟩:=vals2 rv
  subst ei
  refine ⟨(kv.1,y)::prs,.cons ⟨rfl,ry⟩ r,by rw[aS,aS,hl],fun j q e=>?_⟩
  cases j with
  | zero =>
   have e':(kv.1,y)=q:=aJ e
   subst e'
   exact ⟨p,u,rfl,ht,Aj (P:=X.prog) (w:=X.w) ru⟩
  | succ j =>
   obtain ⟨b,u',e1,e2,e3⟩:=hp j q (by simpa using e)
   exact ⟨b,u',by simpa using e1,e2,e3⟩
theorem jO:∀ {ps:List aj} {us:List ag},df (ps.map V.ref) us→us=ps.map ag.ref
 | [],us,r=>by
  rw[fC] at r
  cases r
  rfl
 | p::ps,us,r=>by
  rw[bo] at r
  cases r with
  | cons h t =>
   cases h
   rw[bo,← jO t]
theorem HK (hcalm:X.calm=true):lC X (.type "dict") (fun xs H Q=>∃ (a:aj) (ps:List aj) (kvs:List (Key×V)),xs=[.ref a]∧cG X.K H a (ps.map V.ref)∧Paired (fun p kv=>fN X.K H p [kV kv.1,kv.2]) ps kvs ∧
  ∀ p,H p=none→Q (.ref p) (upd H p (.dK (lY [] kvs)))):=by
 intro pins s σ H xs us Q I r q
 obtain ⟨a,ps,kvs,ex,hq,hp,q⟩:=q
 subst ex
 obtain ⟨u,eu,rx⟩:=vals1 r
 subst eu
 cases rx
 obtain ⟨its,rv,pl,hz⟩:=I.list hq
 have ei:=jO rv
 subst ei
 rw[ae] at hz
 obtain ⟨prs,rel,hl,hpr⟩:=DZ I hp
 obtain ⟨o,n,ho,hc,hd,hdat⟩:=pl
 refine xM (prs:=prs) (I.ok.hd hcalm) ho hc hd hdat (by simp[hl]) (by rw[hl];exact hz) (fun j q' e=>?_) fun h' tk hd' k=>?_
 ·obtain ⟨b,u,e1,e2,e3⟩:=hpr j q' e
  exact ⟨b,u,by simp[e1],e2,e3⟩
 ·have hm:(s.heap.objs.size==eV)=false:=beq_eq_false_iff_ne.mpr (fY I.YW)
  have hlen:(lY [] kvs).length≤aA:=by
   refine aD (tE kvs []) ?_
   rw[eG,mM,rel.length,hl]
   exact hz
  exact ⟨.ref s.heap.objs.size,upd H s.heap.objs.size (.dK (lY [] kvs)),I.laid (t':=tk) k (aL _) (show fM X.prog X.w _ _ _ (.dK (lY [] kvs)) from ⟨hlen,hm,merged [] prs,KV.merge rel .nil,hd'⟩),rfl,q _ (I.fj.fresh (aL _))⟩
end
section
variable {X:Cx}{pins:List (aj×fA)}{σ:St}{H:Hp}{s:au}{h':bU}
theorem Inv.Ir {t':Nat}{ch:List aj}(I:Inv X pins σ H s)(k:∀ b o,b∉ch→s.heap.get? b=some o→h'.get? b=some o)(hf:∀ b∈ch,xA X pins H b):Inv X pins σ H {s with heap:=h',toks:=t'}:=by
 have nit:∀ b u,H b=some u→b∉ch:=fun b u e z=>by
  have q:=(hf b z).1
  rw[q] at e;cases e
 refine I.step (g':=s.gens) (d':=s.drawn) (ch:=ch) (fun b hb=>⟨(hf b hb).2.2.2.1,(hf b hb).2.1,(hf b hb).2.2.2.2.1,(hf b hb).2.2.2.2.2⟩) (fun b o _ _ hc e _=>k b o hc e) (fun b o _ _ hc e _=>⟨o.slots,k b o hc e⟩)
  (fun _ _ _ _ n=>n) (fun b o hc e=>⟨o,k b o hc e⟩) (fun _ _ e=>e) (fun _ _ _ e=>e) (fun b ps e=>⟨#[],by rw[e];simp⟩) (fun m hm=>?_) (fun b u e=>?_) I.bare
 ·obtain ⟨o,es,ep,ho,r⟩:=hm
  exact ⟨o,es,ep,k _ o (fun z=>(hf _ z).2.1 rfl) ho,r⟩
 ·refine (I.fj b u e).zY (fun c v hc q=>k c v ?_ q) (fun _ q=>q) fun _ _ q=>q
  rcases hc with z | z
  ·rw[z];exact nit b u e
  ·exact nit c _ z
theorem Inv.oM {t':Nat}{ch:List aj}{T:aj}{ob:HO}(I:Inv X pins σ H s)(k:∀ b o,b∉ch→s.heap.get? b=some o→h'.get? b=some o)(hf:∀ b∈ch,xA X pins H b)(hT:s.heap.objs.size≤T)
  (new:fM X.prog X.w (upd H T ob) h' T ob):Inv X pins σ (upd H T ob) {s with heap:=h',toks:=t'}:=by
 have hn:H T=none:=I.fj.fresh hT
 have nit:∀ b u,H b=some u→b∉ch:=fun b u e z=>by
  have q:=(hf b z).1
  rw[q] at e;cases e
 refine I.step (g':=s.gens) (d':=s.drawn) (ch:=ch) (fun b hb=>⟨(hf b hb).2.2.2.1,(hf b hb).2.1,(hf b hb).2.2.2.2.1,(hf b hb).2.2.2.2.2⟩) (fun b o _ _ hc e _=>k b o hc e) (fun b o _ _ hc e _=>⟨o.slots,k b o hc e⟩)
  (fun b o _ e n=>?_) (fun b o hc e=>⟨o,k b o hc e⟩) (fun b xs e=>?_) (fun b o u e=>?_) (fun b ps e=>⟨#[],?_⟩) (fun m hm=>?_) (fun b u e=>?_) I.bare
 ·rw[aT (ba (cz (aN e) hT))];exact n
 ·rw[aT (dg e hn)];exact e
 ·rw[aT (dg e hn)];exact e
 ·rw[aT (dg e hn),e];simp
 ·obtain ⟨o,es,ep,ho,r⟩:=hm
  exact ⟨o,es,ep,k _ o (fun z=>(hf _ z).2.1 rfl) ho,r⟩
 ·by_cases hb:b=T
  ·subst hb
   rw[aw] at e
   cases e
   exact new
  ·rw[aT hb] at e
   refine (I.fj b u e).zY (fun c v hc q=>k c v ?_ q) (fun c q=>by rw[aT (dg q hn)];exact q) fun c xs q=>by rw[aT (dg q hn)];exact q
   rcases hc with z | z
   ·rw[z];exact nit b u e
   ·exact nit c _ z
theorem Inv.lock {d:aj}{u:HO}(I:Inv X pins σ H s)(h:H d=some u)(mu:QY (some u)):∃ od,Inv X pins σ (upd H d (.lG od u)) s:=by
 have x:=I.fj d u h
 have ex:∃ od,s.heap.get? d=some od:=by
  cases u with
  | lst xs=>obtain ⟨_,_,_,_,e⟩:=x;exact ⟨_,e⟩
  | dK kvs=>obtain ⟨_,_,_,_,o,_,_,e,_⟩:=x;exact ⟨o,e⟩
  | dT kvs=>obtain ⟨_,_,_,_,o,_,_,e,_⟩:=x;exact ⟨o,e⟩
  | set S n=>obtain ⟨o,_,_,_,e,_⟩:=x;exact ⟨o,e⟩
  | ins C dx fs=>obtain ⟨_,_,_,e,_⟩:=x;exact ⟨_,e⟩
  | ext φ=>obtain ⟨_,⟨_,e⟩,_⟩:=x;exact ⟨_,e⟩
  | _=>exact fg mu
 obtain ⟨od,e⟩:=ex
 have new:fM X.prog X.w (upd H d (.lG od u)) s.heap d (.lG od u):=by
  refine ⟨e,x.zY (fun b v _ q=>q) (fun b q=>?_) fun b xs q=>?_⟩
  ·rw[aT (fun z=>by rw[z,h] at q;cases q;exact mu)];exact q
  ·rw[aT (fun z=>by rw[z,h] at q;cases q;exact mu)];exact q
 exact ⟨od,I.write (x:=d) (e:=d) (t':=s.toks) (h':=s.heap) (by rw[h];exact mu) (.inl rfl) (fun b v _ q=>q) ⟨od,e⟩ new⟩
theorem Inv.Di {d:aj}{u:HO}(I:Inv X pins σ H s)(h:H d=some u)(mu:QY (some u)):∀ o' u',X.H_0 d≠some (.lG o' u'):=fun o' u' e=>by
 have q:=I.base.yl d o' u' e
 rw[h] at q
 cases q
 exact mu
theorem Inv.unlock {d:aj}{od:fA}{u:HO}(I:Inv X pins σ H s)(h:H d=some (.lG od u))(hn:∀ o' u',X.H_0 d≠some (.lG o' u')):Inv X pins σ (upd H d u) s:=by
 have neH:∀ b o,H b=some o→(∀ o' u',o≠.lG o' u')→b≠d:=fun b o e hne z=>by
  rw[z,h] at e
  cases e
  exact hne _ _ rfl
 have neN:∀ b,H b=none→b≠d:=fun b e z=>by rw[z,h] at e;cases e
 refine ⟨I.ok,I.os,I.bare,⟨I.base.keep,I.base.slot,fun b o e n hx=>?_,I.base.there,fun b xs e=>?_,fun b o x e=>?_,fun b ps e=>?_⟩,I.loc,I.cell,?_,fun x c e=>?_,fun p hp=>?_,fun b o e=>?_,I.len⟩
 ·rw[aT (neN b (I.base.free b o e n hx))];exact I.base.free b o e n hx
 ·have q:=I.base.Bu b xs e
  rw[aT (neH b _ q (fun _ _ z=>nomatch z))];exact q
 ·have q:=I.base.yl b o x e
  rw[aT (fun z=>by rw[z] at e;exact hn _ _ e)];exact q
 ·obtain ⟨m,q⟩:=I.base.Bv b ps e
  exact ⟨m,by rw[aT (neH b _ q (fun _ _ z=>nomatch z))];exact q⟩
 ·rw[aT (neN _ I.free)];exact I.free
 ·rw[aT (neN c (I.mT x c e))];exact I.mT x c e
 ·obtain ⟨e,n,r⟩:=I.pin p hp
  exact ⟨e,by rw[aT (neN _ n)];exact n,r⟩
 ·by_cases hb:b=d
  ·rw[hb,aw] at e
   cases e
   rw[hb]
   obtain ⟨_,x⟩:=I.fj d _ h
   exact x.zY (fun c v _ q=>q) (fun c q=>by rw[aT (neH c _ q (fun _ _ z=>nomatch z))];exact q) fun c xs q=>by rw[aT (neH c _ q (fun _ _ z=>nomatch z))];exact q
  ·rw[aT hb] at e
   exact (I.fj b o e).zY (fun c v _ q=>q) (fun c q=>by rw[aT (neH c _ q (fun _ _ z=>nomatch z))];exact q) fun c xs q=>by rw[aT (neH c _ q (fun _ _ z=>nomatch z))];exact q
end
def Xp (t:TS):TS:=fun D σ H=>∃ d u,H d=some u∧QY (some u)∧∀ od,t ⟨fun σ' H'=>H' d=some (.lG od u)∧D.nx σ' (upd H' d u),fun v H'=>H' d=some (.lG od u)∧D.rt v (upd H' d u),fun σ' H'=>H' d=some (.lG od u)∧D.bk σ' (upd H' d u),fun σ' H'=>H' d=some (.lG od u)∧D.ct σ' (upd H' d u)⟩ σ (upd H d (.lG od u))
def Va (t:TE):TE:=fun σ H Q=>∃ d u,H d=some u∧QY (some u)∧∀ od,t σ (upd H d (.lG od u)) fun v H'=>H' d=some (.lG od u)∧Q v (upd H' d u)
section
variable {X:Cx}
theorem Rv {st:d5}{t:TS}(h:PS X st t):PS X st (Xp t):=by
 intro pins s σ H D I hw
 obtain ⟨d,u,hd,mu,hw⟩:=hw
 obtain ⟨od,I1⟩:=I.lock hd mu
 refine gI (h pins s σ _ _ I1 (hw od)) fun f s1 q=>?_
 cases f with
 | next=>obtain ⟨σ',H',I2,e,q⟩:=q;exact ⟨σ',_,I2.unlock e (I.Di hd mu),q⟩
 | brk=>obtain ⟨σ',H',I2,e,q⟩:=q;exact ⟨σ',_,I2.unlock e (I.Di hd mu),q⟩
 | cont=>obtain ⟨σ',H',I2,e,q⟩:=q;exact ⟨σ',_,I2.unlock e (I.Di hd mu),q⟩
 | ret v=>obtain ⟨x,σ',H',I2,r,e,q⟩:=q;exact ⟨x,σ',_,I2.unlock e (I.Di hd mu),r,q⟩
theorem IX {e:Expr}{t:TE}(h:PE X e t):PE X e (Va t):=by
 intro pins s σ H Q I hw
 obtain ⟨d,u,hd,mu,hw⟩:=hw
 obtain ⟨od,I1⟩:=I.lock hd mu
 refine gI (h pins s σ _ _ I1 (hw od)) fun v s1 ⟨x,H1,I2,r,e2,q⟩=>?_
 exact ⟨x,_,I2.unlock e2 (I.Di hd mu),r,q⟩
theorem Gh {tg:Expr}{pins:List (aj×fA)}{σ:St}{H:Hp}{s:au}{R:It→Hp→Prop}{J:It}{tn:Nat→bU→Prop}{tk:Nat}(I:Inv X pins σ H s)(o:fA)
  (T:Turn X.prog X.w X.K tg J [s.heap.objs.size] s.heap.objs.size tn)(st:tn 0 (s.heap.push o))(q:R J H):WR X pins σ tg R (.ref s.heap.objs.size) {s with heap:=s.heap.push o,toks:=tk}:=by
 refine ⟨s.heap.objs.size,[s.heap.objs.size],tn,J,H,rfl,I.kept fun b ob e=>ay _ e,T,st,fun b hb=>?_,q⟩
 have e:b=s.heap.objs.size:=by simpa using hb
 subst e
 exact I.C8 (aL _) (I.fj.fresh (aL _))
end
def Ue (lo c:Int)(n:Nat):It:=⟨fun i _=>i<n,fun i H x H'=>H'=H∧x=.int (lo+(i:Nat)*c),fun i _=>n≤i⟩
theorem EG {P:aY}{w:bO}{K:ai}{tg:Expr}(it:aj)(lo c:Int)(n:Nat):Turn P w K tg (Ue lo c n) [it] it (fun i h=>CT h it (lo+(i:Nat)*c) ((n:Int) - (i:Nat)) c) where
 mem:=by simp
 obj:=fun i h st b hb=>by
  have e:b=it:=by simpa using hb
  subst e
  exact ⟨_,st,fun v z=>nomatch z⟩
 keep:=fun i h h' st k=>k it (by simp) _ st
 item:=by
  intro X hP hw hK hc i pins s σ H E I hf st hg
  subst hP hw hK
  obtain ⟨f0,f1,f2,f3,f4,f5⟩:=hf it (by simp)
  have W:=Walks.range (prog:=X.prog) (w:=X.w) (I.ok.hd hc) it lo c n
  refine W.item i s _ _ hg st fun v h' tk hv st' kk=>?_
  obtain ⟨t,rfl⟩:=hv
  have I1:Inv X pins σ H {s with heap:=h',toks:=tk}:=I.turned (fun b o hb e=>kk b o (by simpa using hb) e) f0 f1 f3 f4 f5
  exact ⟨_,rfl,Ik (s:={s with heap:=h',toks:=tk}) (n:="range_iterator") st' rfl rfl (by decide) ⟨.int (lo+(i:Nat)*c),H,I1,⟨t,rfl⟩,⟨rfl,rfl⟩,st',fun b hb=>(hf b hb).1⟩⟩
 done:=by
  intro X hP hw hK hc i pins s σ H E I hf st hg
  subst hP hw hK
  obtain ⟨f0,f1,f2,f3,f4,f5⟩:=hf it (by simp)
  exact Qn (I.ok.hd hc) st (by have:n≤i:=hg;omega) fun h' eb=>⟨rfl,I.turned (t':=s.toks) (fun b o hb e=>eb b o hb e) f0 f1 f3 f4 f5⟩
 self:=fun A i s Q E st h=>Qo st h
def UQ (i j c:Int)(n:Nat):Prop:=c≠0∧c.natAbs<1073741824∧zW i j c=true∧gZ i j c=n
theorem UQ.neg {i j:Int}(ha:-(2 ^ 62)≤i)(ha':i<2 ^ 62)(hb:-(2 ^ 62)≤j)(hb':j<2 ^ 62):UQ i j (-1) (i - j).toNat :=
 ⟨by decide,by decide,PySem.W.small_down ha ha' hb hb',PySem.W.rangeSize_downNat i j⟩
def XH (ta:TA):TI:=fun σ H R=>ta σ H fun vs H1=>∃ (i j c:Int) (n:Nat),vs=[.int i,.int j,.int c]∧UQ i j c n∧R (Ue i c n) H1
section
variable {X:Cx}{tg:Expr}
theorem sG {a b c:Expr}{ta:TA}{p pos:jK}(hg:Gl X "range")(hm:X.mg "range"=none)(ha:PA X [a,b,c] ta)
  (hs:bQ [a,b,c] X.env=(false,eval a X.env)::bQ [b,c] X.env:=by rfl)(hpl:(backTo pos (bQ [b,c] X.env)).any (·.1)=false:=by rfl) :
  PI X tg (.Call (.Name "range" p) [a,b,c] [] pos) (XH ta):=by
 intro pins s σ H R I h
 refine Call_ (jl I hg hm GK (cK (gI (ha pos pins s σ H _ I h) fun us s1 ⟨vs,H1,I1,r1,q1⟩=>?_) hs hpl))
 obtain ⟨i,j,k,n,e,⟨c0,c1,c2,c3⟩,q⟩:=q1
 subst e
 cases r1 with
 | cons r rr =>
  cases rr with
  | cons r' rr =>
   cases rr with
   | cons r'' rr =>
    cases rr
    obtain ⟨t,rfl⟩:=r
    obtain ⟨t',rfl⟩:=r'
    obtain ⟨t'',rfl⟩:=r''
    refine call_range_3 c0 ?_ (.inl (CM c1))
    refine wpAny_pyIter_range (ED ..) c2 ?_
    have I2:Inv X pins σ H1 {s1 with heap:=s1.heap.push {cls:=.type "range",data:=.fields #[.int i t,.int j t',.int k t'']}}:=I1.kept (t':=s1.toks) fun b o e=>ay _ e
    refine Gh (tk:=s1.toks) I2 _ (EG _ i k n) ?_ q
    have e1:i+((0:Nat):Int)*k=i:=by simp
    have e2:(n:Int) - ((0:Nat):Int)=gZ i j k:=by rw[c3];simp
    show CT _ _ (i+((0:Nat):Int)*k) ((n:Int) - ((0:Nat):Int)) k
    rw[e1,e2]
    exact aH _ rfl
end
theorem uc {lo c:Int}{n:Nat}{g:TG}{tb:TS}{D:Ends}{σ:St}{H:Hp}(Pv:Nat→St→Hp→Prop)(h0:Pv 0 σ H)
  (hs:∀ i σ H,i<n→Pv i σ H→g (.int (lo+(i:Nat)*c)) σ H fun σ2 H2=>tb {D with nx:=Pv (i+1),ct:=Pv (i+1),bk:=D.nx} σ2 H2)(hd:∀ σ H,Pv n σ H→D.nx σ H) :
  ∃ W:Nat→Nat→St→Hp→Prop,(∃ m,W 0 m σ H)∧∀ i m σ H,W i m σ H →
   ((Ue lo c n).stop i H∧D.nx σ H)∨((Ue lo c n).go i H∧∃ N:St→Hp→Prop,(∀ σ' H',N σ' H'→∃ m',m'<m∧W (i+1) m' σ' H')∧∀ x H',(Ue lo c n).zS i H x H'→g x σ H' fun σ2 H2=>tb {D with nx:=N,ct:=N,bk:=D.nx} σ2 H2):=by
 refine ⟨fun i m σ H=>m=n - i∧i≤n∧Pv i σ H,⟨n,by simp,aR _,h0⟩,?_⟩
 rintro i m σ H ⟨rfl,hi,p⟩
 by_cases jV:i<n
 ·refine .inr ⟨jV,Pv (i+1),fun σ' H' p'=>⟨n - (i+1),by omega,rfl,jV,p'⟩,fun x H' y=>?_⟩
  obtain ⟨e,y⟩:=y
  subst e y
  exact hs i σ _ jV p
 ·have e:i=n:=by omega
  subst e
  exact .inl ⟨aL _,hd σ H p⟩
section
variable {X:Cx}{tg:Expr}
end
section
variable {prog:aY}{w:bO}{A:cA}{E:ag→au→Prop}{s:au}
theorem Lf {d:aj}{o:fA}{es:Array fq}{ep:Nat}{Q:ag→au→Prop}(hd:(d==eV)=false)(ho:s.heap.get? d=some o)(hc:o.ExactDict)(hdat:o.data=.dict es ep)
  (hQ:Q (.ref s.heap.objs.size) {s with heap:=s.heap.push {cls:=.type "dict_keyiterator",data:=.fields #[.ref d,.int 0 0,.int es.size 0,.int ep 0]}}) :
  wpAny (model prog w) A (pyIter (.ref d)) Q E s:=by
 have hT:s.TypeIs (.ref d) "dict":=⟨o,ho,hc.1⟩
 refine qu hT F.slot_dict_iter (c5 F.slot_dict_iter hT F.entry_dict_iter ?_ (F.args_dict_iter_1 _))
 unfold Builtin.«dict.__iter__»
 refine aa ?_
 unfold Builtin.Dict.dictSlotNone
 refine aa (vh hT ?_)
 show wpAny _ _ (pure (ag.ref d)) _ _ s
 refine ak ?_
 show wpAny _ _ (jG d >>= _) _ _ s
 unfold jG
 rw[if_neg (by rw[hd];exact bg)]
 refine aa (ak ?_)
 refine aa (ij ho hdat ?_)
 refine aa (j6 ho hdat ?_)
 refine aa (cv (ak ⟨_,rfl,"dict_keyiterator",_,⟨_,aH _ rfl,rfl⟩,gC.lookup,?_⟩))
 simpa [gm] using hQ
theorem Aa {it d:aj}{i n ep:Nat}{od:fA}{es:Array fq}{en:fq}{Q:Option ag→au→Prop}(hit:s.heap.IsKeyIter it d i n ep)(hod:s.heap.get? d=some od)(hdd:od.data=.dict es ep)
  (hsz:es.size=n)(hx:es[i]?=some en)(hQ:∀ h',h'.IsKeyIter it d (i+1) n ep→eC it s.heap h'→Q (some en.key) {s with heap:=h'}):wpAny (model prog w) A (pyNext (.ref it)) Q E s:=by
 obtain ⟨o,ho,hc,hd⟩:=id hit
 unfold pyNext
 refine aa (iy (c9 (name:=dG "__next__") hit.typeIs gC
  (c5 gC hit.typeIs Bs ?_ (Ad _))))
 refine aa (ak ?_)
 refine aa ?_
 refine aa ?_
 first | refine aa (iQ hit.typeIs (ak ?_)) | refine aa (j4 hit.typeIs (ak ?_))
 refine aa (k7 ho hd ?_)
 have hown:fG "dict_keyiterator"=false:=by decide
 simp only[hown,iI,if_false]
 show wpAny _ _ (if (ag.ref d==ag.none)=true then _ else _) _ _ s
 rw[if_neg (show ¬ ((ag.ref d==ag.none)=true) from bg)]
 refine aa (ak ?_)
 refine aa (ij hod hdd ?_)
 rw[if_neg (by rw[hsz];simp)]
 refine aa (ak ?_)
 refine aa (j6 hod hdd ?_)
 rw[if_neg (by simp)]
 refine ak ?_
 obtain ⟨hlt',hen⟩:=Af.mp hx
 simp only[show ¬ ((i:Int)<0) from by omega,if_false,bR,cx hlt']
 refine aa ?_
 first | refine aa (iQ hit.typeIs (ak ?_)) | refine aa (j4 hit.typeIs (ak ?_))
 refine aa (QI hit.typeIs ?_)
 show wpAny _ _ (setField (.ref it) 1 (gm ((i:Int)+1)) >>= _) _ _ s
 refine aa (fK ho hd (by simp) ?_)
 have hit':(s.heap.update it (fA.mapFields (·.setIfInBounds 1 (gm ((i:Int)+1))))).IsKeyIter it d (i+1) n ep :=
  ⟨_,cQ _ ho (fA.isFreed_of_fields (fA.data_mapFields hd _)),(fA.cls_mapFields ..).trans hc,by rw[fA.data_mapFields hd];simp[gm]⟩
 refine aa (dj ?_)
 refine aa (QI (s:={s with heap:=s.heap.update it (fA.mapFields (·.setIfInBounds 1 (gm ((i:Int)+1))))}) hit'.typeIs ?_)
 show wpAny _ _ (pure es[i].key) _ _ _
 rw[hen]
 exact ak (ak ⟨_,rfl,ak (hQ _ hit' (c6 ..))⟩)
theorem CB {it d:aj}{i n ep:Nat}{od:fA}{es:Array fq}{Q:Option ag→au→Prop}(hh:A.handled=none)(hit:s.heap.IsKeyIter it d i n ep)(hod:s.heap.get? d=some od)(hdd:od.data=.dict es ep)
  (hsz:es.size=n)(hge:n≤i)(hQ:∀ h',oX it s.heap h'→Q none {s with heap:=h'}):wpAny (model prog w) A (pyNext (.ref it)) Q E s:=by
 obtain ⟨o,ho,hc,hd⟩:=id hit
 unfold pyNext
 refine aa (iy (c9 (name:=dG "__next__") hit.typeIs gC
  (c5 gC hit.typeIs Bs ?_ (Ad _))))
 refine aa (ak ?_)
 refine aa ?_
 refine aa ?_
 first | refine aa (iQ hit.typeIs (ak ?_)) | refine aa (j4 hit.typeIs (ak ?_))
 refine aa (k7 ho hd ?_)
 have hown:fG "dict_keyiterator"=false:=by decide
 simp only[hown,iI,if_false]
 show wpAny _ _ (if (ag.ref d==ag.none)=true then _ else _) _ _ s
 rw[if_neg (show ¬ ((ag.ref d==ag.none)=true) from bg)]
 refine aa (ak ?_)
 refine aa (ij hod hdd ?_)
 rw[if_neg (by rw[hsz];simp)]
 refine aa (ak ?_)
 refine aa (j6 hod hdd ?_)
 rw[if_neg (by simp)]
 refine ak ?_
 have hge':es.size≤i:=by rw[hsz];exact hge
 simp only[show ¬ ((i:Int)<0) from by omega,if_false,bR,iF hge']
 refine aa ?_
 first | refine aa (iQ hit.typeIs (ak ?_)) | refine aa (j4 hit.typeIs (ak ?_))
 show wpAny _ _ (setField (.ref it) 0 .none >>= _) _ _ s
 refine aa (fK ho hd (by simp) ?_)
 show wpAny _ _ (newExc (.type "StopIteration") [] >>= _) _ _ _
 refine aa ?_
 simp only[newExc,newTuple]
 refine aa (cv ?_ (by size_fits))
 refine aa (m:=firstArgMember _ _) (jn (a:=ag.none) (by first | rfl | (simp only[firstArgMember];rfl)) ?_)
 refine cv ?_ (by size_fits)
 simp only[raiseNew]
 refine aa (qX ?_)
 rw[show A.in1.handled=none from hh]
 refine aa (ak (vQ ?_))
 refine aa (iJ (T:="StopIteration") (b:=true) ⟨_,aH _ rfl,rfl⟩ pQ ?_)
 exact ak (hQ _ (((c6 ..).extBut.push _).push _))
end
theorem NL {κ:Type}{kvs:List (κ×V)}{vs:List (κ×ag)}(h:KV kvs vs):∀ {i:Nat} {k:κ} {v:V},kvs[i]?=some (k,v)→∃ u,vs[i]?=some (k,u)∧RelV v u:=by
 unfold KV at h
 induction h with
 | nil=>intro i k v e;simp at e
 | @cons a b l₁ l₂ r t ih =>
  intro i k v e
  cases i with
  | zero =>
   simp only[qe,C3] at e
   subst e
   refine ⟨b.2,?_,r.2⟩
   simp only[qe]
   exact congrArg some (Prod.ext r.1.symm rfl)
  | succ j =>
   simp only[Fi] at e ⊢
   exact ih e
theorem zk {α β:Type}{G:α→β→Prop}{l₁:List α}{l₂:List β}(h:Paired G l₁ l₂):∀ {i:Nat} {a:α},l₁[i]?=some a→∃ b,l₂[i]?=some b∧G a b:=by
 induction h with
 | nil=>intro i a e;simp at e
 | @cons a b l₁ l₂ r t ih =>
  intro i a' e
  cases i with
  | zero =>
   simp only[qe,C3] at e
   subst e
   exact ⟨b,rfl,r⟩
  | succ j =>
   simp only[Fi] at e ⊢
   exact ih e
theorem OG {k:Key}{u:ag}(h:jM k u=true):RelV (kV k) u:=by
 rcases d3 h with ⟨i,t,rfl,rfl⟩ | ⟨x,t,rfl,rfl⟩
 ·exact ⟨t,rfl⟩
 ·exact ⟨t,rfl⟩
section
variable {X:Cx}{pins:List (aj×fA)}{σ:St}{H:Hp}{s:au}{d:aj}{o:fA}
theorem Inv.U2 {kvs:List (Key×V)}(I:Inv X pins σ H s)(h:H d=some (.lG o (.dK kvs))) :
  (d==eV)=false∧s.heap.get? d=some o∧o.ExactDict∧∃ (es:Array fq) (ep:Nat) (vs:List (Key×ag)),o.data=.dict es ep∧es.size=kvs.length∧KV kvs vs∧s.heap.DictAt (dW X.prog X.w) d vs ep:=by
 obtain ⟨hd,z,hs,vs,kv,o',es,ep,ho,hx,hdt,r⟩:=I.fj d _ h
 rw[hd] at ho
 cases ho
 refine ⟨hs,hd,hx,es,ep,vs,hdt,?_,kv,o,es,hd,hx,hdt,r⟩
 have l1:=r.2.1.length
 have l2:kvs.length=vs.length:=Paired.length kv
 rw[cM] at l1
 omega
end
def WS (d:aj)(o:fA)(kvs:List (Key×V)):It :=
 ⟨fun i H=>H d=some (.lG o (.dK kvs))∧i<kvs.length,fun i H x H'=>∃ T k v,kvs[i]?=some (k,v)∧x=.ref T∧H T=none∧H'=upd H T (.tup [kV k,v]),fun i H=>H d=some (.lG o (.dK kvs))∧kvs.length≤i⟩
theorem ya {o:fA}{es es':Array fq}{ep ep':Nat}(h:o.data=.dict es ep)(h':o.data=.dict es' ep'):es'=es∧ep'=ep:=by
 rw[h] at h'
 cases h'
 exact ⟨rfl,rfl⟩
section
variable {P:aY}{w:bO}{K:ai}{tg:Expr}{d:aj}{o:fA}{es:Array fq}{ep:Nat}
theorem GU {kvs:List (Key×V)}{elts:List Expr}{kk:Nat}{lU:jK}(it:aj)(hod:o.data=.dict es ep) :
  Turn P w K (.Tuple elts kk lU) (WS d o kvs) [it] it (fun i h=>∃ ok ov,ki h it d i kvs.length ep ok ov) where
 mem:=by simp
 obj:=fun i h st b hb=>by
  have e:b=it:=by simpa using hb
  subst e
  obtain ⟨ok,ov,e⟩:=st
  exact ⟨_,e,fun v z=>nomatch z⟩
 keep:=fun i h h' st k=>let ⟨ok,ov,e⟩:=st;⟨ok,ov,k it (by simp) _ e⟩
 item:=by
  intro X hP hw hK hc i pins s σ H E I hf st hg
  subst hP hw hK
  obtain ⟨hd,hi⟩:=hg
  obtain ⟨hs,hgd,hx,es',ep',vs,hdt,hsz,kv,hm⟩:=I.U2 hd
  obtain ⟨rfl,rfl⟩:=ya hod hdt
  obtain ⟨⟨k,v⟩,hkv⟩:∃ p,kvs[i]?=some p:=⟨kvs[i],aE hi⟩
  obtain ⟨u,hu,ru⟩:=NL kv hkv
  have hl:kvs.length=vs.length:=Paired.length kv
  obtain ⟨ok,ov,he⟩:=st
  rw[hl] at he
  have jV:it<s.heap.objs.size:=aN he
  refine wpAny_pyNext_items_item he hm hu fun key h' hkey ho hT hz hk=>?_
  refine ⟨_,rfl,Fq (s:={s with heap:=h'}) ho fun h'' he' sb=>?_⟩
  have hT2:h''.get? s.heap.objs.size=some {cls:=.type "tuple",data:=.seq #[key,u]}:=(sb.2 _ (fY jV)).trans hT
  have new:fM X.prog X.w (upd H s.heap.objs.size (.tup [kV k,v])) h'' s.heap.objs.size (.tup [kV k,v]) :=
   ⟨by show 2≤aA;decide,[key,u],.cons (OG (show jM k key=true from hkey)) (.cons ru .nil),⟨_,hT2,rfl,_,rfl⟩⟩
  have I1:Inv X pins σ (upd H s.heap.objs.size (.tup [kV k,v])) {s with heap:=h''} :=
   I.oM (t':=s.toks) (ch:=[it]) (fun b ob hb e=>(sb.2 b (by simpa using hb)).trans (hk b ob (by simpa using hb) e)) hf (aL _) new
  refine ⟨.ref s.heap.objs.size,_,I1,rfl,⟨_,k,v,hkv,rfl,I.fj.fresh (aL _),rfl⟩,⟨key,u,?_⟩,fun b hb=>?_⟩
  ·rw[hl];exact he'
  ·have e:b=it:=by simpa using hb
   rw[e,aT (ba jV)]
   exact (hf it (by simp)).1
 done:=by
  intro X hP hw hK hc i pins s σ H E I hf st hg
  subst hP hw hK
  obtain ⟨hd,hi⟩:=hg
  obtain ⟨f0,f1,f2,f3,f4,f5⟩:=hf it (by simp)
  obtain ⟨hs,hgd,hx,es',ep',vs,hdt,hsz,kv,hm⟩:=I.U2 hd
  obtain ⟨rfl,rfl⟩:=ya hod hdt
  have hl:kvs.length=vs.length:=Paired.length kv
  obtain ⟨ok,ov,he⟩:=st
  rw[hl] at he
  exact wpAny_pyNext_items_end (I.ok.hd hc) he hm (bG (by omega)) fun h' eb=>⟨rfl,I.turned (t':=s.toks) (fun b ob hb e=>eb b ob hb e) f0 f1 f3 f4 f5⟩
 self:=fun A i s Q E st h=>let ⟨_,_,e⟩:=st;L3 e h
end
def V0 (td:TE):TI:=fun σ H R=>td σ H fun x H1=>∃ d o kvs,x=.ref d∧H1 d=some (.lG o (.dK kvs))∧R (WS d o kvs) H1
section
variable {X:Cx}{tg e:Expr}{td:TE}{apos jB:jK}
theorem DV {elts:List Expr}{kk:Nat}{lU:jK}(he:PE X e td)(hbase:iZ e "items" X.env (eval e X.env)=eval e X.env:=by rfl)(hline:(apos.endLine==jB.line)=true:=by rfl) :
  PI X (.Tuple elts kk lU) (.Call (.Attribute e "items" apos) [] [] jB) (V0 td):=by
 intro pins s σ H R I h
 refine qv (T:="dict") (id:="dict.items") hbase rfl hline zP qd UH (gI (he pins s σ H _ I h) fun u s1 ⟨x,H1,I1,rx,d,o,kvs,ex,hd,q⟩=>?_)
 subst ex
 obtain rfl:u=ag.ref d:=rx
 obtain ⟨hs,hgd,hx,es,ep,vs,hdt,hsz,kv,hm⟩:=I1.U2 hd
 have hl:kvs.length=vs.length:=Paired.length kv
 refine ⟨hm.dictOf.typeIs,hm.dictOf.mapOf.noDict,?_⟩
 have I2:Inv X pins σ H1 {s1 with heap:=s1.heap.push {cls:=.type "dict_items",data:=.fields #[.ref d]}}:=I1.kept (t':=s1.toks) fun b ob q=>ay _ q
 have fin:wpAny (model X.prog X.w) X.A (pyIter (.ref s1.heap.objs.size)) (WR X pins σ (.Tuple elts kk lU) R) X.xe {s1 with heap:=s1.heap.push {cls:=.type "dict_items",data:=.fields #[.ref d]}}:=by
  refine wpAny_pyIter_items (d:=d) (knd:=dW X.prog X.w) ⟨_,aH _ rfl,rfl,rfl⟩ (hm.push _) (Gh (tk:=s1.toks) I2 _ (GU _ hdt) ⟨.none,.none,?_⟩ q)
  rw[hl]
  exact aH _ rfl
 show wpAny _ _ (FC jB (.builtin "dict.items") [.ref d] [] []) _ X.xe s1
 exact GN qd T4 rfl (uv ⟨rfl,hm.dictOf.typeIs,QR _,_,meets_dict_items (dW X.prog X.w) d hs,⟨vs,hm.dictOf⟩,fin⟩)
end
def WT (K:ai)(a:aj):It :=
 ⟨fun i H=>∃ (xs:List V) (x:V),cG K H a xs∧xs[i]?=some x,fun i H v H'=>∃ T x,v=.ref T∧H T=none∧H'=upd H T (.tup [.int (i:Nat),x])∧∀ xs,cG K H a xs→xs[i]?=some x,fun i H=>∃ xs:List V,cG K H a xs∧xs.length≤i⟩
theorem Kk {P:aY}{w:bO}{K:ai}{elts:List Expr}{kk:Nat}{lU:jK}(a e it:aj) :
  Turn P w K (.Tuple elts kk lU) (WT K a) [e,it] e (fun i h=>(∃ old,IsEnum h e it ((i:Nat):Int) old)∧h.IsListIter it a i∧e≠it) where
 mem:=by simp
 obj:=fun i h st b hb=>by
  obtain ⟨⟨old,he⟩,⟨o,ho,hc,hd⟩,_⟩:=st
  have e':b=e∨b=it:=by simpa using hb
  rcases e' with z | z
  ·rw[z];exact ⟨_,he,fun v q=>nomatch q⟩
  ·rw[z];exact ⟨o,ho,fun v q=>by rw[hd] at q;cases q⟩
 keep:=fun i h h' st k=>let ⟨⟨old,he⟩,hi,hne⟩:=st;⟨⟨old,k e (by simp) _ he⟩,hi.at fun o q=>k it (by simp) o q,hne⟩
 item:=by
  intro X hP hw hK hc i pins s σ H E I hf st hg
  subst hP hw hK
  obtain ⟨⟨old,he⟩,hit,hne⟩:=st
  obtain ⟨xs,x,hq,hx⟩:=hg
  obtain ⟨its,rv,p,hz⟩:=I.list hq
  obtain ⟨u,hu,ru⟩:=rv.get hx
  have hel:e<s.heap.objs.size:=aN he
  have hil:it<s.heap.objs.size:=by obtain ⟨_,q,_⟩:=hit;exact aN q
  refine wpAny_pyNext_enum_item he hit p.isList (x:=u) (by simpa using hu) hne fun h' ho hit' hT hsz hk=>?_
  refine ⟨_,rfl,wpAny_letOwnedTupleGo_enum (s:={s with heap:=h',toks:=s.toks+1}) ho fun h'' he' sb=>?_⟩
  have hT2:h''.get? s.heap.objs.size=some {cls:=.type "tuple",data:=.seq #[.int i s.toks,u]}:=(sb.2 _ (fY hel)).trans hT
  have new:fM X.prog X.w (upd H s.heap.objs.size (.tup [.int (i:Nat),x])) h'' s.heap.objs.size (.tup [.int (i:Nat),x]) :=
   ⟨by show 2≤aA;decide,[.int i s.toks,u],.cons ⟨_,rfl⟩ (.cons ru .nil),⟨_,hT2,rfl,_,rfl⟩⟩
  have I1:Inv X pins σ (upd H s.heap.objs.size (.tup [.int (i:Nat),x])) {s with heap:=h'',toks:=s.toks+1} :=
   I.oM (ch:=[e,it]) (fun b ob hb q=>(sb.2 b (fun z=>hb (by simp[z]))).trans (hk b ob (fun z=>hb (by simp[z])) (fun z=>hb (by simp[z])) q)) hf (aL _) new
  refine ⟨.ref s.heap.objs.size,_,I1,rfl,⟨_,x,rfl,I.fj.fresh (aL _),rfl,fun ys hy=>by rw[I.uY hy hq];exact hx⟩,⟨⟨u,?_⟩,hit'.at fun o q=>(sb.2 it (gU hne)).trans q,hne⟩,fun b hb=>?_⟩
  ·have e1:((i+1:Nat):Int)=(i:Int)+1:=by omega
   rw[e1];exact he'
  ·have hb':b<s.heap.objs.size:=by
    have e':b=e∨b=it:=by simpa using hb
    rcases e' with z | z
    ·rw[z];exact hel
    ·rw[z];exact hil
   rw[aT (ba hb')]
   exact (hf b hb).1
 done:=by
  intro X hP hw hK hc i pins s σ H E I hf st hg
  subst hP hw hK
  obtain ⟨⟨old,he⟩,hit,hne⟩:=st
  obtain ⟨xs,hq,hx⟩:=hg
  obtain ⟨its,rv,p,hz⟩:=I.list hq
  obtain ⟨f0,f1,f2,f3,f4,f5⟩:=hf it (by simp)
  have hl:=rv.length
  exact wpAny_pyNext_enum_end (I.ok.hd hc) he hit p.isList (by simp;omega) fun h' eb=>⟨rfl,I.turned (t':=s.toks) (fun b o hb q=>eb b o hb q) f0 f1 f3 f4 f5⟩
 self:=fun A i s Q E st h=>let ⟨⟨_,he⟩,_⟩:=st;wpAny_pyIter_enum he h
def XN (K:ai)(ta:TA):TI:=fun σ H R=>ta σ H fun vs H1=>∃ a xs,vs=[.ref a]∧cG K H1 a xs∧R (WT K a) H1
theorem Rx {X:Cx}{e:Expr}{ta:TA}{p pos lU:jK}{elts:List Expr}{kk:Nat}(hg:Gl X "enumerate")(hm:X.mg "enumerate"=none)(ha:PA X [e] ta)(hs:bQ [e] X.env=[(false,eval e X.env)]:=by rfl) :
  PI X (.Tuple elts kk lU) (.Call (.Name "enumerate" p) [e] [] pos) (XN X.K ta):=by
 intro pins s σ H R I h
 refine Call_ (jl I hg hm boot_enumerate (cK (gI (ha pos pins s σ H _ I h) fun us s1 ⟨vs,H1,I1,r1,q1⟩=>?_) hs rfl))
 obtain ⟨a,xs,ex,hq,q⟩:=q1
 subst ex
 cases r1 with
 | cons r rr =>
  cases rr
  cases r
  obtain ⟨its,rv,p',hz⟩:=I1.list hq
  refine call_enumerate_list p'.isList fun h' he hit hsz hk=>wpAny_pyIter_enum he ?_
  have I2:Inv X pins σ H1 {s1 with heap:=h'}:=I1.kept (t':=s1.toks) hk
  refine ⟨s1.heap.objs.size+1,[s1.heap.objs.size+1,s1.heap.objs.size],_,_,H1,rfl,I2,Kk a (s1.heap.objs.size+1) s1.heap.objs.size,⟨⟨.none,he⟩,hit,TR _⟩,fun b hb=>?_,q⟩
  have e':b=s1.heap.objs.size+1∨b=s1.heap.objs.size:=by simpa using hb
  have hle:s1.heap.objs.size≤b:=by
   rcases e' with z | z
   ·rw[z];exact fX _ _
   ·rw[z];exact aL _
  exact I1.C8 hle (I1.fj.fresh hle)
theorem Bd:bootBuiltins "zip"=some (.type "zip"):=by decide +kernel
def Uc (K:ai)(a b:aj):It :=
 ⟨fun i H=>∃ (xs ys:List V) (x y:V),cG K H a xs∧cG K H b ys∧xs[i]?=some x∧ys[i]?=some y,
  fun i H v H'=>∃ T x y,v=.ref T∧H T=none∧H'=upd H T (.tup [x,y])∧(∀ xs,cG K H a xs→xs[i]?=some x)∧∀ ys,cG K H b ys→ys[i]?=some y,
  fun i H=>∃ xs ys:List V,cG K H a xs∧cG K H b ys∧(xs.length≤i∨ys.length≤i)⟩
theorem Oh {P:aY}{w:bO}{K:ai}{elts:List Expr}{kk:Nat}{lU:jK}{a b z TI TO i1 i2:aj}(D:z6 z TI TO i1 i2 a b) :
  Turn P w K (.Tuple elts kk lU) (Uc K a b) [z,TI,TO,i1,i2] z (fun i h=>nX h z TI TO .none∧gn h TI (.ref i1) (.ref i2)∧(∃ x y,gn h TO x y)∧h.IsListIter i1 a i∧h.IsListIter i2 b i) where
 mem:=by simp
 obj:=fun i h st c hc=>by
  obtain ⟨hz,hTI,⟨x,y,hTO⟩,⟨o1,e1,_,d1⟩,⟨o2,e2,_,d2⟩⟩:=st
  have e':c=z∨c=TI∨c=TO∨c=i1∨c=i2:=by simpa using hc
  rcases e' with q | q | q | q | q
  ·rw[q];exact ⟨_,hz,fun v q=>nomatch q⟩
  ·rw[q];exact ⟨_,hTI,fun v q=>nomatch q⟩
  ·rw[q];exact ⟨_,hTO,fun v q=>nomatch q⟩
  ·rw[q];exact ⟨o1,e1,fun v q=>by rw[d1] at q;cases q⟩
  ·rw[q];exact ⟨o2,e2,fun v q=>by rw[d2] at q;cases q⟩
 keep:=fun i h h' st k=>by
  obtain ⟨hz,hTI,⟨x,y,hTO⟩,h1,h2⟩:=st
  exact ⟨k z (by simp) _ hz,k TI (by simp) _ hTI,⟨x,y,k TO (by simp) _ hTO⟩,h1.at fun o q=>k i1 (by simp) o q,h2.at fun o q=>k i2 (by simp) o q⟩
 item:=by
  intro X hP hw hK hc i pins s σ H E I hf st hg
  subst hP hw hK
  obtain ⟨hz,hTI,⟨x0,y0,hTO⟩,h1,h2⟩:=st
  obtain ⟨xs,ys,x,y,hqx,hqy,hx,hy⟩:=hg
  obtain ⟨its,rv,p,_⟩:=I.list hqx
  obtain ⟨its2,rv2,p2,_⟩:=I.list hqy
  obtain ⟨u,hu,ru⟩:=rv.get hx
  obtain ⟨u2,hu2,ru2⟩:=rv2.get hy
  have hzl:z<s.heap.objs.size:=aN hz
  refine wpAny_pyNext_zip_item D hz hTI hTO h1 h2 p.isList p2.isList (x:=u) (y:=u2) (by simpa using hu) (by simpa using hu2) fun h' z' TO' h1' h2' hT hsz hk=>?_
  refine ⟨_,rfl,JS (s:={s with heap:=h'}) z' fun h'' z'' sb=>?_⟩
  have hT2:h''.get? s.heap.objs.size=some {cls:=.type "tuple",data:=.seq #[u,u2]}:=(sb.2 _ (fY hzl)).trans hT
  have new:fM X.prog X.w (upd H s.heap.objs.size (.tup [x,y])) h'' s.heap.objs.size (.tup [x,y]) :=
   ⟨by show 2≤aA;decide,[u,u2],.cons ru (.cons ru2 .nil),⟨_,hT2,rfl,_,rfl⟩⟩
  have I1:Inv X pins σ (upd H s.heap.objs.size (.tup [x,y])) {s with heap:=h''} :=
   I.oM (t':=s.toks) (ch:=[z,TI,TO,i1,i2]) (fun c o hb q=>(sb.2 c (fun q'=>hb (by simp[q']))).trans (hk c o (fun q'=>hb (by simp[q'])) (fun q'=>hb (by simp[q'])) (fun q'=>hb (by simp[q'])) (fun q'=>hb (by simp[q'])) q)) hf (aL _) new
  refine ⟨.ref s.heap.objs.size,_,I1,rfl,⟨_,x,y,rfl,I.fj.fresh (aL _),rfl,fun l hl=>by rw[I.uY hl hqx];exact hx,fun l hl=>by rw[I.uY hl hqy];exact hy⟩,⟨z'',?_,⟨u,u2,?_⟩,?_,?_⟩,fun c hcm=>?_⟩
  ·exact (sb.2 _ D.TIz).trans (hk _ _ D.TIz D.TITO D.TIi1 D.TIi2 hTI)
  ·exact (sb.2 _ D.TOz).trans TO'
  ·exact h1'.at fun o q=>(sb.2 _ D.i1z).trans q
  ·exact h2'.at fun o q=>(sb.2 _ D.i2z).trans q
  ·have jV:c<s.heap.objs.size:=by
    have e':c=z∨c=TI∨c=TO∨c=i1∨c=i2:=by simpa using hcm
    rcases e' with q | q | q | q | q
    ·rw[q];exact hzl
    ·rw[q];exact aN hTI
    ·rw[q];exact aN hTO
    ·rw[q];obtain ⟨_,e1,_⟩:=h1;exact aN e1
    ·rw[q];obtain ⟨_,e2,_⟩:=h2;exact aN e2
   rw[aT (ba jV)]
   exact (hf c hcm).1
 done:=by
  intro X hP hw hK hc i pins s σ H E I hf st hg
  subst hP hw hK
  obtain ⟨hz,hTI,⟨x0,y0,hTO⟩,h1,h2⟩:=st
  obtain ⟨xs,ys,hqx,hqy,hend⟩:=hg
  obtain ⟨its,rv,p,_⟩:=I.list hqx
  obtain ⟨its2,rv2,p2,_⟩:=I.list hqy
  have l1:=rv.length
  have l2:=rv2.length
  have he:its.toArray[i]?=none∨its2.toArray[i]?=none:=by
   rcases hend with q | q
   ·exact .inl (by simp;omega)
   ·exact .inr (by simp;omega)
  exact wpAny_pyNext_zip_end (I.ok.hd hc) D hz hTI hTO h1 h2 p.isList p2.isList he fun h' hk=>⟨rfl,I.Ir (t':=s.toks) (ch:=[z,TI,TO,i1,i2]) (fun c o hb q =>
   hk c o (fun q'=>hb (by simp[q'])) (fun q'=>hb (by simp[q'])) (fun q'=>hb (by simp[q'])) (fun q'=>hb (by simp[q'])) q) hf⟩
 self:=fun A i s Q E st h=>sV st.1 h
def Zl (K:ai)(ta:TA):TI:=fun σ H R=>ta σ H fun vs H1=>∃ a b xs ys,vs=[.ref a,.ref b]∧cG K H1 a xs∧cG K H1 b ys∧R (Uc K a b) H1
theorem Gg {X:Cx}{e e2:Expr}{ta:TA}{p pos lU:jK}{elts:List Expr}{kk:Nat}(hg:Gl X "zip")(hm:X.mg "zip"=none)(ha:PA X [e,e2] ta)
  (hs:bQ [e,e2] X.env=(false,eval e X.env)::bQ [e2] X.env:=by rfl)(hpl:(backTo pos (bQ [e2] X.env)).any (·.1)=false:=by rfl) :
  PI X (.Tuple elts kk lU) (.Call (.Name "zip" p) [e,e2] [] pos) (Zl X.K ta):=by
 intro pins s σ H R I h
 refine Call_ (jl I hg hm Bd (cK (gI (ha pos pins s σ H _ I h) fun us s1 ⟨vs,H1,I1,r1,q1⟩=>?_) hs hpl))
 obtain ⟨a,b,xs,ys,ex,hqx,hqy,q⟩:=q1
 subst ex
 cases r1 with
 | cons r rr =>
  cases rr with
  | cons r' rr =>
   cases rr
   cases r
   cases r'
   obtain ⟨its,rv,p1,_⟩:=I1.list hqx
   obtain ⟨its2,rv2,p2,_⟩:=I1.list hqy
   have la:a<s1.heap.objs.size:=p1.lt
   have lb:b<s1.heap.objs.size:=p2.lt
   refine call_zip_2 p1.isList p2.isList fun h' hz hTI hTO h1 h2 hsz hk=>sV hz ?_
   have I2:Inv X pins σ H1 {s1 with heap:=h'}:=I1.kept (t':=s1.toks) hk
   refine ⟨s1.heap.objs.size+4,[s1.heap.objs.size+4,s1.heap.objs.size+2,s1.heap.objs.size+3,s1.heap.objs.size,s1.heap.objs.size+1],_,_,H1,rfl,I2,Oh (JT s1.heap.objs.size a b la lb),⟨hz,hTI,⟨_,_,hTO⟩,h1,h2⟩,fun c hcm=>?_,q⟩
   have e':c=s1.heap.objs.size+4∨c=s1.heap.objs.size+2∨c=s1.heap.objs.size+3∨c=s1.heap.objs.size∨c=s1.heap.objs.size+1:=by simpa using hcm
   have hle:s1.heap.objs.size≤c:=by
    rcases e' with z | z | z | z | z
    ·rw[z];exact fX _ _
    ·rw[z];exact fX _ _
    ·rw[z];exact fX _ _
    ·rw[z];exact aL _
    ·rw[z];exact fX _ _
   exact I1.C8 hle (I1.fj.fresh hle)
end L2
section
namespace Zr
open PySem PyProof.Rows
end Zr
end
section
namespace TL
open PySem PySem.Builtin PySem.Builtin.Str PySem.StrLaws
end TL
end
namespace L2
open PySem PySem.Spec PyProof.Rows
section
variable {X:Cx}{pins:List (aj×fA)}{σ:St}{H:Hp}{s:au}{Q:VK}
end
section
variable {X:Cx}
end
section
variable {X:Cx}{o e:Expr}{to te:TE}
end
section
variable {X:Cx}
end
end L2
namespace Att
open PySem PySem.W PySem.Calls PyProof.Rows
section
variable {prog:aY}{w:bO}{A:cA}{E:ag→au→Prop}{s:au}{K:Frag}
end
end Att
namespace L2
open PySem PySem.Spec PyProof.Rows
def inClass (s:d5)(j:Nat):d5:=match s with
 | .ClassDef _ _ _ body _ _ _ _ _ _ _=>body.getD j (.Pass ⟨0,0,0,0⟩)
 | _=>.Pass ⟨0,0,0,0⟩
def mW (s:d5):Arguments:=match s with
 | .FunctionDef _ a _ _ _ _ _ _ _ _=>a
 | _=>{posonlyargs:=[],args:=[],vararg:=none,kwonlyargs:=[],kw_defaults:=[],kwarg:=none,defaults:=[]}
def lH (s:d5):List d5:=match s with
 | .FunctionDef _ _ b _ _ _ _ _ _ _=>b
 | _=>[]
def bF (s:d5):jH:=match s with
 | .FunctionDef _ _ _ _ _ _ sc _ _ _=>sc
 | _=>{kind:=.function,names:=[],isGenerator:=false,isCoroutine:=false}
abbrev fB:Md:=fun _ _ _ _ _ _=>False
abbrev E0:XK:=fun _ _ _=>False
theorem cR {X:Cx}:tU fB X E0:=fun _ _ _ _ _ _ _ h=>h.elim
structure jt (K:ai)(x qual:cp)(st:d5)(f:aj)(fd:bI):Prop where
 ex:∃ (oc:ag) (od:Option aj) (kV doc pm:ag) (an:Option aj) (iq ct:ag) (osl:Array (Option ag)),
  fd=gY x qual (mW st) (lH st) (bF st) .none kV doc pm an iq ct∧K.lookup f=some ⟨oc,od,.func fd,osl⟩∧jU K iq qual=true
 kp:aP K (.ref f)=true
section
variable {P:aY}{w:bO}{K:ai}{mg:cp→Option ag}{base:bU}
theorem jt.ok {x qual:cp}{st:d5}{f:aj}{fd:bI}{N ps:List cp}{k:Nat}{sp:Sp}(F:jt K x qual st f fd)(S:bW N ps (bF st))(len:∀ vs H Q E,sp vs H Q E→vs.length=ps.length)
  (hbody:∀ (iq:ag) (A:cA) (outer:List C5) (s:au) (H:Hp) (vs:List V) (Q:VK) (E:XK),fO k (A.deeper (envOfC qual (bF st) s.heap.objs.size f iq))→sp vs H Q E →
   ∃ t,J0 (J8 fB P w K mg base N qual (bF st) f iq A outer s H E).Yl (lH st) t∧t {nx:=fun _ H'=>Q .hC H',rt:=Q} (start N vs) H):cO P w K mg base fB (k+1) f fd ps sp:=by
 obtain ⟨oc,od,kV,doc,pm,an,iq,ct,osl,rfl,lk,hcd⟩:=F.ex
 refine XO lk hcd S len fun A outer s H vs Q E hr hsp=>?_
 obtain ⟨t,h,q⟩:=hbody iq A outer s H vs Q E hr hsp
 exact ⟨t,h.Yl,q⟩
theorem jt.binds {x qual:cp}{st:d5}{f:aj}{fd:bI}{ps:List cp}(F:jt K x qual st f fd)
  (h:∀ (kV doc pm:ag) (an:Option aj) (iq ct:ag) (us:List ag),us.length=ps.length→bindArgs (gY x qual (mW st) (lH st) (bF st) .none kV doc pm an iq ct) ⟨us,[]⟩=pure (ps.zip us)):Binds K fd ps []:=by
 obtain ⟨oc,od,kV,doc,pm,an,iq,ct,osl,rfl,lk,hcd⟩:=F.ex
 exact .all (h kV doc pm an iq ct)
theorem Gr {x qual:cp}{st:d5}{f:aj}{oc:ag}{od an:Option aj}{osl:Array (Option ag)}{kV doc pm iq ct:ag}(l:K.lookup f=some ⟨oc,od,.func (gY x qual (mW st) (lH st) (bF st) .none kV doc pm an iq ct),osl⟩)
  (c:jU K iq qual=true)(k:aP K (.ref f)=true):jt K x qual st f (gY x qual (mW st) (lH st) (bF st) .none kV doc pm an iq ct):=⟨⟨oc,od,kV,doc,pm,an,iq,ct,osl,rfl,l,c⟩,k⟩
end
theorem wR {A:cA}{k:Nat}(hr:fO k A):A.units+8<cLine:=aG (Nat.add_le_add_left (by decide:8≤64) _) hr.units
section
variable {X:Cx}
theorem pv (i:Nat){x:cp}{pos:jK}(hN:X.N[i]?=some x:=by rfl)(hv:WO X.env.scope x:=by first | exact bj rfl | exact p5 (bj rfl) | exact p5 (p5 rfl))(hd:(x==("__debug__":cp))=false:=by decide)
  (hcd:(x==("__classdict__":cp))=false:=by decide):PE X (.Name x pos) (WW i):=Vr hN hv hd hcd
end
theorem nI {A B:Prop}(h:B):if false=true then A else B:=by
 rw[if_neg bg]
 exact h
theorem o9 {A B:Prop}(h:A):if true=true then A else B:=by
 rw[if_pos rfl]
 exact h
theorem gD {c A B:Prop}[Decidable c](h1:c→A)(h2:¬ c→B):if c then A else B:=by
 by_cases h:c
 ·rw[if_pos h]
  exact h1 h
 ·rw[if_neg h]
  exact h2 h
def aM (H H':Hp):Prop:=∀ b o,H b=some o→H' b=some o
theorem aM.refl (H:Hp):aM H H:=fun _ _ h=>h
theorem aM.trans {H H1 H2:Hp}(a:aM H H1)(b:aM H1 H2):aM H H2:=fun c o h=>b c o (a c o h)
theorem aM.free {H H':Hp}(e:aM H H'){l:aj}(h:H' l=Option.none):H l=Option.none:=by
 cases q:H l with
 | none=>rfl
 | some o =>
  rw[e l o q] at h
  cases h
theorem aM.seq {K:ai}{H H':Hp}{a:aj}{xs:List V}(e:aM H H')(h:cG K H a xs):cG K H' a xs:=by
 rcases h with (h | ⟨o,h⟩) | h
 ·exact .inl (.inl (e _ _ h))
 ·exact .inl (.inr ⟨o,e _ _ h⟩)
 ·exact .inr h
section
variable {κ:Type}[DecidableEq κ]
end
end L2
namespace Sk
open Si35
def Q0 (x:List Int):List Int:=(x.length:Int)::x
def og (xs:List (List Int)):List Int:=xs.flatMap Q0
theorem OC {r x t:List Int}(h:JP r=some (x,t)):r=Q0 x++t:=by
 match r,h with
 | [],h=>simp[JP] at h
 | n::r,h =>
  simp only[JP] at h
  split at h
  ·rename_i hc
   injection h with h
   injection h with h1 h2
   subst h1 h2
   unfold Q0
   rw[bM,mC hc.2,qb,kP]
   congr 1
   omega
  ·cases h
theorem AM:∀ {k:Nat} {r:List Int} {xs:List (List Int)} {t:List Int},Fm k r=some (xs,t)→xs.length=k∧r=og xs++t
 | 0,r,xs,t,h=>by
  unfold Fm at h
  injection h with h
  injection h with h1 h2
  subst h1 h2
  exact ⟨rfl,rfl⟩
 | k+1,r,xs,t,h=>by
  unfold Fm at h
  split at h
  ·cases h
  ·rename_i x s e
   split at h
   ·cases h
   ·rename_i ys u e2
    injection h with h
    injection h with h1 h2
    subst h1 h2
    obtain ⟨l,q⟩:=AM e2
    refine ⟨by simp[l],?_⟩
    rw[OC e,q]
    simp[og]
theorem LF {p:Int}{r:List Int}{c:List (List Int)}{t:List Int}(h:PyFlat.call g4 (p::r)=some (c,t)) :
  ∃ n k nums xs,g4 p=some (n,k)∧nums.length=n∧xs.length=k∧c=(p::nums)::xs∧r=nums++(og xs++t):=by
 simp only[PyFlat.call] at h
 split at h
 ·cases h
 ·rename_i n k e
  split at h
  ·cases h
  ·rename_i hl
   split at h
   ·cases h
   ·rename_i xs u e2
    injection h with h
    injection h with h1 h2
    subst h1 h2
    obtain ⟨l,q⟩:=AM e2
    refine ⟨n,k,r.take n,xs,e,by rw[bM];omega,l,rfl,?_⟩
    rw[← q,kP]
def Left (r:List Int)(cs:List (List (List Int))):Prop:=∃ f,p7 g4 f r=some cs
theorem Ph {cs:List (List (List Int))}(h:Left [] cs):cs=[]:=by
 obtain ⟨f,h⟩:=h
 cases f<;>(unfold p7 at h;injection h with h;exact h.symm)
theorem K8 {p:Int}{r:List Int}{cs:List (List (List Int))}(h:Left (p::r) cs) :
  ∃ n k nums xs t cs',g4 p=some (n,k)∧nums.length=n∧xs.length=k∧r=nums++(og xs++t)∧cs=((p::nums)::xs)::cs'∧Left t cs':=by
 obtain ⟨f,h⟩:=h
 cases f with
 | zero=>unfold p7 at h;cases h
 | succ f =>
  unfold p7 at h
  split at h
  ·cases h
  ·rename_i c t e
   split at h
   ·cases h
   ·rename_i cs' e2
    injection h with h
    obtain ⟨n,k,nums,xs,h1,h2,h3,h4,h5⟩:=LF e
    subst h4
    exact ⟨n,k,nums,xs,t,cs',h1,h2,h3,h5,h.symm,f,e2⟩
def gO (c:List (List Int)):Option Call:=rQ ((cF c).headD [])
theorem jN {p q:Int}{x o:Option (Nat×Nat)}{n k:Nat}(h:(if p=q then x else o)=some (n,k)):(p=q∧x=some (n,k))∨o=some (n,k):=by
 by_cases e:p=q
 ·rw[if_pos e] at h;exact .inl ⟨e,h⟩
 ·rw[if_neg e] at h;exact .inr h
theorem gh {a b n k:Nat}(h:some (a,b)=some (n,k)):n=a∧k=b:=by
 injection h with h
 injection h with h1 h2
 exact ⟨h1.symm,h2.symm⟩
theorem rg {p:Int}{n k:Nat}(h:g4 p=some (n,k)) :
  (p=0∧n=1∧k=0)∨(p=1∧n=3∧k=0)∨(p=2∧n=0∧k=2)∨(p=3∧n=0∧k=1)∨(p=4∧n=0∧k=0)∨(p=5∧n=0∧k=0)∨(p=6∧n=1∧k=0)∨(p=7∧n=1∧k=1)∨(p=8∧n=1∧k=0)∨(p=9∧n=0∧k=1)∨(p=10∧n=0∧k=0)∨(p=11∧n=2∧k=0)∨(p=12∧n=2∧k=0)∨(p=13∧n=0∧k=0):=by
 unfold g4 at h
 rcases jN h with ⟨e,q⟩ | h
 ·exact .inl ⟨e,gh q⟩
 rcases jN h with ⟨e,q⟩ | h
 ·exact .inr (.inl ⟨e,gh q⟩)
 rcases jN h with ⟨e,q⟩ | h
 ·exact .inr (.inr (.inl ⟨e,gh q⟩))
 rcases jN h with ⟨e,q⟩ | h
 ·exact .inr (.inr (.inr (.inl ⟨e,gh q⟩)))
 rcases jN h with ⟨e,q⟩ | h
 ·exact .inr (.inr (.inr (.inr (.inl ⟨e,gh q⟩))))
 rcases jN h with ⟨e,q⟩ | h
 ·exact .inr (.inr (.inr (.inr (.inr (.inl ⟨e,gh q⟩)))))
 rcases jN h with ⟨e,q⟩ | h
 ·exact .inr (.inr (.inr (.inr (.inr (.inr (.inl ⟨e,gh q⟩))))))
 rcases jN h with ⟨e,q⟩ | h
 ·exact .inr (.inr (.inr (.inr (.inr (.inr (.inr (.inl ⟨e,gh q⟩)))))))
 rcases jN h with ⟨e,q⟩ | h
 ·exact .inr (.inr (.inr (.inr (.inr (.inr (.inr (.inr (.inl ⟨e,gh q⟩))))))))
 rcases jN h with ⟨e,q⟩ | h
 ·exact .inr (.inr (.inr (.inr (.inr (.inr (.inr (.inr (.inr (.inl ⟨e,gh q⟩)))))))))
 rcases jN h with ⟨e,q⟩ | h
 ·exact .inr (.inr (.inr (.inr (.inr (.inr (.inr (.inr (.inr (.inr (.inl ⟨e,gh q⟩))))))))))
 rcases jN h with ⟨e,q⟩ | h
 ·exact .inr (.inr (.inr (.inr (.inr (.inr (.inr (.inr (.inr (.inr (.inr (.inl ⟨e,gh q⟩)))))))))))
 rcases jN h with ⟨e,q⟩ | h
 ·exact .inr (.inr (.inr (.inr (.inr (.inr (.inr (.inr (.inr (.inr (.inr (.inr (.inl ⟨e,gh q⟩))))))))))))
 rcases jN h with ⟨e,q⟩ | h
 ·exact .inr (.inr (.inr (.inr (.inr (.inr (.inr (.inr (.inr (.inr (.inr (.inr (.inr ⟨e,gh q⟩))))))))))))
 cases h
def nats (l:List Int):List Nat:=l.map jX
def QC (l:List Nat):List Int:=l.map fun (n:Nat)=>(n:Int)
theorem RX (l:List Int)(h:∀ z∈l,0≤z):QC (nats l)=l:=by
 unfold QC nats
 rw[br]
 refine (dm fun z hz=>?_).trans (JR l)
 have:=h z hz
 show ((z.toNat:Nat):Int)=z
 omega
theorem Ll (x:Int):gO [[0,x]]=some (.begins x.toNat):=rfl
theorem SD (a b c:Int):gO [[1,a,b,c]]=some (.cost a.toNat b.toNat c.toNat):=rfl
theorem Lk (x y:List Int)(hs:(gO [[2],x,y]).isSome=true):gO [[2],x,y]=some (.beside (nats x) (nats y))∧x.length≤12∧y.length≤12:=by
 have e:gO [[2],x,y]=(lR (x.length::(nats x++nats y))).bind fun z=>if z.2.length≤12 then some (.beside z.1 z.2) else none:=by
  have m:([2]++[(x.length:Int)]++x++y).map jX=2::x.length::(nats x++nats y):=by simp[nats]
  show rQ ([2]++[(x.length:Int)]++x++y)=_
  unfold rQ
  rw[m]
  rfl
 rw[e] at hs ⊢
 simp only[lR] at hs ⊢
 by_cases h1:x.length≤12∧x.length≤(nats x++nats y).length
 ·rw[if_pos h1] at hs ⊢
  have t1:(nats x++nats y).take x.length=nats x:=by
   rw[show x.length=(nats x).length by simp[nats]]
   exact nA
  have t2:(nats x++nats y).drop x.length=nats y:=by
   rw[show x.length=(nats x).length by simp[nats]]
   exact il
  rw[Mh,t1,t2] at hs ⊢
  by_cases h2:(nats y).length≤12
  ·exact ⟨if_pos h2,h1.1,by simpa [nats] using h2⟩
  ·rw[if_neg h2] at hs
   cases hs
 ·rw[if_neg h1] at hs
  cases hs
theorem Sx (x:List Int):gO [[3],x]=(i6 12 (nats x)).map fun c=>.word c:=rfl
theorem EW:gO [[4]]=some .patterns:=rfl
theorem SA:gO [[5]]=some .olds:=rfl
theorem Lj (k:Int):gO [[6,k]]=some (.reflex k.toNat):=rfl
theorem EX (i:Int)(x:List Int):gO [[7,i],x]=(g5 12 (nats x)).map fun l=>.expected i.toNat l:=rfl
theorem Pu (k:Int):gO [[8,k]]=some (.leave k.toNat):=rfl
theorem Sy (x:List Int):gO [[9],x]=(i5 8 (nats x)).bind fun t=>match t.2 with
  | []=>some (.tree t.1)
  | _=>none:=rfl
theorem Pt:gO [[10]]=some .score:=rfl
theorem Sz (w c:Int):gO [[11,w,c]]=some (.root w.toNat c.toNat):=rfl
theorem Li (w c:Int):gO [[12,w,c]]=some (.states w.toNat c.toNat):=rfl
theorem SE:gO [[13]]=some .best:=rfl
def cV (s:St)(q:Call):List Int:=(bu s q).2.v::(bu s q).2.l
theorem Rj {s:St}{c:List (List Int)}{q:Call}(h:gO c=some q):hU s (cF c)=((bu s q).1,cV s q):=by
 unfold gO at h
 unfold hU
 rw[h]
 rfl
def J9 (c:lF):List Nat:=c.env::c.sounds.length::c.sounds
theorem Ba:∀ {k:Nat} {r:List Nat} {w:List lF},i6 k r=some w→r=w.flatMap J9∧w.length≤k∧∀ c∈w,c.sounds.length≤12
 | k,[],w,h=>by
  have:w=[]:=by cases k<;>(unfold i6 at h;injection h with h;exact h.symm)
  subst this
  exact ⟨rfl,aR _,fun _ h=>by simp at h⟩
 | 0,_::_,w,h=>by unfold i6 at h;cases h
 | k+1,e::r,w,h=>by
  unfold i6 at h
  match r,h with
  | [],h=>simp[lR] at h
  | n::r,h =>
   simp only[lR] at h
   by_cases hc:n≤12∧n≤r.length
   ·rw[if_pos hc,Mh] at h
    obtain ⟨l,hl,rfl⟩:=fz.mp h
    obtain ⟨q1,q2,q3⟩:=Ba hl
    have e1:(r.take n).length=n:=by rw[bM];omega
    refine ⟨?_,by simp;exact q2,fun c hc'=>?_⟩
    ·rw[bN,← q1]
     show e::n::r=e::(r.take n).length::(r.take n)++r.drop n
     rw[e1]
     simp
    ·rcases aI.mp hc' with rfl | hc'
     ·show (r.take n).length≤12
      omega
     ·exact q3 c hc'
   ·rw[if_neg hc] at h
    cases h
theorem zj:∀ {k:Nat} {r:List Nat} {l:List (Nat×Nat)},g5 k r=some l→(r=l.flatMap fun p=>[p.1,p.2])∧l.length≤k
 | k,[],l,h=>by
  have:l=[]:=by cases k<;>(unfold g5 at h;injection h with h;exact h.symm)
  subst this
  exact ⟨rfl,aR _⟩
 | 0,_::_,l,h=>by simp[g5] at h
 | k+1,[a],l,h=>by simp[g5] at h
 | k+1,a::b::r,l,h=>by
  unfold g5 at h
  obtain ⟨m,hm,rfl⟩:=fz.mp h
  obtain ⟨q1,q2⟩:=zj hm
  refine ⟨?_,by simp;exact q2⟩
  rw[bN,← q1]
  rfl
def depth:Tree→Nat
 | .leaf _=>1
 | .node a b=>max (depth a) (depth b)+1
theorem vU:∀ {k:Nat} {r:List Nat} {t:Tree} {u:List Nat},i5 k r=some (t,u)→r=t.out++u∧depth t≤k
 | 0,r,t,u,h=>by unfold i5 at h;cases h
 | k+1,r,t,u,h=>by
  unfold i5 at h
  split at h
  ·cases h
  ·injection h with h
   injection h with h1 h2
   subst h1 h2
   exact ⟨rfl,by simp[depth]⟩
  ·rename_i k' r' _
   rename_i e
   cases e
   obtain ⟨⟨a,r1⟩,ha,h⟩:=o5.mp h
   obtain ⟨⟨b,r2⟩,hb,h⟩:=fz.mp h
   injection h with h1 h2
   subst h1 h2
   obtain ⟨q1,d1⟩:=vU ha
   obtain ⟨q2,d2⟩:=vU hb
   refine ⟨?_,by simp[depth];omega⟩
   simp only at q1 q2
   rw[q1,q2]
   simp[Tree.out]
  ·cases h
end Sk
namespace Sk
open PySem PySem.Spec PyProof.Rows L2
def top (i:Nat):d5:=PySem.Challenge.pw_soundkin_s01_answers.main.body.getD i (.Pass ⟨0,0,0,0⟩)
abbrev iv (n:Nat):V:=.int (n:Int)
abbrev eT (l:List Nat):List V:=l.map iv
theorem tS {x:List Nat}{i:Nat}(h:i<x.length):(eT x)[i]?=some (iv x[i]):=by
 rw[aO,aE h]
 rfl
def k2 (a b:Nat):List eD:=[.inl (.inl (a:Int)),.inl (.inl (b:Int))]
theorem NU {a b c d:Nat}(h:k2 a b=k2 c d):a=c∧b=d:=by
 unfold k2 at h
 injection h with h1 h2
 injection h2 with h2 _
 injection h1 with h1
 injection h1 with h1
 injection h2 with h2
 injection h2 with h2
 omega
theorem WL {H:Hp}{p:aj}{a b:Nat}(h:H p=some (.tup [iv a,iv b])):kZ H p (k2 a b):=⟨_,h,.cons rfl (.cons rfl .nil)⟩
theorem _root_.L2.aM.new {H:Hp}{p:aj}{o:HO}(h:H p=none):aM H (upd H p o):=fun b u e=>by
 rw[aT (dg e h)]
 exact e
theorem _root_.L2.aM.tup {K:ai}{H H':Hp}{a:aj}{xs:List V}(e:aM H H')(h:fN K H a xs):fN K H' a xs:=by
 rcases h with (h | ⟨o,h⟩) | h
 ·exact .inl (.inl (e _ _ h))
 ·exact .inl (.inr ⟨o,e _ _ h⟩)
 ·exact .inr h
theorem _root_.L2.aM.upd {H H':Hp}{p:aj}{o:HO}(s:aM H H')(h:H p=none):aM H (upd H' p o):=fun b u e=>by
 rw[aT (dg e h)]
 exact s _ _ e
theorem iL {t u:TS}{D:Ends}{σ:L2.St}{H:Hp}(C:L2.St→Hp→Prop)(h1:(∀ σ' H',C σ' H'→u D σ' H')→t {D with nx:=u D} σ H)(h2:∀ σ' H',C σ' H'→u D σ' H'):UR t u D σ H:=h1 h2
theorem cn {te:TE}{i:Nat}{u:TS}{D:Ends}{σ:L2.St}{H:Hp}(h:te σ H fun x H1=>u D (σ.set i (some x)) H1):UR (QZ te (oh i)) u D σ H:=h
def iM (H:Hp)(c:aj)(l:dq):Prop :=
 ∃ kvs:List (List eD×V),H c=some (.dT kvs)∧kvs.length≤l.length∧∀ a b:Nat,jZ kvs (k2 a b)=(l.find? fun x=>x.1==a&&x.2.1==b).map fun x=>iv x.2.2
theorem iM.same {H H':Hp}{c:aj}{l:dq}(h:iM H c l)(s:aM H H'):iM H' c l:=let ⟨k,e,r⟩:=h;⟨k,s _ _ e,r⟩
def qK (r:QH):List V:=r.flatMap fun p=>[iv p.1,iv p.2]
theorem A8 (r:QH):(qK r).length=2*r.length:=by
 induction r with
 | nil=>rfl
 | cons p r ih=>simp[qK] at ih ⊢;omega
def gK (H:Hp)(a:aj)(b:cT):Prop:=∃ p,H a=some (.tup [iv b.cost,iv b.many,.ref p])∧H p=some (.lst (qK b.first))
theorem gK.same {H H':Hp}{a:aj}{b:cT}(h:gK H a b)(s:aM H H'):gK H' a b:=let ⟨p,e,r⟩:=h;⟨p,s _ _ e,s _ _ r⟩
abbrev B4:d5:=top 4
abbrev MJ:d5:=top 26
structure U5 (K:ai)(mg:cp→Option ag):Prop where
 ns:∃ t,mg "NO_SOUND"=some (.int 1 t)
 cu:∃ t,mg "COST_UNTOLD"=some (.int 10 t)
def yD:Sp:=fun vs H Q _=>∃ (c:aj) (a b:Nat) (l:dq),vs=[.ref c,iv a,iv b]∧iM H c l∧∀ H',aM H H'→Q (iv (iO l a b)) H'
def FJ:Sp:=fun vs H Q _=>∃ (a b:Nat) (r c:aj) (l:dq) (d:cT),vs=[iv a,iv b,.ref r,.ref c]∧iM H c l∧gK H r d∧d.first.length≤100 ∧
 ∀ H' p q,aM H H'→H q=none→H' p=some (.tup [iv (d.with_ (iO l a b) (a,b)).cost,iv d.many,.ref q])→H' q=some (.lst (qK ((a,b)::d.first)))→Q (.ref p) H'
section
variable {P:aY}{w:bO}{K:ai}{mg:cp→Option ag}{base:bU}
theorem Oy:bW ["costs","one","other"] ["costs","one","other"] (bF B4):=⟨rfl,rfl,rfl,by decide +kernel,rfl,by decide +kernel,by decide +kernel⟩
theorem KS {f:aj}{fd:bI}(F:jt K "change_cost" "change_cost" B4 f fd)(T:U5 K mg):cO P w K mg base fB 1 f fd ["costs","one","other"] yD:=by
 obtain ⟨tc,hcu⟩:=T.cu
 refine F.ok Oy (fun vs H Q E h=>?_) (fun iq A outer s H vs Q E hr h=>?_)
 ·obtain ⟨c,a,b,l,rfl,_⟩:=h
  rfl
 ·obtain ⟨c,a,b,l,rfl,⟨kvs,hc,hlen,hv⟩,k⟩:=h
  refine ⟨_,aQ (bL (DX (wR hr) (pv 0) (jj (ah (pv 1) (ah (pv 2) aB)))
   (yL (bS gw (pv 1) (pv 2) (cj _)) aW (bX (v:=.int 10) rfl hcu ⟨_,rfl⟩)) ⟨rfl,rfl,rfl,rfl⟩)),?_⟩
  refine ⟨_,rfl,c,rfl,.inr ⟨kvs,.inl hc⟩,_,rfl,_,rfl,(by show 2≤aA;decide),fun t ht=>?_⟩
  have s1:aM H (upd H t (.tup [iv a,iv b])):=aM.new ht
  have hd:uA (upd H t (.tup [iv a,iv b])) c (.ref t) (jZ kvs (k2 a b)):=uA.t (s1 _ _ hc) (WL aw)
  rw[hv a b] at hd
  refine ⟨_,rfl,_,rfl,rfl,_,rfl,?_⟩
  have fin:∀ d:Nat,d=(if a=b then 0 else 10)→∃ o,uA (upd H t (.tup [iv a,iv b])) c (.ref t) o∧Q (o.getD (iv d)) (upd H t (.tup [iv a,iv b])):=fun d e=>by
   refine ⟨_,hd,?_⟩
   have:=k _ s1
   unfold iO at this
   cases q:l.find? fun x=>x.1==a&&x.2.1==b with
   | some x=>rw[q] at this;exact this
   | none=>rw[q] at this;rw[e];exact this
  refine gD (fun hc=>?_) fun hc=>?_
  ·have e:a=b:=by
    have q:iv a=iv b:=of_decide_eq_true hc
    injection q with q
    omega
   exact fin 0 (by rw[if_pos e])
  ·have e:¬ a=b:=fun z=>hc (by rw[z];exact decide_eq_true rfl)
   exact fin 10 (by rw[if_neg e])
theorem Vk:bW ["one","other","rest","costs"] ["one","other","rest","costs"] (bF MJ):=⟨rfl,rfl,rfl,by decide +kernel,rfl,by decide +kernel,by decide +kernel⟩
theorem RB {f fc:aj}{fd fdc:bI}(F:jt K "with_pair" "with_pair" MJ f fd)(G:cO P w K mg base fB 1 fc fdc ["costs","one","other"] yD)(mc:mg "change_cost"=some (.ref fc))(kc:aP K (.ref fc)=true)(bc:Binds K fdc ["costs","one","other"] []) :
  cO P w K mg base fB 2 f fd ["one","other","rest","costs"] FJ:=by
 refine F.ok Vk (fun vs H Q E h=>?_) (fun iq A outer s H vs Q E hr h=>?_)
 ·obtain ⟨a,b,r,c,l,d,rfl,_⟩:=h
  rfl
 ·obtain ⟨a,b,r,c,l,d,rfl,hc,⟨q,nW,hr2⟩,hl,k⟩:=h
  refine ⟨_,aQ (bL (jj (ah (dX eL (bY G hr rfl mc kc bc .nil cR (ah (pv 3) (ah (pv 0) (ah (pv 1) aB)))) (cy dO (pv 2) aW (fun _ _=>rfl)))
   (ah (cy dO (pv 2) aW (fun _ _=>rfl)) (ah (dX jk (cP (ah (pv 0) (ah (pv 1) aB))) (cy dO (pv 2) aW (fun _ _=>rfl))) aB))))),?_⟩
  refine ⟨_,rfl,_,rfl,_,rfl,c,a,b,l,rfl,hc,fun H1 s1=>?_⟩
  refine ⟨_,rfl,r,_,0,_,rfl,rfl,fN.of (s1 _ _ nW),cg (j:=0) rfl,_,_,rfl,rfl,?_⟩
  refine ⟨_,rfl,r,_,1,_,rfl,rfl,fN.of (s1 _ _ nW),cg (j:=1) rfl,?_⟩
  refine ⟨_,rfl,_,rfl,(by show 2≤aA;decide),fun t ht=>?_⟩
  have s2:aM H1 (upd H1 t (.lst [iv a,iv b])):=aM.new ht
  refine ⟨_,rfl,r,_,2,_,rfl,rfl,fN.of (s2 _ _ (s1 _ _ nW)),cg (j:=2) rfl,?_⟩
  refine ⟨t,q,_,_,rfl,rfl,aw,s2 _ _ (s1 _ _ hr2),?_,fun p hp=>?_⟩
  ·rw[A8]
   exact aD (show 2+2*d.first.length≤202 by omega) (by decide)
  ·refine ⟨(by show 3≤aA;decide),fun p2 hp2=>?_⟩
   have s3:=aM.new (o:=.lst ([iv a,iv b]++qK d.first)) hp
   refine k _ p2 p (((s1.trans s2).trans s3).trans (aM.new hp2)) ((s1.trans s2).free hp) ?_ ?_
   ·rw[aw]
    rfl
   ·rw[aT (dg aw hp2),aw]
    rfl
end
abbrev yI:d5:=top 27
def Xi (H:Hp)(p:aj)(cs:List cT):Prop:=∃ rs:List aj,H p=some (.lst (rs.map V.ref))∧Paired (gK H) rs cs
theorem rj {H H':Hp}(s:aM H H'):∀ {rs:List aj} {cs:List cT},Paired (gK H) rs cs→Paired (gK H') rs cs
 | _,_,.nil=>.nil
 | _,_,.cons a t=>.cons (a.same s) (rj s t)
def iS (p:aj)(H:Hp)(a:aj)(b:cT):Prop:=∃ q,q≠p∧H a=some (.tup [iv b.cost,iv b.many,.ref q])∧H q=some (.lst (qK b.first))
theorem iS.at_ {p a:aj}{H:Hp}{b:cT}(h:iS p H a b):gK H a b:=let ⟨q,_,e,f⟩:=h;⟨q,e,f⟩
theorem iS.same {p a:aj}{H H':Hp}{b:cT}(h:iS p H a b)(s:aM H H'):iS p H' a b:=let ⟨q,n,e,f⟩:=h;⟨q,n,s _ _ e,s _ _ f⟩
theorem iS.upd {p a:aj}{H:Hp}{b:cT}{xs ys:List V}(h:iS p H a b)(hp:H p=some (.lst xs)):iS p (upd H p (.lst ys)) a b:=by
 obtain ⟨q,n,e,f⟩:=h
 refine ⟨q,n,?_,?_⟩
 ·rw[aT (ik e hp (by intro z;cases z))]
  exact e
 ·rw[aT n]
  exact f
theorem IL {p:aj}{H:Hp}:∀ {rs:List aj} {cs:List cT},Paired (iS p H) rs cs→Paired (gK H) rs cs
 | _,_,.nil=>.nil
 | _,_,.cons a t=>.cons a.at_ (IL t)
theorem vX {p:aj}{H H2:Hp}(s:aM H H2):∀ {rs:List aj} {cs:List cT},Paired (iS p H) rs cs→Paired (iS p H2) rs cs
 | _,_,.nil=>.nil
 | _,_,.cons a t=>.cons (a.same s) (vX s t)
theorem Ci (l:dq)(x y:List Nat)(i j:Nat):(JZ l x y i j).length≤1:=by
 unfold JZ
 cases x[i]?<;>cases y[j]?<;>simp
theorem JB (l:dq)(x y:List Nat)(i j:Nat):(Mo l x y i j).length≤1:=by
 unfold Mo
 cases x[i]?<;>simp
theorem AI {p r:aj}{H H2:Hp}{b:cT}{xs ys:List V}(s:aM H H2)(hp:H2 p=some (.lst xs))(hb:iS p H2 r b):∀ {rs:List aj} {cs:List cT},Paired (iS p H) rs cs→Paired (iS p (upd H2 p (.lst ys))) (rs++[r]) (cs++[b])
 | _,_,.nil=>.cons (hb.upd hp) .nil
 | _,_,.cons a t=>.cons ((a.same s).upd hp) (AI s hp hb t)
def To (H:Hp)(kn:aj)(l:dq)(x y:List Nat)(S:Nat→Nat→Prop):Prop :=
 ∃ kvs:List (List eD×V),H kn=some (.dT kvs)∧∀ a b,S a b→∃ r,jZ kvs (k2 a b)=some (.ref r)∧gK H r (QD l x y a b)
theorem Cj (l:dq)(x y:List Nat)(i j:Nat)(hx:x.length≤6)(hy:y.length≤6):(QD l x y i j).first.length≤100:=by
 have:=zG l ((x.drop i).length+(y.drop j).length) (x.drop i) (y.drop j)
 have h1:(x.drop i).length≤6:=by rw[cq];omega
 have h2:(y.drop j).length≤6:=by rw[cq];omega
 unfold QD ft
 omega
def After (x y:List Nat)(i j a b:Nat):Prop:=i≤a∧j≤b∧a≤x.length∧b≤y.length∧¬ (a=i∧b=j)
def AF (K:ai):Sp:=fun vs H Q _=>∃ (px py kn c:aj) (x y:List Nat) (i j:Nat) (l:dq),vs=[.ref px,.ref py,iv i,iv j,.ref kn,.ref c]∧cG K H px (eT x)∧cG K H py (eT y)∧x.length≤6∧y.length≤6 ∧
 i≤x.length∧j≤y.length∧iM H c l∧To H kn l x y (After x y i j)∧∀ H' p,aM H H'→Xi H' p (z0 l x y i j)→Q (.ref p) H'
section
variable {P:aY}{w:bO}{K:ai}{mg:cp→Option ag}{base:bU}
theorem AK:bW ["first","second","i","j","known","costs","found"] ["first","second","i","j","known","costs"] (bF yI):=⟨rfl,rfl,rfl,by decide +kernel,rfl,by decide +kernel,by decide +kernel⟩
theorem XF {a b:Nat}:decide (iv a=V.int (b:Int))=decide (a=b):=decide_eq_decide.mpr ⟨fun h=>by injection h with h;omega,fun h=>by rw[h]⟩
theorem Hj {f fw:aj}{fd fdw:bI}(F:jt K "choices_at" "choices_at" yI f fd)(T:U5 K mg)(hln:mg "len"=none)(G:cO P w K mg base fB 2 fw fdw ["one","other","rest","costs"] FJ)(mw:mg "with_pair"=some (.ref fw))(kw:aP K (.ref fw)=true)(bw:Binds K fdw ["one","other","rest","costs"] []) :
  cO P w K mg base fB 3 f fd ["first","second","i","j","known","costs"] (AF K):=by
 obtain ⟨tn,hns⟩:=T.ns
 refine F.ok AK (fun vs H Q E h=>?_) (fun iq A outer s H vs Q E hr h=>?_)
 ·obtain ⟨px,py,kn,c,x,y,i,j,l,rfl,_⟩:=h
  rfl
 ·obtain ⟨px,py,kn,c,x,y,i,j,l,rfl,hx,hy,lx,ly,hi,hj,hc,hk,k⟩:=h
  have hu:=wR hr
  refine ⟨_,aF (eE (ph (bS gw (pv 2) (bP bD (by rfl) hln bb (ah (pv 0) aB)) (cj _)) (pB (bS gw (pv 3) (bP bD (by rfl) hln bb (ah (pv 1) aB)) (cj _)))).pt
    (aQ (bL (cP (ah (jj (ah aW (ah aW (ah (cP aB) aB)))) aB)))) cU)
   (aF (cw (i:=6) AK.nd rfl (bj rfl) (cP aB))
   (aF (eE (ph (bS wO (pv 2) (bP bD (by rfl) hln bb (ah (pv 0) aB)) (cj _)) (pB (bS wO (pv 3) (bP bD (by rfl) hln bb (ah (pv 1) aB)) (cj _)))).pt
    (aQ (fP (jL bK cC cB gB (pv 6) (ah (bY G hr rfl mw kw bw .nil cR (ah (cy cJ (pv 0) (pv 2) (fun _ _=>rfl)) (ah (cy cJ (pv 1) (pv 3) (fun _ _=>rfl)) (ah (x3 hu (pv 4) (jj (ah (dX eL (pv 2) aW) (ah (dX eL (pv 3) aW) aB))) (fun _ _=>rfl)) (ah (pv 5) aB))))) aB)))) cU)
   (aF (eE (bS wO (pv 2) (bP bD (by rfl) hln bb (ah (pv 0) aB)) (cj _))
    (aQ (fP (jL bK cC cB gB (pv 6) (ah (bY G hr rfl mw kw bw .nil cR (ah (cy cJ (pv 0) (pv 2) (fun _ _=>rfl)) (ah (bX (v:=.int 1) rfl hns ⟨_,rfl⟩) (ah (x3 hu (pv 4) (jj (ah (dX eL (pv 2) aW) (ah (pv 3) aB))) (fun _ _=>rfl)) (ah (pv 5) aB))))) aB)))) cU)
   (aF (eE (bS wO (pv 3) (bP bD (by rfl) hln bb (ah (pv 1) aB)) (cj _))
    (aQ (fP (jL bK cC cB gB (pv 6) (ah (bY G hr rfl mw kw bw .nil cR (ah (bX (v:=.int 1) rfl hns ⟨_,rfl⟩) (ah (cy cJ (pv 1) (pv 3) (fun _ _=>rfl)) (ah (x3 hu (pv 4) (jj (ah (pv 2) (ah (dX eL (pv 3) aW) aB))) (fun _ _=>rfl)) (ah (pv 5) aB))))) aB)))) cU)
   (aQ (bL (pv 6))))))),?_⟩
  have lx':((eT x).length:Int)=(x.length:Int):=by rw[ae]
  have ly':((eT y).length:Int)=(y.length:Int):=by rw[ae]
  have eqd:∀ {m n:Nat} {z:Int},z=(n:Int)→(decide (iv m=V.int z)=true↔m=n):=fun {m n z} e=>by
   rw[e,decide_eq_true_iff]
   exact ⟨fun h=>by injection h with h;omega,fun h=>by rw[h]⟩
  have ltd:∀ {m n:Nat} {z:Int},z=(n:Int)→(decide ((m:Int)<z)=true↔m<n):=fun {m n z} e=>by
   rw[e,decide_eq_true_iff]
   omega
  refine iL (fun σ' H'=>σ'=start ["first","second","i","j","known","costs","found"] [.ref px,.ref py,iv i,iv j,.ref kn,.ref c]∧H'=H∧¬ (i=x.length∧j=y.length)) (fun go=>?_) ?_
  ·refine ⟨_,rfl,_,rfl,px,_,rfl,.inl hx,rfl,_,rfl,?_⟩
   refine gD (fun h1=>?_) fun h1=>?_
   ·refine ⟨_,rfl,_,rfl,py,_,rfl,.inl hy,rfl,_,rfl,?_⟩
    refine gD (fun h2=>?_) fun h2=>?_
    ·have e1:=(eqd lx').mp h1
     have e2:=(eqd ly').mp h2
     refine ⟨aR _,fun q hq=>⟨(by show 3≤aA;decide),fun t ht=>⟨(by show 1≤aA;decide),fun p hp=>?_⟩⟩⟩
     refine k _ p (((aM.new hq).trans (aM.new ht)).trans (aM.new hp)) ?_
     unfold z0
     rw[if_pos ⟨e1,e2⟩]
     exact ⟨[t],aw,.cons ⟨q,aM.new hp _ _ aw,aM.new hp _ _ (aM.new ht _ _ aw)⟩ .nil⟩
    ·exact go _ _ ⟨rfl,rfl,fun z=>h2 ((eqd ly').mpr z.2)⟩
   ·exact nI (go _ _ ⟨rfl,rfl,fun z=>h1 ((eqd lx').mpr z.1)⟩)
  rintro σ' H' ⟨rfl,rfl,ne⟩
  refine cn ⟨aR _,fun p hp=>?_⟩
  obtain ⟨kvs,hkn,hkv⟩:=hk
  have push:∀ (H1:Hp) (rs:List aj) (cs:List cT) (a b:Nat) (r:aj) (d:cT) (R:Hp→Prop),aM H' H1→H1 p=some (.lst (rs.map V.ref))→Paired (iS p H1) rs cs→cs.length≤3→gK H1 r d→d.first.length≤100→(∀ H2 rs2,aM H' H2→H2 p=some (.lst (rs2.map V.ref))→Paired (iS p H2) rs2 (cs++[d.with_ (iO l a b) (a,b)])→R H2) →
    FJ ([iv a,iv b,.ref r,.ref c]++[]) H1 (fun y H2=>∃ l_1 xs y_1,V.ref p=V.ref l_1∧[y]=[y_1]∧H2 l_1=some (.lst xs)∧xs.length<aA∧R (upd H2 l_1 (.lst (xs++[y_1])))) E0:=by
   intro H1 rs cs a b r d R s1 h1 pr lc hd ld fin
   refine ⟨a,b,r,c,l,d,rfl,hc.same s1,hd,ld,fun H2 t q s2 hq e1 e2=>?_⟩
   refine ⟨p,_,_,rfl,rfl,s2 _ _ h1,?_,?_⟩
   ·rw[ae,bz pr]
    exact aG lc (by decide)
   ·refine fin _ (rs++[t]) ((s1.trans s2).upd hp) (by rw[aw,aX];rfl) ?_
    exact AI s2 (s2 _ _ h1) ⟨q,(dg h1 hq).symm,e1,e2⟩ pr
  let st:L2.St:=[some (.ref px),some (.ref py),some (iv i),some (iv j),some (.ref kn),some (.ref c),some (.ref p)]
  let Mid:List cT→L2.St→Hp→Prop:=fun cs σ H1=>σ=st∧∃ rs:List aj,aM H' H1∧H1 p=some (.lst (rs.map V.ref))∧Paired (iS p H1) rs cs
  have hch:z0 l x y i j=JZ l x y i j++Mo l x y i j++QW l x y i j:=by
   unfold z0
   rw[if_neg ne]
  have look:∀ (H1:Hp) (a b:Nat) (t:aj),aM H' H1→After x y i j a b→H1 t=some (.tup [iv a,iv b])→∃ r,uA H1 kn (.ref t) (some (.ref r))∧gK H1 r (QD l x y a b):=fun H1 a b t s1 af ht=>by
   obtain ⟨r,e1,e2⟩:=hkv a b af
   exact ⟨r,e1▸uA.t (s1 _ _ hkn) (WL ht),e2.same s1⟩
  have s0:aM H' (upd H' p (.lst [])):=aM.new hp
  refine iL (Mid (JZ l x y i j)) (fun go=>?_) ?_
  ·refine ⟨_,rfl,_,rfl,px,_,rfl,.inl (s0.seq hx),_,_,rfl,rfl,_,rfl,?_⟩
   refine gD (fun h1=>?_) fun h1=>?_
   ·have h1':=(ltd lx').mp h1
    refine ⟨_,rfl,_,rfl,py,_,rfl,.inl (s0.seq hy),_,_,rfl,rfl,_,rfl,?_⟩
    refine gD (fun h2=>?_) fun h2=>?_
    ·have h2':=(ltd ly').mp h2
     refine ⟨_,rfl,.inl ⟨rfl,_,cG.of aw⟩,?_⟩
     refine ⟨_,rfl,_,rfl,px,_,_,_,rfl,rfl,s0.seq hx,cg (tS h1'),?_⟩
     refine ⟨_,rfl,_,rfl,py,_,_,_,rfl,rfl,s0.seq hy,cg (tS h2'),?_⟩
     refine ⟨_,rfl,_,rfl,_,_,rfl,rfl,_,rfl,_,_,rfl,rfl,(by show 2≤aA;decide),fun t ht=>?_⟩
     have s1:aM (upd H' p (.lst [])) (upd (upd H' p (.lst [])) t (.tup [iv (i+1),iv (j+1)])):=aM.new ht
     obtain ⟨r,g,hb⟩:=look _ (i+1) (j+1) t (s0.trans s1) ⟨by omega,by omega,by omega,by omega,by omega⟩ aw
     refine ⟨kn,_,rfl,g,_,rfl,?_⟩
     refine push _ [] [] x[i] y[j] r _ _ (s0.trans s1) (s1 _ _ aw) .nil (by decide) hb (Cj l x y _ _ lx ly) fun H2 rs2 s2 e2 p2=>go _ _ ⟨rfl,rs2,s2,e2,?_⟩
     unfold JZ
     rw[aE h1',aE h2']
     exact p2
    ·refine go _ _ ⟨rfl,[],s0,aw,?_⟩
     unfold JZ
     rw[bG (l:=y) (by have:¬ j<y.length:=fun z=>h2 ((ltd ly').mpr z);omega)]
     cases x[i]?<;>exact .nil
   ·refine nI (go _ _ ⟨rfl,[],s0,aw,?_⟩)
    unfold JZ
    rw[bG (l:=x) (by have:¬ i<x.length:=fun z=>h1 ((ltd lx').mpr z);omega)]
    exact .nil
  rintro σ1 H1 ⟨rfl,rs1,s1,e1,p1⟩
  refine iL (Mid (JZ l x y i j++Mo l x y i j)) (fun go=>?_) ?_
  ·refine ⟨_,rfl,_,rfl,px,_,rfl,.inl (s1.seq hx),_,_,rfl,rfl,_,rfl,?_⟩
   refine gD (fun h1=>?_) fun h1=>?_
   ·have h1':=(ltd lx').mp h1
    refine ⟨_,rfl,.inl ⟨rfl,_,cG.of e1⟩,?_⟩
    refine ⟨_,rfl,_,rfl,px,_,_,_,rfl,rfl,s1.seq hx,cg (tS h1'),?_⟩
    refine ⟨_,rfl,_,rfl,_,_,rfl,rfl,_,rfl,(by show 2≤aA;decide),fun t ht=>?_⟩
    have s2:aM H1 (upd H1 t (.tup [iv (i+1),iv j])):=aM.new ht
    obtain ⟨r,g,hb⟩:=look _ (i+1) j t (s1.trans s2) ⟨by omega,by omega,by omega,by omega,by omega⟩ aw
    refine ⟨kn,_,rfl,g,_,rfl,?_⟩
    refine push _ rs1 (JZ l x y i j) x[i] 1 r _ _ (s1.trans s2) (s2 _ _ e1) (vX s2 p1) ?_ hb (Cj l x y _ _ lx ly) fun H2 rs2 s2 e2 p2=>go _ _ ⟨rfl,rs2,s2,e2,?_⟩
    ·exact aD (Ci l x y i j) (by decide)
    ·unfold Mo
     rw[aE h1']
     exact p2
   ·refine go _ _ ⟨rfl,rs1,s1,e1,?_⟩
    unfold Mo
    rw[bG (l:=x) (by have:¬ i<x.length:=fun z=>h1 ((ltd lx').mpr z);omega),bV]
    exact p1
  rintro σ2 H2 ⟨rfl,rs2,s2,e2,p2⟩
  refine iL (Mid (JZ l x y i j++Mo l x y i j++QW l x y i j)) (fun go=>?_) ?_
  ·refine ⟨_,rfl,_,rfl,py,_,rfl,.inl (s2.seq hy),_,_,rfl,rfl,_,rfl,?_⟩
   refine gD (fun h1=>?_) fun h1=>?_
   ·have h1':=(ltd ly').mp h1
    refine ⟨_,rfl,.inl ⟨rfl,_,cG.of e2⟩,?_⟩
    refine ⟨_,rfl,_,rfl,py,_,_,_,rfl,rfl,s2.seq hy,cg (tS h1'),?_⟩
    refine ⟨_,rfl,_,rfl,_,rfl,_,_,rfl,rfl,(by show 2≤aA;decide),fun t ht=>?_⟩
    have s3:aM H2 (upd H2 t (.tup [iv i,iv (j+1)])):=aM.new ht
    obtain ⟨r,g,hb⟩:=look _ i (j+1) t (s2.trans s3) ⟨by omega,by omega,by omega,by omega,by omega⟩ aw
    refine ⟨kn,_,rfl,g,_,rfl,?_⟩
    refine push _ rs2 (JZ l x y i j++Mo l x y i j) 1 y[j] r _ _ (s2.trans s3) (s3 _ _ e2) (vX s3 p2) ?_ hb (Cj l x y _ _ lx ly) fun H4 rs4 s4 e4 p4=>go _ _ ⟨rfl,rs4,s4,e4,?_⟩
    ·rw[aK]
     have:=Ci l x y i j
     have:=JB l x y i j
     omega
    ·unfold QW
     rw[aE h1']
     exact p4
   ·refine go _ _ ⟨rfl,rs2,s2,e2,?_⟩
    unfold QW
    rw[bG (l:=y) (by have:¬ j<y.length:=fun z=>h1 ((ltd ly').mpr z);omega),bV]
    exact p2
  rintro σ3 H3 ⟨rfl,rs3,s3,e3,p3⟩
  refine ⟨_,rfl,?_⟩
  exact k H3 p s3 (hch▸⟨rs3,e3,IL p3⟩)
end
theorem take_snoc {α:Type}:∀ {l:List α} {i:Nat} {x:α},l[i]?=some x→l.take (i+1)=l.take i++[x]
 | [],i,x,h=>by simp at h
 | a::l,0,x,h=>by
  have e:a=x:=aJ h
  subst e
  rfl
 | a::l,i+1,x,h=>by
  have ih:=take_snoc (l:=l) (i:=i) (x:=x) h
  show a::l.take (i+1)=a::l.take i++[x]
  rw[ih]
  rfl
theorem fW {α:Type}{l:List α}{i:Nat}{x:α}(p:α→Bool)(h:l[i]?=some x):(l.take (i+1)).filter p=(l.take i).filter p++(if p x=true then [x] else []):=by
 rw[take_snoc h,gL,cE,List.filter_nil]
theorem gS {α:Type}(l:List α)(i:Nat)(p:α→Bool):((l.take i).filter p).length≤l.length :=
 aD (cY _ _) (by rw[bM];omega)
theorem pF {K:ai}{a:aj}{xs:List V}{j:Nat}{tt:TT}{te:TE}{vs:List Nat}{σ:L2.St}{H1:Hp}{D:aj}{Qd:Hp→Prop}(p:V→Bool)(f:V→V)(hD:H1 D=none)(hl:cG K H1 a xs)(hz:xs.length<aA)
  (hw:∀ x,wipe ((wipe σ vs).set j (some x)) vs=wipe σ vs)
  (hp:∀ x∈xs,∀ H,aM H1 H→∀ R:Bool→Hp→Prop,(∀ H',aM H H'→R (p x) H')→tt ((wipe σ vs).set j (some x)) H R)
  (he:∀ x∈xs,p x=true→∀ H,aM H1 H→∀ R:V→Hp→Prop,(∀ H',aM H H'→R (f x) H')→te ((wipe σ vs).set j (some x)) H R)
  (hd:∀ H',aM H1 H'→H' D=some (.lst ((xs.filter p).map f))→Qd H') :
  ∃ W:Nat→Nat→Hp→Prop,(∃ m,W 0 m (upd H1 D (.lst [])))∧∀ i m H,W i m H →
   ((Ah K a).stop i H∧Qd H)∨((Ah K a).go i H∧∃ Nx:Hp→Prop,(∀ H',Nx H'→∃ m',m'<m∧W (i+1) m' H')∧∀ x H',(Ah K a).zS i H x H'→oh j x (wipe σ vs) H' fun σ2 H2=>wipe σ2 vs=wipe σ vs∧tt σ2 H2 fun b H3 =>
    if b=true then te σ2 H3 fun y H4=>∃ acc,H4 D=some (.lst acc)∧acc.length<aA∧Nx (upd H4 D (.lst (acc++[y]))) else Nx H3):=by
 refine uM (fun i H=>aM H1 H∧H D=some (.lst (((xs.take i).filter p).map f))) ⟨aM.new hD,aw⟩ (fun i H _ h=>h.1.seq hl) (fun i x H hx h=>?_) (fun H h=>?_)
 ·obtain ⟨s1,e⟩:=h
  have mx:=aV hx
  refine ⟨hw x,hp x mx H s1 _ fun H3 s3=>?_⟩
  have s13:=s1.trans s3
  cases hpx:p x with
  | false =>
   refine nI ⟨s13,?_⟩
   rw[fW p hx,hpx,if_neg (by decide),bV]
   exact s3 _ _ e
  | true =>
   refine o9 (he x mx hpx H3 s13 _ fun H4 s4=>⟨_,s4 _ _ (s3 _ _ e),?_,fun b u q=>?_,?_⟩)
   ·rw[ae]
    exact aG (gS xs i p) hz
   ·rw[aT (dg q hD)]
    exact s4 _ _ (s13 _ _ q)
   ·rw[aw,fW p hx,hpx,if_pos rfl,aX]
    rfl
 ·obtain ⟨s1,e⟩:=h
  rw[bE] at e
  exact hd H s1 e
theorem kz {α:Type}(l:List α):l.filter (fun _=>true)=l:=List.filter_eq_self.mpr fun _ _=>rfl
abbrev Ga:d5:=top 28
def qE (H:Hp)(k:Nat):V→V
 | .ref r=>match H r with
  | some (.tup xs)=>(xs[k]?).getD .hC
  | _=>.hC
 | _=>.hC
theorem DB {H:Hp}{r:aj}{xs:List V}{k:Nat}{v:V}(h:H r=some (.tup xs))(e:xs[k]?=some v):qE H k (.ref r)=v:=by
 simp only[qE,h,e,Option.getD_some]
theorem gK.t0 {H:Hp}{r:aj}{b:cT}(h:gK H r b):qE H 0 (.ref r)=iv b.cost:=let ⟨_,e,_⟩:=h;DB e rfl
theorem gK.t1 {H:Hp}{r:aj}{b:cT}(h:gK H r b):qE H 1 (.ref r)=iv b.many:=let ⟨_,e,_⟩:=h;DB e rfl
theorem ye {H:Hp}:∀ {rs:List aj} {cs:List cT},Paired (gK H) rs cs→∀ x∈rs.map V.ref,∃ r b,x=V.ref r∧gK H r b∧b∈cs
 | _,_,.nil,x,h=>by simp at h
 | _,_,.cons a t,x,h=>by
  rcases aI.mp h with e | h
  ·exact ⟨_,_,e,a,ax⟩
  ·obtain ⟨r,b,e,q,m⟩:=ye t x h
   exact ⟨r,b,e,q,ao _ m⟩
theorem N3 {H:Hp}:∀ {rs:List aj} {cs:List cT},Paired (gK H) rs cs→(rs.map V.ref).map (qE H 0)=(cs.map fun b=>((b.cost:Nat):Int)).map V.int
 | _,_,.nil=>rfl
 | _,_,.cons a t=>by
  simp only[bo]
  rw[a.t0]
  exact congrArg _ (N3 t)
theorem N2 {H:Hp}:∀ {rs:List aj} {cs:List cT},Paired (gK H) rs cs→(rs.map V.ref).map (qE H 1)=(cs.map fun b=>((b.many:Nat):Int)).map V.int
 | _,_,.nil=>rfl
 | _,_,.cons a t=>by
  simp only[bo]
  rw[a.t1]
  exact congrArg _ (N2 t)
theorem zH {H:Hp}(m:Nat):∀ {rs:List aj} {cs:List cT},Paired (gK H) rs cs→∃ rs':List aj,(rs.map V.ref).filter (fun x=>decide (qE H 0 x=iv m))=rs'.map V.ref∧Paired (gK H) rs' (cs.filter fun b=>decide (b.cost=m))
 | _,_,.nil=>⟨[],rfl,.nil⟩
 | r::rs,b::cs,.cons a t=>by
  obtain ⟨rs',e,q⟩:=zH m t
  have d:decide (qE H 0 (V.ref r)=iv m)=decide (b.cost=m):=by
   rw[a.t0]
   exact decide_eq_decide.mpr ⟨fun h=>by injection h with h;omega,fun h=>by rw[h]⟩
  rw[bo,cE,cE,d]
  by_cases z:b.cost=m
  ·rw[if_pos (decide_eq_true z),if_pos (decide_eq_true z),e]
   exact ⟨r::rs',rfl,.cons a q⟩
  ·rw[if_neg (by simp[z]),if_neg (by simp[z]),e]
   exact ⟨rs',rfl,q⟩
theorem wk:∀ (cs:List cT) (m:Nat),(cs.foldl (fun m b=>min m b.cost) m≤m∧∀ b∈cs,cs.foldl (fun m b=>min m b.cost) m≤b.cost)∧(cs.foldl (fun m b=>min m b.cost) m=m∨∃ b∈cs,cs.foldl (fun m b=>min m b.cost) m=b.cost)
 | [],m=>⟨⟨aL _,fun _ h=>by simp at h⟩,.inl rfl⟩
 | c::cs,m=>by
  obtain ⟨⟨h1,h2⟩,h3⟩:=wk cs (min m c.cost)
  rw[d4]
  refine ⟨⟨by omega,fun b hb=>?_⟩,?_⟩
  ·rcases aI.mp hb with rfl | hb
   ·omega
   ·exact h2 b hb
  ·rcases h3 with h3 | ⟨b,hb,h3⟩
   ·rw[h3]
    by_cases z:m≤c.cost
    ·exact .inl (by omega)
    ·exact .inr ⟨c,ax,by omega⟩
   ·exact .inr ⟨b,ao _ hb,h3⟩
theorem La {cs:List cT}{m:Int}(h1:m∈cs.map fun b=>((b.cost:Nat):Int))(h2:∀ y∈cs.map fun b=>((b.cost:Nat):Int),m≤y):m=(iR cs:Int):=by
 obtain ⟨b,hb,rfl⟩:=aU.mp h1
 have h2':∀ c∈cs,b.cost≤c.cost:=fun c hc=>by
  have:=h2 _ (aU.mpr ⟨c,hc,rfl⟩)
  omega
 cases cs with
 | nil=>simp at hb
 | cons c r =>
  obtain ⟨⟨q1,q2⟩,q3⟩:=wk r c.cost
  have e:iR (c::r)=r.foldl (fun m b=>min m b.cost) c.cost:=rfl
  rw[e]
  have low:r.foldl (fun m b=>min m b.cost) c.cost≤b.cost:=by
   rcases aI.mp hb with rfl | hb
   ·exact q1
   ·exact q2 b hb
  have up:b.cost≤r.foldl (fun m b=>min m b.cost) c.cost:=by
   rcases q3 with q3 | ⟨d,hd,q3⟩
   ·rw[q3];exact h2' c ax
   ·rw[q3];exact h2' d (ao _ hd)
  omega
theorem Ht {cs:List cT}(h:cs≠[]):∃ b∈cs,b.cost=iR cs:=by
 cases cs with
 | nil=>exact absurd rfl h
 | cons c r =>
  obtain ⟨_,q3⟩:=wk r c.cost
  rcases q3 with q3 | ⟨d,hd,q3⟩
  ·exact ⟨c,ax,q3.symm⟩
  ·exact ⟨d,ao _ hd,q3.symm⟩
theorem oq:∀ l:List Nat,(l.map fun n=>((n:Nat):Int)).sum=((l.sum:Nat):Int)
 | []=>rfl
 | a::l=>by
  rw[bo,CU,CU,oq l]
  omega
def IG:Sp:=fun vs H Q _=>∃ (p:aj) (cs:List cT),vs=[.ref p]∧Xi H p cs∧cs≠[]∧cs.length≤100∧∀ H' t,aM H H'→gK H' t (tT cs)→Q (.ref t) H'
section
variable {P:aY}{w:bO}{K:ai}{mg:cp→Option ag}{base:bU}
theorem mV:bW ["choices","least","kept","choice"] ["choices"] (bF Ga):=⟨rfl,rfl,rfl,by decide +kernel,rfl,by decide +kernel,by decide +kernel⟩
theorem O4 {f:aj}{fd:bI}(F:jt K "cheapest" "cheapest" Ga f fd)(hmin:mg "min"=none)(hsum:mg "sum"=none):cO P w K mg base fB 1 f fd ["choices"] IG:=by
 refine F.ok mV (fun vs H Q E h=>?_) (fun iq A outer s H vs Q E hr h=>?_)
 ·obtain ⟨p,cs,rfl,_⟩:=h
  rfl
 ·obtain ⟨p,cs,rfl,⟨rs,hp,pr⟩,hne,hlen,k⟩:=h
  have lrs:rs.length=cs.length:=bz pr
  have zr:(rs.map V.ref).length<aA:=by rw[ae,lrs];exact aG hlen (by decide)
  refine ⟨_,aF (cw (i:=1) mV.nd rfl (p5 rfl) (bP (NZ rfl) (by rfl) hmin FD (ah (jc rfl mV.nd (d9 (pv 0)) (dS (own:=[("choice",3)]) (by rfl)) (fun _ _ _ _ _=>cI (i:=3) mV.nd rfl (bj rfl)) (fun _ _ _ _ _=>gq) (fun _ _ _ _ _=>cy (r:=C6 K) dO (pv 3) aW (fun _ _=>rfl))) aB)))
   (aF (qT (i:=2) rfl mV.nd rfl rfl (uF rfl rfl rfl rfl) (d9 (pv 0)) (dS (own:=[("choice",3)]) (by rfl)) (fun _ _ _ _ _=>cI (i:=3) mV.nd rfl (bj rfl)) (fun _ _ _ _ _=>pC (bS gw (cy (r:=C6 K) dO (pv 3) aW (fun _ _=>rfl)) (pv 1) (cj _))) (fun _ _ _ _ _=>pv 3))
   (aQ (bL (jj (ah (pv 1) (ah (bP (yA rfl) (by rfl) hsum boot_sum (ah (jc rfl mV.nd (d9 (pv 2)) (dS (own:=[("choice",3)]) (by rfl)) (fun _ _ _ _ _=>cI (i:=3) mV.nd rfl (bj rfl)) (fun _ _ _ _ _=>gq) (fun _ _ _ _ _=>cy (r:=C6 K) dO (pv 3) aW (fun _ _=>rfl))) aB)) (ah (cy dO (cy cJ (pv 2) aW (fun _ _=>rfl)) aW (fun _ _=>rfl)) aB))))))),?_⟩
  refine cn ⟨_,rfl,p,rfl,⟨_,cG.of hp⟩,fun D hD=>pF (fun _=>true) (qE H 0) hD (cG.of hp) zr (fun x=>rfl) (fun x _ H1 _ R hR=>hR _ (aM.refl _)) (fun x hx _ H1 s1 R hR=>?_) (fun H1 s1 e1=>?_)⟩
  ·obtain ⟨r,b,rfl,hb,_⟩:=ye pr x hx
   obtain ⟨q,e,_⟩:=id hb
   refine ⟨_,rfl,r,_,0,_,rfl,rfl,fN.of (s1 _ _ e),cg (j:=0) rfl,?_⟩
   have:=hR _ (aM.refl _)
   rw[hb.t0] at this
   exact this
  rw[kz,N3 pr] at e1
  refine ⟨D,_,rfl,cG.of e1,?_,fun m h1 h2=>?_⟩
  ·rw[ae]
   exact L8.mpr hne
  have em:=La h1 h2
  subst em
  have pr1:Paired (gK H1) rs cs:=rj s1 pr
  refine cn ⟨_,rfl,p,rfl,⟨_,cG.of (s1 _ _ hp)⟩,fun D2 hD2=>pF (fun x=>decide (qE H1 0 x=iv (iR cs))) (fun x=>x) hD2 (cG.of (s1 _ _ hp)) zr (fun x=>rfl) (fun x hx H2 s2 R hR=>?_) (fun x hx _ H2 s2 R hR=>⟨_,rfl,hR _ (aM.refl _)⟩) (fun H2 s2 e2=>?_)⟩
  ·obtain ⟨r,b,rfl,hb,_⟩:=ye pr1 x hx
   obtain ⟨q,e,_⟩:=id hb
   refine ⟨_,rfl,r,_,0,_,rfl,rfl,fN.of (s2 _ _ e),cg (j:=0) rfl,_,rfl,rfl,_,rfl,?_⟩
   have:=hR _ (aM.refl _)
   rw[hb.t0] at this
   exact this
  obtain ⟨rs',er,pr'⟩:=zH (iR cs) pr1
  rw[qt,er] at e2
  have pr2:=rj s2 pr'
  have lk:(cs.filter fun b=>decide (b.cost=iR cs)).length≤cs.length:=cY _ _
  have zr':(rs'.map V.ref).length<aA:=by
   rw[ae,bz pr']
   exact aG (aD lk hlen) (by decide)
  refine ⟨_,rfl,_,rfl,D2,rfl,⟨_,cG.of e2⟩,fun D3 hD3=>pF (fun _=>true) (qE H2 1) hD3 (cG.of e2) zr' (fun x=>rfl) (fun x _ H3 _ R hR=>hR _ (aM.refl _)) (fun x hx _ H3 s3 R hR=>?_) (fun H3 s3 e3=>?_)⟩
  ·obtain ⟨r,b,rfl,hb,_⟩:=ye pr2 x hx
   obtain ⟨q,e,_⟩:=id hb
   refine ⟨_,rfl,r,_,1,_,rfl,rfl,fN.of (s3 _ _ e),cg (j:=1) rfl,?_⟩
   have:=hR _ (aM.refl _)
   rw[hb.t1] at this
   exact this
  rw[kz,N2 pr2] at e3
  refine ⟨D3,_,rfl,cG.of e3,?_⟩
  obtain ⟨b0,hb0,eb0⟩:=Ht hne
  obtain ⟨r,rt,b,bt,e4,e5,hb,_⟩:∃ r rt b bt,rs'=r::rt∧(cs.filter fun b=>decide (b.cost=iR cs))=b::bt∧gK H2 r b∧True:=by
   have m:b0∈cs.filter fun b=>decide (b.cost=iR cs):=fH.mpr ⟨hb0,decide_eq_true eb0⟩
   generalize (cs.filter fun b=>decide (b.cost=iR cs))=ks at pr2 m
   cases pr2 with
   | nil=>simp at m
   | cons a t=>exact ⟨_,_,_,_,rfl,rfl,a,trivial⟩
  obtain ⟨q,eq1,eq2⟩:=hb
  rw[e4] at e2
  refine ⟨_,rfl,D2,_,0,_,rfl,rfl,cG.of (s3 _ _ e2),cg (j:=0) rfl,r,_,2,_,rfl,rfl,fN.of (s3 _ _ eq1),cg (j:=2) rfl,(by show 3≤aA;decide),fun t ht=>?_⟩
  have s4:=aM.new (o:=.tup [V.int (iR cs:Int),V.int ((cs.filter fun b=>decide (b.cost=iR cs)).map fun b=>((b.many:Nat):Int)).sum,.ref q]) ht
  refine k _ t (((s1.trans s2).trans s3).trans s4) ⟨q,?_,?_⟩
  ·rw[aw]
   have es:((cs.filter fun b=>decide (b.cost=iR cs)).map fun b=>((b.many:Nat):Int)).sum=((((cs.filter fun b=>decide (b.cost=iR cs)).map (·.many)).sum:Nat):Int):=by
    rw[← oq,br]
    rfl
   rw[es]
   rfl
  ·have ef:(tT cs).first=b.first:=by
    show ((cs.filter fun b=>decide (b.cost=iR cs)).head?.map (·.first)).getD []=b.first
    rw[e5]
    rfl
   rw[ef]
   exact s4 _ _ (s3 _ _ eq2)
end
abbrev UW:d5:=top 29
def Ui (K:ai):Sp:=fun vs H Q _=>∃ (px py c:aj) (x y:List Nat) (l:dq),vs=[.ref px,.ref py,.ref c]∧cG K H px (eT x)∧cG K H py (eT y)∧x.length≤6∧y.length≤6∧iM H c l ∧
 ∀ H' p,aM H H'→gK H' p (ft l x y)→Q (.ref p) H'
theorem gK.WV {H:Hp}{kn a:aj}{b:cT}{kvs:List (List eD×V)}{o:HO}(h:gK H a b)(e:H kn=some (.dT kvs)):gK (upd H kn o) a b:=by
 obtain ⟨q,h1,h2⟩:=h
 refine ⟨q,?_,?_⟩
 ·rw[aT (ik h1 e (by intro z;cases z))]
  exact h1
 ·rw[aT (ik h2 e (by intro z;cases z))]
  exact h2
theorem XS (l:dq)(x y:List Nat){i j:Nat}(hi:i≤x.length)(hj:j≤y.length):z0 l x y i j≠[]:=by
 unfold z0
 by_cases h:i=x.length∧j=y.length
 ·rw[if_pos h];simp
 ·rw[if_neg h]
  by_cases h1:i<x.length
  ·unfold Mo
   rw[aE h1]
   simp
  ·unfold QW
   rw[aE (show j<y.length by omega)]
   simp
theorem Wd (l:dq)(x y:List Nat)(i j:Nat):(z0 l x y i j).length≤100:=by
 unfold z0
 split
 ·simp
 ·have h1:=Ci l x y i j
  have h2:=JB l x y i j
  have h3:(QW l x y i j).length≤1:=by unfold QW;cases y[j]?<;>simp
  rw[aK,aK]
  omega
def Laid (x y:List Nat)(a b A B:Nat):Prop:=A≤x.length∧B≤y.length∧(x.length<A+a∨(A+a=x.length∧y.length<B+b))
structure vB (H0:Hp)(kn:aj)(l:dq)(x y:List Nat)(a b:Nat)(H:Hp):Prop where
 same:aM H0 H
 ex:∃ kvs:List (List eD×V),H kn=some (.dT kvs)∧kvs.length≤a*(y.length+1)+b∧∀ A B,Laid x y a b A B→∃ r,jZ kvs (k2 A B)=some (.ref r)∧gK H r (QD l x y A B)
theorem vB.row {H0:Hp}{kn:aj}{l:dq}{x y:List Nat}{a:Nat}{H:Hp}(h:vB H0 kn l x y a (y.length+1) H):vB H0 kn l x y (a+1) 0 H:=by
 obtain ⟨s,kvs,e,n,q⟩:=h
 refine ⟨s,kvs,e,?_,fun A B z=>q A B ?_⟩
 ·rw[Nat.succ_mul]
  exact n
 ·obtain ⟨h1,h2,h3⟩:=z
  exact ⟨h1,h2,by omega⟩
section
variable {P:aY}{w:bO}{K:ai}{mg:cp→Option ag}{base:bU}
theorem Ie:bW ["first","second","costs","known","i","j"] ["first","second","costs"] (bF UW):=⟨rfl,rfl,rfl,by decide +kernel,rfl,by decide +kernel,by decide +kernel⟩
theorem Vv {f fh fc:aj}{fd fdh fdc:bI}(F:jt K "lay_beside" "lay_beside" UW f fd)(hln:mg "len"=none)(hrg:mg "range"=none)
  (G:cO P w K mg base fB 3 fh fdh ["first","second","i","j","known","costs"] (AF K))(mh:mg "choices_at"=some (.ref fh))(kh:aP K (.ref fh)=true)(bh:Binds K fdh ["first","second","i","j","known","costs"] [])
  (G2:cO P w K mg base fB 1 fc fdc ["choices"] IG)(mc:mg "cheapest"=some (.ref fc))(kc:aP K (.ref fc)=true)(bc:Binds K fdc ["choices"] []) :
  cO P w K mg base fB 4 f fd ["first","second","costs"] (Ui K):=by
 refine F.ok Ie (fun vs H Q E h=>?_) (fun iq A outer s H vs Q E hr h=>?_)
 ·obtain ⟨px,py,c,x,y,l,rfl,_⟩:=h
  rfl
 ·obtain ⟨px,py,c,x,y,l,rfl,hx,hy,lx,ly,hc,k⟩:=h
  have hu:=wR hr
  have nW:fO 1 _:=hr.mono (by decide)
  refine ⟨_,aF (cw (i:=3) Ie.nd rfl (bj rfl) yM)
   (aF (gp bH rfl (sG rfl hrg (ah (bP bD (by rfl) hln bb (ah (pv 0) aB)) (ah (qG lW aW) (ah (qG lW aW) aB)))) (cI (i:=4) Ie.nd rfl (bj rfl))
    (aQ (gp bH rfl (sG rfl hrg (ah (bP bD (by rfl) hln bb (ah (pv 1) aB)) (ah (qG lW aW) (ah (qG lW aW) aB)))) (cI (i:=5) Ie.nd rfl (bj rfl))
     (aQ (xY hu (pv 3) (jj (ah (pv 4) (ah (pv 5) aB))) (bY G2 nW rfl mc kc bc .nil cR (ah (bY G hr rfl mh kh bh .nil cR (ah (pv 0) (ah (pv 1) (ah (pv 4) (ah (pv 5) (ah (pv 3) (ah (pv 2) aB))))))) aB)) rfl)))))
   (aQ (bL (x3 hu (pv 3) (jj (ah aW (ah aW aB))) (fun _ _=>rfl))))),?_⟩
  refine cn fun kn hkn=>?_
  have lx':((eT x).length:Int)=(x.length:Int):=by rw[ae]
  have ly':((eT y).length:Int)=(y.length:Int):=by rw[ae]
  have s0:aM H (upd H kn (.dT [])):=aM.new hkn
  have I0:vB H kn l x y 0 0 (upd H kn (.dT [])):=⟨s0,[],aw,by simp,fun A B z=>by
   obtain ⟨h1,h2,h3⟩:=z
   omega⟩
  refine ⟨_,rfl,px,_,rfl,.inl (s0.seq hx),_,rfl,_,rfl,(x.length:Int),-1,-1,x.length+1,by rw[lx'],?_,?_⟩
  ·have:=UQ.neg (i:=(x.length:Int)) (j:=-1) (by omega) (by omega) (by omega) (by omega)
   have e:((x.length:Int) - -1).toNat=x.length+1:=by omega
   rw[e] at this
   exact this
  refine uc (fun a σ H'=>∃ v4 v5:Option V,σ=[some (.ref px),some (.ref py),some (.ref c),some (.ref kn),v4,v5]∧vB H kn l x y a 0 H') ⟨none,none,rfl,I0⟩ ?_ ?_
  ·rintro a σ H1 ha ⟨v4,v5,rfl,I1⟩
   have ei:(x.length:Int)+(a:Nat)*(-1)=((x.length - a:Nat):Int):=by omega
   rw[ei]
   refine ⟨_,rfl,py,_,rfl,.inl (I1.same.seq hy),_,rfl,_,rfl,(y.length:Int),-1,-1,y.length+1,by rw[ly'],?_,?_⟩
   ·have:=UQ.neg (i:=(y.length:Int)) (j:=-1) (by omega) (by omega) (by omega) (by omega)
    have e:((y.length:Int) - -1).toNat=y.length+1:=by omega
    rw[e] at this
    exact this
   refine uc (fun b σ H'=>∃ v5:Option V,σ=[some (.ref px),some (.ref py),some (.ref c),some (.ref kn),some (iv (x.length - a)),v5]∧vB H kn l x y a b H') ⟨v5,rfl,I1⟩ ?_ ?_
   ·rintro b σ H2 hb ⟨v5,rfl,I2⟩
    have ej:(y.length:Int)+(b:Nat)*(-1)=((y.length - b:Nat):Int):=by omega
    rw[ej]
    obtain ⟨s2,kvs,ek,nk,hk⟩:=I2
    refine ⟨_,rfl,_,rfl,_,rfl,_,rfl,_,rfl,_,rfl,px,py,kn,c,x,y,x.length - a,y.length - b,l,rfl,s2.seq hx,s2.seq hy,lx,ly,by omega,by omega,hc.same s2,⟨kvs,ek,fun A B af=>hk A B ?_⟩,fun H3 p s3 bl=>?_⟩
    ·obtain ⟨h1,h2,h3,h4,h5⟩:=af
     refine ⟨h3,h4,?_⟩
     omega
    refine ⟨p,_,rfl,bl,XS l x y (by omega) (by omega),Wd l x y _ _,fun H4 t s4 bt=>?_⟩
    rw[P5 l x y (by omega) (by omega)] at bt
    refine ⟨_,rfl,_,rfl,_,rfl,(by show 2≤aA;decide),fun tk htk=>?_⟩
    have s5:=aM.new (o:=.tup [iv (x.length - a),iv (y.length - b)]) htk
    have s25:=(s3.trans s4).trans s5
    have ek5:=s25 _ _ ek
    refine ⟨kn,_,rfl,z4.t ek5 (WL aw) ?_,_,rfl,(s2.trans s25).upd hkn,_,aw,?_,fun A B z=>?_⟩
    ·have:a*(y.length+1)≤6*7:=Nat.mul_le_mul (by omega) (by omega)
     exact aG (show kvs.length≤100 by omega) (by decide)
    ·have:=nj kvs (k2 (x.length - a) (y.length - b)) (.ref t)
     omega
    ·rw[Dv]
     by_cases e:k2 A B=k2 (x.length - a) (y.length - b)
     ·obtain ⟨e1,e2⟩:=NU e
      rw[if_pos e,e1,e2]
      exact ⟨t,rfl,(bt.same s5).WV ek5⟩
     ·rw[if_neg e]
      obtain ⟨h1,h2,h3⟩:=z
      obtain ⟨r,nW,hr2⟩:=hk A B ⟨h1,h2,by
       by_cases q:A=x.length - a∧B=y.length - b
       ·exact absurd (by rw[q.1,q.2]) e
       ·omega⟩
      exact ⟨r,nW,(hr2.same s25).WV ek5⟩
   ·rintro σ H2 ⟨v5,rfl,I2⟩
    exact ⟨_,_,rfl,I2.row⟩
  ·rintro σ H1 ⟨v4,v5,rfl,I1⟩
   obtain ⟨s1,kvs,ek,nk,hk⟩:=I1
   refine ⟨_,rfl,(by show 2≤aA;decide),fun tk htk=>?_⟩
   have s2:=aM.new (o:=.tup [V.int 0,V.int 0]) htk
   obtain ⟨r,h1,h2⟩:=hk 0 0 ⟨aR _,aR _,by omega⟩
   have g:=uA.t (k:=k2 0 0) (s2 _ _ ek) (WL (a:=0) (b:=0) aw)
   rw[h1] at g
   refine ⟨kn,_,rfl,g,?_⟩
   exact k _ r (s1.trans s2) (h2.same s2)
end
end Sk
namespace L2
open PySem PySem.Spec PyProof.Rows
def oj:Option Int→List Int→Option Int
 | b,[]=>b
 | none,x::r=>oj (some x) r
 | some m,x::r=>oj (some (if x > m then x else m)) r
def Wy (h:bU)(S:aj):Option Int→Prop
 | none=>∃ c,h.get? S=some {cls:=.type "list",dict:=none,data:=.seq #[] c,slots:=#[]}
 | some m=>∃ t c,h.get? S=some {cls:=.type "list",dict:=none,data:=.seq #[.int m t,.int m t] c,slots:=#[]}
section
variable {prog:aY}{w:bO}{A:cA}{s:au}
def TK (R:qM→au→Prop)(d:ag)(s:au):Option Int→Prop
 | some m=>∀ t,R (.ok (.ret (.int m t))) s
 | none=>R (.ok (.ret d)) s
theorem sJ {l I S:aj}{its:Array ag}{ns:List Int}(d:ag)(hh:A.handled=none)(hv:∀ (i:Nat) (n:Int),ns[i]?=some n→∃ t,its[i]?=some (ag.int n t))(hsz:its.size=ns.length)(nIS:I≠S)(nlI:l≠I)(nlS:l≠S){R:qM→au→Prop} :
  ∀ (rest:List Int) (i:Nat) (s:au) (b:Option Int),ns.drop i=rest→i≤ns.length→s.heap.IsListIter I l i→s.heap.IsList l its→Wy s.heap S b →
   (∀ h' tk,(∀ c o,c≠I→c≠S→s.heap.get? c=some o→h'.get? c=some o)→TK R d {s with heap:=h',toks:=tk} (oj b rest)) →
   codeAny (model prog w) A (.builtin "max.loop" ⟨[.ref I,.none,.ref S],[("default",d)]⟩) R s
 | [],i,s,b,hd,hi,hit,hl,hb,hR=>by
  have e:i=ns.length:=by
   have:=congrArg dF hd
   rw[cq,eG] at this
   omega
  have hx:its[i]?=none:=by rw[mR];omega
  refine eA F.entry_max_loop ?_
  rw[dh jr _]
  cases b with
  | none =>
   obtain ⟨c,hS⟩:=hb
   refine aa (m:=seqItems? (.ref S)) (c7 hS rfl (aa (m:=tryCatch (pyNext (.ref I)) _) (fJ (fZ hh hit hl hx fun h' ex=>?_))))
   exact aa (jm (ak (hR h' s.toks fun c o n1 _ q=>ex c o n1 q)))
  | some m =>
   obtain ⟨t,c,hS⟩:=hb
   refine aa (m:=seqItems? (.ref S)) (c7 hS rfl (aa (m:=tryCatch (pyNext (.ref I)) _) (fJ (fZ hh hit hl hx fun h' ex=>?_))))
   have hS':=ex S _ nIS.symm hS
   refine aa (m:=updateSeq S fun _=>#[]) ?_
   refine ic hS' rfl (aa (gu (ak ?_)))
   exact hR _ s.toks (fun c o n1 n2 q=>(dC _ _ (gU n2)).trans (ex c o n1 q)) t
 | x::r,i,s,b,hd,hi,hit,hl,hb,hR=>by
  have lt:i<ns.length:=by
   have:=congrArg dF hd
   rw[cq,aS] at this
   omega
  have hx0:ns[i]?=some x:=by rw[← rM,hd];rfl
  have hd':ns.drop (i+1)=r:=by rw[← tp,hd];rfl
  obtain ⟨tx,hx⟩:=hv i x hx0
  have nm:(toString "max"++toString ".loop":String)="max.loop":=by decide
  refine eA F.entry_max_loop ?_
  rw[dh jr _]
  cases b with
  | none =>
   obtain ⟨c,hS⟩:=hb
   refine aa (m:=seqItems? (.ref S)) (c7 hS rfl (aa (m:=tryCatch (pyNext (.ref I)) _) (fJ (fL hit hl hx fun h' hit' sb=>?_))))
   have hS':=sb.extBut S _ nIS.symm hS
   refine aa (m:=updateSeq S fun _=>#[ag.int x tx,ag.int x tx]) ?_
   refine ic hS' rfl ?_
   rw[nm]
   have up:∀ c o,c≠S→h'.get? c=some o→(h'.update S (fA.mapSeq fun _=>#[ag.int x tx,ag.int x tx])).get? c=some o:=fun c o n q=>(dC _ _ (gU n)).trans q
   refine ak ⟨dw jr _,sJ d hh hv hsz nIS nlI nlS r (i+1) _ (some x) hd' lt (let ⟨o,q,z⟩:=hit';⟨o,up _ _ nIS q,z⟩) (let ⟨o,q,z⟩:=hl;⟨o,up _ _ nlS (sb.extBut _ _ nlI q),z⟩) ⟨tx,_,cQ _ hS' rfl⟩ fun h2 tk q=>?_⟩
   exact hR h2 tk fun c o n1 n2 z=>q c o n1 n2 (up c o n2 (sb.extBut _ _ n1 z))
  | some m =>
   obtain ⟨t,c,hS⟩:=hb
   refine aa (m:=seqItems? (.ref S)) (c7 hS rfl (aa (m:=tryCatch (pyNext (.ref I)) _) (fJ (fL hit hl hx fun h' hit' sb=>?_))))
   have hS':=sb.extBut S _ nIS.symm hS
   have cmp:=CmpOf.ints_gt (prog:=prog) (w:=w) (A:=A.in1) (P:=fun k v=>∃ u,v=.int (if k=0 then x else m) u) (fun k=>if k=0 then x else m) fun _ _ h=>h
   refine aa (m:=tryCatch (holding [ag.int x tx,ag.int x tx] (richCompare .Gt (ag.int x tx) (ag.int m t) >>= _)) _) (fJ (dj (aa (cmp 0 1 (.int x tx) (.int m t) _ _ _ ⟨tx,rfl⟩ ⟨t,rfl⟩ (aa (dj (eY (aa (gu (ak ?_))))))))))
   by_cases g:x > m
   ·show wpAny _ _ (if decide (x > m)=true then _ else _) _ _ _
    rw[if_pos (decide_eq_true g)]
    refine aa (m:=updateSeq S fun _=>#[ag.int x tx,ag.int x tx]) ?_
    refine ic hS' rfl (aa (gu ?_))
    rw[nm]
    have up:∀ c o,c≠S→h'.get? c=some o→(h'.update S (fA.mapSeq fun _=>#[ag.int x tx,ag.int x tx])).get? c=some o:=fun c o n q=>(dC _ _ (gU n)).trans q
    refine ak ⟨dw jr _,sJ d hh hv hsz nIS nlI nlS r (i+1) _ (some x) hd' lt (let ⟨o,q,z⟩:=hit';⟨o,up _ _ nIS q,z⟩) (let ⟨o,q,z⟩:=hl;⟨o,up _ _ nlS (sb.extBut _ _ nlI q),z⟩) ⟨tx,_,cQ _ hS' rfl⟩ fun h2 tk q=>?_⟩
    have:=hR h2 tk fun c o n1 n2 z=>q c o n1 n2 (up c o n2 (sb.extBut _ _ n1 z))
    rw[oj,if_pos g] at this
    exact this
   ·show wpAny _ _ (if decide (x > m)=true then _ else _) _ _ _
    rw[if_neg (by rw[decide_eq_false g];decide)]
    refine aa (gu ?_)
    rw[nm]
    refine ak ⟨dw jr _,sJ d hh hv hsz nIS nlI nlS r (i+1) _ (some m) hd' lt hit' (hl.extBut sb.extBut nlI) ⟨t,c,hS'⟩ fun h2 tk q=>?_⟩
    have:=hR h2 tk fun c o n1 n2 z=>q c o n1 n2 (sb.extBut _ _ n1 z)
    rw[oj,if_neg g] at this
    exact this
theorem LU (a v:ag):argsOk "max" ⟨[a],[(dG "default",v)]⟩:=by unfold argsOk;kernel_rfl
theorem LI {E:ag→au→Prop}{l:aj}{its:Array ag}{ns:List Int}{d:ag}{Q:ag→au→Prop}(hh:A.handled=none)(hl:s.heap.IsList l its)(hv:∀ (i:Nat) (n:Int),ns[i]?=some n→∃ t,its[i]?=some (ag.int n t))(hsz:its.size=ns.length)
  (h:∀ h' tk,(∀ c o,s.heap.get? c=some o→h'.get? c=some o)→match oj none ns with
   | some m=>∀ t,Q (.int m t) {s with heap:=h',toks:=tk}
   | none=>Q d {s with heap:=h',toks:=tk}):wpAny (model prog w) A (call (.builtin "max") [.ref l] [(dG "default",d)]) Q E s:=by
 have nm:(toString "max"++toString ".loop":String)="max.loop":=by decide
 have ll:l<s.heap.objs.size:=let ⟨_,q,_⟩:=hl;aN q
 refine nY F.kind_max F.plain_max F.entry_max (LU _ _) ?_
 refine aa (m:=jY "max" ["key","default"] 0 ⟨[],[(dG "default",d)]⟩) (jn (a:=[none,some d]) rfl (aa (ak (aa (ig hl (aa (cv ?_)))))))
 rw[nm]
 have z1:(s.heap.push {cls:=.type "list_iterator",data:=.fields #[.ref l,.int 0 0]}).objs.size=s.heap.objs.size+1:=cN ..
 have old:∀ {g:bU} {o u:fA} {c:aj},g.get? c=some u→(g.push o).get? c=some u:=fun q=>ay _ q
 refine ak ⟨dw jr _,sJ d hh hv hsz (ba (by rw[z1];exact dP _)) (ba ll) (ba (by rw[z1];exact dD ll)) ns 0 _ none rfl (aR _) ⟨_,old (aH _ rfl),rfl,rfl⟩ (let ⟨o,q,z⟩:=hl;⟨o,old (old q),z⟩) ⟨0,aH _ rfl⟩ fun h' tk kp=>?_⟩
 have:=h h' tk fun c o q=>kp c o (fun z=>by subst z;exact absurd (aN q) (dn _)) (fun z=>by
  have q':=aN q
  rw[z,z1] at q'
  exact absurd q' (Nat.not_lt.mpr (hW _))) (old (old q))
 revert this
 cases oj none ns with
 | none=>exact fun z=>z
 | some m=>exact fun z t=>z t
end
def Il (d:V):Option Int→V
 | some m=>.int m
 | none=>d
def Xn (K:ai)(t:TA)(te:TE):TE:=fun σ H Q=>t σ H fun vs H1=>te σ H1 fun d H2=>∃ a ns,vs=[V.ref a]∧cG K H2 a (ns.map V.int)∧Q (Il d (oj none ns)) H2
theorem xZ {X:Cx}{e1 e2:Expr}{t:TA}{te:TE}{p pos kp:jK}(hc:X.calm=true)(hg:Gl X "max")(hm:X.mg "max"=none)(ha:PA X [e1] t)(hk:PE X e2 te)
  (he:backTo pos (bQ [e1] X.env)=(false,eval e1 X.env)::backTo pos (bQ [] X.env):=by rfl)(hpl:(backTo pos (bQ [e1] X.env)).any (·.1)=false:=by rfl) :
  PE X (.Call (.Name "max" p) [e1] [⟨some "default",e2,kp⟩] pos) (Xn X.K t te):=by
 intro pins s σ H Q I h
 refine d8 (jl I hg hm boot_max ?_)
 refine callWith_kw (gI (ha pos pins s σ H _ I h) fun us s1 ⟨vs,H1,I1,r,q⟩=>kws_cons (gI (hk pins s1 σ H1 _ I1 q) fun dv s2 ⟨d,H2,I2,rd,a,ns,ev,hs,q2⟩=>kws_nil ?_)) he hpl
 subst ev
 obtain ⟨its,rv,hl,_⟩:=I2.list hs
 rw[df.xw r]
 have hln:=rv.length
 refine LI (ns:=ns) (d:=dv) (I2.ok.hd hc) hl.isList (fun i n hi=>?_) (by rw[bA,← hln,ae]) fun h' tk kp=>?_
 ·obtain ⟨u,hu,t',e⟩:=rv.get (i:=i) (x:=V.int n) (by rw[aO,hi];rfl)
  subst e
  exact ⟨t',by simpa using hu⟩
 ·have I3:Inv X pins σ H2 {s2 with heap:=h',toks:=tk}:=I2.kept kp
  revert q2
  cases oj none ns with
  | none=>exact fun q2=>⟨d,H2,I3,rd,q2⟩
  | some m=>exact fun q2 t=>⟨.int m,H2,I3,⟨t,rfl⟩,q2⟩
section
variable {prog:aY}{w:bO}{A:cA}{E:ag→au→Prop}{s:au}
theorem nextT {it t:aj}{k:Nat}{its:Array ag}{x:ag}{Q:ag→au→Prop}(hi:s.heap.IsTupleIter it t k)(ht:s.heap.IsTuple t its)(hx:its[k]?=some x)
  (h:∀ h',h'.IsTupleIter it t (k+1)→eC it s.heap h'→Q x {s with heap:=h'}):wpAny (model prog w) A (di (.ref it)) Q E s:=by
 obtain ⟨oi,e1,e2,e3⟩:=id hi
 obtain ⟨ot,f1,f2,n,f3⟩:=ht
 unfold di
 refine aa (c9 (name:=dG "__next__") hi.typeIs jf (c5 jf hi.typeIs C4 ?_ (CQ _)))
 refine aa (m:=field (.ref it) 0) (eW e1 e3 (x:=.ref t) rfl ?_)
 rw[if_neg (show ¬ (ag.ref t==ag.none)=true from bg)]
 refine aa (m:=field (.ref it) 1) (eW e1 e3 (x:=.int k 0) rfl (aa (m:=seqItems? (.ref t)) (c7 f1 f3 ?_)))
 simp only[bR,hx]
 have fin:=h _ ⟨_,cQ _ e1 (fA.isFreed_of_fields (fA.data_mapFields e3 (·.setIfInBounds 1 (gm ((k:Int)+1))))),(fA.cls_mapFields ..).trans e2,by rw[fA.data_mapFields e3];simp[gm]⟩ (c6 ..)
 exact aa (fK e1 e3 (by simp) (ak ⟨x,rfl,ak fin⟩))
theorem Xb {it t:aj}{k:Nat}{its:Array ag}{Q:ag→au→Prop}(hh:A.handled=none)(hi:s.heap.IsTupleIter it t k)(ht:s.heap.IsTuple t its)(hx:its[k]?=none)
  (h:∀ h' e,oX it s.heap h'→(∃ o,h'.get? e=some o∧o.cls=.type "StopIteration")→E (.ref e) {s with heap:=h'}):wpAny (model prog w) A (di (.ref it)) Q E s:=by
 obtain ⟨oi,e1,e2,e3⟩:=id hi
 obtain ⟨ot,f1,f2,n,f3⟩:=ht
 unfold di
 refine aa (c9 (name:=dG "__next__") hi.typeIs jf (c5 jf hi.typeIs C4 ?_ (CQ _)))
 refine aa (m:=field (.ref it) 0) (eW e1 e3 (x:=.ref t) rfl ?_)
 rw[if_neg (show ¬ (ag.ref t==ag.none)=true from bg)]
 refine aa (m:=field (.ref it) 1) (eW e1 e3 (x:=.int k 0) rfl (aa (m:=seqItems? (.ref t)) (c7 f1 f3 ?_)))
 simp only[bR,hx]
 refine aa (jm (aa (fK e1 e3 (by simp) (aa (m:=newExc (.type "StopIteration") []) ?_))))
 simp only[newExc,newTuple]
 refine aa (cv (aa (m:=firstArgMember _ _) (jn (a:=ag.none) (by first | rfl | (simp only[firstArgMember];rfl)) (cv ?_ (by size_fits)))) (by size_fits))
 simp only[raiseNew]
 refine aa (qX ?_)
 first | rw[show A.in1.handled=none from hh] | rw[hh]
 exact aa (ak (vQ (h _ _ (((c6 ..).extBut.push _).push _) ⟨_,aH _ rfl,rfl⟩)))
def Ic (h:bU)(it t:aj)(k:Nat)(its:Array ag):Prop:=h.IsTupleIter it t k∧h.IsTuple t its
theorem Ic.out {h h':bU}{it t b:aj}{k:Nat}{its:Array ag}(x:Ic h it t k its)(e:oX b h h')(n1:it≠b)(n2:t≠b):Ic h' it t k its:=⟨x.1.extBut e n1,x.2.extBut e n2⟩
def Dk (z TO i1 i2:aj)(h h':bU):Prop:=∀ c o,c≠z→c≠TO→c≠i1→c≠i2→h.get? c=some o→h'.get? c=some o
abbrev Ip (z:aj):o8 Fin:=Builtin.«zip.__next__» ⟨[.ref z],[]⟩
theorem Kg {z TI TO i1 i2 l1 l2:aj}{k1 k2:Nat}{xs ys:Array ag}{x y a b:ag}{Q:ag→au→Prop}(D:z6 z TI TO i1 i2 l1 l2)(hz:nX s.heap z TI TO .none)(hTI:gn s.heap TI (.ref i1) (.ref i2))(hTO:gn s.heap TO a b)
  (h1:Ic s.heap i1 l1 k1 xs)(h2:Ic s.heap i2 l2 k2 ys)(hx:xs[k1]?=some x)(hy:ys[k2]?=some y)
  (hQ:∀ h',nX h' z TI TO (gm s.heap.objs.size)→gn h' TO x y→h'.IsTupleIter i1 l1 (k1+1)→h'.IsTupleIter i2 l2 (k2+1)→gn h' s.heap.objs.size x y →
   Dk z TO i1 i2 s.heap h'→Q (.ref s.heap.objs.size) {s with heap:=h'}) :
  wpAny (model prog w) A (Ip z) (fun fin s'=>∃ v,fin=.done (.ret v)∧Q v s') E s:=by
 refine aa (m:=field (.ref z) 2) (eW hz rfl (x:=.bool false) rfl ?_)
 refine aa (m:=field (.ref z) 3) (eW hz rfl (x:=.ref TI) rfl (aa (c7 hTI rfl ?_)))
 refine aa (m:=fU (.ref z)) ?_
 unfold fU
 refine aa (eW hz rfl (x:=.none) rfl (ak ?_))
 simp only[if_true]
 refine aa (jm (aa (eW hz rfl (x:=.ref TO) rfl (aa (eM hz (by simp) fun ha za sa=>aa ?_)))))
 have za:nX ha z TI TO .ellipsis:=za
 simp only[QK,TV,jE,j8]
 refine aa (aa (yj ?_))
 refine aa (m:=di (.ref i1)) (nextT (h1.out sa.extBut D.i1z D.l1z).1 (h1.out sa.extBut D.i1z D.l1z).2 hx fun hb ib sb=>ak ?_)
 have Tb:gn hb TO a b:=sb.extBut _ _ D.TOi1 (sa.extBut _ _ D.TOz hTO)
 refine aa (c7 Tb rfl (aa (wJ Tb fun hc Tc sc=>aa (gu (ak ?_)))))
 have Tc:gn hc TO x b:=Tc
 have w2:Ic hc i2 l2 k2 ys:=((h2.out sa.extBut D.i2z D.l2z).out sb.extBut D.i12.symm D.l2i1).out sc.extBut D.TOi2.symm D.l2TO
 refine aa (aa (yj ?_))
 refine aa (m:=di (.ref i2)) (nextT w2.1 w2.2 hy fun hd id sd=>ak ?_)
 have Td:gn hd TO x b:=sd.extBut _ _ D.TOi2 Tc
 refine aa (c7 Td rfl (aa (wJ Td fun he Te se=>aa (gu (ak (ak ?_))))))
 have Te:gn he TO x y:=Te
 refine aa (c7 Te rfl (aa (wG ?_)))
 have size:he.objs.size=s.heap.objs.size:=by rw[se.1,sd.1,sc.1,sb.1,sa.1]
 have ze:nX he z TI TO .ellipsis:=se.extBut _ _ D.TOz.symm (sd.extBut _ _ D.i2z.symm (sc.extBut _ _ D.TOz.symm (sb.extBut _ _ D.i1z.symm za)))
 have kept:∀ c o,c≠z→c≠TO→c≠i1→c≠i2→s.heap.get? c=some o→he.get? c=some o:=fun c o n1 n2 n3 n4 q=>se.extBut _ _ n2 (sd.extBut _ _ n4 (sc.extBut _ _ n2 (sb.extBut _ _ n3 (sa.extBut _ _ n1 q))))
 have j1:he.IsTupleIter i1 l1 (k1+1):=((ib.extBut sc.extBut D.TOi1.symm).extBut sd.extBut D.i12).extBut se.extBut D.TOi1.symm
 have j2:he.IsTupleIter i2 l2 (k2+1):=id.extBut se.extBut D.TOi2.symm
 have below:z<he.objs.size:=aN ze
 refine aa (m:=nH (.ref z) (.ref he.objs.size)) ?_
 unfold nH
 have zp:nX (he.push {cls:=.type "tuple",data:=.seq #[x,y]}) z TI TO .ellipsis:=ay _ ze
 refine aa (eM zp (by simp) fun hf zf sf=>?_)
 have zf:nX hf z TI TO (gm he.objs.size):=zf
 refine eM zf (by simp) fun hg zg sg=>?_
 have zg:nX hg z TI TO (gm he.objs.size):=zg
 have up:∀ c o,c≠z→he.get? c=some o→hg.get? c=some o:=fun c o n q=>sg.extBut _ _ n (sf.extBut _ _ n (ay _ q))
 have Tg:gn hg he.objs.size x y:=sg.extBut _ _ (fY below) (sf.extBut _ _ (fY below) (aH _ rfl))
 rw[size] at zg Tg
 refine ak ⟨_,rfl,?_⟩
 have fin:=hQ hg zg (up _ _ D.TOz Te) (let ⟨o,q,r⟩:=j1;⟨o,up _ o D.i1z q,r⟩) (let ⟨o,q,r⟩:=j2;⟨o,up _ o D.i2z q,r⟩) Tg fun c o n1 n2 n3 n4 q=>up c o n1 (kept c o n1 n2 n3 n4 q)
 rw[← size] at fin
 exact fin
theorem Oc {z TI TO i1 i2 l1 l2:aj}{k1 k2:Nat}{xs ys:Array ag}{a b:ag}{Q:Fin→au→Prop}(hh:A.handled=none)(D:z6 z TI TO i1 i2 l1 l2)(hz:nX s.heap z TI TO .none)(hTI:gn s.heap TI (.ref i1) (.ref i2))(hTO:gn s.heap TO a b)
  (h1:Ic s.heap i1 l1 k1 xs)(h2:Ic s.heap i2 l2 k2 ys)(hend:xs[k1]?=none∨ys[k2]?=none)
  (hE:∀ h' e,Dk z TO i1 i2 s.heap h'→(∃ o,h'.get? e=some o∧o.cls=.type "StopIteration")→E (.ref e) {s with heap:=h'}) :
  wpAny (model prog w) A (Ip z) Q E s:=by
 refine aa (m:=field (.ref z) 2) (eW hz rfl (x:=.bool false) rfl ?_)
 refine aa (m:=field (.ref z) 3) (eW hz rfl (x:=.ref TI) rfl (aa (c7 hTI rfl ?_)))
 refine aa (m:=fU (.ref z)) ?_
 unfold fU
 refine aa (eW hz rfl (x:=.none) rfl (ak ?_))
 simp only[if_true]
 refine aa (jm (aa (eW hz rfl (x:=.ref TO) rfl (aa (eM hz (by simp) fun ha za sa=>aa ?_)))))
 have za:nX ha z TI TO .ellipsis:=za
 simp only[QK,TV,jE,j8]
 have w1:Ic ha i1 l1 k1 xs:=h1.out sa.extBut D.i1z D.l1z
 have stop:∀ (hb:bU) (e:aj),nX hb z TI TO .ellipsis→(∃ o,hb.get? e=some o∧o.cls=.type "StopIteration")→Dk z TO i1 i2 s.heap hb →
   wpAny (model prog w) A (setField (.ref z) 0 .none) (fun _ s'=>E (.ref e) s') E {s with heap:=hb}:=fun hb e zb ⟨oe,q1,q2⟩ kb=>by
  have far:e≠z:=fun q=>by
   rw[q,zb] at q1
   cases q1
   exact absurd q2 (by simp)
  exact eM zb (by simp) fun hc _ sc=>hE hc e (fun c o n1 n2 n3 n4 q=>sc.extBut _ _ n1 (kb c o n1 n2 n3 n4 q)) ⟨oe,sc.extBut _ _ far q1,q2⟩
 refine aa (aa (yj ?_))
 cases hx:xs[k1]? with
 | none=>exact aa (m:=di (.ref i1)) (Xb hh w1.1 w1.2 hx fun hb e eb he=>stop hb e (eb _ _ D.i1z.symm za) he fun c o n1 _ n3 _ q=>eb _ _ n3 (sa.extBut _ _ n1 q))
 | some x =>
  have hy:ys[k2]?=none:=hend.resolve_left fun q=>by rw[hx] at q;cases q
  refine aa (m:=di (.ref i1)) (nextT w1.1 w1.2 hx fun hb ib sb=>ak ?_)
  have Tb:gn hb TO a b:=sb.extBut _ _ D.TOi1 (sa.extBut _ _ D.TOz hTO)
  refine aa (c7 Tb rfl (aa (wJ Tb fun hc Tc sc=>aa (gu (ak ?_)))))
  have w2:Ic hc i2 l2 k2 ys:=((h2.out sa.extBut D.i2z D.l2z).out sb.extBut D.i12.symm D.l2i1).out sc.extBut D.TOi2.symm D.l2TO
  refine aa (aa (yj ?_))
  exact aa (m:=di (.ref i2)) (Xb hh w2.1 w2.2 hy fun hd e ed he=>stop hd e (ed _ _ D.i2z.symm (sc.extBut _ _ D.TOz.symm (sb.extBut _ _ D.i1z.symm za))) he fun c o n1 n2 n3 n4 q=>ed _ _ n4 (sc.extBut _ _ n2 (sb.extBut _ _ n3 (sa.extBut _ _ n1 q))))
theorem EJ {z TI TO i1 i2 l1 l2:aj}{k1 k2:Nat}{xs ys:Array ag}{x y a b:ag}{Q:Option ag→au→Prop}(D:z6 z TI TO i1 i2 l1 l2)(hz:nX s.heap z TI TO .none)(hTI:gn s.heap TI (.ref i1) (.ref i2))(hTO:gn s.heap TO a b)
  (h1:Ic s.heap i1 l1 k1 xs)(h2:Ic s.heap i2 l2 k2 ys)(hx:xs[k1]?=some x)(hy:ys[k2]?=some y)
  (hQ:∀ h',nX h' z TI TO (gm s.heap.objs.size)→gn h' TO x y→h'.IsTupleIter i1 l1 (k1+1)→h'.IsTupleIter i2 l2 (k2+1)→gn h' s.heap.objs.size x y →
   Dk z TO i1 i2 s.heap h'→Q (some (.ref s.heap.objs.size)) {s with heap:=h'}):wpAny (model prog w) A (pyNext (.ref z)) Q E s:=by
 have hT:s.TypeIs (.ref z) "zip":=⟨_,hz,rfl⟩
 unfold pyNext
 exact aa (iy (c9 (name:=dG "__next__") hT tz (c5 tz hT F.entry_zip_next
  (Kg D hz hTI hTO h1 h2 hx hy fun h' a1 a2 a3 a4 a5 a6=>ak (hQ h' a1 a2 a3 a4 a5 a6)) (UJ _))))
theorem xJ {z TI TO i1 i2 l1 l2:aj}{k1 k2:Nat}{xs ys:Array ag}{a b:ag}{Q:Option ag→au→Prop}(hh:A.handled=none)(D:z6 z TI TO i1 i2 l1 l2)(hz:nX s.heap z TI TO .none)(hTI:gn s.heap TI (.ref i1) (.ref i2))(hTO:gn s.heap TO a b)
  (h1:Ic s.heap i1 l1 k1 xs)(h2:Ic s.heap i2 l2 k2 ys)(hend:xs[k1]?=none∨ys[k2]?=none)
  (hQ:∀ h',Dk z TO i1 i2 s.heap h'→Q none {s with heap:=h'}):wpAny (model prog w) A (pyNext (.ref z)) Q E s:=by
 have hT:s.TypeIs (.ref z) "zip":=⟨_,hz,rfl⟩
 unfold pyNext
 refine aa (iy (c9 (name:=dG "__next__") hT tz (c5 tz hT F.entry_zip_next
  (Oc hh D hz hTI hTO h1 h2 hend fun h' e kb ⟨o,q1,q2⟩=>aa (iJ (T:="StopIteration") (b:=true) ⟨o,q1,q2⟩ pQ (ak (hQ _ kb)))) (UJ _))))
end
theorem Lp {hp:bU}{l1 l2:aj}{R:ag→bU→Prop}
  (h:∀ h',nX h' (hp.objs.size+4) (hp.objs.size+2) (hp.objs.size+3) .none→gn h' (hp.objs.size+2) (.ref hp.objs.size) (.ref (hp.objs.size+1))→gn h' (hp.objs.size+3) .none .none →
   h'.IsTupleIter hp.objs.size l1 0→h'.IsTupleIter (hp.objs.size+1) l2 0→(∀ c o,hp.get? c=some o→h'.get? c=some o)→R (.ref (hp.objs.size+4)) h') :
  let a:=hp.push {cls:=.type "tuple_iterator",data:=.fields #[.ref l1,.int 0 0]}
  let b:=a.push {cls:=.type "tuple_iterator",data:=.fields #[.ref l2,.int 0 0]}
  let c:=b.push {cls:=.type "tuple",data:=.seq #[.ref hp.objs.size,.ref a.objs.size]}
  let d:=c.push {cls:=.type "tuple",data:=.seq #[.none,.none]}
  R (.ref d.objs.size) (d.push {cls:=.type "zip",data:=.fields #[.none,.bool false,.bool false,.ref b.objs.size,.ref c.objs.size]}):=by
 intro a b c d
 have za:a.objs.size=hp.objs.size+1:=cN ..
 have zb:b.objs.size=hp.objs.size+2:=by rw[show b.objs.size=a.objs.size+1 from cN ..,za]
 have zc:c.objs.size=hp.objs.size+3:=by rw[show c.objs.size=b.objs.size+1 from cN ..,zb]
 have zd:d.objs.size=hp.objs.size+4:=by rw[show d.objs.size=c.objs.size+1 from cN ..,zc]
 have old:∀ {g:bU} {o:fA} {x:aj} {u:fA},g.get? x=some u→(g.push o).get? x=some u:=fun q=>ay _ q
 have ga:a.get? hp.objs.size=some _:=aH _ rfl
 have gb:b.get? a.objs.size=some _:=aH _ rfl
 have gc:c.get? b.objs.size=some _:=aH _ rfl
 have gd:d.get? c.objs.size=some _:=aH _ rfl
 have ge:(d.push {cls:=.type "zip",data:=.fields #[.none,.bool false,.bool false,.ref b.objs.size,.ref c.objs.size]}).get? d.objs.size=some _:=aH _ rfl
 rw[zd,zb,zc] at ge
 rw[zd]
 rw[za] at gb gc
 rw[zb] at gc
 rw[zc] at gd
 rw[zb,zc]
 exact h _ ge (old (old gc)) (old gd) ⟨_,old (old (old (old ga))),rfl,rfl⟩ ⟨_,old (old (old gb)),rfl,rfl⟩ fun x o q=>old (old (old (old (old q))))
theorem LD {prog:aY}{w:bO}{A:cA}{E:ag→au→Prop}{s:au}{l1 l2:aj}{xs ys:Array ag}{Q:ag→au→Prop}(h1:s.heap.IsTuple l1 xs)(h2:s.heap.IsTuple l2 ys)
  (h:∀ h',nX h' (s.heap.objs.size+4) (s.heap.objs.size+2) (s.heap.objs.size+3) .none→gn h' (s.heap.objs.size+2) (.ref s.heap.objs.size) (.ref (s.heap.objs.size+1))→gn h' (s.heap.objs.size+3) .none .none →
   h'.IsTupleIter s.heap.objs.size l1 0→h'.IsTupleIter (s.heap.objs.size+1) l2 0→(∀ c o,s.heap.get? c=some o→h'.get? c=some o)→Q (.ref (s.heap.objs.size+4)) {s with heap:=h'}) :
  wpAny (model prog w) A (call (.type "zip") [.ref l1,.ref l2]) Q E s:=by
 have made:Meets (Builtin.«zip.__new__» ⟨[.type "zip",.ref l1,.ref l2],[]⟩) (fun _ R s=>s.heap.IsTuple l1 xs∧s.heap.IsTuple l2 ys ∧
   ∀ h',nX h' (s.heap.objs.size+4) (s.heap.objs.size+2) (s.heap.objs.size+3) .none→gn h' (s.heap.objs.size+2) (.ref s.heap.objs.size) (.ref (s.heap.objs.size+1))→gn h' (s.heap.objs.size+3) .none .none →
    h'.IsTupleIter s.heap.objs.size l1 0→h'.IsTupleIter (s.heap.objs.size+1) l2 0→(∀ c o,s.heap.get? c=some o→h'.get? c=some o)→R (.ok (.ret (.ref (s.heap.objs.size+4)))) {s with heap:=h'}) :=
  .of_wp fun prog w A R s h=>by
   obtain ⟨hp,g,d,tk,os⟩:=s
   obtain ⟨q1,q2,h⟩:=h
   have sub:=sub_zip
   have t1:bU.IsTuple (au.heap ⟨hp,g,d,tk,os⟩) l1 xs:=q1
   have t2:bU.IsTuple (au.heap ⟨hp.push {cls:=.type "tuple_iterator",data:=.fields #[.ref l1,.int 0 0]},g,d,tk,os⟩) l2 ys:=bU.IsTuple.push q2 _
   wp_walk using zO t1,zO t2
   refine ⟨_,rfl,?_⟩
   exact Lp (hp:=hp) (R:=fun v h'=>R (.ok (.ret v)) ⟨h',g,d,tk,os⟩) h
 exact callType_new F.called_zip (by decide) (F.typeCall_zip_2 _ _) (F.newCall_zip_2 _ _) (fun obj=>F.args_object_init_3 obj _ _) F.entry_zip_new made ⟨h1,h2,fun h' q1 q2 q3 q4 q5 q6=>⟨⟨_,q1,rfl⟩,h h' q1 q2 q3 q4 q5 q6⟩⟩
theorem Yn {h h':bU}{it t:aj}{k:Nat}(x:h.IsTupleIter it t k)(q:∀ o,h.get? it=some o→h'.get? it=some o):h'.IsTupleIter it t k:=let ⟨o,e,r⟩:=x;⟨o,q o e,r⟩
def Mx (K:ai)(a b:aj):It :=
 ⟨fun i H=>∃ (xs ys:List V) (x y:V),fN K H a xs∧fN K H b ys∧xs[i]?=some x∧ys[i]?=some y,
  fun i H v H'=>∃ T x y,v=.ref T∧H T=none∧H'=upd H T (.tup [x,y])∧(∀ xs,fN K H a xs→xs[i]?=some x)∧∀ ys,fN K H b ys→ys[i]?=some y,
  fun i H=>∃ xs ys:List V,fN K H a xs∧fN K H b ys∧(xs.length≤i∨ys.length≤i)⟩
theorem Ki {P:aY}{w:bO}{K:ai}{elts:List Expr}{kk:Nat}{lU:jK}{a b z TI TO i1 i2:aj}(D:z6 z TI TO i1 i2 a b) :
  Turn P w K (.Tuple elts kk lU) (Mx K a b) [z,TI,TO,i1,i2] z (fun i h=>nX h z TI TO .none∧gn h TI (.ref i1) (.ref i2)∧(∃ x y,gn h TO x y)∧h.IsTupleIter i1 a i∧h.IsTupleIter i2 b i) where
 mem:=by simp
 obj:=fun i h st c hc=>by
  obtain ⟨hz,hTI,⟨x,y,hTO⟩,⟨o1,e1,_,d1⟩,⟨o2,e2,_,d2⟩⟩:=st
  have e':c=z∨c=TI∨c=TO∨c=i1∨c=i2:=by simpa using hc
  rcases e' with q | q | q | q | q
  ·rw[q];exact ⟨_,hz,fun v q=>nomatch q⟩
  ·rw[q];exact ⟨_,hTI,fun v q=>nomatch q⟩
  ·rw[q];exact ⟨_,hTO,fun v q=>nomatch q⟩
  ·rw[q];exact ⟨o1,e1,fun v q=>by rw[d1] at q;cases q⟩
  ·rw[q];exact ⟨o2,e2,fun v q=>by rw[d2] at q;cases q⟩
 keep:=fun i h h' st k=>by
  obtain ⟨hz,hTI,⟨x,y,hTO⟩,h1,h2⟩:=st
  exact ⟨k z (by simp) _ hz,k TI (by simp) _ hTI,⟨x,y,k TO (by simp) _ hTO⟩,Yn h1 fun o q=>k i1 (by simp) o q,Yn h2 fun o q=>k i2 (by simp) o q⟩
 item:=by
  intro X hP hw hK hc i pins s σ H E I hf st hg
  subst hP hw hK
  obtain ⟨hz,hTI,⟨x0,y0,hTO⟩,h1,h2⟩:=st
  obtain ⟨xs,ys,x,y,hqx,hqy,hx,hy⟩:=hg
  obtain ⟨its,rv,p,_⟩:=I.tuple hqx
  obtain ⟨its2,rv2,p2,_⟩:=I.tuple hqy
  obtain ⟨u,hu,ru⟩:=rv.get hx
  obtain ⟨u2,hu2,ru2⟩:=rv2.get hy
  have hzl:z<s.heap.objs.size:=aN hz
  refine EJ D hz hTI hTO ⟨h1,p⟩ ⟨h2,p2⟩ (x:=u) (y:=u2) (by simpa using hu) (by simpa using hu2) fun h' z' TO' h1' h2' hT hk=>?_
  refine ⟨_,rfl,JS (s:={s with heap:=h'}) z' fun h'' z'' sb=>?_⟩
  have hT2:h''.get? s.heap.objs.size=some {cls:=.type "tuple",data:=.seq #[u,u2]}:=(sb.2 _ (fY hzl)).trans hT
  have new:fM X.prog X.w (upd H s.heap.objs.size (.tup [x,y])) h'' s.heap.objs.size (.tup [x,y]) :=
   ⟨by show 2≤aA;decide,[u,u2],.cons ru (.cons ru2 .nil),⟨_,hT2,rfl,_,rfl⟩⟩
  have I1:Inv X pins σ (upd H s.heap.objs.size (.tup [x,y])) {s with heap:=h''} :=
   I.oM (t':=s.toks) (ch:=[z,TI,TO,i1,i2]) (fun c o hb q=>(sb.2 c (fun q'=>hb (by simp[q']))).trans (hk c o (fun q'=>hb (by simp[q'])) (fun q'=>hb (by simp[q'])) (fun q'=>hb (by simp[q'])) (fun q'=>hb (by simp[q'])) q)) hf (aL _) new
  refine ⟨.ref s.heap.objs.size,_,I1,rfl,⟨_,x,y,rfl,I.fj.fresh (aL _),rfl,fun l hl=>by rw[I.vT hl hqx];exact hx,fun l hl=>by rw[I.vT hl hqy];exact hy⟩,⟨z'',?_,⟨u,u2,?_⟩,?_,?_⟩,fun c hcm=>?_⟩
  ·exact (sb.2 _ D.TIz).trans (hk _ _ D.TIz D.TITO D.TIi1 D.TIi2 hTI)
  ·exact (sb.2 _ D.TOz).trans TO'
  ·exact Yn h1' fun o q=>(sb.2 _ D.i1z).trans q
  ·exact Yn h2' fun o q=>(sb.2 _ D.i2z).trans q
  ·have jV:c<s.heap.objs.size:=by
    have e':c=z∨c=TI∨c=TO∨c=i1∨c=i2:=by simpa using hcm
    rcases e' with q | q | q | q | q
    ·rw[q];exact hzl
    ·rw[q];exact aN hTI
    ·rw[q];exact aN hTO
    ·rw[q];obtain ⟨_,e1,_⟩:=h1;exact aN e1
    ·rw[q];obtain ⟨_,e2,_⟩:=h2;exact aN e2
   rw[aT (ba jV)]
   exact (hf c hcm).1
 done:=by
  intro X hP hw hK hc i pins s σ H E I hf st hg
  subst hP hw hK
  obtain ⟨hz,hTI,⟨x0,y0,hTO⟩,h1,h2⟩:=st
  obtain ⟨xs,ys,hqx,hqy,hend⟩:=hg
  obtain ⟨its,rv,p,_⟩:=I.tuple hqx
  obtain ⟨its2,rv2,p2,_⟩:=I.tuple hqy
  have l1:=rv.length
  have l2:=rv2.length
  have he:its.toArray[i]?=none∨its2.toArray[i]?=none:=by
   rcases hend with q | q
   ·exact .inl (by simp;omega)
   ·exact .inr (by simp;omega)
  exact xJ (I.ok.hd hc) D hz hTI hTO ⟨h1,p⟩ ⟨h2,p2⟩ he fun h' hk=>⟨rfl,I.Ir (t':=s.toks) (ch:=[z,TI,TO,i1,i2]) (fun c o hb q =>
   hk c o (fun q'=>hb (by simp[q'])) (fun q'=>hb (by simp[q'])) (fun q'=>hb (by simp[q'])) (fun q'=>hb (by simp[q'])) q) hf⟩
 self:=fun A i s Q E st h=>sV st.1 h
def XG (K:ai)(ta:TA):TI:=fun σ H R=>ta σ H fun vs H1=>∃ a b xs ys,vs=[.ref a,.ref b]∧fN K H1 a xs∧fN K H1 b ys∧R (Mx K a b) H1
theorem Rw {X:Cx}{e e2:Expr}{ta:TA}{p pos lU:jK}{elts:List Expr}{kk:Nat}(hg:Gl X "zip")(hm:X.mg "zip"=none)(ha:PA X [e,e2] ta)
  (hs:bQ [e,e2] X.env=(false,eval e X.env)::bQ [e2] X.env:=by rfl)(hpl:(backTo pos (bQ [e2] X.env)).any (·.1)=false:=by rfl) :
  PI X (.Tuple elts kk lU) (.Call (.Name "zip" p) [e,e2] [] pos) (XG X.K ta):=by
 intro pins s σ H R I h
 refine Call_ (jl I hg hm Bd (cK (gI (ha pos pins s σ H _ I h) fun us s1 ⟨vs,H1,I1,r1,q1⟩=>?_) hs hpl))
 obtain ⟨a,b,xs,ys,ex,hqx,hqy,q⟩:=q1
 subst ex
 cases r1 with
 | cons r rr =>
  cases rr with
  | cons r' rr =>
   cases rr
   cases r
   cases r'
   obtain ⟨its,rv,p1,_⟩:=I1.tuple hqx
   obtain ⟨its2,rv2,p2,_⟩:=I1.tuple hqy
   have la:a<s1.heap.objs.size:=let ⟨_,q,_⟩:=p1;aN q
   have lb:b<s1.heap.objs.size:=let ⟨_,q,_⟩:=p2;aN q
   refine LD p1 p2 fun h' hz hTI hTO h1 h2 hk=>sV hz ?_
   have I2:Inv X pins σ H1 {s1 with heap:=h'}:=I1.kept (t':=s1.toks) hk
   refine ⟨s1.heap.objs.size+4,[s1.heap.objs.size+4,s1.heap.objs.size+2,s1.heap.objs.size+3,s1.heap.objs.size,s1.heap.objs.size+1],_,_,H1,rfl,I2,Ki (JT s1.heap.objs.size a b la lb),⟨hz,hTI,⟨_,_,hTO⟩,h1,h2⟩,fun c hcm=>?_,q⟩
   have e':c=s1.heap.objs.size+4∨c=s1.heap.objs.size+2∨c=s1.heap.objs.size+3∨c=s1.heap.objs.size∨c=s1.heap.objs.size+1:=by simpa using hcm
   have hle:s1.heap.objs.size≤c:=by
    rcases e' with z | z | z | z | z
    ·rw[z];exact fX _ _
    ·rw[z];exact fX _ _
    ·rw[z];exact fX _ _
    ·rw[z];exact aL _
    ·rw[z];exact fX _ _
   exact I1.C8 hle (I1.fj.fresh hle)
end L2
namespace Sk
open PySem PySem.Spec PyProof.Rows L2
def ju (H:Hp)(a:aj)(c:bJ):Prop:=∃ b,H a=some (.tup [iv c.env,.ref b])∧H b=some (.tup (eT c.sounds))
theorem ju.same {H H':Hp}{a:aj}{c:bJ}(h:ju H a c)(s:aM H H'):ju H' a c:=let ⟨b,e,f⟩:=h;⟨b,s _ _ e,s _ _ f⟩
theorem sL {H H':Hp}(s:aM H H'):∀ {rs:List aj} {cs:List bJ},Paired (ju H) rs cs→Paired (ju H') rs cs
 | _,_,.nil=>.nil
 | _,_,.cons a t=>.cons (a.same s) (sL s t)
def gE (H:Hp)(q:aj)(w:eF):Prop:=∃ rs:List aj,H q=some (.lst (rs.map V.ref))∧Paired (ju H) rs w
theorem gE.same {H H':Hp}{q:aj}{w:eF}(h:gE H q w)(s:aM H H'):gE H' q w:=let ⟨rs,e,f⟩:=h;⟨rs,s _ _ e,sL s f⟩
theorem pG {H H':Hp}(s:aM H H'):∀ {qs:List aj} {ws:List eF},Paired (gE H) qs ws→Paired (gE H') qs ws
 | _,_,.nil=>.nil
 | _,_,.cons a t=>.cons (a.same s) (pG s t)
def lI (H:Hp)(p:aj)(ws:List eF):Prop:=∃ qs:List aj,H p=some (.lst (qs.map V.ref))∧Paired (gE H) qs ws
theorem lI.same {H H':Hp}{p:aj}{ws:List eF}(h:lI H p ws)(s:aM H H'):lI H' p ws:=let ⟨rs,e,f⟩:=h;⟨rs,s _ _ e,pG s f⟩
def kc (c:bJ):List eD:=[.inl (.inl (c.env:Int)),.inr (c.sounds.map fun n=>.inl ((n:Nat):Int))]
theorem xf:∀ {l m:List Nat},(l.map fun n=>(gF ((n:Nat):Int):Key))=m.map (fun n=>gF ((n:Nat):Int))→l=m
 | [],[],_=>rfl
 | [],_::_,h=>by simp at h
 | _::_,[],h=>by simp at h
 | a::l,b::m,h=>by
  rw[bo,bo] at h
  injection h with h1 h2
  injection h1 with h1
  rw[xf h2]
  congr 1
  omega
theorem Gq {c d:bJ}(h:kc c=kc d):c=d:=by
 obtain ⟨e,s⟩:=c
 obtain ⟨f,t⟩:=d
 unfold kc at h
 injection h with h1 h2
 injection h2 with h2 _
 injection h1 with h1
 injection h1 with h1
 injection h2 with h2
 have e1:e=f:=by
  have h1:(e:Int)=(f:Int):=h1
  omega
 have e2:s=t:=xf h2
 rw[e1,e2]
theorem Jh (l:List Nat):(l.map fun n=>(gF ((n:Nat):Int):Key)).map kV=eT l:=by
 rw[br]
 rfl
theorem ju.key {H:Hp}{a:aj}{c:bJ}(h:ju H a c):kZ H a (kc c):=by
 obtain ⟨b,e,f⟩:=h
 refine ⟨_,e,.cons rfl (.cons ⟨b,rfl,?_⟩ .nil)⟩
 rw[Jh]
 exact f
theorem ju.NG {H:Hp}{a:aj}{c:bJ}(h:kZ H a (kc c)):ju H a c:=by
 obtain ⟨vs,e,q⟩:=h
 unfold kc at q
 cases q with
 | cons q1 q2 =>
  cases q2 with
  | cons q2 q3 =>
   cases q3
   obtain ⟨b,eb,f⟩:=q2
   rw[Jh] at f
   have q1:_=V.int (c.env:Int):=q1
   subst q1 eb
   exact ⟨b,e,f⟩
def jA (t:List (bJ×Nat)):List (List eD×V):=t.map fun kv=>(kc kv.1,iv kv.2)
theorem PY (t:List (bJ×Nat))(c:bJ):jZ (jA t) (kc c)=(t.find? fun kv=>decide (kv.1=c)).map fun kv=>iv kv.2:=by
 induction t with
 | nil=>rfl
 | cons kv t ih =>
  by_cases e:kv.1=c
  ·rw[cH,decide_eq_true e]
   exact iA (p:=(kc kv.1,iv kv.2)) (by rw[e])
  ·rw[cH,decide_eq_false e]
   exact (iB (p:=(kc kv.1,iv kv.2)) fun z=>e (Gq z)).trans ih
theorem P0 (t:List (bJ×Nat))(c:bJ):((jA t).any fun kv=>decide (kv.1=kc c))=t.any fun kv=>decide (kv.1=c):=by
 unfold jA
 rw[mH]
 refine congrArg (fun f=>t.any f) (funext fun kv=>?_)
 exact decide_eq_decide.mpr ⟨fun z=>Gq z,fun z=>congrArg kc (show kv.1=c from z)⟩
theorem GW (l:List bJ)(c:bJ):((gJ l).find? fun kv=>decide (kv.1=c))=if c∈l then some (c,(l.filter fun x=>x==c).length) else none:=by
 unfold gJ
 by_cases h:c∈l
 ·rw[if_pos h]
  have m:=(ia c l).mpr h
  generalize l.eraseDups=d at m
  induction d with
  | nil=>simp at m
  | cons x d ih =>
   rw[bo,cH]
   by_cases e:x=c
   ·subst e;simp
   ·rw[show decide ((x,(l.filter fun y=>y==x).length).1=c)=false from decide_eq_false e]
    exact ih (by rcases aI.mp m with z | z;exact absurd z.symm e;exact z)
 ·rw[if_neg h,nE]
  intro kv hkv
  obtain ⟨x,hx,rfl⟩:=aU.mp hkv
  have:=(ia x l).mp hx
  simp only[decide_eq_true_eq]
  rintro rfl
  exact h this
theorem Km (l:List bJ)(c:bJ):putK (jA (gJ l)) (kc c) (iv ((l.filter fun x=>x==c).length+1))=jA (gJ (l++[c])):=by
 rw[GV]
 unfold putK bump
 rw[P0]
 by_cases h:((gJ l).any fun kv=>decide (kv.1=c))=true
 ·rw[if_pos h,if_pos h]
  unfold jA
  rw[br,br]
  refine dm fun kv hkv=>?_
  obtain ⟨x,_,rfl⟩:=aU.mp hkv
  show (if kc x=kc c then (kc x,iv ((l.filter fun y=>y==c).length+1)) else (kc x,iv (l.filter fun y=>y==x).length))=_
  show _=(fun kv:bJ×Nat=>(kc kv.1,iv kv.2)) (if x=c then (x,(l.filter fun y=>y==x).length+1) else (x,(l.filter fun y=>y==x).length))
  by_cases e:x=c
  ·subst e;rw[if_pos rfl,if_pos rfl]
  ·rw[if_neg (fun z=>e (Gq z)),if_neg e]
 ·rw[if_neg h,if_neg h]
  have z:l.filter (fun x=>x==c)=[]:=by
   rw[kg]
   intro x hx q
   have e:x=c:=by simpa using q
   subst e
   refine h (qc.mpr ⟨(x,_),aU.mpr ⟨x,(ia x l).mpr hx,rfl⟩,by simp⟩)
  rw[z]
  unfold jA
  rw[aX]
  rfl
theorem AA (l:List bJ):(jA (gJ l)).length≤l.length:=by
 unfold jA gJ
 rw[ae,ae]
 exact Jt l
theorem Kn (l:List bJ)(c:bJ):(jZ (jA (gJ l)) (kc c)).getD (V.int 0)=iv (l.filter fun x=>x==c).length:=by
 rw[PY,GW]
 by_cases h:c∈l
 ·rw[if_pos h];rfl
 ·rw[if_neg h]
  have z:l.filter (fun x=>x==c)=[]:=by
   rw[kg]
   intro x hx q
   have e:x=c:=by simpa using q
   exact h (e▸hx)
  rw[z];rfl
theorem cX {α β:Type}{R:α→β→Prop}:∀ {l:List α} {m:List β} {i:Nat} {a:α},Paired R l m→l[i]?=some a→∃ b,m[i]?=some b∧R a b
 | _,_,i,_,.nil,h=>by simp at h
 | _,_,0,_,.cons r _,h=>by
  cases aJ h
  exact ⟨_,rfl,r⟩
 | _,_,i+1,_,.cons _ t,h=>cX (i:=i) t h
theorem eZ {rs:List aj}{i:Nat}{x:V}(h:(rs.map V.ref)[i]?=some x):∃ r,rs[i]?=some r∧x=V.ref r:=by
 rw[aO] at h
 cases e:rs[i]? with
 | none=>rw[e] at h;cases h
 | some r=>rw[e] at h;exact ⟨r,rfl,(aJ h).symm⟩
abbrev F9:d5:=top 31
def pz:Sp:=fun vs H Q _=>∃ (p:aj) (ws:List eF),vs=[.ref p]∧lI H p ws∧ws.flatten.length≤1000∧∀ H' t,aM H H'→H t=none→H' t=some (.dT (jA (gJ ws.flatten)))→Q (.ref t) H'
section
variable {P:aY}{w:bO}{K:ai}{mg:cp→Option ag}{base:bU}
theorem xU:bW ["words","counts","places","place"] ["words"] (bF F9):=⟨rfl,rfl,rfl,by decide +kernel,rfl,by decide +kernel,by decide +kernel⟩
theorem O3 {f:aj}{fd:bI}(F:jt K "count_places" "count_places" F9 f fd):cO P w K mg base fB 1 f fd ["words"] pz:=by
 refine F.ok xU (fun vs H Q E h=>?_) (fun iq A outer s H vs Q E hr h=>?_)
 ·obtain ⟨p,ws,rfl,_⟩:=h
  rfl
 ·obtain ⟨p,ws,rfl,⟨qs,hp,pw⟩,hlen,k⟩:=h
  have hu:=wR hr
  refine ⟨_,aF (cw (i:=1) xU.nd rfl (bj rfl) yM)
   (aF (gp bH rfl (d9 (pv 0)) (cI (i:=2) xU.nd rfl (bj rfl))
    (aQ (gp bH rfl (d9 (pv 2)) (cI (i:=3) xU.nd rfl (bj rfl))
     (aQ (xY hu (pv 1) (pv 3) (dX eL (DX hu (pv 1) (pv 3) aW ⟨rfl,rfl,rfl,rfl⟩) aW) rfl)))))
   (aQ (bL (pv 1)))),?_⟩
  refine cn fun d hd=>?_
  have s0:aM H (upd H d (.dT [])):=aM.new hd
  refine ⟨_,rfl,p,rfl,⟨_,cG.of (s0 _ _ hp)⟩,iC (K:=K) (a:=p) (xs:=qs.map V.ref) (fun i σ H'=>∃ v2 v3:Option V,σ=[some (.ref p),some (.ref d),v2,v3]∧aM H H'∧H' d=some (.dT (jA (gJ (ws.take i).flatten))))
   ⟨none,none,rfl,s0,aw⟩ (fun i σ H' _ ⟨_,_,_,s1,_⟩=>cG.of (s1 _ _ hp)) ?_ ?_⟩
  ·rintro i y σ H1 hi ⟨v2,v3,rfl,s1,e1⟩
   obtain ⟨q,hq,rfl⟩:=eZ hi
   obtain ⟨wd,hw,rs,hrs,pc⟩:=cX pw hq
   refine ⟨_,rfl,q,rfl,⟨_,cG.of (s1 _ _ hrs)⟩,iC (K:=K) (a:=q) (xs:=rs.map V.ref) (fun j σ H'=>∃ v3:Option V,σ=[some (.ref p),some (.ref d),some (.ref q),v3]∧aM H H'∧H' d=some (.dT (jA (gJ ((ws.take i).flatten++wd.take j)))))
    ⟨v3,rfl,s1,by rw[List.take_zero,bV];exact e1⟩ (fun j σ H' _ ⟨_,_,s2,_⟩=>cG.of (s2 _ _ hrs)) ?_ ?_⟩
   ·rintro j y σ H2 hj ⟨v3,rfl,s2,e2⟩
    obtain ⟨r,dQ,rfl⟩:=eZ hj
    obtain ⟨c,hc,ca⟩:=cX pc dQ
    have ck:=(ca.same s2).key
    have sz:(jA (gJ ((ws.take i).flatten++wd.take j))).length<aA:=by
     refine aG (aD (AA _) (aD ?_ hlen)) (by decide)
     have t1:=take_snoc hw
     have t2:(ws.take i).flatten.length+wd.length≤ws.flatten.length:=by
      have z:ws.flatten=(ws.take (i+1)).flatten++(ws.drop (i+1)).flatten:=by rw[← jh,kP]
      rw[z,t1,jh,aK,aK]
      simp
     rw[aK,bM]
     omega
    refine ⟨_,rfl,d,rfl,.inr ⟨_,.inl e2⟩,_,rfl,_,uA.t e2 ck,(((((ws.take i).flatten++wd.take j).filter fun x=>x==c).length:Nat):Int),1,Kn _ _,rfl,_,rfl,_,rfl,d,_,rfl,z4.t e2 ck sz,_,rfl,s2.upd hd,?_⟩
    ·rw[aw,take_snoc hc,← dB]
     exact congrArg (fun z=>some (HO.dT z)) (Km ((ws.take i).flatten++wd.take j) c)
   ·rintro σ H2 ⟨v3,rfl,s2,e2⟩
    refine ⟨_,_,rfl,s2,?_⟩
    have t:(rs.map V.ref).length=wd.length:=by rw[ae,bz pc]
    rw[t,bE] at e2
    rw[e2,take_snoc hw,jh,j9,List.flatten_nil,bV]
  ·rintro σ H1 ⟨v2,v3,rfl,s1,e1⟩
   refine ⟨_,rfl,k H1 d s1 hd ?_⟩
   rw[e1,ae,bz pw,bE]
end
theorem Pz {K:ai}{a b:aj}{xs ys:List V}{g:TG}{tb:TS}{D:Ends}{σ:L2.St}{H:Hp}(Pv:Nat→L2.St→Hp→Prop)(h0:Pv 0 σ H)(hl:∀ i σ H,Pv i σ H→fN K H a xs∧fN K H b ys)
  (hs:∀ i x y σ H T,xs[i]?=some x→ys[i]?=some y→Pv i σ H→H T=none→g (.ref T) σ (upd H T (.tup [x,y])) fun σ2 H2=>tb {D with nx:=Pv (i+1),ct:=Pv (i+1),bk:=D.nx} σ2 H2)(hd:∀ σ H,Pv (min xs.length ys.length) σ H→D.nx σ H) :
  ∃ W:Nat→Nat→L2.St→Hp→Prop,(∃ m,W 0 m σ H)∧∀ i m σ H,W i m σ H →
   ((Mx K a b).stop i H∧D.nx σ H)∨((Mx K a b).go i H∧∃ N:L2.St→Hp→Prop,(∀ σ' H',N σ' H'→∃ m',m'<m∧W (i+1) m' σ' H')∧∀ x H',(Mx K a b).zS i H x H'→g x σ H' fun σ2 H2=>tb {D with nx:=N,ct:=N,bk:=D.nx} σ2 H2):=by
 refine ⟨fun i m σ H=>m=min xs.length ys.length - i∧i≤min xs.length ys.length∧Pv i σ H,⟨_,rfl,aR _,h0⟩,?_⟩
 rintro i m σ H ⟨rfl,hi,p⟩
 obtain ⟨q1,q2⟩:=hl i σ H p
 by_cases lt:i<min xs.length ys.length
 ·have e1:xs[i]?=some (xs[i]'(by omega)):=aE (by omega)
  have e2:ys[i]?=some (ys[i]'(by omega)):=aE (by omega)
  refine .inr ⟨⟨xs,ys,_,_,q1,q2,e1,e2⟩,Pv (i+1),fun σ' H' p'=>⟨_,by omega,rfl,by omega,p'⟩,fun x H' y=>?_⟩
  obtain ⟨T,u,v,rfl,hT,rfl,f1,f2⟩:=y
  exact hs i u v σ H T (f1 xs q1) (f2 ys q2) p hT
 ·have e:i=min xs.length ys.length:=by omega
  exact .inl ⟨⟨xs,ys,q1,q2,by omega⟩,hd σ H (e▸p)⟩
theorem Jp {K:ai}{a b:aj}{xs ys:List V}{g:TG}{tb:TS}{D:Ends}{σ:L2.St}{H:Hp}(Pv:Nat→L2.St→Hp→Prop)(h0:Pv 0 σ H)(hl:∀ i σ H,Pv i σ H→cG K H a xs∧cG K H b ys)
  (hs:∀ i x y σ H T,xs[i]?=some x→ys[i]?=some y→Pv i σ H→H T=none→g (.ref T) σ (upd H T (.tup [x,y])) fun σ2 H2=>tb {D with nx:=Pv (i+1),ct:=Pv (i+1),bk:=D.nx} σ2 H2)(hd:∀ σ H,Pv (min xs.length ys.length) σ H→D.nx σ H) :
  ∃ W:Nat→Nat→L2.St→Hp→Prop,(∃ m,W 0 m σ H)∧∀ i m σ H,W i m σ H →
   ((Uc K a b).stop i H∧D.nx σ H)∨((Uc K a b).go i H∧∃ N:L2.St→Hp→Prop,(∀ σ' H',N σ' H'→∃ m',m'<m∧W (i+1) m' σ' H')∧∀ x H',(Uc K a b).zS i H x H'→g x σ H' fun σ2 H2=>tb {D with nx:=N,ct:=N,bk:=D.nx} σ2 H2):=by
 refine ⟨fun i m σ H=>m=min xs.length ys.length - i∧i≤min xs.length ys.length∧Pv i σ H,⟨_,rfl,aR _,h0⟩,?_⟩
 rintro i m σ H ⟨rfl,hi,p⟩
 obtain ⟨q1,q2⟩:=hl i σ H p
 by_cases lt:i<min xs.length ys.length
 ·have e1:xs[i]?=some (xs[i]'(by omega)):=aE (by omega)
  have e2:ys[i]?=some (ys[i]'(by omega)):=aE (by omega)
  refine .inr ⟨⟨xs,ys,_,_,q1,q2,e1,e2⟩,Pv (i+1),fun σ' H' p'=>⟨_,by omega,rfl,by omega,p'⟩,fun x H' y=>?_⟩
  obtain ⟨T,u,v,rfl,hT,rfl,f1,f2⟩:=y
  exact hs i u v σ H T (f1 xs q1) (f2 ys q2) p hT
 ·have e:i=min xs.length ys.length:=by omega
  exact .inl ⟨⟨xs,ys,q1,q2,by omega⟩,hd σ H (e▸p)⟩
theorem qP {x:List Nat}{i:Nat}{v:V}(h:(eT x)[i]?=some v):∃ n,x[i]?=some n∧v=iv n:=by
 rw[aO] at h
 cases e:x[i]? with
 | none=>rw[e] at h;cases h
 | some n=>rw[e] at h;exact ⟨n,rfl,(aJ h).symm⟩
theorem qH {m n:Nat}:(!decide (iv m=V.int (n:Int)))=true↔m≠n:=by
 rw[Qy,decide_eq_false_iff_not]
 exact ⟨fun h z=>h (by rw[z]),fun h z=>h (by injection z with z;omega)⟩
theorem wU {m n:Nat}:decide (iv m=V.int (n:Int))=true↔m=n:=by
 rw[decide_eq_true_iff]
 exact ⟨fun h=>by injection h with h;omega,fun h=>by rw[h]⟩
def QB (x:Nat×Nat):Bool:=x.1==0||(x.2==0||x.1==x.2)
theorem Vz {m n:Nat}(h1:m≠0)(h2:n≠0)(h3:m≠n):QB (m,n)=false:=by simp[QB,h1,h2,h3]
theorem zip_get {x y:List Nat}{i m n:Nat}(h1:x[i]?=some m)(h2:y[i]?=some n):(x.zip y)[i]?=some (m,n):=by
 rw[CO]
 exact ⟨h1,h2⟩
abbrev UU:d5:=top 32
abbrev MT:d5:=top 33
structure Mw (K:ai)(mg:cp→Option ag):Prop where
 WB:∃ t,mg "UNKNOWN"=some (.int 0 t)
 zip:mg "zip"=none
 len:mg "len"=none
def Uh:Sp:=fun vs H Q _=>∃ (a b:aj) (c d:bJ),vs=[.ref a,.ref b]∧ju H a c∧ju H b d∧∀ H',aM H H'→Q (.bl (kT c d)) H'
section
variable {P:aY}{w:bO}{K:ai}{mg:cp→Option ag}{base:bU}
theorem MH:bW ["pattern","other","one","another"] ["pattern","other"] (bF UU):=⟨rfl,rfl,rfl,by decide +kernel,rfl,by decide +kernel,by decide +kernel⟩
theorem Vu {f:aj}{fd:bI}(F:jt K "may_be_one" "may_be_one" UU f fd)(T:Mw K mg):cO P w K mg base fB 1 f fd ["pattern","other"] Uh:=by
 obtain ⟨tu,hun⟩:=T.WB
 refine F.ok MH (fun vs H Q E h=>?_) (fun iq A outer s H vs Q E hr h=>?_)
 ·obtain ⟨a,b,c,d,rfl,_⟩:=h
  rfl
 ·obtain ⟨a,b,c,d,rfl,⟨pa,a1,a2⟩,⟨pb,b1,b2⟩,k⟩:=h
  refine ⟨_,aF (eE (bS wN (cy dO (pv 0) aW (fun _ _=>rfl)) (cy dO (pv 1) aW (fun _ _=>rfl)) (cj _)) (aQ (bL Ai)) cU)
   (aF (gp bH rfl (Rw rfl T.zip (ah (cy dO (pv 0) aW (fun _ _=>rfl)) (ah (cy dO (pv 1) aW (fun _ _=>rfl)) aB)))
    (yz rfl (je (cI (i:=2) MH.nd rfl (bj rfl)) (je (cI (i:=3) MH.nd rfl (bj rfl)) uI)))
    (aQ (eE (ph (bS wN (pv 2) (bX (v:=.int 0) (by rfl) hun ⟨_,rfl⟩) (cj _)) (ph (bS wN (pv 3) (bX (v:=.int 0) (by rfl) hun ⟨_,rfl⟩) (cj _)) (pB (bS wN (pv 2) (pv 3) (cj _))))).pt
     (aQ (bL Ai)) cU)))
   (aQ (bL Ai))),?_⟩
  refine ⟨_,rfl,a,_,0,_,rfl,rfl,fN.of a1,cg (j:=0) rfl,_,rfl,b,_,0,_,rfl,rfl,fN.of b1,cg (j:=0) rfl,rfl,_,rfl,?_⟩
  refine gD (fun h=>?_) fun h=>?_
  ·have e:=qH.mp h
   have:=k H (aM.refl _)
   rw[show kT c d=true by simp[kT,e]] at this
   exact this
  have he:c.env=d.env:=dR fun z=>h (qH.mpr z)
  refine ⟨_,rfl,a,_,1,_,rfl,rfl,fN.of a1,cg (j:=1) rfl,_,rfl,b,_,1,_,rfl,rfl,fN.of b1,cg (j:=1) rfl,pa,pb,_,_,rfl,fN.of a2,fN.of b2,?_⟩
  have sh:kT c d=(c.sounds.zip d.sounds).all QB:=by
   unfold kT
   rw[he,bne_self_eq_false,Bool.false_or]
   rfl
  refine Pz (K:=K) (xs:=eT c.sounds) (ys:=eT d.sounds) (fun i σ H'=>∃ v2 v3:Option V,σ=[some (.ref a),some (.ref b),v2,v3]∧aM H H'∧((c.sounds.zip d.sounds).take i).all QB=true)
   ⟨none,none,rfl,aM.refl _,rfl⟩ (fun i σ H' ⟨_,_,_,s1,_⟩=>⟨fN.of (s1 _ _ a2),fN.of (s1 _ _ b2)⟩) ?_ ?_
  ·rintro i x y σ H1 T hx hy ⟨v2,v3,rfl,s1,al⟩ hT
   obtain ⟨m,hm,rfl⟩:=qP hx
   obtain ⟨n,hn,rfl⟩:=qP hy
   have s2:aM H (upd H1 T (.tup [iv m,iv n])):=s1.trans (aM.new hT)
   have hz:=zip_get hm hn
   refine ⟨T,_,rfl,fN.of aw,rfl,_,_,rfl,_,_,rfl,rfl,?_⟩
   have next:QB (m,n)=true→∃ v2 v3:Option V,[some (V.ref a),some (V.ref b),some (iv m),some (iv n)]=[some (.ref a),some (.ref b),v2,v3]∧aM H (upd H1 T (.tup [iv m,iv n]))∧((c.sounds.zip d.sounds).take (i+1)).all QB=true:=fun q =>
    ⟨_,_,rfl,s2,by rw[take_snoc hz,T2,al];simp[q]⟩
   refine ⟨_,rfl,rfl,_,rfl,?_⟩
   refine gD (fun h1=>?_) fun h1=>?_
   ·have h1:=qH.mp h1
    refine ⟨_,rfl,rfl,_,rfl,?_⟩
    refine gD (fun h2=>?_) fun h2=>?_
    ·have h2:=qH.mp h2
     refine ⟨_,rfl,_,rfl,rfl,_,rfl,?_⟩
     refine gD (fun h3=>?_) fun h3=>?_
     ·have h3:=qH.mp h3
      have:=k _ s2
      rw[sh,show (c.sounds.zip d.sounds).all QB=false from Qx.mpr ⟨(m,n),aV hz,by rw[Vz h1 h2 h3];decide⟩] at this
      exact this
     ·have h3:m=n:=dR fun z=>h3 (qH.mpr z)
      exact next (by simp[QB,h3])
    ·have h2:n=0:=dR fun z=>h2 (qH.mpr z)
     exact nI (next (by simp[QB,h2]))
   ·have h1:m=0:=dR fun z=>h1 (qH.mpr z)
    exact nI (next (by simp[QB,h1]))
  ·rintro σ H1 ⟨v2,v3,rfl,s1,al⟩
   have:=k H1 s1
   rw[ae,ae,← rL,bE] at al
   rw[sh,al] at this
   exact this
end
abbrev UT:d5:=top 34
abbrev MR:d5:=top 35
def T9 (c:bJ)(n:Nat)(x:bJ×Nat):Bool:=x.2 != n||kT x.1 c
def Nt:Sp:=fun vs H Q _=>∃ (p g:aj) (cs:List bJ) (gs:List Nat) (n:Nat) (c:bJ),vs=[.ref p,.ref g,iv n]∧gE H p cs∧H g=some (.lst (eT gs))∧cs[gs.length]?=some c∧∀ H',aM H H'→Q (.bl (yr (cs.zip gs) c n)) H'
section
variable {P:aY}{w:bO}{K:ai}{mg:cp→Option ag}{base:bU}
theorem BC:bW ["patterns","given","number","following","pattern","taken"] ["patterns","given","number"] (bF MT):=⟨rfl,rfl,rfl,by decide +kernel,rfl,by decide +kernel,by decide +kernel⟩
theorem RM {f fm:aj}{fd fdm:bI}(F:jt K "fits" "fits" MT f fd)(T:Mw K mg)(G:cO P w K mg base fB 1 fm fdm ["pattern","other"] Uh)(mm:mg "may_be_one"=some (.ref fm))(km:aP K (.ref fm)=true)(bm:Binds K fdm ["pattern","other"] []) :
  cO P w K mg base fB 2 f fd ["patterns","given","number"] Nt:=by
 refine F.ok BC (fun vs H Q E h=>?_) (fun iq A outer s H vs Q E hr h=>?_)
 ·obtain ⟨p,g,cs,gs,n,c,rfl,_⟩:=h
  rfl
 ·obtain ⟨p,g,cs,gs,n,c,rfl,⟨rs,hp,pc⟩,hg,hc,k⟩:=h
  refine ⟨_,aF (cw (i:=3) BC.nd rfl (bj rfl) (cy cJ (pv 0) (bP bD (by rfl) T.len bb (ah (pv 1) aB)) (fun _ _=>rfl)))
   (aF (gp bH rfl (Gg rfl T.zip (ah (pv 0) (ah (pv 1) aB))) (yz rfl (je (cI (i:=4) BC.nd rfl (bj rfl)) (je (cI (i:=5) BC.nd rfl (bj rfl)) uI)))
    (aQ (eE (ph (bS gw (pv 5) (pv 2) (cj _)) (pB (tO (pj (bY G hr (by rfl) mm km bm .nil cR (ah (pv 4) (ah (pv 3) aB))))))).pt (aQ (bL Ai)) cU)))
   (aQ (bL Ai))),?_⟩
  obtain ⟨r,qD,ca⟩:=ko pc hc
  refine cn ⟨_,rfl,_,rfl,g,_,rfl,.inl (cG.of hg),p,_,_,V.ref r,rfl,rfl,cG.of hp,?_,?_⟩
  ·rw[ae]
   exact cg (by rw[aO,qD];rfl)
  refine ⟨_,rfl,_,rfl,p,g,_,_,rfl,cG.of hp,cG.of hg,?_⟩
  have fk:yr (cs.zip gs) c n=(cs.zip gs).all (T9 c n):=rfl
  refine Jp (K:=K) (xs:=rs.map V.ref) (ys:=eT gs) (fun i σ H'=>∃ v4 v5:Option V,σ=[some (.ref p),some (.ref g),some (iv n),some (.ref r),v4,v5]∧aM H H'∧((cs.zip gs).take i).all (T9 c n)=true)
   ⟨none,none,rfl,aM.refl _,rfl⟩ (fun i σ H' ⟨_,_,_,s1,_⟩=>⟨cG.of (s1 _ _ hp),cG.of (s1 _ _ hg)⟩) ?_ ?_
  ·rintro i x y σ H1 T hx hy ⟨v4,v5,rfl,s1,al⟩ hT
   obtain ⟨a,ha,rfl⟩:=eZ hx
   obtain ⟨m,hm,rfl⟩:=qP hy
   obtain ⟨d,hd,da⟩:=cX pc ha
   have s2:aM H (upd H1 T (.tup [V.ref a,iv m])):=s1.trans (aM.new hT)
   have hz:(cs.zip gs)[i]?=some (d,m):=CO.mpr ⟨hd,hm⟩
   refine ⟨T,_,rfl,fN.of aw,rfl,_,_,rfl,_,_,rfl,rfl,?_⟩
   have next:∀ H2,aM H H2→T9 c n (d,m)=true→∃ v4 v5:Option V,[some (V.ref p),some (V.ref g),some (iv n),some (V.ref r),some (V.ref a),some (iv m)]=[some (.ref p),some (.ref g),some (iv n),some (.ref r),v4,v5]∧aM H H2∧((cs.zip gs).take (i+1)).all (T9 c n)=true:=fun H2 s3 q =>
    ⟨_,_,rfl,s3,by rw[take_snoc hz,T2,al];simp[q]⟩
   refine ⟨_,rfl,_,rfl,rfl,_,rfl,?_⟩
   refine gD (fun h1=>?_) fun h1=>?_
   ·have h1:m=n:=wU.mp h1
    refine ⟨_,rfl,_,rfl,a,r,d,c,rfl,da.same s2,ca.same s2,fun H3 s3=>⟨_,rfl,?_⟩⟩
    refine gD (fun h2=>?_) fun h2=>?_
    ·have h2:kT d c=false:=by simpa using h2
     have:=k _ (s2.trans s3)
     rw[fk,show (cs.zip gs).all (T9 c n)=false from Qx.mpr ⟨(d,m),aV hz,by simp[T9,h1,h2]⟩] at this
     exact this
    ·have h2:kT d c=true:=by simpa using h2
     exact next _ (s2.trans s3) (by simp[T9,h2])
   ·have h1:¬ m=n:=fun z=>h1 (wU.mpr z)
    exact nI (next _ s2 (by simp[T9,h1]))
  ·rintro σ H1 ⟨v4,v5,rfl,s1,al⟩
   have:=k H1 s1
   rw[ae,ae,bz pc,← rL,bE] at al
   rw[fk,al] at this
   exact this
end
theorem wA:∀ (gs:List Nat) (m:Nat),oj (some (m:Int)) (gs.map fun n=>((n:Nat):Int))=some ((max (m+1) (aZ gs):Nat) - 1:Int)
 | [],m=>by
  show some (m:Int)=_
  congr 1
  simp[aZ]
 | a::gs,m=>by
  rw[bo,oj,lM]
  by_cases h:(a:Int) > (m:Int)
  ·rw[if_pos h,wA gs a]
   congr 2
   have:m<a:=by omega
   omega
  ·rw[if_neg h,wA gs m]
   congr 2
   have:¬ m<a:=by omega
   omega
theorem sN (gs:List Nat):Il (V.int (-1)) (oj none (gs.map fun n=>((n:Nat):Int)))=V.int ((aZ gs:Int) - 1):=by
 cases gs with
 | nil=>rfl
 | cons a gs =>
  rw[bo,oj,wA,lM]
  rfl
def Q6 (H:Hp)(v:V):Option (List Nat)→Prop
 | some l=>∃ t,v=.ref t∧H t=some (.lst (eT l))
 | none=>v=.hC
def Df (m:Nat):Sp:=fun vs H Q _=>∃ (p g:aj) (cs:List bJ) (gs:List Nat) (lim:Nat),vs=[.ref p,iv lim,.ref g]∧gE H p cs∧H g=some (.lst (eT gs))∧gs.length≤cs.length∧cs.length<gs.length+m∧cs.length≤1000∧lim≤5000000000∧aZ gs≤gs.length ∧
 ∀ H' v,aM H H'→Q6 H' v ((gf lim (cs.zip gs) (aZ gs) (cs.drop gs.length)).map (gs++·))→Q v H'
theorem KH (gs:List Nat)(k:Nat)(h:k≤aZ gs):aZ (gs++[k])=if k=aZ gs then aZ gs+1 else aZ gs:=by
 have:aZ (gs++[k])=max (aZ gs) (k+1):=by
  unfold aZ
  rw[List.foldl_append]
  rfl
 rw[this]
 split<;>omega
theorem Dt {α β:Type}:∀ {l:List α} {m:List β} {c:α} {k:β},l[m.length]?=some c→l.zip (m++[k])=l.zip m++[(c,k)]
 | a::l,[],c,k,h=>by
  cases aJ h
  simp
 | [],[],c,k,h=>by simp at h
 | [],b::m,c,k,h=>by simp at h
 | a::l,b::m,c,k,h=>by
  rw[qb,jI,jI,qb,Dt (l:=l) (m:=m) h]
def MA (lim:Nat)(had:List (bJ×Nat))(n:Nat)(c:bJ)(l:List bJ)(k:Nat):Option (List Nat) :=
 if yr had c k=true then (gf lim (had++[(c,k)]) (if k=n then n+1 else n) l).map fun r=>k::r else none
theorem Of (lim:Nat)(had:List (bJ×Nat))(n:Nat)(c:bJ)(l:List bJ):gf lim had n (c::l)=(bp (min lim (n+1))).findSome? (MA lim had n c l):=rfl
theorem zB {α:Type}(f:Nat→Option α):∀ (n k:Nat) (v:α),k<n→(∀ j<k,f j=none)→f k=some v→(bp n).findSome? f=some v
 | 0,k,v,h,_,_=>by omega
 | n+1,k,v,h,h1,h2=>by
  rw[TX,sR]
  by_cases e:k=n
  ·subst e
   rw[iG fun a ha=>h1 a (dH.mp ha)]
   simp[h2]
  ·rw[zB f n k v (by omega) h1 h2]
   rfl
theorem xK {α:Type}(f:Nat→Option α)(n:Nat)(h:∀ j<n,f j=none):(bp n).findSome? f=none:=iG fun a ha=>h a (dH.mp ha)
section
variable {P:aY}{w:bO}{K:ai}{mg:cp→Option ag}{base:bU}
theorem MG:bW ["patterns","limit","given","number","way"] ["patterns","limit","given"] (bF UT):=⟨rfl,rfl,rfl,by decide +kernel,rfl,by decide +kernel,by decide +kernel⟩
theorem NF {f ff:aj}{fd fdf:bI}(F:jt K "first_way" "first_way" UT f fd)(T:Mw K mg)(hmin:mg "min"=none)(hmax:mg "max"=none)(hrg:mg "range"=none)
  (G:cO P w K mg base fB 2 ff fdf ["patterns","given","number"] Nt)(mf:mg "fits"=some (.ref ff))(kf:aP K (.ref ff)=true)(bf:Binds K fdf ["patterns","given","number"] [])
  (mw:mg "first_way"=some (.ref f))(kw:aP K (.ref f)=true)(bw:Binds K fd ["patterns","limit","given"] []) :
  ∀ m,cO P w K mg base fB (m+2) f fd ["patterns","limit","given"] (Df m)
 | 0=>by
  have no:∀ vs H Q E,¬ Df 0 vs H Q E:=fun vs H Q E h=>by
   obtain ⟨p,g,cs,gs,lim,rfl,_,_,h1,h2,_⟩:=h
   omega
  exact ⟨fun vs H Q E h=>(no _ _ _ _ h).elim,fun A outer s H args us vs Q E _ _ _ _ h=>(no _ _ _ _ h).elim⟩
 | m+1=>by
  have R:=NF F T hmin hmax hrg G mf kf bf mw kw bw m
  refine F.ok (k:=m+2) MG (fun vs H Q E h=>?_) (fun iq A outer s H vs Q E hr h=>?_)
  ·obtain ⟨p,g,cs,gs,lim,rfl,_⟩:=h
   rfl
  ·obtain ⟨p,g,cs,gs,lim,rfl,hp,hg,l1,l2,l3,l4,l5,k⟩:=h
   obtain ⟨rs,hp1,pc⟩:=id hp
   have hr2:fO 2 _:=hr.mono (by omega)
   refine ⟨_,aF (eE (bS gw (bP bD (by rfl) T.len bb (ah (pv 2) aB)) (bP bD (by rfl) T.len bb (ah (pv 0) aB)) (cj _)) (aQ (bL (pv 2))) cU)
    (aF (gp bH rfl (oO rfl hrg (ah (bP (LH rfl) (by rfl) hmin FD (ah (pv 1) (ah (dX eL (xZ rfl (by rfl) hmax (ah (pv 2) aB) (qG lW aW)) aW) aB))) aB)) (cI (i:=3) MG.nd rfl (bj rfl))
     (aQ (eE (pj (bY G hr2 (by rfl) mf kf bf .nil cR (ah (pv 0) (ah (pv 2) (ah (pv 3) aB)))))
      (aF (cw (i:=4) MG.nd rfl (bj rfl) (bY R hr (by rfl) mw kw bw .nil cR (ah (pv 0) (ah (pv 1) (ah (dX jk (pv 2) (cP (ah (pv 3) aB))) aB)))))
       (aQ (eE (bS x4 (pv 4) nM (cj _)) (aQ (bL (pv 4))) cU)))
      cU)))
    (aQ (bL nM))),?_⟩
   have hln:(rs.map V.ref).length=cs.length:=by rw[ae,bz pc]
   have hgl:(eT gs).length=gs.length:=ae ..
   refine ⟨_,rfl,g,_,rfl,.inl (cG.of hg),_,rfl,p,_,rfl,.inl (cG.of hp1),rfl,_,rfl,?_⟩
   rw[hln,hgl]
   refine gD (fun h1=>?_) fun h1=>?_
   ·have e:gs.length=cs.length:=by
     have:=of_decide_eq_true h1
     injection this with this
     omega
    refine ⟨_,rfl,k H _ (aM.refl _) ?_⟩
    rw[e,p9]
    exact ⟨g,rfl,by show H g=some (.lst (eT (gs++[])));rw[bV];exact hg⟩
   have ne:gs.length<cs.length:=Qs l1 fun z=>h1 (decide_eq_true (by rw[z]))
   have hc:cs[gs.length]?=some cs[gs.length]:=aE ne
   have hdrop:cs.drop gs.length=cs[gs.length]::cs.drop (gs.length+1):=dt ne
   rw[hdrop,Of] at k
   have hgi:eT gs=(gs.map fun n=>((n:Nat):Int)).map V.int:=by rw[br];rfl
   refine ⟨_,rfl,_,rfl,_,rfl,g,_,rfl,cG.of (hgi▸hg),_,2,sN gs,rfl,(lim:Int),(aZ gs:Int) - 1+2,rfl,((min lim (aZ gs+1):Nat):Int),?_,?_,?_,?_⟩
   ·congr 2
    have:((aZ gs:Int) - 1+2<(lim:Int))↔aZ gs+1<lim:=by omega
    by_cases q:aZ gs+1<lim
    ·rw[if_pos (this.mpr q)];omega
    ·rw[if_neg fun z=>q (this.mp z)];omega
   ·omega
   ·omega
   rw[bR]
   refine oP (fun i σ H'=>∃ v3 v4:Option V,σ=[some (.ref p),some (iv lim),some (.ref g),v3,v4]∧aM H H'∧∀ j<i,MA lim (cs.zip gs) (aZ gs) cs[gs.length] (cs.drop (gs.length+1)) j=none)
    ⟨none,none,rfl,aM.refl _,fun j h=>by omega⟩ ?_ ?_
   ·rintro i σ H1 hi ⟨v3,v4,rfl,s1,al⟩
    have ei:(0:Int)+(i:Int)=(i:Int):=GO _
    rw[ei]
    refine ⟨_,rfl,_,rfl,_,rfl,p,g,cs,gs,i,_,rfl,hp.same s1,s1 _ _ hg,hc,fun H2 s2=>⟨_,rfl,?_⟩⟩
    have s12:=s1.trans s2
    refine gD (fun h2=>?_) fun h2=>?_
    ·
     refine cn ⟨_,rfl,_,rfl,_,rfl,_,rfl,(by show 1≤aA;decide),fun q hq=>?_⟩
     have s3:=aM.new (o:=.lst [iv i]) hq
     refine ⟨g,q,_,_,rfl,rfl,s3 _ _ (s12 _ _ hg),aw,?_,fun q2 hq2=>?_⟩
     ·rw[hgl]
      exact aD (show gs.length+1≤1001 by omega) (by decide)
     have s4:=aM.new (o:=.lst (eT gs++[iv i])) hq2
     have s14:=(s12.trans s3).trans s4
     have ol:=KH gs i (by omega)
     have ga:eT gs++[iv i]=eT (gs++[i]):=(aX (f:=iv) (l₁:=gs) (l₂:=[i])).symm
     refine ⟨p,q2,cs,gs++[i],lim,rfl,hp.same s14,by rw[aw,ga],?_,?_,l3,l4,?_,fun H5 v s5 hv=>?_⟩
     ·rw[aK];exact ne
     ·rw[aK,gP];omega
     ·rw[ol,aK,gP]
      split<;>omega
     rw[Dt hc,ol,aK,gP] at hv
     have tw:MA lim (cs.zip gs) (aZ gs) cs[gs.length] (cs.drop (gs.length+1)) i=(gf lim (cs.zip gs++[(cs[gs.length],i)]) (if i=aZ gs then aZ gs+1 else aZ gs) (cs.drop (gs.length+1))).map fun r=>i::r:=if_pos h2
     have s15:=s14.trans s5
     generalize gf lim (cs.zip gs++[(cs[gs.length],i)]) (if i=aZ gs then aZ gs+1 else aZ gs) (cs.drop (gs.length+1))=res at hv tw
     refine ⟨_,rfl,rfl,_,rfl,?_⟩
     cases res with
     | none =>
      have hv:v=.hC:=hv
      subst hv
      exact nI ⟨_,_,rfl,s15,fun j hj=>by
       by_cases z:j=i
       ·rw[z];exact tw
       ·exact al j (by omega)⟩
     | some r =>
      obtain ⟨t,rfl,ht⟩:=hv
      refine o9 ⟨_,rfl,k H5 _ s15 ?_⟩
      rw[zB _ _ i (i::r) hi al tw]
      exact ⟨t,rfl,by rw[ht];simp⟩
    ·refine ⟨_,_,rfl,s12,fun j hj=>?_⟩
     by_cases z:j=i
     ·rw[z];exact if_neg h2
     ·exact al j (by omega)
   ·rintro σ H1 ⟨v3,v4,rfl,s1,al⟩
    refine k H1 _ s1 ?_
    rw[xK _ _ al]
    rfl
end
abbrev UY:d5:=top 37
def FL:Sp:=fun vs H Q _=>∃ (p:aj) (cs:List bJ),vs=[.ref p]∧gE H p cs∧cs.length≤8∧∀ H' t,aM H H'→H' t=some (.lst (eT (bC cs)))→Q (.ref t) H'
def MD:Sp:=fun vs H Q _=>∃ (p:aj) (cs:List bJ) (e i:Nat),vs=[.ref p,iv e,iv i]∧gE H p cs∧(∀ c∈cs,i<c.sounds.length)∧∀ H',aM H H'→Q (iv (jR cs e i)) H'
theorem A9 {α β:Type}(f:α→Option β):∀ (l:List α) (k:Nat) (a:α) (v:β),l[k]?=some a→(∀ j b,j<k→l[j]?=some b→f b=none)→f a=some v→l.findSome? f=some v
 | [],k,a,v,h,_,_=>by simp at h
 | b::l,0,a,v,h,_,h2=>by
  cases aJ h
  rw[eh,h2]
 | b::l,k+1,a,v,h,h1,h2=>by
  rw[eh,h1 0 b (by omega) rfl]
  exact A9 f l k a v h (fun j c hj hc=>h1 (j+1) c (by omega) hc) h2
section
variable {P:aY}{w:bO}{K:ai}{mg:cp→Option ag}{base:bU}
theorem yx:bW ["patterns","limit","way"] ["patterns"] (bF MR):=⟨rfl,rfl,rfl,by decide +kernel,rfl,by decide +kernel,by decide +kernel⟩
theorem RK {f fw:aj}{fd fdw:bI}(F:jt K "give_old_sounds" "give_old_sounds" MR f fd)(G:cO P w K mg base fB 11 fw fdw ["patterns","limit","given"] (Df 9))(mw:mg "first_way"=some (.ref fw))(kw:aP K (.ref fw)=true)(bw:Binds K fdw ["patterns","limit","given"] []) :
  cO P w K mg base fB 12 f fd ["patterns"] FL:=by
 refine F.ok yx (fun vs H Q E h=>?_) (fun iq A outer s H vs Q E hr h=>?_)
 ·obtain ⟨p,cs,rfl,_⟩:=h
  rfl
 ·obtain ⟨p,cs,rfl,hp,hl,k⟩:=h
  have olf:=xk cs
  refine ⟨_,aF (cw (i:=1) yx.nd rfl (bj rfl) aW)
   (aF (cw (i:=2) yx.nd rfl (bj rfl) (bY G hr rfl mw kw bw .nil cR (ah (pv 0) (ah (pv 1) (ah (cP aB) aB)))))
   (aF (mn bH (bS Gj (pv 2) nM (cj _))
    (aF (cw (i:=1) yx.nd rfl (bj rfl) (dX eL (pv 1) aW))
    (aQ (cw (i:=2) yx.nd rfl (bj rfl) (bY G hr rfl mw kw bw .nil cR (ah (pv 0) (ah (pv 1) (ah (cP aB) aB))))))))
   (aQ (bL (pv 2))))),?_⟩
  have ask:∀ (H1:Hp) (q:aj) (lim:Nat) (R:V→Hp→Prop),aM H H1→H1 q=none→lim≤8→(∀ H2 v,aM H H2→Q6 H2 v (gf lim [] 0 cs)→R v H2)→Df 9 ([.ref p,iv lim,.ref q]++[]) (upd H1 q (.lst [])) R E0:=fun H1 q lim R s1 hq hlim fin=>by
   refine ⟨p,q,cs,[],lim,rfl,hp.same (s1.trans (aM.new hq)),aw,aR _,by simp;omega,by omega,by omega,aR _,fun H2 v s2 hv=>?_⟩
   refine fin H2 v ((s1.trans (aM.new hq)).trans s2) ?_
   have z:gf lim (cs.zip []) (aZ []) (cs.drop ([]:List Nat).length)=gf lim [] 0 cs:=by
    rw[vp]
    rfl
   rw[z] at hv
   generalize gf lim [] 0 cs=res at hv ⊢
   cases res with
   | none=>exact hv
   | some r=>exact hv
  refine cn (cn ⟨_,rfl,_,rfl,aR _,fun q hq=>ask H q 0 _ (aM.refl _) hq (by omega) fun H2 v s2 hv=>?_⟩)
  refine iL (fun σ H'=>∃ t,σ=[some (.ref p),some (iv (aZ (bC cs))),some (.ref t)]∧aM H H'∧H' t=some (.lst (eT (bC cs)))) (fun go=>?_) ?_
  ·refine ⟨fun m σ H'=>∃ (lim:Nat) (v:V),σ=[some (.ref p),some (iv lim),some v]∧m+lim=aZ (bC cs)∧aM H H'∧Q6 H' v (gf lim [] 0 cs),⟨_,0,v,rfl,rfl,s2,hv⟩,?_⟩
   rintro m σ H3 ⟨lim,v,rfl,hm,s3,hv⟩
   refine ⟨_,rfl,rfl,_,rfl,?_⟩
   by_cases e:m=0
   ·have el:lim=aZ (bC cs):=by omega
    rw[el,U7] at hv
    obtain ⟨t,rfl,ht⟩:=hv
    refine nI (go _ _ ⟨t,by rw[el],s3,ht⟩)
   ·rw[Aw cs lim (by omega)] at hv
    have hv:v=.hC:=hv
    subst hv
    refine o9 ⟨fun σ H'=>∃ v,σ=[some (.ref p),some (iv (lim+1)),some v]∧aM H H'∧Q6 H' v (gf (lim+1) [] 0 cs),fun σ' H' ⟨v,e1,e2,e3⟩=>⟨m - 1,by omega,lim+1,v,e1,by omega,e2,e3⟩,?_⟩
    refine cn ⟨_,rfl,_,_,rfl,rfl,⟨_,rfl,_,rfl,aR _,fun q hq=>ask H3 q (lim+1) _ s3 hq (by omega) fun H4 v s4 hv=>⟨v,rfl,s4,hv⟩⟩⟩
  ·rintro σ H3 ⟨t,rfl,s3,ht⟩
   exact ⟨_,rfl,k H3 t s3 ht⟩
theorem Uj:bW ["patterns","surroundings","language","pattern"] ["patterns","surroundings","language"] (bF UY):=⟨rfl,rfl,rfl,by decide +kernel,rfl,by decide +kernel,by decide +kernel⟩
theorem Vx {f:aj}{fd:bI}(F:jt K "becomes" "becomes" UY f fd)(T:Mw K mg):cO P w K mg base fB 1 f fd ["patterns","surroundings","language"] MD:=by
 obtain ⟨tu,hun⟩:=T.WB
 refine F.ok Uj (fun vs H Q E h=>?_) (fun iq A outer s H vs Q E hr h=>?_)
 ·obtain ⟨p,cs,e,i,rfl,_⟩:=h
  rfl
 ·obtain ⟨p,cs,e,i,rfl,⟨rs,hp,pc⟩,hi,k⟩:=h
  refine ⟨_,aF (gp bH rfl (d9 (pv 0)) (cI (i:=3) Uj.nd rfl (bj rfl))
    (aQ (eE (ph (bS gw (cy dO (pv 3) aW (fun _ _=>rfl)) (pv 1) (cj _)) (pB (bS wN (cy dO (cy dO (pv 3) aW (fun _ _=>rfl)) (pv 2) (fun _ _=>rfl)) (bX (v:=.int 0) (by rfl) hun ⟨_,rfl⟩) (cj _)))).pt
     (aQ (bL (cy dO (cy dO (pv 3) aW (fun _ _=>rfl)) (pv 2) (fun _ _=>rfl)))) cU)))
   (aQ (bL (bX (v:=.int 0) (by rfl) hun ⟨_,rfl⟩))),?_⟩
  refine ⟨_,rfl,p,rfl,⟨_,cG.of hp⟩,iC (K:=K) (a:=p) (xs:=rs.map V.ref) (fun j σ H'=>∃ v3:Option V,σ=[some (.ref p),some (iv e),some (iv i),v3]∧H'=H∧∀ m c,m<j→cs[m]?=some c→uC e i c=none)
   ⟨none,rfl,rfl,fun m c h=>by omega⟩ (fun j σ H' _ ⟨_,_,e1,_⟩=>e1▸cG.of hp) ?_ ?_⟩
  ·rintro j y σ H1 hj ⟨v3,rfl,rfl,al⟩
   obtain ⟨a,ha,rfl⟩:=eZ hj
   obtain ⟨c,hc,b,c1,c2⟩:=cX pc ha
   have hil:=hi c (aV hc)
   have hs:c.sounds[i]?=some c.sounds[i]:=aE hil
   have next:uC e i c=none→∃ v3:Option V,[some (V.ref p),some (iv e),some (iv i),some (V.ref a)]=[some (.ref p),some (iv e),some (iv i),v3]∧H1=H1∧∀ m d,m<j+1→cs[m]?=some d→uC e i d=none:=fun q =>
    ⟨_,rfl,rfl,fun m d hm hd=>by
     by_cases z:m=j
     ·subst z;rw[hc] at hd;cases hd;exact q
     ·exact al m d (by omega) hd⟩
   refine ⟨_,rfl,a,_,0,_,rfl,rfl,fN.of c1,cg (j:=0) rfl,_,rfl,rfl,_,rfl,?_⟩
   refine gD (fun h1=>?_) fun h1=>?_
   ·have h1:=wU.mp h1
    refine ⟨_,rfl,a,_,1,_,rfl,rfl,fN.of c1,cg (j:=1) rfl,_,rfl,b,_,_,_,rfl,rfl,fN.of c2,cg (tS hil),rfl,_,rfl,?_⟩
    refine gD (fun h2=>?_) fun h2=>?_
    ·have h2:=qH.mp h2
     refine ⟨_,rfl,a,_,1,_,rfl,rfl,fN.of c1,cg (j:=1) rfl,_,rfl,b,_,_,_,rfl,rfl,fN.of c2,cg (tS hil),?_⟩
     have:=k _ (aM.refl _)
     rw[show jR cs e i=c.sounds[i] by
      unfold jR
      rw[A9 (uC e i) cs j c c.sounds[i] hc al (by unfold uC xS;rw[if_pos h1,hs];exact if_neg h2)]
      rfl] at this
     exact this
    ·have h2:c.sounds[i]=0:=dR fun z=>h2 (qH.mpr z)
     refine next ?_
     unfold uC xS
     rw[if_pos h1,hs,h2]
     rfl
   ·exact nI (next (if_neg fun z=>h1 (wU.mpr z)))
  ·rintro σ H1 ⟨v3,rfl,rfl,al⟩
   have:=k _ (aM.refl _)
   rw[show jR cs e i=0 by
    unfold jR
    rw[iG fun c hc=>by
     obtain ⟨m,hm⟩:=kQ.mp hc
     refine al m c ?_ hm
     rw[ae,bz pc]
     exact (bT.mp hm).1]
    rfl] at this
   exact this
end
end Sk
namespace Fw
open PySem
def lB (t:SetTable):Prop:=t.place.toList.Pairwise (·<·)∧t.dummies=#[]
theorem yS (xs:Array Nat)(j:Nat)(hr:xs.toList.Pairwise (·<·)):∀ (f lo hi:Nat),hi - lo≤f→lo≤hi→hi≤xs.size→(∀ i (h:i<xs.size),i<lo→xs[i]<j)→(∀ i (h:i<xs.size),hi≤i→j≤xs[i]) →
  SetTable.below.go xs j f lo hi≤xs.size∧(∀ i (h:i<xs.size),i<SetTable.below.go xs j f lo hi→xs[i]<j)∧(∀ i (h:i<xs.size),SetTable.below.go xs j f lo hi≤i→j≤xs[i])
 | 0,lo,hi,hf,hle,hs,h1,h2=>by
  have e:lo=hi:=by omega
  unfold SetTable.below.go
  exact ⟨by omega,h1,fun i h q=>h2 i h (by omega)⟩
 | f+1,lo,hi,hf,hle,hs,h1,h2=>by
  have mono:∀ i k (hi:i<xs.size) (hk:k<xs.size),i<k→xs[i]<xs[k]:=fun i k hi hk q=>by
   have:=g6.mp hr i k (by simpa using hi) (by simpa using hk) q
   simpa using this
  unfold SetTable.below.go
  by_cases c:lo<hi
  ·rw[if_pos c]
   have hm:(lo+hi) / 2<xs.size:=by omega
   have g:xs.getD ((lo+hi) / 2) j=xs[(lo+hi) / 2]:=by simp[Kf,hm]
   dsimp only
   rw[g]
   by_cases q:xs[(lo+hi) / 2]<j
   ·rw[if_pos q]
    refine yS xs j hr f _ hi (by omega) (by omega) hs (fun i h z=>?_) h2
    by_cases e:i=(lo+hi) / 2
    ·subst e;exact q
    ·exact kD (mono i _ h hm (by omega)) q
   ·rw[if_neg q]
    refine yS xs j hr f lo _ (by omega) (by omega) (by omega) h1 (fun i h z=>?_)
    by_cases e:i=(lo+hi) / 2
    ·subst e;omega
    ·exact aD (by omega) (kE (mono _ i hm h (by omega)))
  ·rw[if_neg c]
   exact ⟨by omega,h1,fun i h z=>h2 i h (by omega)⟩
theorem ug (xs:Array Nat)(j:Nat)(hr:xs.toList.Pairwise (·<·)):SetTable.below xs j≤xs.size∧(∀ i (h:i<xs.size),i<SetTable.below xs j→xs[i]<j)∧(∀ i (h:i<xs.size),SetTable.below xs j≤i→j≤xs[i]) :=
 yS xs j hr _ 0 xs.size (by omega) (by omega) (aL _) (fun i _ h=>by omega) (fun i h q=>by omega)
theorem Kr {t:SetTable}{j:Nat}(hr:lB t)(h:t.slot j=.empty):∀ x∈t.place.toList,x≠j:=by
 intro x hx e
 subst e
 obtain ⟨i,hi,rfl⟩:=uz hx
 have hi':i<t.place.size:=by simpa using hi
 obtain ⟨b1,b2,b3⟩:=ug t.place t.place.toList[i] hr.1
 have e:SetTable.below t.place t.place.toList[i]=i:=by
  by_cases q:i<SetTable.below t.place t.place.toList[i]
  ·have:=b2 i hi' q
   simp at this
  ·by_cases q2:SetTable.below t.place t.place.toList[i]<i
   ·have hb:SetTable.below t.place t.place.toList[i]<t.place.size:=by omega
    have h1:=b3 _ hb (aL _)
    have h2:=g6.mp hr.1 _ i (by simpa using hb) hi q2
    simp at h1 h2
    omega
   ·omega
 unfold SetTable.slot at h
 dsimp only at h
 rw[e] at h
 have:t.place[i]?=some t.place.toList[i]:=by
  rw[cx hi']
  simp
 rw[this] at h
 simp at h
theorem D0 {t:SetTable}(hr:lB t)(j:Nat):SetTable.has t.dummies j=false:=by rw[hr.2];simp[SetTable.has]
theorem GZ {t:SetTable}(hr:lB t)(j:Nat):t.slot j≠.dummy:=by
 intro h
 unfold SetTable.slot at h
 dsimp only at h
 rw[D0 hr] at h
 split at h
 ·cases h
 ·simp at h
theorem DT {t:SetTable}(hr:lB t)(f:Nat→Int)(h:Int):∀ (n:Nat) (p:SetTable.Probe) (j:Nat) (d:Option Nat),p.dummy=none→SetTable.probe.go t f h n p=some (.empty j d)→d=none∧t.slot j=.empty
 | 0,p,j,d,_,e=>by simp[SetTable.probe.go] at e
 | n+1,p,j,d,hp,e=>by
  unfold SetTable.probe.go at e
  cases q:t.slot p.j with
  | empty =>
   rw[q] at e
   simp at e
   obtain ⟨rfl,rfl⟩:=e
   exact ⟨hp,q⟩
  | dummy=>exact absurd q (GZ hr _)
  | live i =>
   rw[q] at e
   dsimp only at e
   split at e
   ·cases e
   ·refine DT hr f h n _ j d ?_ e
    unfold SetTable.advance
    split
    ·exact hp
    ·exact hp
theorem Lo {t:SetTable}(hr:lB t){h:Int}{j:Nat}{wd:Bool}(e:t.freeSlot h=some (j,wd)):wd=false∧∀ x∈t.place.toList,x≠j:=by
 unfold SetTable.freeSlot at e
 split at e
 ·rename_i a b q
  obtain ⟨z,hs⟩:=DT hr _ h _ _ a b rfl q
  subst z
  simp at e
  obtain ⟨rfl,rfl⟩:=e
  exact ⟨rfl,Kr hr hs⟩
 ·cases e
theorem EV {xs:Array Nat}{j:Nat}(hr:xs.toList.Pairwise (·<·))(hn:∀ x∈xs.toList,x≠j):(SetTable.insertAt xs (SetTable.below xs j) j).toList.Pairwise (·<·):=by
 obtain ⟨b1,b2,b3⟩:=ug xs j hr
 rw[SetTable.toList_insertAt]
 have e:xs.toList=xs.toList.take (SetTable.below xs j)++xs.toList.drop (SetTable.below xs j):=(kP _ _).symm
 have dQ:=hr
 rw[e,tJ] at dQ
 obtain ⟨r1,r2,r3⟩:=dQ
 have lo:∀ x∈xs.toList.take (SetTable.below xs j),x<j:=fun x hx=>by
  obtain ⟨i,hi,rfl⟩:=uz hx
  rw[bM] at hi
  have:=b2 i (by simp at hi;omega) (by omega)
  simpa using this
 have up:∀ x∈xs.toList.drop (SetTable.below xs j),j<x:=fun x hx=>by
  have ne:=hn x (JV hx)
  obtain ⟨i,hi,rfl⟩:=uz hx
  rw[cq] at hi
  have:=b3 (SetTable.below xs j+i) (by simp at hi;omega) (by omega)
  simp at this ne ⊢
  omega
 simp only[tJ,dE,bq,aI,bB,dB,List.singleton_append]
 refine ⟨r1,⟨fun x hx=>up x hx,r2⟩,fun a ha b hb=>?_⟩
 rcases hb with rfl | hb
 ·exact lo a ha
 ·exact kD (lo a ha) (up b hb)
theorem Hf (n:Nat):(Array.range n).toList.Pairwise (·<·):=by
 rw[Array.toList_range]
 exact qB
theorem lJ (t:SetTable)(n:Nat):lB (t.standIn n):=⟨Hf n,rfl⟩
theorem EU {t:SetTable}(hr:lB t)(es:Array (Int×ag))(h:Int)(x:ag):lB (layNew t es h x).2.1∧(layNew t es h x).2.1.led=t.led:=by
 unfold layNew
 cases e:t.freeSlot h with
 | none=>exact ⟨lJ _ _,rfl⟩
 | some p =>
  obtain ⟨j,wd⟩:=p
  obtain ⟨_,hn⟩:=Lo hr e
  have r:lB (t.put j).1:=by
   unfold SetTable.put
   refine ⟨EV hr.1 hn,?_⟩
   show (if SetTable.has t.dummies j=true then _ else t.dummies)=#[]
   rw[D0 hr]
   exact hr.2
  dsimp only
  unfold SetTable.orStandIn
  split
  ·exact ⟨r,rfl⟩
  ·exact ⟨lJ _ _,rfl⟩
theorem SH {f:Nat→Option (Nat×Nat)}(hf:∀ j p,f j=some p→p.1=j):∀ {l:List Nat},l.Pairwise (·<·)→((l.filterMap f).map (·.1)).Pairwise (·<·):=by
 intro l h
 rw[gi,List.pairwise_filterMap]
 refine h.imp fun {a b} q p hp r hr=>?_
 rw[hf a p hp,hf b r hr]
 exact q
theorem Hd {t:SetTable}(es:Array (Int×ag))(n:Nat):lB (relayAll t es n).2.1∧(relayAll t es n).2.1.led=t.led:=by
 unfold relayAll
 cases e:t.relaid (es.map (·.1)) n with
 | none=>exact ⟨lJ _ _,rfl⟩
 | some p =>
  obtain ⟨t',order⟩:=p
  dsimp only
  split
  ·unfold SetTable.relaid SetTable.laid at e
   cases q:SetTable.layClean (SetTable.sizeAbove n - 1) (es.map (·.1)) with
   | none=>rw[q] at e;cases e
   | some owner =>
    rw[q] at e
    simp at e
    obtain ⟨rfl,_⟩:=e
    refine ⟨⟨?_,rfl⟩,rfl⟩
    refine SH (fun j p hp=>?_) qB
    simp at hp
    obtain ⟨w,_,rfl⟩:=hp
    rfl
  ·exact ⟨lJ _ _,rfl⟩
def J3 (e:Int×ag):Int:=match e.2 with
 | .int n _=>n
 | _=>0
def lA (es:Array (Int×ag)):List Int:=es.toList.map J3
def De (l:List (Int×ag)):Prop:=∀ e∈l,∃ n u,e=(hashInt n,ag.int n u)
def d6 (es:Array (Int×ag))(ep:Nat)(t:SetTable):fA:={cls:=.type "set",dict:=none,data:=.set es ep t,slots:=#[]}
def md (h:bU)(a:aj)(ns:List Int)(led:Bool):Prop :=
 ∃ es ep t,h.get? a=some (d6 es ep t)∧De es.toList∧(lA es).Nodup∧(∀ k,k∈lA es↔k∈ns)∧es.size≤ns.length∧t.fits es.size=true∧lB t∧t.led=led
theorem De.elems {l:List (Int×ag)}(h:De l)(prog:aY)(w:bO):ElemsOf (intKind prog w) l:=fun e he=>by
 obtain ⟨n,u,rfl⟩:=h e he
 exact ⟨⟨n,by simp[intKind,ag.isInt],rfl⟩,rfl⟩
theorem De.perm {l m:List (Int×ag)}(h:De l)(p:m.Perm l):De m:=fun e he=>h e (p.mem_iff.mp he)
section
variable {prog:aY}{w:bO}{A:cA}{E:ag→au→Prop}{s:au}
theorem Jo {b:Bool}{s₁:au}{Q:Unit→au→Prop}(h:Q () s₁):wpAny (model prog w) A (match b with | true=>rule "set.scan.the-table-gave-way" | false=>pure ()) Q E s₁:=by
 cases b
 ·exact ak h
 ·exact jm h
theorem IT {h:bU}{a:aj}{es es':Array (Int×ag)}{ep:Nat}{t t':SetTable}(ho:h.get? a=some (d6 es ep t)):(h.update a (fA.putSet es' t')).get? a=some (d6 es' (ep+1) t'):=cQ (fA.putSet es' t') ho rfl
theorem Et {g:Bool→o8 Unit}(hg:∀ (b:Bool) (s₁:au) (Q':Unit→au→Prop),Q' () s₁→wpAny (model prog w) A (g b) Q' E s₁){a:aj}{es:Array (Int×ag)}{ep:Nat}{t:SetTable}(ho:s.heap.get? a=some (d6 es ep t))
  {es1:Array (Int×ag)}{t2:SetTable}{ns:List Int}{led:Bool}(h1:De es1.toList)(h2:(lA es1).Nodup)(h3:∀ k,k∈lA es1↔k∈ns)(h4:es1.size≤ns.length)(h5:es1.size<sT)(h6:t2.fits es1.size=true)(h7:lB t2)(h8:t2.led=led)
  {wd:Bool}{R:Option Bool→au→Prop}(h:∀ h',eC a s.heap h'→md h' a ns led→R (some true) {s with heap:=h'}) :
  wpAny (model prog w) A (do
   storeSet a es1 t2
   if (!wd&&t2.tooFull)=true then do
    g (relayAll t2 es1 (SetTable.grown es1.size)).2.2
    storeSet a (relayAll t2 es1 (SetTable.grown es1.size)).1 (relayAll t2 es1 (SetTable.grown es1.size)).2.1
    pure (some true)
   else pure (some true)) R E s:=by
 refine aa (wpAny_storeSet_of (o:=d6 es ep t) ho rfl ?_ (fits_of_scanBound h5))
 have g1:=IT (es':=es1) (t':=t2) ho
 have sb1:=c6 s.heap a (fA.putSet es1 t2)
 split
 ·refine aa (hg _ _ _ ?_)
  have p:=relayAll_perm t2 es1 (SetTable.grown es1.size)
  have f:=relayAll_fits t2 es1 (SetTable.grown es1.size)
  obtain ⟨r,l⟩:=Hd (t:=t2) es1 (SetTable.grown es1.size)
  generalize relayAll t2 es1 (SetTable.grown es1.size)=Z at p f r l ⊢
  have z:Z.1.size=es1.size:=by rw[← cM,p.length_eq,cM]
  have pv:(lA Z.1).Perm (lA es1):=p.map _
  refine aa (wpAny_storeSet_of (o:=d6 es1 (ep+1) t2) g1 rfl ?_ (by rw[z];exact fits_of_scanBound h5))
  refine ak (h _ (sb1.trans (c6 _ a _)) ⟨Z.1,_,Z.2.1,IT g1,h1.perm p,pv.nodup_iff.mpr h2,fun k=>(pv.mem_iff).trans (h3 k),by rw[z];exact h4,f,r,l.trans h8⟩)
 ·exact ak (h _ sb1 ⟨es1,_,t2,g1,h1,h2,h3,h4,h6,h7,h8⟩)
theorem add_int {a:aj}{ns:List Int}{led:Bool}{k:Int}{u:Tok}{Q:Bool→au→Prop}(hS:md s.heap a ns led)(room:ns.length+1<sT)
  (h:∀ b h',eC a s.heap h'→md h' a (ns++[k]) led→Q b {s with heap:=h'}):wpAny (model prog w) A (setAddHashed a (.int k u) (hashInt k)) Q E s:=by
 obtain ⟨es,ep,t,ho,hI,hn,hm,hl,hf,hr,hd⟩:=hS
 have el:=hI.elems prog w
 have hb:es.size<sT:=by omega
 unfold setAddHashed setAddHashedIn
 refine dj (aa (jb (o:=d6 es ep t) ho rfl hf ?_))
 dsimp only
 rw[byScan_of (knd:=intKind prog w) (x:=ag.int k u) rfl hb el]
 simp only[↓reduceIte]
 unfold setAddByScan
 refine aa (aa (jm (aa (wpAny_setScan_of (knd:=intKind prog w) (k:=k) (x:=ag.int k u) (show ag.isInt k (ag.int k u)=true by simp[ag.isInt]) (o:=d6 es ep t) ho rfl hf el ?_))))
 have old:k∈lA es→md s.heap a (ns++[k]) led:=fun hk=>⟨es,ep,t,ho,hI,hn,fun x=>by
  rw[bq,bB,← hm x]
  exact ⟨.inl,fun q=>q.elim id fun e=>e▸hk⟩,by rw[aK];omega,hf,hr,hd⟩
 cases hx:es.toList.findIdx? (fun e=>(intKind prog w).is k e.2) with
 | some j =>
  dsimp only
  obtain ⟨hj,hp,_⟩:=List.findIdx?_eq_some_iff_getElem.mp hx
  have hk:k∈lA es:=by
   refine aU.mpr ⟨_,kW hj,?_⟩
   obtain ⟨v,e⟩:=ag.isInt_shape hp
   unfold J3
   rw[e]
  refine ak (ak ?_)
  have:=h false s.heap (eC.refl a s.heap) (old hk)
  cases s
  exact this
 | none =>
  dsimp only
  have hk:¬ k∈lA es:=fun q=>by
   obtain ⟨e,he,z⟩:=aU.mp q
   obtain ⟨n,v,rfl⟩:=hI e he
   have z:n=k:=z
   have:=List.findIdx?_eq_none_iff.mp hx _ he
   simp[intKind,ag.isInt,z] at this
  have p:=layNew_perm t es (hashInt k) (.int k u)
  have f:=layNew_fits t es (hashInt k) (.int k u)
  obtain ⟨r,l⟩:=EU hr es (hashInt k) (.int k u)
  generalize layNew t es (hashInt k) (.int k u)=Z at p f r l ⊢
  obtain ⟨es1,t1,wd,gv⟩:=Z
  dsimp only at p f r l ⊢
  rw[wK] at p
  have i1:De es1.toList:=fun e he=>by
   rcases bq.mp (p.mem_iff.mp he) with q | q
   ·exact hI e q
   ·exact ⟨k,u,bB.mp q⟩
  have pv:(lA es1).Perm (lA es++[k]):=by
   have:=p.map J3
   rw[aX] at this
   exact this
  have n1:(lA es1).Nodup:=by
   refine pv.nodup_iff.mpr (Qu.mpr ⟨hn,by simp,fun x qx y qy e=>hk ?_⟩)
   rw[bB] at qy
   rw[← qy,← e]
   exact qx
  have m1:∀ x,x∈lA es1↔x∈ns++[k]:=fun x=>by rw[pv.mem_iff,bq,bq,hm x]
  have z1:es1.size=es.size+1:=by rw[← cM,p.length_eq,aK,cM];rfl
  have z2:es1.size≤(ns++[k]).length:=by rw[aK,z1,gP];omega
  have z3:es1.size<sT:=by omega
  refine aa (Jo ?_)
  have gg:∀ (b:Bool) (s₁:au) (Q':Unit→au→Prop),Q' () s₁→wpAny (model prog w) A (match b with | true=>rule "set.scan.the-table-gave-way" | false=>pure ()) Q' E s₁:=fun b s₁ Q' hq=>Jo hq
  split
  ·refine aa ?_
   rw[hashByValue_scannable 8 (x:=ag.int k u) rfl]
   refine ak ?_
   exact Et gg ho i1 n1 m1 z2 z3 f r (l.trans hd) fun h' sb S'=>ak (h true h' sb S')
  ·refine aa (ak ?_)
   simp only[↓reduceIte]
   exact Et gg ho i1 n1 m1 z2 z3 f r (l.trans hd) fun h' sb S'=>ak (h true h' sb S')
end
end Fw
set_option maxHeartbeats 3200000
namespace Fw
open PySem PyProof.Rows
section
variable {prog:aY}{w:bO}{A:cA}{E:ag→au→Prop}{s:au}
def mJ (w:bO):Bool:=!(w.params.followText "set-order")
theorem RW (a:ag){Q₁:ag→au→Prop}(h:Q₁ (.ref s.heap.objs.size) {s with heap:=s.heap.push (d6 #[] 0 (.fresh 0 0 (mJ w)))}) :
  codeAny (model prog w) A (.call (.builtin "set.__new__") ⟨[.type "set",a],[]⟩) (wants Q₁ E) s:=by
 refine TM F.plain_set_new F.entry_set_new (jn (F.newCall_set_1 a) ?_)
 have sub:=sub_set_self
 obtain ⟨hp,gs,dr,tk,os⟩:=s
 unfold Builtin.«set.__new__» T8
 dsimp only
 wp_walk
 refine Cv (ak ?_)
 simp only[newObj]
 exact aa (wpAny_alloc (ak (ak h)))
theorem Ea {l I S:aj}{its:Array ag}{ns:List Int}{led:Bool}(hh:A.handled=none)(hv:∀ (i:Nat) (n:Int),ns[i]?=some n→∃ t,its[i]?=some (ag.int n t))(hsz:its.size=ns.length)(nIS:I≠S)(nlI:l≠I)(nlS:l≠S)(hb:ns.length+1<sT){R:qM→au→Prop} :
  ∀ (rest:List Int) (i:Nat) (s:au),ns.drop i=rest→i≤ns.length→s.heap.IsListIter I l i→s.heap.IsList l its→md s.heap S (ns.take i) led →
   (∀ h' tk,(∀ c o,c≠I→c≠S→s.heap.get? c=some o→h'.get? c=some o)→md h' S ns led→R (.ok (.ret .none)) {s with heap:=h',toks:=tk}) →
   codeAny (model prog w) A (.builtin "set.update.loop" ⟨[.ref S,.ref I],[]⟩) R s
 | [],i,s,hd,hi,hit,hl,hS,hR=>by
  have e:i=ns.length:=by
   have:=congrArg dF hd
   rw[cq,eG] at this
   omega
  have hx:its[i]?=none:=by rw[mR];omega
  refine eA JX ?_
  rw[dh rR _]
  refine aa (m:=pyNext (.ref I)) (fZ (by simp[hh]) hit hl hx fun h' ex=>?_)
  rw[e,bE] at hS
  refine ak (hR h' s.toks (fun c o n1 _ q=>ex c o n1 q) ?_)
  obtain ⟨es,ep,t,ho,r⟩:=hS
  exact ⟨es,ep,t,ex _ _ nIS.symm ho,r⟩
 | x::r,i,s,hd,hi,hit,hl,hS,hR=>by
  have lt:i<ns.length:=by
   have:=congrArg dF hd
   rw[cq,aS] at this
   omega
  have hx0:ns[i]?=some x:=by rw[← rM,hd];rfl
  have hd':ns.drop (i+1)=r:=by rw[← tp,hd];rfl
  obtain ⟨tx,hx⟩:=hv i x hx0
  refine eA JX ?_
  rw[dh rR _]
  refine aa (m:=pyNext (.ref I)) (fL hit hl hx fun h' hit' sb=>?_)
  have hS':md h' S (ns.take i) led:=by
   obtain ⟨es,ep,t,ho,q⟩:=hS
   exact ⟨es,ep,t,sb.extBut _ _ nIS.symm ho,q⟩
  refine aa (m:=holding [ag.int x tx] (setAdd S (ag.int x tx))) (dj ?_)
  unfold setAdd
  refine dj (aa (wpAny_pyHash_int ?_))
  refine add_int (s:={s with heap:=h',toks:=s.toks+1}) hS' (by rw[bM];omega) fun b h2 sb2 S2=>?_
  rw[show ns.take i++[x]=ns.take (i+1) by rw[oY,hx0];rfl] at S2
  have up:∀ c o,c≠S→h'.get? c=some o→h2.get? c=some o:=fun c o n q=>(sb2.2 c n).trans q
  refine ak ⟨dw rR _,Ea hh hv hsz nIS nlI nlS hb r (i+1) _ hd' lt (let ⟨o,q,z⟩:=hit';⟨o,up _ _ nIS q,z⟩) (let ⟨o,q,z⟩:=hl;⟨o,up _ _ nlS (sb.extBut _ _ nlI q),z⟩) S2 fun h3 tk q S3=>?_⟩
  exact hR h3 tk (fun c o n1 n2 z=>q c o n1 n2 (up c o n2 (sb.extBut _ _ n1 z))) S3
end
end Fw
set_option maxHeartbeats 3200000
namespace Fw
open PySem PyProof.Rows
section
variable {prog:aY}{w:bO}{A:cA}{E:ag→au→Prop}{s:au}
theorem LG {l:aj}{its:Array ag}{ns:List Int}{Q:ag→au→Prop}(hh:A.handled=none)(hl:s.heap.IsList l its)(hv:∀ (i:Nat) (n:Int),ns[i]?=some n→∃ t,its[i]?=some (ag.int n t))(hsz:its.size=ns.length)(hb:ns.length+1<sT)
  (h:∀ h' tk,md h' s.heap.objs.size ns (mJ w)→(∀ b o,s.heap.get? b=some o→h'.get? b=some o)→Q (.ref s.heap.objs.size) {s with heap:=h',toks:=tk}):wpAny (model prog w) A (call (.type "set") [.ref l]) Q E s:=by
 obtain ⟨c0,t0,m0⟩:=jq.mro
 have m1:=jq.made
 have m2:=jq.sub
 have m3:=jq.notType
 have m4:=jq.canCreate
 have m5:=F.typeCall_set_1 (.ref l)
 refine wpAny_call (codeAny_of_tree ?_)
 show wpAny _ _ (callAny (.type "set") ⟨[.ref l],[]⟩) _ _ _
 refine ak ⟨Code.quiet_builtin _ (by decide +kernel),eA F.entry_type_call ?_⟩
 rw[cA.under_plain (weight_type_call_type "set" [.ref l] []) rfl]
 repeat (any_goals first | assumption | wp_step)
 refine jD (RW (.ref l) (E:=E) (Q₁:=fun v s₁=>v=.ref s.heap.objs.size∧s₁={s with heap:=s.heap.push (d6 #[] 0 (.fresh 0 0 (mJ w)))}) ⟨rfl,rfl⟩) fun r s₁ hr=>?_
 cases r with
 | error e=>exact hr
 | ok fl =>
  cases fl with
  | ret v =>
   obtain ⟨rfl,rfl⟩:=hr
   have hS:(s.heap.push (d6 #[] 0 (.fresh 0 0 (mJ w)))).get? s.heap.objs.size=some (d6 #[] 0 (.fresh 0 0 (mJ w))):=aH _ rfl
   have hT:Bm {s with heap:=s.heap.push (d6 #[] 0 (.fresh 0 0 (mJ w)))} (.ref s.heap.objs.size) "set":=⟨_,hS,rfl⟩
   have n1:=jq.init.lookup
   have n2:=jq.init.bind (.ref s.heap.objs.size)
   repeat (any_goals first | assumption | wp_step)
   refine jD (TM (R:=wants (fun r s₂=>r=.none∧∃ h' tk,s₂={s with heap:=h',toks:=tk}∧md h' s.heap.objs.size ns (mJ w)∧∀ b o,s.heap.get? b=some o→h'.get? b=some o) E) jq.init.plain F.entry_set_init (check_set_init_1 hT ?_)) fun r₂ s₂ hr₂=>?_
   ·obtain ⟨ol,hol,hcl,nl,hdl⟩:=hl
    obtain ⟨oc,od,oo,os⟩:=ol
    simp only at hcl hdl
    subst hcl hdl
    have hol':(s.heap.push (d6 #[] 0 (.fresh 0 0 (mJ w)))).get? l=some {cls:=.type "list",dict:=od,data:=.seq its nl,slots:=os}:=ay _ hol
    have q1:=F.sub_list_set
    have q2:=F.sub_list_frozenset
    have q3:(ag.type "list"==ag.type "dict")=false:=by decide
    have hl1:(s.heap.push (d6 #[] 0 (.fresh 0 0 (mJ w)))).IsList l its:=⟨_,hol',rfl,nl,rfl⟩
    have hS':(s.heap.push (d6 #[] 0 (.fresh 0 0 (mJ w)))).get? s.heap.objs.size=some {cls:=.type "set",dict:=none,data:=.set #[] 0 (.fresh 0 0 (mJ w)),slots:=#[]}:=hS
    have lS:l<s.heap.objs.size:=aN hol
    have z1:(s.heap.push (d6 #[] 0 (.fresh 0 0 (mJ w)))).objs.size=s.heap.objs.size+1:=cN ..
    unfold Builtin.«set.__init__» noKeywords T6
    generalize eI:pyIter=PI
    wp_walk
    subst eI
    refine ig hl1 (aa (wpAny_runValue ?_))
    refine Ea (ns:=ns) (l:=l) (its:=its) (led:=mJ w) (by simp[hh]) hv hsz (by rw[z1];exact TR _) (by rw[z1];exact ba (dD lS)) (ba lS) hb ns 0 _ rfl (aR _) ⟨_,aH _ rfl,rfl,rfl⟩ (hl1.push _) ⟨#[],0,_,ay _ hS,fun e he=>by simp at he,by simp[lA],fun k=>by simp[lA],aR _,by rfl,⟨by simp[SetTable.fresh],rfl⟩,rfl⟩ fun h' tk kp S'=>?_
    refine ak (ak ⟨rfl,h',tk,rfl,S',fun b o e=>?_⟩)
    have hb':=aN e
    exact kp b o (by rw[z1];exact ba (dD hb')) (ba hb') (ay _ (ay _ e))
   ·cases r₂ with
    | error e=>exact hr₂
    | ok f2 =>
     cases f2 with
     | ret r =>
      obtain ⟨rfl,h',tk,rfl,S',kp⟩:=hr₂
      repeat (any_goals first | assumption | wp_step)
      exact h _ _ S' kp
     | _=>exact hr₂.elim
  | _=>exact hr.elim
end
end Fw
set_option maxHeartbeats 3200000
namespace Fw
open PySem PyProof.Rows
theorem DN:Manifest.owners.lookup (String.ofList "rotareti_tes".toList.reverse)=some Manifest.sig_set_iterator:=by kernel_rfl
theorem pA:Slot "set_iterator" "__next__" "set_iterator.__next__":=.of (owner:="set_iterator") (n:="__next__") (by rw[typeLookup_type,QJ];kernel_rfl) (by decide +kernel) (by decide +kernel) (by decide +kernel) (by first | exact .inl (by decide +kernel) | exact .inr (by decide +kernel)) (by rw[wH];kernel_rfl)
theorem DO:entryFor table "set_iterator.__next__"=some Builtin.«set_iterator.__next__»:=entryFor_of_tree (by kernel_rfl)
theorem IK (a:ag):argsOk "set_iterator.__next__" ⟨[a],[]⟩:=by
 unfold argsOk
 rw[signature?_of (id:="set_iterator.__next__") (n:="__txen__".toList) (o:="rotareti_tes".toList) (by kernel_rfl) DN]
 kernel_rfl
theorem Oo:entryFor table "set.__iter__"=some Builtin.«frozenset.__iter__»:=entryFor_alias (id':="frozenset.__iter__") (by kernel_rfl) rfl (by decide +kernel) (by kernel_rfl)
def qI (first:ag)(i:Nat)(S:aj)(n ep:Nat):fA:={cls:=.type "set_iterator",dict:=none,data:=.fields #[first,.int (i:Int) 0,.ref S,.int (n:Int) 0,.int (ep:Int) 0],slots:=#[]}
section
variable {prog:aY}{w:bO}{A:cA}{E:ag→au→Prop}{s:au}{I S:aj}{i n ep:Nat}{es:Array (Int×ag)}{t:SetTable}
theorem x9 {first:ag}(h:s.heap.get? I=some (qI first i S n ep)):s.TypeIs (.ref I) "set_iterator":=⟨_,h,rfl⟩
theorem D4 {slot:Nat}{r:Option (ag×Nat)}{Q:Option ag→au→Prop}(hh:A.handled=none)(hit:s.heap.get? I=some (qI (.int (slot:Int) 0) i S n ep))(hS:s.heap.get? S=some (d6 es ep t))(hf:t.fits es.size=true)(hn:n=es.size)
  (hx:∀ (A:cA) (E:ag→au→Prop) (Q:Option (ag×Nat)→au→Prop),Q r s→wpAny (model prog w) A (setNext S slot i ep) Q E s)
  (h1:∀ x nx,r=some (x,nx)→∀ h',h'.get? I=some (qI (.int (nx:Int) 0) (i+1) S n ep)→eC I s.heap h'→Q (some x) {s with heap:=h'})
  (h2:r=none→∀ h',oX I s.heap h'→Q none {s with heap:=h'}):wpAny (model prog w) A (pyNext (.ref I)) Q E s:=by
 have hT:=x9 hit
 unfold pyNext
 refine aa (iy (c9 (name:=dG "__next__") hT pA (c5 pA hT DO ?_ (IK _))))
 show wpAny _ _ (fieldsOf (.ref I) >>= _) _ _ s
 refine aa (k7 hit rfl ?_)
 show wpAny _ _ (setEntries S >>= _) _ _ s
 refine aa (xF (o:=d6 es ep t) hS rfl hf ?_)
 dsimp only
 rw[if_neg (by rw[hn];simp)]
 show wpAny _ _ (setNext S ((slot:Int).toNat) ((i:Int).toNat) ((ep:Int).toNat) >>= _) _ _ s
 rw[bR,bR,bR]
 refine aa (hx _ _ _ ?_)
 cases r with
 | none =>
  dsimp only
  refine aa (fK hit rfl (by simp) ?_)
  show wpAny _ _ (newExc (.type "StopIteration") [] >>= _) _ _ _
  refine aa ?_
  simp only[newExc,newTuple]
  refine aa (cv ?_ (by size_fits))
  refine aa (m:=firstArgMember _ _) (jn (a:=ag.none) (by first | rfl | (simp only[firstArgMember];rfl)) ?_)
  refine cv ?_ (by size_fits)
  simp only[raiseNew]
  refine aa (qX ?_)
  rw[show A.in1.handled=none from hh]
  refine aa (ak (vQ ?_))
  refine aa (iJ (T:="StopIteration") (b:=true) ⟨_,aH _ rfl,rfl⟩ pQ ?_)
  exact ak (h2 rfl _ (((c6 ..).extBut.push _).push _))
 | some p =>
  obtain ⟨x,nx⟩:=p
  dsimp only
  refine aa (fK hit rfl (by simp) ?_)
  have g1:(s.heap.update I (fA.mapFields (·.setIfInBounds 0 (gm (nx:Int))))).get? I=some (qI (.int (nx:Int) 0) i S n ep):=cQ _ hit rfl
  refine aa (fK g1 rfl (by simp) ?_)
  have g2:((s.heap.update I (fA.mapFields (·.setIfInBounds 0 (gm (nx:Int))))).update I (fA.mapFields (·.setIfInBounds 1 (gm ((i:Int)+1))))).get? I=some (qI (.int (nx:Int) 0) (i+1) S n ep):=cQ _ g1 rfl
  exact ak ⟨_,rfl,ak (h1 x nx rfl _ g2 ((c6 ..).trans (c6 ..)))⟩
theorem D1 {T:aj}{its:Array ag}{c:Nat}{oT:fA}{r:Option Nat}{Q:Option ag→au→Prop}(hh:A.handled=none)(hit:s.heap.get? I=some (qI (.ref T) i S n ep))(hS:s.heap.get? S=some (d6 es ep t))(hf:t.fits es.size=true)(hn:n=es.size)
  (hT':s.heap.get? T=some oT)(hTd:oT.data=.seq its c)(hx:its[i]?=r.map fun j=>ag.int (j:Int) 0)
  (h1:∀ j,r=some j→∃ e,es[j]?=some e∧∀ h',h'.get? I=some (qI (.ref T) (i+1) S n ep)→eC I s.heap h'→Q (some e.2) {s with heap:=h'})
  (h2:r=none→∀ h',oX I s.heap h'→Q none {s with heap:=h'}):wpAny (model prog w) A (pyNext (.ref I)) Q E s:=by
 have hT:=x9 hit
 unfold pyNext
 refine aa (iy (c9 (name:=dG "__next__") hT pA (c5 pA hT DO ?_ (IK _))))
 show wpAny _ _ (fieldsOf (.ref I) >>= _) _ _ s
 refine aa (k7 hit rfl ?_)
 show wpAny _ _ (setEntries S >>= _) _ _ s
 refine aa (xF (o:=d6 es ep t) hS rfl hf ?_)
 dsimp only
 rw[if_neg (by rw[hn];simp)]
 show wpAny _ _ (seqItems? (.ref T) >>= _) _ _ s
 refine aa (c7 hT' hTd ?_)
 dsimp only
 rw[bR,hx]
 cases r with
 | none =>
  show wpAny _ _ (setField (.ref I) 0 (gm 0) >>= _) _ _ s
  refine aa (fK hit rfl (by simp) ?_)
  have g1:(s.heap.update I (fA.mapFields (·.setIfInBounds 0 (gm 0)))).get? I=some (qI (.int 0 0) i S n ep):=cQ _ hit rfl
  refine aa (fK g1 rfl (by simp) ?_)
  show wpAny _ _ (newExc (.type "StopIteration") [] >>= _) _ _ _
  refine aa ?_
  simp only[newExc,newTuple]
  refine aa (cv ?_ (by size_fits))
  refine aa (m:=firstArgMember _ _) (jn (a:=ag.none) (by first | rfl | (simp only[firstArgMember];rfl)) ?_)
  refine cv ?_ (by size_fits)
  simp only[raiseNew]
  refine aa (qX ?_)
  rw[show A.in1.handled=none from hh]
  refine aa (ak (vQ ?_))
  refine aa (iJ (T:="StopIteration") (b:=true) ⟨_,aH _ rfl,rfl⟩ pQ ?_)
  exact ak (h2 rfl _ ((((c6 ..).trans (c6 ..)).extBut.push _).push _))
 | some j =>
  obtain ⟨e,he,h1⟩:=h1 j rfl
  show wpAny _ _ (setNextDrawn S ((j:Int).toNat) ((ep:Int).toNat) >>= _) _ _ s
  rw[bR,bR]
  unfold setNextDrawn
  refine aa (aa (jb (o:=d6 es ep t) hS rfl hf ?_))
  dsimp only
  rw[if_neg (by simp),he]
  refine aa (ak ?_)
  refine ak ?_
  refine aa (fK hit rfl (by simp) ?_)
  have g1:(s.heap.update I (fA.mapFields (·.setIfInBounds 1 (gm ((i:Int)+1))))).get? I=some (qI (.ref T) (i+1) S n ep):=cQ _ hit rfl
  exact ak ⟨_,rfl,ak (h1 _ g1 (c6 ..))⟩
end
end Fw
set_option maxHeartbeats 3200000
namespace Fw
open PySem PyProof.Rows
theorem ue {α:Type}:∀ {l:List α} {i:Nat} {x:α},l[i]?=some x→(x::l.eraseIdx i).Perm l
 | [],i,x,h=>by simp at h
 | a::l,0,x,h=>by
  cases aJ h
  exact jF _
 | a::l,i+1,x,h=>(xI a x _).trans ((ue (l:=l) (i:=i) h).cons a)
theorem IW {α:Type}(f:Nat→Nat):∀ (n k:Nat) (l:List α) (out:Array α),l.length=n→(pickOrder.go f n k l out).toList.Perm (out.toList++l)
 | 0,k,l,out,h=>by
  rw[cW.mp h]
  simp[pickOrder.go]
 | n+1,k,l,out,h=>by
  have lt:f k % l.length<l.length:=Nat.mod_lt _ (by omega)
  have e:l[f k % l.length]?=some l[f k % l.length]:=aE lt
  unfold pickOrder.go
  rw[e]
  refine (IW f n (k+1) _ _ (by rw[Br lt];omega)).trans ?_
  rw[wK,dB]
  exact (ue e).append_left _
theorem KA {α:Type}(f:Nat→Nat)(xs:Array α):(pickOrder f xs).toList.Perm xs.toList:=by
 have:=IW f xs.size 0 xs.toList #[] (by simp)
 rw[TY] at this
 exact this
section
variable {prog:aY}{w:bO}{A:cA}{E:ag→au→Prop}{s:au}
theorem LC {src:Source}{n:Nat}{Q:Nat→au→Prop}(hn:n≠0)(h:∀ k d,k<n→Q k {s with drawn:=d}):wpAny (model prog w) A (choose src n) Q E s:=fun Γ p _=>by
 unfold choose
 rw[o8.wp_choose]
 refine ⟨hn,?_⟩
 exact h _ _ (Nat.mod_lt _ (by omega))
theorem Ju {α:Type}:∀ (n:Nat) (xs:List α) (s:au) {Q:List α→au→Prop},xs.length=n→(∀ ys d,ys.Perm xs→Q ys {s with drawn:=d})→wpAny (model prog w) A (drawOrder n xs) Q E s
 | 0,xs,s,Q,hl,h=>by
  have:xs=[]:=cW.mp hl
  subst this
  exact ak (h [] s.drawn (jF _))
 | n+1,[],s,Q,hl,h=>by simp at hl
 | n+1,x::xs,s,Q,hl,h=>by
  unfold drawOrder
  refine aa (LC (by simp) fun k d hk=>?_)
  have e:(x::xs)[k]?=some (x::xs)[k]:=aE hk
  rw[e]
  refine aa (Ju n _ _ (by rw[Br hk];omega) fun ys d' p=>?_)
  exact ak (h _ d' ((p.cons _).trans (ue e)))
theorem xQ {Q:Bool→au→Prop}(h:Q (!mJ w) s):wpAny (model prog w) A setsByText Q E s:=by
 unfold setsByText
 refine aa (Cv (ak ?_))
 unfold mJ at h
 rw[Bool.not_not] at h
 exact h
def rS (es:Array (Int×ag))(t:SetTable)(slot:Nat):Option (ag×Nat) :=
 match es[SetTable.below t.place slot]?,t.place[SetTable.below t.place slot]? with
 | some (_,x),some j=>some (x,j+1)
 | _,_=>none
def slotAt (t:SetTable)(i:Nat):Nat:=match i with
 | 0=>0
 | i+1=>t.place.getD i 0+1
theorem below_at {t:SetTable}(hr:lB t){i:Nat}(hi:i≤t.place.size):SetTable.below t.place (slotAt t i)=i:=by
 obtain ⟨b1,b2,b3⟩:=ug t.place (slotAt t i) hr.1
 have mono:∀ i k (hi:i<t.place.size) (hk:k<t.place.size),i<k→t.place[i]<t.place[k]:=fun i k hi hk q=>by
  have:=g6.mp hr.1 i k (by simpa using hi) (by simpa using hk) q
  simpa using this
 cases i with
 | zero =>
  by_cases q:0<SetTable.below t.place (slotAt t 0)
  ·have:=b2 0 (by omega) q
   simp[slotAt] at this
  ·omega
 | succ i =>
  have g:slotAt t (i+1)=t.place[i]+1:=by simp[slotAt,Kf,show i<t.place.size by omega]
  by_cases q:SetTable.below t.place (slotAt t (i+1))≤i
  ·have:=b3 i (by omega) q
   omega
  ·by_cases q2:i+1<SetTable.below t.place (slotAt t (i+1))
   ·have h1:=b2 (i+1) (by omega) q2
    have h2:=mono i (i+1) (by omega) (by omega) (by omega)
    omega
   ·omega
theorem Oj {es:Array (Int×ag)}{t:SetTable}(hr:lB t)(hf:t.fits es.size=true){i:Nat}(hi:i<es.size):rS es t (slotAt t i)=some (es[i].2,slotAt t (i+1)):=by
 have hz:t.place.size=es.size:=by
  simp only[SetTable.fits,bx,beq_iff_eq] at hf
  exact hf.1
 unfold rS
 rw[below_at hr (by omega),cx hi,cx (show i<t.place.size by omega)]
 simp[slotAt,Kf,show i<t.place.size by omega]
theorem Rf {es:Array (Int×ag)}{t:SetTable}(hr:lB t)(hf:t.fits es.size=true):rS es t (slotAt t es.size)=none:=by
 have hz:t.place.size=es.size:=by
  simp only[SetTable.fits,bx,beq_iff_eq] at hf
  exact hf.1
 unfold rS
 rw[below_at hr (by omega),iF (aL _)]
theorem O8 {S:aj}{es:Array (Int×ag)}{ep:Nat}{t:SetTable}{slot i:Nat}{Q:Option (ag×Nat)→au→Prop}(hS:s.heap.get? S=some (d6 es ep t))(hf:t.fits es.size=true)(hl:t.led=true)(hw:mJ w=true)(hd:t.plain=true∨es.size≤1)(h:Q (rS es t slot) s):wpAny (model prog w) A (setNext S slot i ep) Q E s:=by
 unfold setNext
 refine aa (jb (o:=d6 es ep t) hS rfl hf ?_)
 dsimp only
 refine aa (xQ ?_)
 rw[hw,if_neg (by decide)]
 have nd:¬ ((!t.plain&&decide (es.size > 1))=true):=by
  rcases hd with q | q
  ·simp[q]
  ·simp;omega
 refine nP (fun q=>absurd q nd) (fun _=>?_)
 refine aa (show wpAny _ _ (if (!t.led&&!es.isEmpty)=true then unsupported "set:maker-not-led" else pure ()) _ _ _ from ?_)
 rw[if_neg (by simp[hl])]
 refine ak ?_
 exact ak h
theorem KZ {S:aj}{es:Array (Int×ag)}{ep:Nat}{t:SetTable}{slot i:Nat}{Q:Option (ag×Nat)→au→Prop}(hS:s.heap.get? S=some (d6 es ep t))(hf:t.fits es.size=true)(hw:mJ w=false)(h:Q (((pickOrder (w.params.setOrder S ep) es)[i]?).map fun e=>(e.2,slot)) s):wpAny (model prog w) A (setNext S slot i ep) Q E s:=by
 unfold setNext
 refine aa (jb (o:=d6 es ep t) hS rfl hf ?_)
 dsimp only
 refine aa (xQ ?_)
 rw[hw,if_pos (by decide),if_neg (by simp)]
 refine aa ?_
 unfold setWalk
 refine aa (jb (o:=d6 es ep t) hS rfl hf ?_)
 dsimp only
 refine aa (xQ ?_)
 rw[hw,if_pos (by decide)]
 exact aa (Cv (ak (ak h)))
end
end Fw
set_option maxHeartbeats 3200000
namespace Fw
open PySem PyProof.Rows
theorem IJ:Slot "set_iterator" "__iter__" "set_iterator.__iter__":=.of (owner:="set_iterator") (n:="__iter__") (by rw[typeLookup_type,QJ];kernel_rfl) (by decide +kernel) (by decide +kernel) (by decide +kernel) (by first | exact .inl (by decide +kernel) | exact .inr (by decide +kernel)) (by rw[wH];kernel_rfl)
theorem Kv:entryFor table "set_iterator.__iter__"=some Builtin.«dict_keyiterator.__iter__»:=entryFor_alias (id':="dict_keyiterator.__iter__") (by kernel_rfl) rfl (by decide +kernel) (by kernel_rfl)
theorem Ov (a:ag):argsOk "set_iterator.__iter__" ⟨[a],[]⟩:=by
 unfold argsOk
 rw[signature?_of (id:="set_iterator.__iter__") (n:="__reti__".toList) (o:="rotareti_tes".toList) (by kernel_rfl) DN]
 kernel_rfl
section
variable {prog:aY}{w:bO}{A:cA}{E:ag→au→Prop}{s:au}{S I:aj}{es:Array (Int×ag)}{ep:Nat}{t:SetTable}
theorem IM {Q:ag→au→Prop}(hT:s.TypeIs (.ref I) "set_iterator")(h:Q (.ref I) s):wpAny (model prog w) A (pyIter (.ref I)) Q E s:=by
 refine qu hT IJ (c5 IJ hT Kv ?_ (Ov _))
 show wpAny _ _ (ret (.ref I)) _ _ s
 exact ak ⟨_,rfl,"set_iterator",_,hT,pA.lookup,h⟩
theorem uX {h':bU}(k:∀ b o,b≠I→s.heap.get? b=some o→h'.get? b=some o):Moved [I] Eq s {s with heap:=h'}:=⟨fun b o hb e=>k b o (fun z=>hb (bB.mpr z)) e,rfl,rfl,rfl,aL _⟩
theorem Du (hh:A.handled=none)(hIS:S≠I)(hf:t.fits es.size=true)(ord:List ag)(hl:ord.length=es.size)(nx:Nat→Nat→Option (ag×Nat))(sl:Nat→Nat)
  (hnx:∀ (s:au) (i:Nat) (A:cA) (E:ag→au→Prop) (Q:Option (ag×Nat)→au→Prop),s.heap.get? S=some (d6 es ep t)→Q (nx (sl i) i) s→wpAny (model prog w) A (setNext S (sl i) i ep) Q E s)
  (h1:∀ i (h:i<ord.length),nx (sl i) i=some (ord[i],sl (i+1)))(h2:nx (sl ord.length) ord.length=none) :
  WalksS prog w A I [I,S] [I] Eq ord.length (fun i v=>ord[i]?=some v) (fun i s=>s.heap.get? I=some (qI (.int (sl i:Int) 0) i S es.size ep)∧s.heap.get? S=some (d6 es ep t)) where
 sub:=fun b hb=>by simp at hb ⊢;exact .inl hb
 grefl:=fun _=>rfl
 gtrans:=fun _ _ _ a b=>a.trans b
 frame:=fun i s h' tk ⟨a,b⟩ _ k=>⟨k I (by simp) _ a,k S (by simp) _ b⟩
 item:=fun i s Q E hi ⟨a,b⟩ k=>by
  refine D4 hh a b hf rfl (fun A E Q q=>hnx s i A E Q b q) (fun x n e h' g sb=>?_) (fun e=>?_)
  ·rw[h1 i hi] at e
   cases e
   refine k _ _ (aE hi) ⟨g,(sb.2 _ hIS).trans b⟩ (uX fun c o n q=>(sb.2 c n).trans q)
  ·rw[h1 i hi] at e
   cases e
 done:=fun s Q E ⟨a,b⟩ k=>by
  refine D4 hh a b hf rfl (fun A E Q q=>hnx s _ A E Q b q) (fun x n e=>?_) (fun e h' ex=>k _ (uX fun c o n q=>ex c o n q))
  rw[h2] at e
  cases e
 self:=fun i s Q E ⟨a,b⟩ q=>by
  have hT:s.TypeIs (.ref I) "set_iterator":=x9 a
  exact IM hT q
theorem Og (hh:A.handled=none)(hIS:S≠I)(hf:t.fits es.size=true){T:aj}(hIT:T≠I)(ps:List Nat)(hp:ps.Perm (bp es.size))(ord:List ag)(ho:ord=ps.filterMap fun j=>es[j]?.map (·.2))(hl:ord.length=es.size) :
  WalksS prog w A I [I,S,T] [I] Eq ord.length (fun i v=>ord[i]?=some v) (fun i s=>s.heap.get? I=some (qI (.ref T) i S es.size ep)∧s.heap.get? S=some (d6 es ep t)∧∃ c,s.heap.get? T=some {cls:=.type "tuple",dict:=none,data:=.seq (ps.map fun (i:Nat)=>gm i).toArray c,slots:=#[]}):=by
 have hlp:ps.length=es.size:=by rw[hp.length_eq,c4]
 have at_:∀ i (h:i<es.size),∃ j e,ps[i]?=some j∧es[j]?=some e∧ord[i]?=some e.2:=by
  have all:∀ (ps:List Nat),(∀ j∈ps,j<es.size)→∀ i,i<ps.length→∃ j e,ps[i]?=some j∧es[j]?=some e∧(ps.filterMap fun j=>es[j]?.map (·.2))[i]?=some e.2:=by
   intro ps
   induction ps with
   | nil=>intro _ i h;simp at h
   | cons j ps ih =>
    intro hj i hi
    have lj:=hj j ax
    rw[fF,cx lj]
    cases i with
    | zero=>exact ⟨j,es[j],rfl,cx lj,rfl⟩
    | succ i =>
     obtain ⟨k,e,q1,q2,q3⟩:=ih (fun x hx=>hj x (ao _ hx)) i (by simpa using hi)
     exact ⟨k,e,q1,q2,q3⟩
  intro i h
  rw[ho]
  exact all ps (fun j hj=>dH.mp (hp.mem_iff.mp hj)) i (by omega)
 exact {
  sub:=fun b hb=>by simp at hb ⊢;exact .inl hb
  grefl:=fun _=>rfl
  gtrans:=fun _ _ _ a b=>a.trans b
  frame:=fun i s h' tk ⟨a,b,c,d⟩ _ k=>⟨k I (by simp) _ a,k S (by simp) _ b,c,k T (by simp) _ d⟩
  item:=fun i s Q E hi ⟨a,b,c,d⟩ k=>by
   obtain ⟨j,e,q1,q2,q3⟩:=at_ i (by omega)
   refine D1 (r:=some j) hh a b hf rfl d rfl (by simp[q1,gm]) (fun j' ej=>?_) (fun e=>by cases e)
   cases ej
   exact ⟨e,q2,fun h' g sb=>k _ _ q3 ⟨g,(sb.2 _ hIS).trans b,c,(sb.2 _ hIT).trans d⟩ (uX fun x o n q=>(sb.2 x n).trans q)⟩
  done:=fun s Q E ⟨a,b,c,d⟩ k=>by
   refine D1 (r:=none) hh a b hf rfl d rfl (by simp[bG (show ps.length≤ord.length by omega)]) (fun j' ej=>by cases ej) (fun e h' ex=>k _ (uX fun c o n q=>ex c o n q))
  self:=fun i s Q E ⟨a,_⟩ q=>IM (x9 a) q}
theorem Pr {Q:ag→au→Prop}(hh:A.handled=none)(hS:s.heap.get? S=some (d6 es ep t))(hf:t.fits es.size=true)(hr:lB t)(hl:t.led=mJ w)(hz:es.size≤aA)
  (h:∀ (I:aj) (h':bU) d (ord:List ag) (fp:List aj) (St:Nat→au→Prop),ord.Perm (es.toList.map (·.2))→s.heap.objs.size≤I→(∀ b∈fp,b=S∨s.heap.objs.size≤b)→(∀ b o,s.heap.get? b=some o→h'.get? b=some o) →
   WalksS prog w A I fp [I] Eq ord.length (fun i v=>ord[i]?=some v) St→St 0 {s with heap:=h',drawn:=d}→Q (.ref I) {s with heap:=h',drawn:=d}):wpAny (model prog w) A (pyIter (.ref S)) Q E s:=by
 have hT:s.TypeIs (.ref S) "set":=⟨_,hS,rfl⟩
 have lS:=aN hS
 refine qu hT F.slot_set_iter (c5 F.slot_set_iter hT Oo ?_ (F.args_set_iter_1 _))
 unfold Builtin.«frozenset.__iter__»
 refine aa (show wpAny _ _ (pure S) _ _ s from ak ?_)
 refine aa ?_
 unfold T7
 refine aa (xF (o:=d6 es ep t) hS rfl hf (ak ?_))
 refine aa ?_
 unfold setDrawn
 refine aa (jb (o:=d6 es ep t) hS rfl hf ?_)
 dsimp only
 refine aa (xQ (ak ?_))
 rw[Bool.not_not]
 have lm:(es.toList.map (·.2)).length=es.size:=by simp
 refine nP (fun hd=>?_) (fun hd=>?_)
 ·refine aa (Ju es.size _ s (by simp) fun ps d p=>?_)
  have lp:ps.length=es.size:=by rw[p.length_eq,c4]
  refine aa (wG ?_ (by simpa [lp] using hz))
  have hS1:(s.heap.push (seqObj "tuple" (ps.map fun (i:Nat)=>gm i).toArray 0)).get? S=some (d6 es ep t):=ay _ hS
  refine aa (wpAny_setEpoch_of (o:=d6 es ep t) hS1 rfl hf ?_)
  refine aa (cv (ak ⟨_,rfl,"set_iterator",_,⟨_,aH _ rfl,rfl⟩,pA.lookup,?_⟩))
  have z1:(s.heap.push (seqObj "tuple" (ps.map fun (i:Nat)=>gm i).toArray 0)).objs.size=s.heap.objs.size+1:=cN ..
  have pf:(ps.filterMap fun j=>es[j]?.map (·.2)).Perm (es.toList.map (·.2)):=by
   refine (p.filterMap _).trans (List.Perm.of_eq ?_)
   rw[← filterMap_getElem?_range es,List.map_filterMap]
  refine h _ _ d _ [_,S,s.heap.objs.size] _ pf ?_ (fun b hb=>?_) (fun b o e=>ay _ (ay _ e)) (Og (t:=t) (ep:=ep) hh ?_ hf (T:=s.heap.objs.size) ?_ ps p _ rfl (by rw[pf.length_eq,lm])) ⟨aH _ rfl,ay _ hS1,0,ay _ (aH _ rfl)⟩
  ·show s.heap.objs.size≤(s.heap.push _).objs.size
   rw[z1];exact hW _
  ·have hb:b=(s.heap.push (seqObj "tuple" (ps.map fun (i:Nat)=>gm i).toArray 0)).objs.size∨b=S∨b=s.heap.objs.size:=by simpa using hb
   rcases hb with q | q | q
   ·exact .inr (by rw[q,z1];exact hW _)
   ·exact .inl q
   ·exact .inr (by rw[q];exact aL _)
  ·show S≠(s.heap.push _).objs.size
   rw[z1];exact ba (dD lS)
  ·show s.heap.objs.size≠(s.heap.push _).objs.size
   rw[z1];exact ba (dP _)
 ·refine aa (ak (aa (wpAny_setEpoch_of (o:=d6 es ep t) hS rfl hf ?_)))
  refine aa (cv (ak ⟨_,rfl,"set_iterator",_,⟨_,aH _ rfl,rfl⟩,pA.lookup,?_⟩))
  have mem:∀ b∈[s.heap.objs.size,S],b=S∨s.heap.objs.size≤b:=fun b hb=>by
   rcases aI.mp hb with q | q
   ·exact .inr (by rw[q];exact aL _)
   ·exact .inl (bB.mp q)
  cases hw:mJ w with
  | true =>
   have nd:t.plain=true∨es.size≤1:=by
    have hd:¬ ((mJ w&&(!t.plain&&decide (es.size > 1)))=true):=hd
    rw[hw] at hd
    cases q:t.plain with
    | true=>exact .inl rfl
    | false=>exact .inr (by simp[q] at hd;exact hd)
   refine h _ _ s.drawn (es.toList.map (·.2)) [_,S] _ (jF _) (aL _) mem (fun b o e=>ay _ e) (Du (t:=t) (ep:=ep) hh (ba lS) hf _ lm (fun slot _=>rS es t slot) (slotAt t) (fun s i A E Q g q=>O8 g hf (hl.trans hw) hw nd q) (fun i hi=>?_) ?_) ⟨aH _ rfl,ay _ hS⟩
   ·rw[Oj hr hf (show i<es.size by simpa using hi)]
    simp
   ·rw[lm]
    exact Rf hr hf
  | false =>
   have pp:=(KA (w.params.setOrder S ep) es).map (·.2)
   have lo:((pickOrder (w.params.setOrder S ep) es).toList.map (·.2)).length=es.size:=by rw[pp.length_eq,lm]
   refine h _ _ s.drawn ((pickOrder (w.params.setOrder S ep) es).toList.map (·.2)) [_,S] _ pp (aL _) mem (fun b o e=>ay _ e) (Du (t:=t) (ep:=ep) hh (ba lS) hf _ lo (fun slot i=>((pickOrder (w.params.setOrder S ep) es)[i]?).map fun e=>(e.2,slot)) (fun _=>0) (fun s i A E Q g q=>KZ g hf hw q) (fun i hi=>?_) ?_) ⟨aH _ rfl,ay _ hS⟩
   ·have hi':i<(pickOrder (w.params.setOrder S ep) es).size:=by simpa using hi
    rw[cx hi']
    simp
   ·rw[iF (by simp)]
    rfl
end
end Fw
set_option maxHeartbeats 3200000
namespace Fw
open PySem PyProof.Rows
section
variable {prog:aY}{w:bO}{A:cA}{E:ag→au→Prop}{s:au}{S:aj}
theorem Pw {Q:Bool→au→Prop}(hT:s.TypeIs (.ref S) "set")(h:Q false s):wpAny (model prog w) A (vm (.ref S)) Q E s:=by
 unfold vm
 refine aa (EB hT F.slot_set_len.lookup ?_)
 generalize q:("set.__len__":String)=id0
 wp_delta
 rw[show splitId id0=some ("set","__len__") from by subst q;decide +kernel]
 subst q
 refine aa (iJ (T:="set") (b:=true) hT (by rw[wH];kernel_rfl) ?_)
 refine nP (fun z=>absurd z (by decide)) (fun _=>nP (fun _=>?_) (fun z=>absurd (by decide +kernel) z))
 exact aa (oU hT (ak h))
theorem E5 {ns:List Int}{Q:List ag→au→Prop}(hh:A.handled=none)(hS:md s.heap S ns (mJ w))(hz:ns.length≤aA)
  (h:∀ (vs:List ag) (ms:List Int) (h':bU) tk d,eK vs ms→ms.Nodup→(∀ k,k∈ms↔k∈ns)→s.heap.objs.size≤h'.objs.size→(∀ b o,s.heap.get? b=some o→h'.get? b=some o)→Q vs {s with heap:=h',toks:=tk,drawn:=d}):wpAny (model prog w) A (collect (.ref S)) Q E s:=by
 obtain ⟨es,ep,t,ho,hI,hn,hm,hl,hf,hr,hd⟩:=hS
 have lS:=aN ho
 have hze:es.size≤aA:=aD hl hz
 unfold collect
 refine aa (wpAny_runValue (eA F.entry_proto_collect ?_))
 rw[dh F.plain_proto_collect _]
 show wpAny _ A.in1 (newList [] >>= fun l=>again (.builtin "list.__iadd__" ⟨[l,.ref S],[]⟩)) _ _ s
 refine aa (cv (ak ⟨dw UI _,eA F.entry_list_iadd ?_⟩))
 rw[dh UI _]
 show wpAny _ A.in1 (vn (.ref s.heap.objs.size) (.ref S) (.ref s.heap.objs.size)) _ _ _
 have z1:(s.heap.push {cls:=.type "list",data:=.seq ([]:List ag).toArray}).objs.size=s.heap.objs.size+1:=cN ..
 have ho1:(s.heap.push {cls:=.type "list",data:=.seq ([]:List ag).toArray}).get? S=some (d6 es ep t):=ay _ ho
 have hl1:(s.heap.push {cls:=.type "list",data:=.seq ([]:List ag).toArray}).get? s.heap.objs.size=some {cls:=.type "list",data:=.seq ([]:List ag).toArray}:=aH _ rfl
 have q1:xt (.ref s.heap.objs.size) (.ref S)=false:=by simp[xt,fY lS]
 have q2:(ag.type "set"==ag.type "list")=false:=by decide
 have q3:(ag.type "set"==ag.type "tuple")=false:=by decide
 unfold vn
 refine aa (oU (T:="set") ⟨_,ho1,rfl⟩ ?_)
 simp only[q1,q2,q3,Bool.or_false,iI,if_false]
 refine aa (Pr (A:=A.in1) (by simp[hh]) ho1 hf hr hd hze fun I h' d ord fp St hp hI' hfp kp W st=>?_)
 have hlen:ord.length≤aA:=by rw[hp.length_eq];simpa using hze
 have hSI:s.heap.objs.size≠I:=fun e=>by
  rw[z1,← e] at hI'
  exact absurd hI' (L6 _)
 have hSf:s.heap.objs.size∉fp:=fun hmem=>by
  rcases hfp _ hmem with e | e
  ·exact absurd lS (by rw[e];exact dn _)
  ·rw[z1] at e
   exact absurd e (L6 _)
 have key:∀ (g:bU) (c:Nat),St 0 {s with heap:=g,drawn:=d}→(∀ b o,s.heap.get? b=some o→g.get? b=some o)→g.get? s.heap.objs.size=some {cls:=.type "list",dict:=none,data:=.seq #[] c,slots:=#[]} →
   codeAny (model prog w) A (.builtin "list.extend.loop" ⟨[.ref s.heap.objs.size,.ref I,.ref s.heap.objs.size],[]⟩) (fun r s'=>match r with
    | .ok (.ret v)=>∃ acc c',v=.ref s.heap.objs.size∧s'.heap.get? s.heap.objs.size=some {cls:=.type "list",dict:=none,data:=.seq acc c',slots:=#[]}∧Q acc.toList s'
    | _=>False) {s with heap:=g,drawn:=d}:=fun g c st kp hg=>by
  refine codeAny_extend_loopS W hlen _ hSf _ ord.length 0 _ #[] c rfl (aR _) st hg (ItemsOf.nil _) fun s' acc c' hm' hS' ha=>?_
  refine ⟨acc,c',rfl,hS',?_⟩
  have ea:acc.toList=ord:=by
   refine oZ fun i=>?_
   by_cases hi:i<acc.size
   ·have:=ha.2 i acc[i] (cx hi)
    rw[this]
    simp[hi]
   ·rw[bG (by simpa using hi),bG (by have:=ha.1;omega)]
  have es':s'={s with heap:=s'.heap,toks:=s'.toks,drawn:=d}:=by
   have e1:s'.gens=s.gens:=hm'.gens.symm
   have e2:s'.drawn=d:=hm'.drawn
   have e3:s'.os=s.os:=hm'.os
   obtain ⟨a1,a2,a3,a4,a5⟩:=s'
   simp only at e1 e2 e3
   rw[e1,e2,e3]
  rw[es',ea]
  have qg:∀ v∈ord,∃ n u,v=ag.int n u:=fun v hv=>by
   obtain ⟨e,he,rfl⟩:=aU.mp (hp.mem_iff.mp hv)
   obtain ⟨n,u,rfl⟩:=hI e he
   exact ⟨n,u,rfl⟩
  have hints:∀ (l:List ag),(∀ v∈l,∃ n u,v=ag.int n u)→eK l (l.map fun v=>J3 (0,v)):=by
   intro l
   induction l with
   | nil=>exact fun _=>.nil
   | cons v l ih =>
    intro hv
    obtain ⟨n,u,rfl⟩:=hv v ax
    exact .cons n u (ih fun x hx=>hv x (ao _ hx))
  have pv:(ord.map fun v=>J3 (0,v)).Perm (lA es):=by
   have:=hp.map fun v=>J3 (0,v)
   rw[br] at this
   exact this
  refine h ord _ _ _ _ (hints ord qg) (pv.nodup_iff.mpr hn) (fun k=>(pv.mem_iff).trans (hm k)) (kE (aN hS')) (fun b o e=>hm'.heap b o (fun hmem=>?_) (kp b o e))
  have lb:=aN e
  rcases aI.mp hmem with q | q
  ·exact absurd lb (by rw[q];exact dn _)
  ·rw[bB.mp q] at lb
   rw[z1] at hI'
   exact absurd (cz lb (kH hI')) (dn _)
 refine aa (dj (Pw ⟨_,kp _ _ ho1,rfl⟩ ?_))
 have fin:∀ (r:qM) (s':au),(match r with
   | .ok (.ret v)=>∃ acc c',v=.ref s.heap.objs.size∧s'.heap.get? s.heap.objs.size=some {cls:=.type "list",dict:=none,data:=.seq acc c',slots:=#[]}∧Q acc.toList s'
   | _=>False)→wants (fun v s'=>wpAny (model prog w) A (match v with
    | .ref a=>load a >>= fun o=>match o.data with
     | .seq xs _=>pure xs.toList
     | _=>unsupported "internal:collect"
    | _=>unsupported "internal:collect") Q E s') E r s':=fun r s' hr=>by
  cases r with
  | error e=>exact hr.elim
  | ok fl =>
   cases fl with
   | ret v =>
    obtain ⟨acc,c',rfl,g,q⟩:=hr
    exact aa (wpAny_load g (ak q))
   | _=>exact hr.elim
 have hS2:=kp _ _ hl1
 refine nP (fun _=>?_) (fun _=>ak ⟨dw QQ _,jD (key _ _ st (fun b o e=>kp b o (ay _ e)) hS2) fin⟩)
 refine aa (jm (aa ?_))
 show wpAny _ _ (updateSeq s.heap.objs.size (·.push .none) >>= fun _=>updateSeq s.heap.objs.size (·.pop)) _ _ _
 refine aa (ic hS2 rfl ?_)
 have hS3:=cQ (fA.mapSeq (·.push ag.none)) hS2 rfl
 refine ic (hz:=by seq_fits) hS3 rfl ?_
 have hS4:=cQ (fA.mapSeq (·.pop)) hS3 rfl
 have up:∀ b o,b≠s.heap.objs.size→h'.get? b=some o→((h'.update s.heap.objs.size (fA.mapSeq (·.push ag.none))).update s.heap.objs.size (fA.mapSeq (·.pop))).get? b=some o:=fun b o n e=>(dC _ _ (gU n)).trans ((dC _ _ (gU n)).trans e)
 refine ak ⟨dw QQ _,jD (key _ _ (W.frame 0 _ _ s.toks st (aL _) fun b hb o e=>up b o (fun z=>hSf (z▸hb)) e) (fun b o e=>up b o (ba (aN e)) (kp b o (ay _ e))) hS4) fin⟩
theorem GY {ns:List Int}{Q:ag→au→Prop}(hh:A.handled=none)(hS:md s.heap S ns (mJ w))(hz:ns.length≤aA)(hz2:∀ ms:List Int,ms.Nodup→(∀ k,k∈ms↔k∈ns)→ms.length≤aA)
  (h:∀ (a:aj) (out:Array ag) (ms:List Int) (h':bU) (c:Nat) tk d,eK out.toList ms→ms.Pairwise (·<·)→(∀ k,k∈ms↔k∈ns)→(∀ b o,s.heap.get? b=some o→h'.get? b=some o)→s.heap.objs.size≤a→h'.get? a=some (seqObj "list" out c)→Q (.ref a) {s with heap:=h',toks:=tk,drawn:=d}) :
  wpAny (model prog w) A (call (.builtin "sorted") [.ref S]) Q E s:=by
 refine nT kind_sorted plain_sorted entry_sorted (args_sorted1 _) ?_
 unfold Builtin.«sorted»
 refine aa (m:=checkCount "sorted" 1 1 _) (ak (aa (E5 (by simp[hh]) hS hz fun vs ms h' tk d hI hn hm le kp=>aa (Kb ?_ (by rw[hI.length];exact hz2 ms hn hm)))))
 have hL:vs.length≤aA:=by rw[hI.length];exact hz2 ms hn hm
 have g:(h'.push (seqObj "list" vs.toArray 0)).get? h'.objs.size=some (seqObj "list" vs.toArray 0):=aH _ rfl
 refine aa (dj (c5 slot_list_sort ⟨_,g,rfl⟩ entry_list_sort (list_sort_treeAny (n:=0) g hI hL fun out ms' h1 h2 h3=>⟨_,rfl,?_⟩) (args_list_sort _)))
 obtain ⟨c,hc⟩:=sortedHeap_at (out:=out) g
 refine ak ⟨_,rfl,h _ out ms' _ c tk d h1 ?_ (fun k=>(h2.mem_iff).trans (hm k)) (fun b o e=>?_) le hc⟩
 ·have nd:=h2.nodup_iff.mpr hn
  exact (h3.and nd).imp fun q=>Int.lt_iff_le_and_ne.mpr q
 ·have lb:=aN (kp b o e)
  rw[sortedHeap_old (ba lb) (by rw[cN];exact dD lb)]
  exact ay _ (kp b o e)
end
end Fw
namespace Fx
open PySem PyProof.Rows
def sX (h:bU)(a:aj)(r:Nat):Prop:=∃ o n,h.get? a=some o∧o.data=.seq (jz r ag.none) n
section
variable {M:Me}{Γ:Ctx}{s:au}{p:jK}
theorem Ei {a:aj}{o:fA}{xs:Array ag}{n:Nat}(h:s.heap.get? a=some o)(hd:o.data=.seq xs n)(Q:Array ag→jK→au→Prop)(E:ag→jK→au→Prop):Bz M Γ (nF (.ref a)) Q E p s=Q xs p s:=by
 unfold nF seqItems?
 simp only[kC]
 show Bz M Γ (load a) _ E p s=_
 unfold load
 rw[o8.wp_load]
 apply propext
 constructor
 ·rintro ⟨o',e,q⟩
  rw[h] at e
  cases e
  simp only[Kd,hd] at q
  simpa using q
 ·intro q
  refine ⟨o,h,?_⟩
  simp only[Kd,hd]
  simpa using q
theorem AY {b:Bool}:∀ (l:List ((ag×ag)×Nat)) (fin:Bool) (Q:Bool→jK→au→Prop) (E:ag→jK→au→Prop),(∀ x∈l,x.1=(ag.none,ag.none)) →
  Bz M Γ (do
   for ((p,q),i) in l do
    if !(← eqBool p q) then return ← oneLt' (b&&i==0) p q
   return fin) Q E p s=Q fin p s
 | [],fin,Q,E,h=>by simp
 | x::l,fin,Q,E,h=>by
  obtain ⟨⟨u,v⟩,i⟩:=x
  have e:=h _ ax
  cases e
  have ih:=AY (b:=b) l fin Q E fun y hy=>h y (ao _ hy)
  simp only[jE] at ih ⊢
  have eb:∀ (Q:Bool→jK→au→Prop),Bz M Γ (eqBool .none .none) Q E p s=Q true p s:=fun Q=>by
   rfl
  simp only[kC,bind_assoc] at ih ⊢
  rw[eb]
  simpa using ih
theorem Nh {b:Bool}{x y:aj}{rx ry:Nat}(hx:sX s.heap x rx)(hy:sX s.heap y ry)(Q:Bool→jK→au→Prop)(E:ag→jK→au→Prop):Bz M Γ (keyLt' (tuples' b) (.ref x) (.ref y)) Q E p s=Q (decide (rx<ry)) p s:=by
 obtain ⟨ox,nx,gx,dx⟩:=hx
 obtain ⟨oy,ny,gy,dy⟩:=hy
 rw[kat_lt_eq]
 simp only[kC]
 rw[Ei gx dx,Ei gy dy]
 have:=AY (M:=M) (Γ:=Γ) (s:=s) (p:=p) (b:=b) (((jz rx ag.none).toList.zip (jz ry ag.none).toList).zipIdx) (decide (rx<ry)) Q E fun z hz=>by
  obtain ⟨⟨u,v⟩,i⟩:=z
  have h1:=(TZ hz).2.2
  have h2:(u,v)∈(jz rx ag.none).toList.zip (jz ry ag.none).toList:=by
   rw[h1]
   exact kW _
  obtain ⟨a1,a2⟩:=iN h2
  simp at a1 a2
  rw[a1.2,a2.2]
 simpa using this
end
structure SC where
 M:Me
 Γ:Ctx
 Ms:au
 A:cA
 s:au
 φ:ag→ag
 good:ag→Prop
 b:Bool
 kd:SortKind
 lt:∀ x y,good x→good y→∃ c:Bool,(∀ (Q:Bool→jK→au→Prop) (E:ag→jK→au→Prop) p,Bz M Γ (keyLt' (tuples' b) (φ x) (φ y)) Q E p Ms=Q c p Ms)∧∀ (Q:Bool→au→Prop) (E:ag→au→Prop),Q c s→wpAny M A (keyLt' kd x y) Q E s
class Rl (C:SC) (α:Type) where
 r:α→α→Prop
variable {C:SC}
def fk (C:SC)(p:dY):dY:=(C.φ p.1,p.2)
def dk (C:SC)(a:Array dY):Prop:=∀ p∈a.toList,C.good p.1
instance:Rl C Nat:=⟨Eq⟩
instance:Rl C Bool:=⟨Eq⟩
instance:Rl C Unit:=⟨fun _ _=>True⟩
instance:Rl C PUnit:=⟨fun _ _=>True⟩
instance:Rl C (Array (Nat×Nat×Nat)):=⟨Eq⟩
instance:Rl C dY:=⟨fun a b=>a=fk C b∧C.good b.1⟩
instance:Rl C (Array dY):=⟨fun a b=>a=b.map (fk C)∧dk C b⟩
instance {α:Type}[Rl C α]:Rl C (Option α):=⟨fun a b=>match a,b with
 | none,none=>True
 | some x,some y=>Rl.r C x y
 | _,_=>False⟩
instance {α β:Type}[Rl C α][Rl C β]:Rl C (MProd α β):=⟨fun a b=>Rl.r C a.1 b.1∧Rl.r C a.2 b.2⟩
instance (priority:=low) Ur {α β:Type}[Rl C α][Rl C β]:Rl C (α×β):=⟨fun a b=>Rl.r C a.1 b.1∧Rl.r C a.2 b.2⟩
instance {α:Type}[Rl C α]:Rl C (ForInStep α):=⟨fun a b=>match a,b with
 | .done x,.done y=>Rl.r C x y
 | .yield x,.yield y=>Rl.r C x y
 | _,_=>False⟩
def RS (C:SC)(s t:dN):Prop:=kindOf s=tuples' C.b∧kindOf t=C.kd∧arrOf s=(arrOf t).map (fk C)∧dk C (arrOf t)∧pendingOf s=pendingOf t∧gallopOf s=gallopOf t∧failedOf s=none∧failedOf t=none
instance:Rl C dN:=⟨RS C⟩
def i8 (C:SC){α:Type}[Rl C α](m n:StateT dN o8 α):Prop:=∀ s t,RS C s t→∀ (Q:α×dN→jK→au→Prop) p,Bz C.M C.Γ (m.run s) Q (fun _ _ _=>False) p C.Ms →
 ∃ a b s' t' p',Q (a,s') p' C.Ms∧Rl.r C a b∧RS C s' t'∧∀ (Q':α×dN→au→Prop) (E:ag→au→Prop),Q' (b,t') C.s→wpAny C.M C.A (n.run t) Q' E C.s
section
variable {α β:Type}[Rl C α][Rl C β]
theorem bZ {a b:α}(h:Rl.r C a b):i8 C (pure a) (pure b):=fun s t hs Q p hw=>by
 rw[StateT.run_pure,mL] at hw
 exact ⟨a,b,s,t,p,hw,h,hs,fun Q' E q=>by rw[StateT.run_pure];exact ak q⟩
theorem cZ {m n:StateT dN o8 α}{f g:α→StateT dN o8 β}(h:i8 C m n)(k:∀ a b,Rl.r C a b→i8 C (f a) (g b)):i8 C (m >>= f) (n >>= g):=fun s t hs Q p hw=>by
 rw[StateT.run_bind,kC] at hw
 obtain ⟨a,b,s',t',p',hq,hr,hs',he⟩:=h s t hs _ p hw
 obtain ⟨a',b',s2,t2,p2,hq2,hr2,hs2,he2⟩:=k a b hr s' t' hs' Q p' hq
 refine ⟨a',b',s2,t2,p2,hq2,hr2,hs2,fun Q' E q=>?_⟩
 rw[StateT.run_bind]
 exact aa (he _ _ (he2 Q' E q))
theorem fo {c:Prop}[Decidable c]{a b a' b':StateT dN o8 α}(h1:c→i8 C a a')(h2:¬ c→i8 C b b'):i8 C (if c then a else b) (if c then a' else b'):=by
 by_cases h:c
 ·rw[if_pos h,if_pos h];exact h1 h
 ·rw[if_neg h,if_neg h];exact h2 h
theorem rV:i8 C (get:StateT dN o8 dN) get:=fun s t hs Q p hw=>by
 rw[StateT.run_get,mL] at hw
 exact ⟨s,t,s,t,p,hw,hs,hs,fun Q' E q=>by rw[StateT.run_get];exact ak q⟩
theorem mr {f g:dN→dN}(h:∀ s t,RS C s t→RS C (f s) (g t)):i8 C (modify f:StateT dN o8 PUnit) (modify g):=fun s t hs Q p hw=>by
 rw[StateT.run_modify,mL] at hw
 exact ⟨_,⟨⟩,f s,g t,p,hw,trivial,h s t hs,fun Q' E q=>by rw[StateT.run_modify];exact ak q⟩
theorem Rk {u v:dN}(h:RS C u v):i8 C (set u:StateT dN o8 PUnit) (set v):=fun s t hs Q p hw=>by
 rw[StateT.run_set,mL] at hw
 exact ⟨_,⟨⟩,u,v,p,hw,trivial,h,fun Q' E q=>by rw[StateT.run_set];exact ak q⟩
theorem mi {tag:String}:i8 C (liftM (rule tag):StateT dN o8 Unit) (liftM (rule tag)):=fun s t hs Q p hw=>by
 refine ⟨(),(),s,t,p,?_,trivial,hs,fun Q' E q=>?_⟩
 ·exact hw
 ·exact aa (jm (ak q))
theorem kj {what:String}{n:StateT dN o8 α}:i8 C (liftM (unsupported what:o8 α):StateT dN o8 α) n:=fun s t hs Q p hw=>by
 have:False:=hw
 exact this.elim
theorem AH {γ:Type}{f g:γ→β→StateT dN o8 (ForInStep β)}(h:∀ x b c,Rl.r C b c→i8 C (f x b) (g x c)):∀ (l:List γ) (b c:β),Rl.r C b c→i8 C (forIn l b f) (forIn l c g)
 | [],b,c,hb=>by
  rw[j8,j8]
  exact bZ hb
 | x::l,b,c,hb=>by
  rw[jE,jE]
  refine cZ (h x b c hb) fun r r' hr=>?_
  cases r with
  | done y =>
   cases r' with
   | done y'=>exact bZ hr
   | yield y'=>exact hr.elim
  | yield y =>
   cases r' with
   | done y'=>exact hr.elim
   | yield y'=>exact AH h l y y' hr
theorem oN {i j:Nat}{f g:Nat→β→StateT dN o8 (ForInStep β)}{b c:β}(hb:Rl.r C b c)(h:∀ x b c,Rl.r C b c→i8 C (f x b) (g x c)):i8 C (forIn [i:j] b f) (forIn [i:j] c g):=by
 rw[nG,nG]
 exact AH h _ b c hb
end
theorem yu {x y:dY}(hx:C.good x.1)(hy:C.good y.1):i8 C (lt' (fk C x) (fk C y)) (lt' x y):=fun s t hs Q p hw=>by
 obtain ⟨c,h1,h2⟩:=C.lt _ _ hx hy
 rw[lt'_eq] at hw
 rw[StateT.run_bind,kC,StateT.run_get,mL] at hw
 rw[StateT.run_bind,kC] at hw
 have hk:kindOf s=tuples' C.b:=hs.1
 have hk2:kindOf t=C.kd:=hs.2.1
 refine ⟨some c,some c,s,t,p,?_,rfl,hs,fun Q' E q=>?_⟩
 ·simp only[hk] at hw
  unfold o8.attempt at hw
  simp only[StateT.run_monadLift,liftM,monadLift,MonadLift.monadLift,StateT.lift,StateT.run,kC,o8.wp_tryCatch,o8.wp_bind,h1,fk,Kd,mL] at hw
  exact hw
 ·rw[lt'_eq,StateT.run_bind]
  refine aa ?_
  rw[StateT.run_get]
  refine ak ?_
  rw[StateT.run_bind]
  refine aa ?_
  simp only[hk2]
  exact aa (iy (h2 _ _ (ak (ak q))))
theorem jQ {a:Array dY}{i:Nat}(h:dk C a):i8 C (elem' (a.map (fk C)) i) (elem' a i):=by
 rw[elem'_eq,elem'_eq,Mb]
 cases e:a[i]? with
 | none=>exact kj
 | some p=>exact bZ ⟨rfl,h p (by rw[← gM] at e;exact aV e)⟩
variable {C:SC}
theorem RS.setArr {s t:dN}{a:Array dY}(h:RS C s t)(g:dk C a):RS C (setArr s (a.map (fk C))) (setArr t a):=⟨h.1,h.2.1,rfl,g,h.2.2.2.2.1,h.2.2.2.2.2.1,h.2.2.2.2.2.2.1,h.2.2.2.2.2.2.2⟩
theorem dk.perm {a b:Array dY}(h:dk C a)(p:b.Perm a):dk C b:=fun x hx=>h x (p.toList.mem_iff.mp hx)
theorem yE (i j:Nat):i8 C (ltAt' i j) (ltAt' i j):=by
 rw[ltAt'_eq]
 refine cZ rV fun s t hs=>?_
 have e:arrOf s=(arrOf t).map (fk C):=hs.2.2.1
 have g:dk C (arrOf t):=hs.2.2.2.1
 rw[e]
 refine cZ (jQ g) fun x y hx=>cZ (jQ g) fun x' y' hx'=>?_
 rw[hx.1,hx'.1]
 exact yu hx.2 hx'.2
theorem Ol (a:Array dY)(i j:Nat):(a.map (fk C)).swapIfInBounds i j=(a.swapIfInBounds i j).map (fk C):=by
 by_cases hi:i<a.size
 ·by_cases hj:j<a.size
  ·refine Array.ext_getElem? fun k=>?_
   simp only[Mb,getElem?_swapIB (xs:=a.map (fk C)) (by simpa using hi) (by simpa using hj),getElem?_swapIB hi hj]
   split
   ·rfl
   ·split<;>rfl
  ·simp[CS,hj]
 ·simp[CS,hi]
theorem vV {γ:Type}(p q:γ→Nat):∀ (l:List γ) (a:Array dY),l.foldl (fun a k=>a.swapIfInBounds (p k) (q k)) (a.map (fk C))=(l.foldl (fun a k=>a.swapIfInBounds (p k) (q k)) a).map (fk C)
 | [],a=>rfl
 | x::l,a=>by
  rw[d4,d4,Ol]
  exact vV p q l _
theorem IH (i j:Nat):i8 C (reverseSlice' i j) (reverseSlice' i j):=by
 rw[reverseSlice'_eq]
 refine mr fun s t hs=>?_
 have e:arrOf s=(arrOf t).map (fk C):=hs.2.2.1
 rw[e]
 unfold mirror
 rw[vV]
 exact hs.setArr (dk.perm hs.2.2.2.1 (mirror_perm (arrOf t) i j _))
theorem Ou (i j:Nat):i8 C (moveDown' i j) (moveDown' i j):=by
 rw[moveDown'_eq]
 refine mr fun s t hs=>?_
 have e:arrOf s=(arrOf t).map (fk C):=hs.2.2.1
 rw[e]
 unfold bubble
 rw[vV]
 exact hs.setArr (dk.perm hs.2.2.2.1 (bubble_perm (arrOf t) i _))
theorem ku {α:Type}[Rl C α]{x y:Option α}(h:Rl.r C x y):(x=none∧y=none)∨∃ a b,x=some a∧y=some b∧Rl.r C a b:=by
 cases x with
 | none=>cases y with
  | none=>exact .inl ⟨rfl,rfl⟩
  | some b=>exact h.elim
 | some a=>cases y with
  | none=>exact h.elim
  | some b=>exact .inr ⟨a,b,rfl,rfl,h⟩
theorem zh {l:Bool}{k:dY}{a:Array dY}{base i:Nat}(hk:C.good k.1)(h:dk C a):i8 C (beyond' l (fk C k) (a.map (fk C)) base i) (beyond' l k a base i):=by
 unfold beyond'
 refine cZ (jQ h) fun x y hx=>fo (fun _=>?_) fun _=>?_
 ·rw[hx.1];exact yu hx.2 hk
 ·rw[hx.1]
  refine cZ (yu hk hx.2) fun u v hu=>bZ ?_
  rcases ku hu with ⟨rfl,rfl⟩ | ⟨c,d,rfl,rfl,e⟩
  ·trivial
  ·exact congrArg _ e
local macro_rules | `(tactic| contradiction)=>`(tactic| first | exact trivial | exact rfl | assumption | (refine ⟨?_,?_⟩<;>contradiction))
theorem II {α β:Type}[Rl C α][Rl C β]{m n:StateT dN o8 (Option α)}{f g:Option α→StateT dN o8 β}(h:i8 C m n)(h0:i8 C (f none) (g none))(h1:∀ a b,Rl.r C a b→i8 C (f (some a)) (g (some b))):i8 C (m >>= f) (n >>= g):=by
 refine cZ h fun u v q=>?_
 rcases ku q with ⟨rfl,rfl⟩ | ⟨a,b,rfl,rfl,r⟩
 ·exact h0
 ·exact h1 a b r
theorem mj {β:Type}[Rl C β]{m n:StateT dN o8 (Option Bool)}{f g:Option Bool→StateT dN o8 β}(h:i8 C m n)(h0:i8 C (f none) (g none))(h1:∀ a,i8 C (f (some a)) (g (some a))):i8 C (m >>= f) (n >>= g) :=
 II h h0 fun a b r=>by cases r;exact h1 a
theorem qR {β:Type}[Rl C β]{m n:StateT dN o8 (Option Nat)}{f g:Option Nat→StateT dN o8 β}(h:i8 C m n)(h0:i8 C (f none) (g none))(h1:∀ a,i8 C (f (some a)) (g (some a))):i8 C (m >>= f) (n >>= g) :=
 II h h0 fun a b r=>by cases r;exact h1 a
theorem Rm (lo n ok:Nat):i8 C (binarySort' lo n ok) (binarySort' lo n ok):=by
 rw[binarySort'_eq]
 refine cZ (oN ?_ ?_) ?_
 ·contradiction
 ·rintro k ⟨b,u⟩ ⟨c,v⟩ ⟨hb,-⟩
  refine cZ (oN ?_ ?_) ?_
  ·contradiction
  ·rintro x ⟨b,l,r⟩ ⟨c,l',r'⟩ ⟨hb,hl,hr⟩
   cases hl
   cases hr
   dsimp only
   refine fo (fun _=>bZ ?_) fun _=>?_
   ·contradiction
   ·refine mj (yE _ _) ?_ fun a=>?_
    ·(((try dsimp only);repeat' (first | (refine fo (fun _=>?_) fun _=>?_) | (refine bZ ?_)))<;>(try contradiction))
    ·(((try dsimp only);repeat' (first | (refine fo (fun _=>?_) fun _=>?_) | (refine bZ ?_)))<;>(try contradiction))
  ·rintro ⟨b,l,r⟩ ⟨c,l',r'⟩ ⟨hb,hl,hr⟩
   cases hl
   cases hr
   rcases ku hb with ⟨h1,h2⟩ | ⟨a,b,h1,h2,hab⟩
   ·cases h1
    cases h2
    dsimp only
    refine cZ (Ou _ _) fun _ _ _=>bZ ?_
    contradiction
   ·cases h1
    cases h2
    cases hab
    exact bZ (by contradiction)
 ·rintro ⟨b,l⟩ ⟨c,l'⟩ ⟨hb,-⟩
  rcases ku hb with ⟨h1,h2⟩ | ⟨a,b,h1,h2,hab⟩
  ·cases h1
   cases h2
   exact bZ rfl
  ·cases h1
   cases h2
   cases hab
   exact bZ rfl
variable {C:SC}
class xu (C:SC) (α:Type) extends Rl C α where
 e:∀ a b:α,r a b↔a=b
instance:xu C Nat where
 e:=fun _ _=>QF
instance:xu C Bool where
 e:=fun _ _=>QF
instance:xu C Unit where
 e:=fun _ _=>⟨fun _=>rfl,fun _=>trivial⟩
theorem Vq {α β:Type}[xu C α][xu C β](a b:α×β):(Ur (C:=C)).r a b↔a=b:=by
 obtain ⟨a1,a2⟩:=a
 obtain ⟨b1,b2⟩:=b
 show (xu.toRl.r a1 b1∧xu.toRl.r a2 b2)↔_
 rw[xu.e,xu.e]
 simp
instance {α β:Type}[xu C α][xu C β]:xu C (α×β):=xu.mk (toRl:=Ur) Vq
theorem oA {ρ σ γ:Type}[Rl C ρ][E:xu C σ][Rl C γ]{i j:Nat}{n:σ}{f g:Nat→Option ρ×σ→StateT dN o8 (ForInStep (Option ρ×σ))}{k l:Option ρ×σ→StateT dN o8 γ}(h:∀ x b c n,i8 C (f x (b,n)) (g x (c,n)))(h0:∀ n,i8 C (k (none,n)) (l (none,n)))(h1:∀ a b n,Rl.r C a b→i8 C (k (some a,n)) (l (some b,n))) :
  i8 C (forIn [i:j] (none,n) f >>= k) (forIn [i:j] (none,n) g >>= l):=by
 refine cZ (oN (β:=Option ρ×σ) ?_ ?_) ?_
 ·exact ⟨trivial,(xu.e n n).mpr rfl⟩
 ·rintro x ⟨b,m⟩ ⟨c,m'⟩ ⟨_,hm⟩
  have hm:m=m':=(xu.e m m').mp hm
  subst hm
  exact h x b c m
 ·rintro ⟨b,m⟩ ⟨c,m'⟩ ⟨hb,hm⟩
  have hm:m=m':=(xu.e m m').mp hm
  subst hm
  rcases ku hb with ⟨rfl,rfl⟩ | ⟨a,b,rfl,rfl,r⟩
  ·exact h0 m
  ·exact h1 a b m r
local macro_rules | `(tactic| contradiction)=>`(tactic| first | exact trivial | exact rfl | assumption | (refine ⟨?_,?_⟩<;>contradiction))
theorem Ku (lo nrem:Nat):i8 C (countRun' lo nrem) (countRun' lo nrem):=by
 rw[countRun'_eq]
 repeat' (with_reducible_and_instances first | exact kj | (refine bZ ?_;with_unfolding_all contradiction) | (refine fo (fun _=>?_) fun _=>?_) | (refine mj (yE _ _) ?_ fun _=>?_) | (refine mj (zh (by assumption) (by assumption)) ?_ fun _=>?_) | (refine cZ (IH _ _) fun _ _ _=>?_) | (refine cZ mi fun _ _ _=>?_) | (refine oA (fun _ _ _ _=>?_) (fun _=>?_) fun _ _ _ _=>?_) | dsimp only)
theorem pK {left:Bool}{key:dY}{a:Array dY}{base n hint:Nat}(hk:C.good key.1)(ha:dk C a):i8 C (gallop' left (fk C key) (a.map (fk C)) base n hint) (gallop' left key a base n hint):=by
 rw[gallop'_eq,gallop'_eq]
 repeat' (with_reducible_and_instances first | exact kj | (refine bZ ?_;with_unfolding_all contradiction) | (refine fo (fun _=>?_) fun _=>?_) | (refine mj (yE _ _) ?_ fun _=>?_) | (refine mj (zh (by assumption) (by assumption)) ?_ fun _=>?_) | (refine cZ (IH _ _) fun _ _ _=>?_) | (refine cZ mi fun _ _ _=>?_) | (refine oA (fun _ _ _ _=>?_) (fun _=>?_) fun _ _ _ _=>?_) | dsimp only)
variable {C:SC}
theorem dk.app {a b:Array dY}(h:dk C a)(g:dk C b):dk C (a++b):=fun p hp=>by
 rw[Array.toList_append,bq] at hp
 exact hp.elim (h p) (g p)
theorem dk.ext {a:Array dY}{i j:Nat}(h:dk C a):dk C (a.extract i j):=fun p hp=>by
 rw[Array.toList_extract] at hp
 exact h p (JV (lE hp))
theorem dk.push {a:Array dY}{x:dY}(h:dk C a)(g:C.good x.1):dk C (a.push x):=fun p hp=>by
 rw[wK,bq,bB] at hp
 rcases hp with q | q
 ·exact h p q
 ·rw[q];exact g
theorem dk.rev {a:Array dY}(h:dk C a):dk C a.reverse:=fun p hp=>by
 rw[Array.toList_reverse,List.mem_reverse] at hp
 exact h p hp
theorem dk.one {x:dY}(g:C.good x.1):dk C #[x]:=fun p hp=>by
 have:p=x:=by simpa using hp
 rw[this];exact g
theorem y9 (g:Nat):i8 C (setMinGallop' g) (setMinGallop' g):=by
 show i8 C (modify fun s=>p6 (kindOf s) (arrOf s) (pendingOf s) g (failedOf s)) (modify fun s=>p6 (kindOf s) (arrOf s) (pendingOf s) g (failedOf s))
 exact mr fun s t h=>⟨h.1,h.2.1,h.2.2.1,h.2.2.2.1,h.2.2.2.2.1,rfl,h.2.2.2.2.2.2.1,h.2.2.2.2.2.2.2⟩
theorem YR {a b:Array dY}(h:a=b.map (fk C))(g:dk C b):Rl.r C a b:=⟨h,g⟩
theorem Kt {τ γ:Type}[xu C τ][Rl C γ]{i j:Nat}{o o':Array dY}{n:τ}{f g:Nat→Option (Array dY)×Array dY×τ→StateT dN o8 (ForInStep (Option (Array dY)×Array dY×τ))}{k l:Option (Array dY)×Array dY×τ→StateT dN o8 γ}(eo:o'=o.map (fk C))(ho:dk C o)
  (h:∀ x b c o n,dk C o→i8 C (f x (b,o.map (fk C),n)) (g x (c,o,n)))(h0:∀ o n,dk C o→i8 C (k (none,o.map (fk C),n)) (l (none,o,n)))(h1:∀ r o n,dk C r→dk C o→i8 C (k (some (r.map (fk C)),o.map (fk C),n)) (l (some r,o,n))) :
  i8 C (forIn [i:j] (none,o',n) f >>= k) (forIn [i:j] (none,o,n) g >>= l):=by
 subst eo
 refine cZ (oN (β:=Option (Array dY)×Array dY×τ) ?_ ?_) ?_
 ·exact ⟨trivial,⟨rfl,ho⟩,(xu.e n n).mpr rfl⟩
 ·rintro x ⟨b,o,m⟩ ⟨c,o',m'⟩ ⟨_,⟨eo,go⟩,hm⟩
  have hm:m=m':=(xu.e m m').mp hm
  subst hm
  have eo:o=o'.map (fk C):=eo
  subst eo
  exact h x b c o' m go
 ·rintro ⟨b,o,m⟩ ⟨c,o',m'⟩ ⟨hb,⟨eo,go⟩,hm⟩
  have hm:m=m':=(xu.e m m').mp hm
  subst hm
  have eo:o=o'.map (fk C):=eo
  subst eo
  rcases ku hb with ⟨h2,h3⟩ | ⟨a,d,h2,h3,r⟩
  ·have h2:b=none:=h2
   have h3:c=none:=h3
   subst h2 h3
   exact h0 o' m go
  ·have r1:a=d.map (fk C):=r.1
   have h2:b=some a:=h2
   have h3:c=some d:=h3
   subst h2 h3 r1
   exact h1 d o' m r.2 go
local macro_rules | `(tactic| ac_rfl)=>`(tactic| first | assumption | (apply dk.app<;>ac_rfl) | (apply dk.ext;ac_rfl) | (apply dk.push<;>ac_rfl) | (apply dk.rev;ac_rfl) | (apply dk.one;ac_rfl))
theorem YQ {n:Nat}:Rl.r C n n:=rfl
theorem YO {a b:Unit}:Rl.r C a b:=trivial
theorem Gf {α:Type}[Rl C α]:Rl.r C (none:Option α) none:=trivial
theorem Gd {α:Type}[Rl C α]{a b:α}(h:Rl.r C a b):Rl.r C (some a) (some b):=h
theorem Ge {α β:Type}[Rl C α][Rl C β]{a b:α}{c d:β}(h:Rl.r C a b)(g:Rl.r C c d):Rl.r C (a,c) (b,d):=⟨h,g⟩
local macro_rules | `(tactic| infer_instance)=>`(tactic| with_reducible_and_instances first | exact YQ | exact ZJ | exact YO | exact Gf | (refine Gd ?_;infer_instance) | (refine NA ?_;infer_instance) | (refine IP ?_;infer_instance) | (refine Ge ?_ ?_<;>infer_instance) | exact YR (by first | (with_reducible rfl) | (simp only[kO,iP,mQ,j3,kU,bo,fC])) (by ac_rfl))
theorem ow {β:Type}[Rl C β]{m n:StateT dN o8 dY}{f g:dY→StateT dN o8 β}(h:i8 C m n)(k:∀ a,C.good a.1→i8 C (f (fk C a)) (g a)):i8 C (m >>= f) (n >>= g) :=
 cZ h fun a b r=>by
  have r1:a=fk C b:=r.1
  subst r1
  exact k b r.2
theorem Vi {a b:Array dY}(ha:dk C a)(hb:dk C b):i8 C (mergeLo' (a.map (fk C)) (b.map (fk C))) (mergeLo' a b):=by
 rw[mergeLo'_eq,mergeLo'_eq]
 have ea:(a.map (fk C)).size=a.size:=iX
 have eb:(b.map (fk C)).size=b.size:=iX
 rw[ea,eb]
 refine cZ mi fun _ _ _=>?_
 refine ow (jQ hb) fun y gy=>?_
 refine fo (fun _=>bZ (by infer_instance)) fun _=>fo (fun _=>bZ (by infer_instance)) fun _=>?_
 refine cZ rV fun s t hs=>?_
 have eg:gallopOf s=gallopOf t:=hs.2.2.2.2.2.1
 rw[eg]
 repeat' (with_reducible_and_instances first | exact kj | (refine bZ ?_;infer_instance) | (refine fo (fun _=>?_) fun _=>?_) | (refine ow (jQ (by assumption)) fun _ _=>?_) | (refine mj (yu (by assumption) (by assumption)) ?_ fun _=>?_) | (refine qR (pK (by assumption) (by assumption)) ?_ fun _=>?_) | (refine cZ (y9 _) fun _ _ _=>?_) | (refine cZ mi fun _ _ _=>?_) | (refine Kt (by first | (with_reducible rfl) | (simp only[kO,iP,mQ,j3,kU,bo,fC])) (by ac_rfl) (fun _ _ _ _ _ _=>?_) (fun _ _ _=>?_) fun _ _ _ _ _=>?_) | dsimp only)
variable {C:SC}
theorem Ks {τ γ:Type}[xu C τ][Rl C γ]{i j u v:Nat}{o o':Array dY}{n:τ}{f g:Nat→Option (Array dY)×Nat×Nat×Array dY×τ→StateT dN o8 (ForInStep (Option (Array dY)×Nat×Nat×Array dY×τ))}{k l:Option (Array dY)×Nat×Nat×Array dY×τ→StateT dN o8 γ}(eo:o'=o.map (fk C))(ho:dk C o)
  (h:∀ x b c u v o n,dk C o→i8 C (f x (b,u,v,o.map (fk C),n)) (g x (c,u,v,o,n)))(h0:∀ u v o n,dk C o→i8 C (k (none,u,v,o.map (fk C),n)) (l (none,u,v,o,n)))(h1:∀ r u v o n,dk C r→dk C o→i8 C (k (some (r.map (fk C)),u,v,o.map (fk C),n)) (l (some r,u,v,o,n))) :
  i8 C (forIn [i:j] (none,u,v,o',n) f >>= k) (forIn [i:j] (none,u,v,o,n) g >>= l):=by
 subst eo
 refine cZ (oN (β:=Option (Array dY)×Nat×Nat×Array dY×τ) ?_ ?_) ?_
 ·exact ⟨trivial,rfl,rfl,⟨rfl,ho⟩,(xu.e n n).mpr rfl⟩
 ·rintro x ⟨b,u,v,o,m⟩ ⟨c,u',v',o',m'⟩ ⟨_,hu,hv,⟨eo,go⟩,hm⟩
  have e1:m=m':=(xu.e m m').mp hm
  have e2:u=u':=hu
  have e3:v=v':=hv
  have e4:o=o'.map (fk C):=eo
  subst e1 e2 e3 e4
  exact h x b c u v o' m go
 ·rintro ⟨b,u,v,o,m⟩ ⟨c,u',v',o',m'⟩ ⟨hb,hu,hv,⟨eo,go⟩,hm⟩
  have e1:m=m':=(xu.e m m').mp hm
  have e2:u=u':=hu
  have e3:v=v':=hv
  have e4:o=o'.map (fk C):=eo
  subst e1 e2 e3 e4
  rcases ku hb with ⟨h2,h3⟩ | ⟨a,d,h2,h3,r⟩
  ·have h2:b=none:=h2
   have h3:c=none:=h3
   subst h2 h3
   exact h0 u v o' m go
  ·have r1:a=d.map (fk C):=r.1
   have h2:b=some a:=h2
   have h3:c=some d:=h3
   subst h2 h3 r1
   exact h1 d u v o' m r.2 go
local macro_rules | `(tactic| ac_rfl)=>`(tactic| first | assumption | (apply dk.app<;>ac_rfl) | (apply dk.ext;ac_rfl) | (apply dk.push<;>ac_rfl) | (apply dk.rev;ac_rfl) | (apply dk.one;ac_rfl))
local macro_rules | `(tactic| infer_instance)=>`(tactic| with_reducible_and_instances first | exact YQ | exact ZJ | exact YO | exact Gf | (refine Gd ?_;infer_instance) | (refine NA ?_;infer_instance) | (refine IP ?_;infer_instance) | (refine Ge ?_ ?_<;>infer_instance) | exact YR (by first | (with_reducible rfl) | (simp only[kO,iP,mQ,j3,kU,bo,fC])) (by ac_rfl))
theorem Vj {a b:Array dY}(ha:dk C a)(hb:dk C b):i8 C (mergeHi' (a.map (fk C)) (b.map (fk C))) (mergeHi' a b):=by
 rw[mergeHi'_eq,mergeHi'_eq]
 have ea:(a.map (fk C)).size=a.size:=iX
 have eb:(b.map (fk C)).size=b.size:=iX
 rw[ea,eb]
 refine cZ mi fun _ _ _=>?_
 refine ow (jQ ha) fun y gy=>?_
 refine fo (fun _=>bZ (by infer_instance)) fun _=>fo (fun _=>bZ (by infer_instance)) fun _=>?_
 refine cZ rV fun s t hs=>?_
 have eg:gallopOf s=gallopOf t:=hs.2.2.2.2.2.1
 rw[eg]
 repeat' (with_reducible_and_instances first | exact kj | (refine bZ ?_;infer_instance) | (refine fo (fun _=>?_) fun _=>?_) | (refine ow (jQ (by assumption)) fun _ _=>?_) | (refine mj (yu (by assumption) (by assumption)) ?_ fun _=>?_) | (refine qR (pK (by assumption) (by assumption)) ?_ fun _=>?_) | (refine cZ (y9 _) fun _ _ _=>?_) | (refine cZ mi fun _ _ _=>?_) | (refine Ks (by first | (with_reducible rfl) | (simp only[kO,iP,mQ,j3,kU,bo,fC])) (by ac_rfl) (fun _ _ _ _ _ _ _ _=>?_) (fun _ _ _ _ _=>?_) fun _ _ _ _ _ _ _=>?_) | dsimp only)
theorem fold_map:∀ (l:List (dY×Nat)) (a:Array dY) (sa:Nat),(l.map fun p=>(fk C p.1,p.2)).foldl (fun a (p:dY×Nat)=>a.setIfInBounds (sa+p.2) p.1) (a.map (fk C))=(l.foldl (fun a (p:dY×Nat)=>a.setIfInBounds (sa+p.2) p.1) a).map (fk C)
 | [],a,sa=>rfl
 | x::l,a,sa=>by
  rw[bo,d4,d4,← Array.map_setIfInBounds]
  exact fold_map l _ sa
theorem A7:∀ (l:List (dY×Nat)) (a:Array dY) (sa:Nat),(∀ p∈l,C.good p.1.1)→dk C a→dk C (l.foldl (fun a (p:dY×Nat)=>a.setIfInBounds (sa+p.2) p.1) a)
 | [],a,sa,_,h=>h
 | x::l,a,sa,hl,h=>by
  rw[d4]
  refine A7 l _ sa (fun p hp=>hl p (ao _ hp)) fun p hp=>?_
  rw[Array.toList_setIfInBounds] at hp
  rcases List.mem_or_eq_of_mem_set hp with q | q
  ·exact h p q
  ·rw[q];exact hl x ax
theorem FN (i:Nat):i8 C (mergeAt' i) (mergeAt' i):=by
 rw[mergeAt'_eq]
 refine cZ rV fun s t hs=>?_
 have e1:arrOf s=(arrOf t).map (fk C):=hs.2.2.1
 have g1:dk C (arrOf t):=hs.2.2.2.1
 have e2:pendingOf s=pendingOf t:=hs.2.2.2.2.1
 rw[e1,e2]
 cases q1:(pendingOf t)[i]? with
 | none=>exact kj
 | some p1 =>
  cases q2:(pendingOf t)[i+1]? with
  | none=>exact kj
  | some p2 =>
   obtain ⟨sa,na,pw⟩:=p1
   obtain ⟨sb,nb,pw2⟩:=p2
   dsimp only
   refine cZ (Rk ⟨hs.1,hs.2.1,e1,g1,by rfl,hs.2.2.2.2.2.1,hs.2.2.2.2.2.2.1,hs.2.2.2.2.2.2.2⟩) fun _ _ _=>?_
   refine ow (jQ g1) fun y gy=>qR (pK gy g1) (bZ rfl) fun k=>?_
   dsimp only
   refine fo (fun _=>bZ rfl) fun _=>?_
   refine ow (jQ g1) fun y gy=>qR (pK gy g1) (bZ rfl) fun k2=>?_
   dsimp only
   refine fo (fun _=>bZ rfl) fun _=>?_
   have fin:∀ (u v:Array dY),Rl.r C u v→i8 C (do
     modify fun s=>setArr s (u.toList.zipIdx.foldl (fun a (x:dY×Nat)=>match x with | (p,j)=>a.setIfInBounds (sa+k+j) p) (arrOf s))
     let s' ← get
     pure (failedOf s').isNone) (do
     modify fun s=>setArr s (v.toList.zipIdx.foldl (fun a (x:dY×Nat)=>match x with | (p,j)=>a.setIfInBounds (sa+k+j) p) (arrOf s))
     let s' ← get
     pure (failedOf s').isNone):=fun u v huv=>by
    obtain ⟨rfl,gv⟩:=huv
    refine cZ (mr fun s t h=>?_) fun _ _ _=>cZ rV fun s t h=>bZ ?_
    ·have e3:arrOf s=(arrOf t).map (fk C):=h.2.2.1
     have ez:(v.map (fk C)).toList.zipIdx=v.toList.zipIdx.map fun p=>(fk C p.1,p.2):=by
      rw[i4,List.zipIdx_map]
      rfl
     have:=fold_map (C:=C) v.toList.zipIdx (arrOf t) (sa+k)
     rw[e3,ez]
     show RS C (setArr s ((v.toList.zipIdx.map fun p=>(fk C p.1,p.2)).foldl (fun a (p:dY×Nat)=>a.setIfInBounds (sa+k+p.2) p.1) ((arrOf t).map (fk C)))) _
     rw[this]
     refine h.setArr (A7 _ _ _ (fun p hp=>gv p.1 ?_) h.2.2.2.1)
     obtain ⟨p1,p2⟩:=p
     have:=(TZ hp).2.2
     rw[this]
     exact kW _
    ·have f1:failedOf s=none:=h.2.2.2.2.2.2.1
     have f2:failedOf t=none:=h.2.2.2.2.2.2.2
     show (failedOf s).isNone=(failedOf t).isNone
     rw[f1,f2]
   have ex:∀ i j,((arrOf t).map (fk C)).extract i j=((arrOf t).extract i j).map (fk C):=fun i j=>by rw[iP]
   rw[ex,ex]
   refine fo (fun _=>cZ (Vi g1.ext g1.ext) fin) fun _=>cZ (Vj g1.ext g1.ext) fin
variable {C:SC}
local macro_rules | `(tactic| ac_rfl)=>`(tactic| first | assumption | (apply dk.app<;>ac_rfl) | (apply dk.ext;ac_rfl) | (apply dk.push<;>ac_rfl) | (apply dk.rev;ac_rfl) | (apply dk.one;ac_rfl))
local macro_rules | `(tactic| infer_instance)=>`(tactic| with_reducible_and_instances first | exact YQ | exact ZJ | exact YO | exact Gf | (refine Gd ?_;infer_instance) | (refine NA ?_;infer_instance) | (refine IP ?_;infer_instance) | (refine Ge ?_ ?_<;>infer_instance) | exact YR (by first | (with_reducible rfl) | (simp only[kO,iP,mQ,j3,kU,bo,fC])) (by ac_rfl))
theorem RS.pend {s t:dN}{p:Array (Nat×Nat×Nat)}(h:RS C s t):RS C (setPending s p) (setPending t p):=⟨h.1,h.2.1,h.2.2.1,h.2.2.2.1,rfl,h.2.2.2.2.2.1,h.2.2.2.2.2.2.1,h.2.2.2.2.2.2.2⟩
theorem uS {β:Type}[Rl C β]{m n:StateT dN o8 Bool}{f g:Bool→StateT dN o8 β}(h:i8 C m n)(k:∀ a,i8 C (f a) (g a)):i8 C (m >>= f) (n >>= g) :=
 cZ h fun a b r=>by cases r;exact k a
theorem oB {β:Type}[Rl C β]{f g:dN→StateT dN o8 β}(k:∀ s t,pendingOf s=pendingOf t→(arrOf s).size=(arrOf t).size→i8 C (f s) (g t)):i8 C (get >>= f) (get >>= g) :=
 cZ rV fun s t h=>k s t h.2.2.2.2.1 (by
  have:arrOf s=(arrOf t).map (fk C):=h.2.2.1
  rw[this,iX])
theorem oz {β:Type}[Rl C β]{f:dN→Array (Nat×Nat×Nat)}{m n:PUnit→StateT dN o8 β}(hf:∀ s t,pendingOf s=pendingOf t→f s=f t)(k:i8 C (m ⟨⟩) (n ⟨⟩)):i8 C ((modify fun s=>setPending s (f s)) >>= m) ((modify fun s=>setPending s (f s)) >>= n) :=
 cZ (mr fun s t h=>by
  rw[hf s t h.2.2.2.2.1]
  exact h.pend) fun _ _ _=>k
theorem Ot:i8 C sortRuns' sortRuns':=by
 rw[sortRuns'_eq]
 refine oB fun s t _ hz=>?_
 rw[hz]
 refine oA (fun x b c lo=>?_) (fun lo=>?_) fun a b lo hab=>?_
 ·dsimp only
  refine fo (fun _=>bZ (by infer_instance)) fun _=>?_
  refine qR (Ku _ _) (bZ (by infer_instance)) fun n=>?_
  dsimp only
  refine fo (fun _=>?_) fun _=>?_
  ·refine cZ mi fun _ _ _=>?_
   refine uS (Rm _ _ _) fun d=>?_
   refine fo (fun _=>bZ (by infer_instance)) fun _=>?_
   refine oB fun s2 t2 hp _=>?_
   rw[hp]
   generalize (pendingOf t2).back?=q
   cases q with
   | none=>exact oz (fun s t h=>by rw[h]) (bZ (by infer_instance))
   | some p =>
    obtain ⟨s1,n1,pw⟩:=p
    dsimp only
    refine oA (fun x b c u=>?_) (fun u=>?_) fun a b u hab=>?_
    ·refine oB fun s3 t3 hp3 _=>?_
     rw[hp3]
     generalize (if (pendingOf t3).size > 1 then (pendingOf t3)[(pendingOf t3).size - 2]? else none)=o
     cases o with
     | none=>exact bZ (by infer_instance)
     | some p3 =>
      obtain ⟨a1,a2,older⟩:=p3
      dsimp only
      refine fo (fun _=>bZ (by infer_instance)) fun _=>?_
      refine uS (FN _) fun d=>fo (fun _=>bZ (by infer_instance)) fun _=>bZ (by infer_instance)
    ·dsimp only
     refine oz (fun s t h=>by rw[h]) (oz (fun s t h=>by rw[h]) (bZ (by infer_instance)))
    ·exact bZ (by infer_instance)
  ·refine oB fun s2 t2 hp _=>?_
   rw[hp]
   generalize (pendingOf t2).back?=q
   cases q with
   | none=>exact oz (fun s t h=>by rw[h]) (bZ (by infer_instance))
   | some p =>
    obtain ⟨s1,n1,pw⟩:=p
    dsimp only
    refine oA (fun x b c u=>?_) (fun u=>?_) fun a b u hab=>?_
    ·refine oB fun s3 t3 hp3 _=>?_
     rw[hp3]
     generalize (if (pendingOf t3).size > 1 then (pendingOf t3)[(pendingOf t3).size - 2]? else none)=o
     cases o with
     | none=>exact bZ (by infer_instance)
     | some p3 =>
      obtain ⟨a1,a2,older⟩:=p3
      dsimp only
      refine fo (fun _=>bZ (by infer_instance)) fun _=>?_
      refine uS (FN _) fun d=>fo (fun _=>bZ (by infer_instance)) fun _=>bZ (by infer_instance)
    ·dsimp only
     refine oz (fun s t h=>by rw[h]) (oz (fun s t h=>by rw[h]) (bZ (by infer_instance)))
    ·exact bZ (by infer_instance)
 ·dsimp only
  refine oA (fun x b c u=>?_) (fun u=>?_) fun a b u hab=>?_
  ·refine oB fun s3 t3 hp3 _=>?_
   rw[hp3]
   refine fo (fun _=>bZ (by infer_instance)) fun _=>?_
   refine uS (FN _) fun d=>fo (fun _=>bZ (by infer_instance)) fun _=>bZ (by infer_instance)
  ·exact bZ trivial
  ·exact bZ trivial
 ·exact bZ trivial
end Fx
namespace Fx
open PySem PyProof.Rows L2
def tQ (xs:Array ag)(n:Nat):fA:={cls:=.type "list",dict:=none,data:=.seq xs n,slots:=#[]}
section
open PySem.AutoSeq1 (wpAny_loadPart')
open PySem.MeetsSeq PySem.MeetsSeq3
theorem Pg (l b:aj)(xs ys:Array ag)(n m:Nat):∀ (k i:Nat) (ns ms:List Int),xs.size - i=k→eK (xs.toList.drop i) ns→eK (ys.toList.drop i) ms→i≤xs.size→i≤ys.size →
  Meets (Builtin.«list.__eq__.loop» ⟨[.ref l,.ref b,gm i,gm 0],[]⟩) (fun _ R s=>s.heap.get? l=some (tQ xs n)∧s.heap.get? b=some (tQ ys m)∧R (.ok (.ret (.bool (HT.lexLt ns ms)))) s):=by
 intro k
 induction k with
 | zero =>
  intro i ns ms hk hx hy h1 h2 prog w A R s h
  obtain ⟨hp,g,d,tk,os⟩:=s
  obtain ⟨hl,hb,h⟩:=h
  wp_walk using dU hl,dU hb
  have e1:xs[((i:Nat):Int).toNat]?=none:=by simp;omega
  rw[e1]
  wp_walk using dU hl,dU hb
  have z:xs.toList.drop i=[]:=by simp;omega
  rw[z] at hx
  cases hx
  show R (.ok (.ret (.bool (decide (xs.size<ys.size))))) _
  have hv:HT.lexLt [] ms=decide (xs.size<ys.size):=by
   have hl:=hy.length
   rw[cq,cM] at hl
   cases ms with
   | nil=>rw[HT.tD];exact (decide_eq_false (by simp at hl;omega)).symm
   | cons a r=>rw[HT.mD];exact (decide_eq_true (by simp at hl;omega)).symm
  rw[hv] at h
  exact h
 | succ k ih =>
  intro i ns ms hk hx hy h1 h2 prog w A R s h
  obtain ⟨hp,g,d,tk,os⟩:=s
  obtain ⟨hl,hb,h⟩:=h
  wp_walk using dU hl,dU hb
  have lt1:i<xs.size:=by omega
  have e1:xs[((i:Nat):Int).toNat]?=some xs[i]:=by simp[lt1]
  have d1:xs.toList.drop i=xs[i]::xs.toList.drop (i+1):=by rw[dt (by simpa using lt1)];simp
  rw[d1] at hx
  rw[e1]
  by_cases lt2:i<ys.size
  ·have e2:ys[((i:Nat):Int).toNat]?=some ys[i]:=by simp[lt2]
   have d2:ys.toList.drop i=ys[i]::ys.toList.drop (i+1):=by rw[dt (by simpa using lt2)];simp
   rw[d2] at hy
   rw[e2]
   generalize ex:xs[i]=vx at hx
   generalize ey:ys[i]=vy at hy
   cases hx with
   | cons a t hx' =>
    cases hy with
    | cons c u hy' =>
     rw[HT.hJ] at h
     have hc:((i:Int)+1)=((i+1:Nat):Int):=by push_cast;rfl
     refine aa (wpAny_eqBool_int ?_)
     by_cases q:a=c
     ·rw[if_pos q] at h
      rw[show (a==c)=true by simpa using q]
      wp_walk
      rw[hc]
      refine ⟨dw plain_eq_loop _,eA entry_eq_loop ?_⟩
      rw[dh plain_eq_loop _]
      exact ih (i+1) _ _ (by omega) hx' hy' (by omega) (by omega) prog w A R _ ⟨hl,hb,h⟩
     ·rw[if_neg q] at h
      rw[show (a==c)=false by simpa using q]
      wp_walk using dU hl,dU hb
      rw[e1,e2,ex,ey]
      have hri:=HT.yK A.in1 ⟨hp,g,d,tk,os⟩ a t c u prog w
      wp_walk using hri
      exact h
  ·have e2:ys[((i:Nat):Int).toNat]?=none:=by simp;omega
   have z:ys.toList.drop i=[]:=by simp;omega
   rw[z] at hy
   cases hy
   rw[e2]
   wp_walk using dU hl,dU hb
   generalize xs[i]=vx at hx
   cases hx with
   | cons a t hx' =>
    rw[HT.rO] at h
    show R (.ok (.ret (.bool (decide (xs.size<ys.size))))) _
    rw[decide_eq_false (show ¬ xs.size<ys.size by omega)]
    exact h
theorem Sj (l b:aj)(xs ys:Array ag)(n m:Nat)(ns ms:List Int)(hx:eK xs.toList ns)(hy:eK ys.toList ms) :
  Meets (Builtin.«list.__lt__» ⟨[.ref l,.ref b],[]⟩) (fun _ R s=>s.heap.get? l=some (tQ xs n)∧s.heap.get? b=some (tQ ys m)∧R (.ok (.ret (.bool (HT.lexLt ns ms)))) s):=by
 intro prog w A R s h
 obtain ⟨hp,g,d,tk,os⟩:=s
 obtain ⟨hl,hb,h⟩:=h
 have f2:isSubtype (.type "list") (.type "list")=pure true:=by rw[wH];kernel_rfl
 have hl':hp.get? l=some {cls:=.type "list",dict:=none,data:=.seq xs n,slots:=#[]}:=hl
 have hb':hp.get? b=some {cls:=.type "list",dict:=none,data:=.seq ys m,slots:=#[]}:=hb
 wp_walk
 refine ⟨dw plain_eq_loop _,eA entry_eq_loop ?_⟩
 rw[dh plain_eq_loop _]
 exact Pg l b xs ys n m _ 0 ns ms rfl hx hy (aR _) (aR _) prog w A R _ ⟨hl,hb,h⟩
end
section
variable {prog:aY}{w:bO}{A:cA}{E:ag→au→Prop}{s:au}
theorem VP {l b:aj}{xs ys:Array ag}{n m:Nat}{ns ms:List Int}{Q:Bool→au→Prop}(hu:A.units<cLine)(hl:s.heap.get? l=some (tQ xs n))(hb:s.heap.get? b=some (tQ ys m))(hx:eK xs.toList ns)(hy:eK ys.toList ms)(h:Q (HT.lexLt ns ms) s) :
  wpAny (model prog w) A (keyLt' oneType' (.ref l) (.ref b)) Q E s:=by
 rw[keyLt'_oneType,oneLt'_eq]
 simp only[if_true]
 have hT:s.TypeIs (.ref l) "list":=⟨_,hl,rfl⟩
 refine aa (wpAny_cRoomFor hu (aa (wpAny_callSpecialIfBound?_slot (name:=dG "__lt__") hT Fg ?_)))
 refine GJ Fg hT PySem.F.entry_list_lt (PySem.F.args_list_lt_2 _ _) (Sj l b xs ys n m ns ms hx hy) ⟨hl,hb,?_⟩
 exact eY h
end
end Fx
namespace Fx
open PySem PyProof.Rows PyProof.Rows.G L2
theorem Cb:∀ a:List Int,HT.lexLt a a=false
 | []=>rfl
 | x::a=>by rw[HT.hJ,if_pos rfl];exact Cb a
theorem Gp:∀ a b c:List Int,HT.lexLt a b=true→HT.lexLt b c=true→HT.lexLt a c=true
 | [],[],_,h,_=>by simp[HT.lexLt] at h
 | [],_::_,[],_,h=>by simp[HT.lexLt] at h
 | [],_::_,_::_,_,_=>rfl
 | _::_,[],_,h,_=>by simp[HT.lexLt] at h
 | _::_,_::_,[],_,h=>by simp[HT.lexLt] at h
 | x::a,y::b,z::c,h1,h2=>by
  rw[HT.hJ] at *
  by_cases e1:x=y
  ·subst e1
   rw[if_pos rfl] at h1
   by_cases e2:x=z
   ·rw[if_pos e2] at h2 ⊢;exact Gp a b c h1 h2
   ·rw[if_neg e2] at h2 ⊢;exact h2
  ·rw[if_neg e1] at h1
   have h1:=of_decide_eq_true h1
   by_cases e2:y=z
   ·subst e2;rw[if_neg e1];exact decide_eq_true h1
   ·rw[if_neg e2] at h2
    have h2:=of_decide_eq_true h2
    rw[if_neg (by omega)];exact decide_eq_true (by omega)
theorem Ca:∀ a b c:List Int,HT.lexLt a c=true→HT.lexLt a b=true∨HT.lexLt b c=true
 | [],[],c,h=>.inr h
 | [],_::_,c,_=>.inl rfl
 | _::_,b,[],h=>by simp[HT.lexLt] at h
 | x::a,[],_::_,_=>.inr rfl
 | x::a,y::b,z::c,h=>by
  rw[HT.hJ] at h
  rw[HT.hJ,HT.hJ]
  by_cases e1:x=y
  ·subst e1
   by_cases e2:x=z
   ·subst e2
    rw[if_pos rfl] at h ⊢
    rw[if_pos rfl];exact Ca a b c h
   ·rw[if_neg e2] at h ⊢;exact .inr h
  ·rw[if_neg e1]
   by_cases q:x<y
   ·exact .inl (decide_eq_true q)
   ·refine .inr ?_
    by_cases e2:x=z
    ·rw[if_neg (by omega)];exact decide_eq_true (by omega)
    ·rw[if_neg e2] at h
     have:=of_decide_eq_true h
     rw[if_neg (by omega)];exact decide_eq_true (by omega)
def rank (L:List (List Int))(a:List Int):Nat:=(L.filter fun b=>HT.lexLt b a).length
theorem tG {α:Type}{p q:α→Bool}:∀ {l:List α} {x:α},(∀ y∈l,p y=true→q y=true)→x∈l→p x=false→q x=true→(l.filter p).length<(l.filter q).length
 | [],x,_,h,_,_=>by simp at h
 | y::l,x,hs,h,h1,h2=>by
  have le:∀ (l:List α),(∀ y∈l,p y=true→q y=true)→(l.filter p).length≤(l.filter q).length:=by
   intro l
   induction l with
   | nil=>intro _;simp
   | cons z l ih =>
    intro hz
    have:=ih fun y hy=>hz y (ao _ hy)
    rw[cE,cE]
    cases e:p z with
    | true=>rw[hz z ax e,if_pos rfl,if_pos rfl];simpa using this
    | false =>
     rw[if_neg (by decide)]
     split
     ·simp;omega
     ·exact this
  have tail:=fun z hz=>hs z (ao _ hz)
  rw[cE,cE]
  rcases aI.mp h with e | h
  ·subst e
   rw[h1,h2,if_neg (by decide),if_pos rfl]
   have:=le l tail
   simp;omega
  ·have ih:=tG tail h h1 h2
   cases e:p y with
   | true=>rw[hs y ax e,if_pos rfl,if_pos rfl];simpa using ih
   | false =>
    rw[if_neg (by decide)]
    split
    ·simp;omega
    ·exact ih
theorem tH {α:Type}{p q:α→Bool}:∀ {l:List α},(∀ y∈l,p y=true→q y=true)→(l.filter p).length≤(l.filter q).length
 | [],_=>by simp
 | z::l,hz=>by
  have:=tH (l:=l) (p:=p) (q:=q) fun y hy=>hz y (ao _ hy)
  rw[cE,cE]
  cases e:p z with
  | true=>rw[hz z ax e,if_pos rfl,if_pos rfl];simpa using this
  | false =>
   rw[if_neg (by decide)]
   split
   ·simp;omega
   ·exact this
theorem IQ {L:List (List Int)}{a b:List Int}(ha:a∈L):HT.lexLt a b=decide (rank L a<rank L b):=by
 cases h:HT.lexLt a b with
 | true=>exact (decide_eq_true (tG (fun y _ q=>Gp y a b q h) ha (Cb a) h)).symm
 | false =>
  refine (decide_eq_false (Nat.not_lt.mpr (tH fun y _ q=>?_))).symm
  rcases Ca y a b q with z | z
  ·exact z
  ·rw[h] at z;cases z
theorem xX (L:List (List Int))(a:List Int):rank L a≤L.length:=cY _ _
theorem WZ (h:bU):∀ n:Nat,∃ (g:bU) (f:Nat→aj),∀ r<n,sX g (f r) r
 | 0=>⟨h,fun _=>0,fun r hr=>by omega⟩
 | n+1=>by
  obtain ⟨g,f,hf⟩:=WZ h n
  refine ⟨g.push (seqObj "tuple" (jz n ag.none) 0),fun r=>if r<n then f r else g.objs.size,fun r hr=>?_⟩
  dsimp only
  by_cases q:r<n
  ·rw[if_pos q]
   obtain ⟨o,c,e,d⟩:=hf r q
   exact ⟨o,c,ay _ e,d⟩
  ·have e:r=n:=by omega
   subst e
   rw[if_neg q]
   exact ⟨_,0,aH _ rfl,rfl⟩
theorem sX.uniq {h:bU}{a:aj}{r q:Nat}(x:sX h a r)(y:sX h a q):r=q:=by
 obtain ⟨o,n,e,d⟩:=x
 obtain ⟨o',n',e',d'⟩:=y
 rw[e] at e'
 cases e'
 rw[d] at d'
 injection d' with z _
 have:=congrArg Array.size z
 simpa using this
open Classical in
noncomputable def vz (h:bU)(v:ag):Option Nat:=if q:∃ r a,v=.ref a∧sX h a r then some q.choose else none
theorem AB {h:bU}{a:aj}{r:Nat}(x:sX h a r):vz h (.ref a)=some r:=by
 have q:∃ r b,ag.ref a=.ref b∧sX h b r:=⟨r,a,rfl,x⟩
 unfold vz
 rw[dif_pos q]
 obtain ⟨b,e,y⟩:=q.choose_spec
 cases e
 rw[x.uniq y]
theorem wY {h:bU}{v:ag}{r:Nat}(x:vz h v=some r):∃ a,v=.ref a∧sX h a r:=by
 unfold vz at x
 split at x
 ·rename_i q
  cases x
  exact q.choose_spec
 ·cases x
noncomputable def xR (h:bU):PyProof.Rows.KeyKind where
 α:=Nat
 blt:=fun a b=>decide (a<b)
 irrefl:=fun a=>decide_eq_false (dn a)
 trans:=fun a b c h1 h2=>decide_eq_true (kD (of_decide_eq_true h1) (of_decide_eq_true h2))
 negTrans:=fun a b c h=>by
  have h:=of_decide_eq_true h
  by_cases q:a<b
  ·exact .inl (decide_eq_true q)
  ·exact .inr (decide_eq_true (by omega))
 total:=fun a b h1 h2=>by
  have h1:=of_decide_eq_false h1
  have h2:=of_decide_eq_false h2
  omega
 keyOf:=vz h
 dflt:=0
theorem Om {prog:aY}{w:bO}{s:au}{b:Bool}:LtAt prog w s (xR s.heap) (tuples' b):=fun A E x y r q Q hx hy h Γ p _=>by
 obtain ⟨a,rfl,ha⟩:=wY hx
 obtain ⟨c,rfl,hc⟩:=wY hy
 rw[Nh ha hc]
 exact h
def kM (h:bU)(a:aj)(row:List Int):Prop:=∃ xs n,h.get? a=some (tQ xs n)∧eK xs.toList row
theorem wt:∀ {vs:List ag} {ns ms:List Int},eK vs ns→eK vs ms→ns=ms
 | _,_,_,.nil,.nil=>rfl
 | _,_,_,.cons n t h,g=>by
  cases g with
  | cons _ _ g=>rw[wt h g]
theorem kM.uniq {h:bU}{a:aj}{r q:List Int}(x:kM h a r)(y:kM h a q):r=q:=by
 obtain ⟨xs,n,e,i⟩:=x
 obtain ⟨ys,m,e',j⟩:=y
 rw[e] at e'
 injection e' with e'
 have:xs=ys:=by
  have:=congrArg (fun o:fA=>o.data) e'
  injection this
 subst this
 exact wt i j
open Classical in
noncomputable def rowOf (h:bU)(v:ag):List Int:=if q:∃ r a,v=.ref a∧kM h a r then q.choose else []
theorem iT {h:bU}{a:aj}{r:List Int}(x:kM h a r):rowOf h (.ref a)=r:=by
 have q:∃ r b,ag.ref a=.ref b∧kM h b r:=⟨r,a,rfl,x⟩
 unfold rowOf
 rw[dif_pos q]
 obtain ⟨b,e,y⟩:=q.choose_spec
 cases e
 exact y.uniq x
section
variable {prog:aY}{w:bO}{A:cA}{E:ag→au→Prop}{s:au}
theorem Ky {vs:List ag}{L:List (List Int)}{Q:Unit×dN→au→Prop}(hu:A.units<cLine)(hv:∀ v∈vs,∃ a r,v=.ref a∧kM s.heap a r∧r∈L)(h2:2≤vs.length)
  (h:∀ st:dN,failedOf st=none→((arrOf st).map (·.2)).toList.Perm vs→((arrOf st).map (·.2)).toList.Pairwise (fun u v=>HT.lexLt (rowOf s.heap v) (rowOf s.heap u)=false)→Q ((),st) s) :
  wpAny (model prog w) A (sortRuns'.run (p6 oneType' (pairsOf vs) #[] 7 none)) Q E s:=fun Γ p hΓ=>by
 obtain ⟨h₀,f,hf⟩:=WZ s.heap (L.length+1)
 let C:SC:={
  M:=model prog w
  Γ:=Γ
  Ms:={s with heap:=h₀}
  A:=A
  s:=s
  φ:=fun v=>.ref (f (rank L (rowOf s.heap v)))
  good:=fun v=>∃ a r,v=.ref a∧kM s.heap a r∧r∈L
  b:=true
  kd:=oneType'
  lt:=fun x y hx hy=>by
   obtain ⟨a,r,rfl,ha,hr⟩:=hx
   obtain ⟨c,q,rfl,hc,hq⟩:=hy
   refine ⟨HT.lexLt r q,fun Q E p=>?_,fun Q E h=>?_⟩
   ·have l1:=xX L r
    have l2:=xX L q
    rw[iT ha,iT hc,Nh (hf _ (by omega)) (hf _ (by omega)),IQ hr]
   ·obtain ⟨xs,n,e1,i1⟩:=ha
    obtain ⟨ys,m,e2,i2⟩:=hc
    exact VP hu e1 e2 i1 i2 h}
 have good:dk C (pairsOf vs):=fun p hp=>by
  have:p∈vs.zip vs:=by simpa [pairsOf] using hp
  exact hv p.1 (iN this).1
 have rs:RS C (p6 (tuples' true) ((pairsOf vs).map (fk C)) #[] 7 none) (p6 oneType' (pairsOf vs) #[] 7 none):=⟨rfl,rfl,rfl,good,rfl,rfl,rfl,rfl⟩
 have hsz:((pairsOf vs).map (fk C)).size=vs.length:=by rw[iX,pairsOf_size]
 have elem:∀ p∈((pairsOf vs).map (fk C)).toList,∃ a r,p=(.ref (f (rank L r)),.ref a)∧kM s.heap a r∧r∈L:=fun p hp=>by
  rw[i4,aU] at hp
  obtain ⟨q,hq,rfl⟩:=hp
  have hz:q∈vs.zip vs:=by simpa [pairsOf] using hq
  obtain ⟨a,r,e,ha,hr⟩:=hv q.1 (iN hz).1
  have same:∀ (l:List ag) (x y:ag),(x,y)∈l.zip l→x=y:=by
   intro l
   induction l with
   | nil=>intro x y h;simp at h
   | cons z l ih =>
    intro x y h
    rw[jI] at h
    rcases aI.mp h with e | h
    ·cases e;rfl
    ·exact ih x y h
  obtain ⟨q1,q2⟩:=q
  have e2:=same vs q1 q2 hz
  have e:q1=.ref a:=e
  subst e2 e
  refine ⟨a,r,?_,ha,hr⟩
  show (ag.ref (f (rank L (rowOf s.heap (.ref a)))),ag.ref a)=_
  rw[iT ha]
 have lib:=wpS_sortRunsSt (prog:=prog) (w:=w) (A:=A) (E:=fun _ _=>False) (s:={s with heap:=h₀}) (κ:=xR h₀) (kd:=tuples' true) (a₀:=(pairsOf vs).map (fk C))
  (st:=p6 (tuples' true) ((pairsOf vs).map (fk C)) #[] 7 none) (Q:=fun _ st=>failedOf st=none∧(arrOf st).Perm ((pairsOf vs).map (fk C))∧SortedToK (xR h₀) (arrOf st) ((pairsOf vs).map (fk C)).size)
  Om (fun p hp=>by
   obtain ⟨a,r,rfl,ha,hr⟩:=elem p hp
   exact ⟨_,AB (hf (rank L r) (by have:=xX L r;omega))⟩) ⟨Array.Perm.refl _,rfl,rfl⟩ rfl (Stable.refl _) (by rw[hsz];exact h2) (fun st a1 a2 a3 _=>⟨a2,a1,a3⟩)
 obtain ⟨u,v,st1,st2,p',⟨_,f1,pm,so⟩,_,rs',fin⟩:=Ot (C:=C) _ _ rs _ p (lib Γ p hΓ)
 refine fin Q E ?_ Γ p hΓ
 have ea:arrOf st1=(arrOf st2).map (fk C):=rs'.2.2.1
 have e2:(arrOf st2).map (·.2)=(arrOf st1).map (·.2):=by
  rw[ea,Array.map_map]
  rfl
 refine h st2 rs'.2.2.2.2.2.2.2 ?_ ?_
 ·rw[e2,i4]
  refine (pm.toList.map _).trans ?_
  rw[i4,br]
  have:(pairsOf vs).toList.map ((fun x=>x.2)∘fk C)=vs:=by
   show (vs.toArray.zip vs.toArray).toList.map (fun p=>p.2)=vs
   rw[Qz,QO (aL _)]
  rw[this]
 ·rw[e2,i4,gi,g6]
  intro i j hi hj hij
  have hzz:(arrOf st1).size=vs.length:=by rw[pm.size_eq,hsz]
  have key:∀ k (hk:k<(arrOf st1).toList.length),∃ a r,(arrOf st1).toList[k]=(.ref (f (rank L r)),.ref a)∧kM s.heap a r∧r∈L∧KK (xR h₀) (arrOf st1) k=rank L r:=fun k hk=>by
   obtain ⟨a,r,e,ha,hr⟩:=elem _ (pm.toList.mem_iff.mp (kW hk))
   refine ⟨a,r,e,ha,hr,?_⟩
   unfold KK
   have:(arrOf st1)[k]?=some (.ref (f (rank L r)),.ref a):=by
    rw[← gM,aE hk,e]
   rw[this]
   show ((vz h₀ _).getD 0)=_
   rw[AB (hf (rank L r) (by have:=xX L r;omega))]
   rfl
  obtain ⟨a,r,e,ha,hr,kr⟩:=key i hi
  obtain ⟨c,q,e',hc,hq,kq⟩:=key j hj
  have le:=so i j (kE hij) (by rw[hsz,← hzz];simpa using hj)
  rw[kr,kq] at le
  have le:decide (rank L q<rank L r)=false:=le
  rw[e,e']
  show HT.lexLt (rowOf s.heap (.ref c)) (rowOf s.heap (.ref a))=false
  rw[iT hc,iT ha,IQ hq]
  exact le
end
section
variable {prog:aY}{w:bO}{A:cA}{E:ag→au→Prop}{s:au}
theorem ve:∀ (vs:List ag) {Q:List (Option ag)→au→Prop},(∀ v∈vs,s.TypeIs v "list")→Q (vs.map fun _=>none) s→wpAny (model prog w) A (vs.mapM firstOfTuple') Q E s
 | [],Q,_,h=>by rw[List.mapM_nil];exact ak h
 | v::vs,Q,ht,h=>by
  rw[UG]
  have e:firstOfTuple' v=(do
   let t ← typeOf v
   if (t != .type "tuple")=true then return none
   return (← nF v)[0]?):=rfl
  rw[e]
  refine aa (aa (oU (ht v ax) ?_))
  rw[if_pos (by decide)]
  exact ak (aa (ve vs (fun x hx=>ht x (ao _ hx)) (ak h)))
theorem wW:∀ (vs:List ag) {Q:List ag→au→Prop},(∀ v∈vs,s.TypeIs v "list")→Q (vs.map fun _=>.type "list") s→wpAny (model prog w) A (vs.mapM typeOf) Q E s
 | [],Q,_,h=>by rw[List.mapM_nil];exact ak h
 | v::vs,Q,ht,h=>by
  rw[UG]
  exact aa (oU (ht v ax) (aa (wW vs (fun x hx=>ht x (ao _ hx)) (ak h))))
theorem Hu {vs:List ag}{Q:SortKind→au→Prop}(ht:∀ v∈vs,s.TypeIs v "list")(h2:2≤vs.length)(h:Q oneType' s):wpAny (model prog w) A (keyKind' vs.toArray) Q E s:=by
 rw[kat_kind_eq,Qv]
 refine aa ?_
 rw[map_eq_pure_bind]
 refine aa (ve vs ht (ak ?_))
 obtain ⟨v,r,rfl⟩:∃ v r,vs=v::r:=by
  cases vs with
  | nil=>simp at h2
  | cons v r=>exact ⟨v,r,rfl⟩
 rw[if_neg (by simp),if_neg (by simp)]
 refine aa ?_
 rw[oneTypeOnly'_eq,Qv]
 refine aa ?_
 rw[map_eq_pure_bind]
 refine aa (wW (v::r) ht (ak ?_))
 have z:((v::r).map fun _=>ag.type "list").toArray[0]?=some (ag.type "list"):=by simp
 have al:(((v::r).map fun _=>ag.type "list").toArray.all fun x=>x==ag.type "list")=true:=by
  rw[List.all_toArray,dJ]
  intro x hx
  obtain ⟨_,_,rfl⟩:=aU.mp hx
  decide
 rw[z]
 dsimp only
 rw[if_pos al]
 exact ak (ak h)
theorem Kq {a:aj}{vs:List ag}{n:Nat}{L:List (List Int)}{P:PySem.Fin→au→Prop}(ho:s.heap.get? a=some (seqObj "list" vs.toArray n))(hu:A.units<cLine)
  (hv:∀ v∈vs,∃ b r,v=.ref b∧b≠a∧kM s.heap b r∧r∈L)(hL:vs.length≤aA)
  (h:∀ out:Array ag,out.toList.Perm vs→out.toList.Pairwise (fun u v=>HT.lexLt (rowOf s.heap v) (rowOf s.heap u)=false)→P (.done (.ret .none)) {s with heap:=sortedHeap s.heap a vs out}) :
  wpAny (model prog w) A (Builtin.«list.sort» ⟨[.ref a],[]⟩) P E s:=by
 rw[list_sort_plain]
 have ha:a<s.heap.objs.size:=aN ho
 refine aa (listItems_at ho rfl (aa (Kc ho rfl ?_)))
 obtain ⟨e1,ho1⟩:∃ e1,(s.heap.update a (fA.mapSeq fun _=>#[])).get? a=some (seqObj "list" #[] e1):=⟨_,get?_update_seq ho (fun _=>#[])⟩
 refine aa (Q9 ho1 rfl (aa (wG (aa (Kb (dj ?_))))))
 have ho6:(sortHeap6 s.heap a vs).get? a=some (seqObj "list" #[] e1):=ay _ (ay _ ho1)
 show wpAny (model prog w) A _ P E {s with heap:=sortHeap6 s.heap a vs}
 have old:∀ b r,b≠a→kM s.heap b r→kM (sortHeap6 s.heap a vs) b r:=fun b r nb ⟨xs,k,e,i⟩=>by
  refine ⟨xs,k,ay _ (ay _ ?_),i⟩
  rw[L9 _ _ _ _ nb]
  exact e
 dsimp only
 by_cases h2:vs.toArray.size<2
 ·rw[if_pos h2,if_pos h2]
  refine aa (ak ?_)
  rw[StateT.run_pure]
  refine aa (ak ?_)
  dsimp only
  refine aa (Q9 ho6 rfl ?_)
  refine aa (Kc ho6 rfl ?_ (hsz2:=by rw[iX];show (pairsOf vs).size≤_;rw[pairsOf_size,kK];rw[kK] at hL;omega))
  simp only[bne_self_eq_false,iI,if_false]
  have e:((vs.toArray.zip vs.toArray).map (·.2)).toList=vs:=by
   rw[i4,Qz,QO (aL _)]
  refine ak (h _ (by rw[e]) ?_)
  rw[e]
  cases vs with
  | nil=>exact .nil
  | cons v r =>
   cases r with
   | nil=>exact List.pairwise_singleton _ _
   | cons v2 r=>exact absurd h2 (by simp)
 ·rw[if_neg h2,if_neg h2]
  have h2':2≤vs.length:=by simpa using h2
  refine aa (Hu (fun v hv'=>?_) h2' ?_)
  ·obtain ⟨b,r,rfl,nb,hb,_⟩:=hv v hv'
   obtain ⟨xs,k,e,_⟩:=old b r nb hb
   exact ⟨_,e,rfl⟩
  have same:∀ v∈vs,rowOf (sortHeap6 s.heap a vs) v=rowOf s.heap v:=fun v hv'=>by
   obtain ⟨b,r,rfl,nb,hb,_⟩:=hv v hv'
   rw[iT hb,iT (old b r nb hb)]
  refine aa (Ky (L:=L) (s:={s with heap:=sortHeap6 s.heap a vs}) hu (fun v hv'=>?_) h2' fun st hf hp hs=>?_)
  ·obtain ⟨b,r,e,nb,hb,hr⟩:=hv v hv'
   exact ⟨b,r,e,old b r nb hb,hr⟩
  dsimp only
  refine aa (Q9 ho6 rfl ?_)
  have hz:((arrOf st).map (·.2)).size=vs.length:=by rw[← cM,hp.length_eq]
  refine aa (Kc ho6 rfl ?_ (hsz2:=by refine aD (mN hz) ?_;rw[kK];rw[kK] at hL;omega))
  rw[hf]
  simp only[bne_self_eq_false,iI,if_false]
  refine ak (h _ hp ?_)
  refine wM (fun {x y} hx hy q=>?_) hs
  rw[same x (hp.mem_iff.mp hx),same y (hp.mem_iff.mp hy)] at q
  exact q
theorem EI {l:aj}{vs:List ag}{L:List (List Int)}{Q:ag→au→Prop}(hl:s.heap.IsList l vs.toArray)(hu:A.units+8<cLine)(hv:∀ v∈vs,∃ b r,v=.ref b∧kM s.heap b r∧r∈L)(hL:vs.length≤aA)
  (h:∀ out:Array ag,out.toList.Perm vs→out.toList.Pairwise (fun u v=>HT.lexLt (rowOf s.heap v) (rowOf s.heap u)=false)→Q (.ref (s.heap.objs.size+1)) {s with heap:=sortedAll s.heap vs out}) :
  wpAny (model prog w) A (call (.builtin "sorted") [.ref l]) Q E s:=by
 refine nT kind_sorted plain_sorted entry_sorted (args_sorted1 _) ?_
 unfold Builtin.«sorted»
 refine aa (m:=checkCount "sorted" 1 1 _) (ak (aa (collect_list hl (aa (Kb ?_)))))
 have hsz:((s.heap.push (seqObj "list" #[] 0)).update s.heap.objs.size (fA.mapSeq (·++vs.toArray))).objs.size=s.heap.objs.size+1:=by rw[bU.size_update,size_push']
 have hoL:(((s.heap.push (seqObj "list" #[] 0)).update s.heap.objs.size (fA.mapSeq (·++vs.toArray))).push (seqObj "list" vs.toArray 0)).get? (s.heap.objs.size+1)=some (seqObj "list" vs.toArray 0):=by
  rw[← hsz]
  exact aH _ rfl
 have old:∀ b r,kM s.heap b r→kM (((s.heap.push (seqObj "list" #[] 0)).update s.heap.objs.size (fA.mapSeq (·++vs.toArray))).push (seqObj "list" vs.toArray 0)) b r:=fun b r ⟨xs,k,e,i⟩=>by
  refine ⟨xs,k,ay _ ?_,i⟩
  rw[L9 _ _ _ _ (ba (aN e))]
  exact ay _ e
 show wpAny _ _ _ _ _ {s with heap:=((s.heap.push (seqObj "list" #[] 0)).update s.heap.objs.size (fA.mapSeq (·++vs.toArray))).push (seqObj "list" vs.toArray 0)}
 rw[hsz]
 have hu1:A.in1.in1.units<cLine:=aG (show A.units+1+1≤A.units+8 by omega) hu
 refine aa (dj (c5 slot_list_sort ⟨_,hoL,rfl⟩ entry_list_sort (Kq (L:=L) hoL hu1 (fun v hv'=>?_) hL fun out hp hs=>⟨_,rfl,?_⟩) (args_list_sort _)))
 ·obtain ⟨b,r,e,hb,hr⟩:=hv v hv'
  obtain ⟨xs,k,e',i⟩:=id hb
  exact ⟨b,r,e,ba (dD (aN e')),old b r hb,hr⟩
 ·refine ak ⟨_,rfl,h out hp (wM (fun {x y} hx hy q=>?_) hs)⟩
  have same:∀ v∈vs,rowOf (((s.heap.push (seqObj "list" #[] 0)).update s.heap.objs.size (fA.mapSeq (·++vs.toArray))).push (seqObj "list" vs.toArray 0)) v=rowOf s.heap v:=fun v hv'=>by
   obtain ⟨b,r,rfl,hb,_⟩:=hv v hv'
   rw[iT hb,iT (old b r hb)]
  have q:HT.lexLt (rowOf _ y) (rowOf _ x)=false:=q
  rw[same x (hp.mem_iff.mp hx),same y (hp.mem_iff.mp hy)] at q
  exact q
end
end Fx
namespace L2
open PySem PySem.Spec PyProof.Rows
theorem Inv.drew {X:Cx}{pins:List (aj×fA)}{σ:L2.St}{H:Hp}{s:au}(I:Inv X pins σ H s)(d:Drawn):Inv X pins σ H {s with drawn:=d}:=⟨I.ok,I.os,I.bare,I.base,I.loc,I.cell,I.free,I.mT,I.pin,I.fj,I.len⟩
def GX (K:ai)(te:TE):TE:=fun σ H Q=>te σ H fun x H1=>∃ (a:aj) (ns:List Int),[x]=[V.ref a]∧cG K H1 a (ns.map V.int)∧ns.length≤1000∧∀ (ms:List Int) (p:aj),ms.Pairwise (·<·)→(∀ k,k∈ms↔k∈ns)→H1 p=none→Q (.ref p) (upd H1 p (.lst (ms.map V.int)))
theorem wc:∀ {ms ns:List Int},ms.Nodup→(∀ k,k∈ms→k∈ns)→ms.length≤ns.length
 | [],_,_,_=>aR _
 | m::ms,ns,hn,hs=>by
  obtain ⟨n1,n2⟩:=eX.mp hn
  have hm:=hs m ax
  have:=wc (ms:=ms) (ns:=ns.erase m) n2 fun k hk=>by
   have:k≠m:=fun e=>n1 (e▸hk)
   exact (tK this).mpr (hs k (ao _ hk))
  rw[o6 hm] at this
  have pos:0<ns.length:=Fu hm
  rw[aS]
  omega
theorem vd {X:Cx}{e:Expr}{te:TE}{p pos p2 pos2:jK}(hc:X.calm=true)(hg:Gl X "sorted")(hm:X.mg "sorted"=none)(hg2:Gl X "set")(hm2:X.mg "set"=none)(ha:PE X e te)
  (hs2:bQ [e] X.env=(false,eval e X.env)::bQ [] X.env:=by rfl)
  (hs:bQ [.Call (.Name "set" p2) [e] [] pos2] X.env=(false,eval (.Call (.Name "set" p2) [e] [] pos2) X.env)::bQ [] X.env:=by rfl) :
  PE X (.Call (.Name "sorted" p) [.Call (.Name "set" p2) [e] [] pos2] [] pos) (GX X.K te):=by
 intro pins s σ H Q I h
 refine d8 (jl I hg hm Ra ?_)
 refine tM ?_ hs rfl
 rw[hs]
 show wpAny _ _ (spliced ((false,eval (.Call (.Name "set" p2) [e] [] pos2) X.env)::backTo pos (bQ [] X.env))) _ _ s
 refine iE ?_
 refine d8 (jl I hg2 hm2 boot_set ?_)
 refine cK (gI (ah (t:=Mr) ha aB hs2 pos2 pins s σ H (fun vs H1=>∃ (a:aj) (ns:List Int),vs=[V.ref a]∧cG X.K H1 a (ns.map V.int)∧ns.length≤1000∧∀ (ms:List Int) (p:aj),ms.Pairwise (·<·)→(∀ k,k∈ms↔k∈ns)→H1 p=none→Q (.ref p) (upd H1 p (.lst (ms.map V.int)))) I h) fun us s1 ⟨vs,H1,I1,r1,q1⟩=>?_) hs2 rfl
 obtain ⟨a,ns,ev,hs1,hlen,q⟩:=q1
 subst ev
 obtain ⟨its,rv,hl,_⟩:=I1.list hs1
 rw[df.xw r1]
 have hln:=rv.length
 have hi:=rv.ints
 have hlen':ns.length+1<sT:=aG (ee hlen) (by decide)
 refine Fw.LG (ns:=ns) (I1.ok.hd hc) hl.isList (fun i n hi=>?_) (by rw[bA,← hln,ae]) hlen' fun h' tk S' kp=>?_
 ·obtain ⟨u,hu,t',e⟩:=rv.get (i:=i) (x:=V.int n) (by rw[aO,hi];rfl)
  subst e
  exact ⟨t',by simpa using hu⟩
 ·have I2:Inv X pins σ H1 {s1 with heap:=h',toks:=tk}:=I1.kept kp
  refine j0 ?_
  have sz:ns.length≤aA:=aD hlen (by decide)
  refine Fw.GY (s:={s1 with heap:=h',toks:=tk}) (I2.ok.hd hc) S' sz (fun ms hn hm=>aD (wc hn fun k hk=>(hm k).mp hk) sz) fun b out ms h2 c tk2 d hI jV hm kp2 hle hg=>?_
  have hz:(ms.map V.int).length≤aA:=by
   rw[ae]
   exact aD (wc (jV.imp fun q=>Int.ne_of_lt q) fun k hk=>(hm k).mp hk) sz
  have I3:Inv X pins σ (upd H1 b (.lst (ms.map V.int))) {s1 with heap:=h2,toks:=tk2}:=I2.laid (t':=tk2) kp2 hle ⟨hz,out.toList,c,pT hI,by rw[iY];exact hg⟩
  exact ⟨.ref b,_,I3.drew d,rfl,q ms b jV hm (I2.fj.fresh hle)⟩
section
variable {X:Cx}
def OI (K:ai):List V→Hp→VK→Prop:=fun vs H Q=>∃ (a:aj) (ns:List Int),vs=[V.ref a]∧cG K H a (ns.map V.int)∧∀ (ms:List Int) (p:aj),ms.Perm ns→ms.Pairwise (·≤·)→H p=none→Q (.ref p) (upd H p (.lst (ms.map V.int)))
theorem HI:lC X (.builtin "sorted") (OI X.K):=by
 intro pins s σ H vs us Q I r h
 obtain ⟨a,ns,rfl,hs,q⟩:=h
 obtain ⟨its,rv,hl,hz⟩:=I.list hs
 rw[df.xw r]
 have hi:=rv.ints
 have zl:its.length≤aA:=by rw[← rv.length];exact hz
 refine PyProof.Rows.sorted_intsAny hl.isList hi zl fun out ms h1 h2 h3=>?_
 obtain ⟨c,hc⟩:=wL s.heap its out
 have hlen:(ms.map V.int).length≤aA:=by rw[ae,h2.length_eq,← hi.length];exact zl
 exact ⟨.ref _,_,I.laid (o:=.lst (ms.map V.int)) (t':=s.toks) (fun _ _=>vv) (hW _) ⟨hlen,out.toList,c,pT h1,hc⟩,rfl,q ms _ h2 h3 (I.fj.fresh (hW _))⟩
def OH (K:ai):List V→Hp→VK→Prop:=fun vs H Q=>∃ (a:aj) (rs:List aj) (rows:List (List Int)),vs=[V.ref a]∧cG K H a (rs.map V.ref)∧Paired (fun r row=>H r=some (.lst (row.map V.int))) rs rows ∧
 ∀ (qs:List aj) (out:List (List Int)) (p:aj),out.Perm rows→Paired (fun r row=>H r=some (.lst (row.map V.int))) qs out→out.Pairwise (fun u v=>HT.lexLt v u=false)→H p=none→Q (.ref p) (upd H p (.lst (qs.map V.ref)))
theorem B6:∀ {rs:List aj} {us:List ag},df (rs.map V.ref) us→us=rs.map ag.ref
 | [],us,h=>by cases h;rfl
 | r::rs,us,h=>by
  cases h with
  | cons a t =>
   cases a
   rw[B6 t]
   rfl
theorem vS:∀ (rs:List aj),df (rs.map V.ref) (rs.map ag.ref)
 | []=>.nil
 | r::rs=>.cons rfl (vS rs)
theorem rk {α β:Type}{R:α→β→Prop}:∀ {l:List α} {m:List β} {a:α},Paired R l m→a∈l→∃ b∈m,R a b
 | _,_,_,.nil,h=>by simp at h
 | _,_,_,.cons r t,h=>by
  rcases aI.mp h with e | h
  ·subst e;exact ⟨_,ax,r⟩
  ·obtain ⟨b,hb,q⟩:=rk t h
   exact ⟨b,ao _ hb,q⟩
theorem HH (hu:X.A.units+8<cLine):lC X (.builtin "sorted") (OH X.K):=by
 intro pins s σ H vs us Q I r h
 obtain ⟨a,rs,rows,rfl,hs,pr,q⟩:=h
 obtain ⟨its,rv,hl,hz⟩:=I.list hs
 have ei:=B6 rv
 subst ei
 rw[df.xw r]
 have row:∀ r row,H r=some (.lst (row.map V.int))→Fx.kM s.heap r row:=fun r row e=>by
  obtain ⟨_,its,n,rv,g⟩:=(show fM X.prog X.w H s.heap r (.lst (row.map V.int)) from I.fj r _ e)
  exact ⟨its.toArray,n,g,by simpa using rv.ints⟩
 refine Fx.EI (L:=rows) hl.isList hu (fun v hv=>?_) (by rw[ae];rw[ae] at hz;exact hz) fun out hp hs=>?_
 ·obtain ⟨r,hr,rfl⟩:=aU.mp hv
  obtain ⟨w,hw,e⟩:=rk pr hr
  exact ⟨r,w,rfl,row r w e,hw⟩
 obtain ⟨c,hc⟩:=wL s.heap (rs.map ag.ref) out
 have back:∀ (l:List ag) (rs:List aj) (rows:List (List Int)),l.Perm (rs.map ag.ref)→Paired (fun r row=>H r=some (.lst (row.map V.int))) rs rows→∃ (qs:List aj) (out:List (List Int)),l=qs.map ag.ref∧out.Perm rows∧Paired (fun r row=>H r=some (.lst (row.map V.int))) qs out:=by
  intro l
  induction l with
  | nil =>
   intro rs rows p pr
   have e:rs=[]:=by simpa using p.symm.eq_nil
   subst e
   cases pr
   exact ⟨[],[],rfl,jF _,.nil⟩
  | cons v l ih =>
   intro rs rows p pr
   obtain ⟨r,hr,ev⟩:=aU.mp (p.mem_iff.mp ax)
   subst ev
   have split:∀ {rs:List aj} {rows:List (List Int)},Paired (fun r row=>H r=some (.lst (row.map V.int))) rs rows→r∈rs→∃ rs' w rows',rs.Perm (r::rs')∧rows.Perm (w::rows')∧H r=some (.lst (w.map V.int))∧Paired (fun r row=>H r=some (.lst (row.map V.int))) rs' rows':=by
    intro rs rows pr
    induction pr with
    | nil=>intro h;simp at h
    | cons a t ih =>
     rename_i r0 w0 rs0 rows0
     intro h
     by_cases e:r=r0
     ·subst e;exact ⟨_,_,_,jF _,jF _,a,t⟩
     ·obtain ⟨rs',w,rows',p1,p2,hw,t'⟩:=ih ((aI.mp h).resolve_left e)
      exact ⟨r0::rs',w,w0::rows',(p1.cons r0).trans (xI r r0 _),(p2.cons w0).trans (xI w w0 _),hw,.cons a t'⟩
   obtain ⟨rs',w,rows',p1,p2,hw,pr'⟩:=split pr hr
   have p3:(ag.ref r::l).Perm (ag.ref r::rs'.map ag.ref):=p.trans (p1.map ag.ref)
   obtain ⟨qs,out,e,po,pq⟩:=ih rs' rows' ((Bo _).mp p3) pr'
   exact ⟨r::qs,w::out,by rw[e];rfl,(po.cons w).trans p2.symm,.cons hw pq⟩
 obtain ⟨qs,rows',eo,po,pq⟩:=back out.toList rs rows hp pr
 have hlen:(qs.map V.ref).length≤aA:=by
  rw[ae]
  have:=congrArg dF eo
  rw[hp.length_eq,ae,ae] at this
  rw[← this]
  rw[ae] at hz
  exact hz
 have hc':(PyProof.Rows.sortedAll s.heap (rs.map ag.ref) out).get? (s.heap.objs.size+1)=some {cls:=.type "list",dict:=none,data:=.seq (qs.map ag.ref).toArray c,slots:=#[]}:=by
  rw[hc,← eo,iY]
 refine ⟨.ref _,_,I.laid (o:=.lst (qs.map V.ref)) (t':=s.toks) (fun _ _=>vv) (hW _) ⟨hlen,qs.map ag.ref,c,vS qs,hc'⟩,rfl,q qs rows' _ po pq ?_ (I.fj.fresh (hW _))⟩
 rw[eo] at hs
 have all:∀ {qs:List aj} {out:List (List Int)},Paired (fun r row=>H r=some (.lst (row.map V.int))) qs out→(qs.map ag.ref).Pairwise (fun u v=>HT.lexLt (Fx.rowOf s.heap v) (Fx.rowOf s.heap u)=false)→out.Pairwise (fun u v=>HT.lexLt v u=false):=by
  intro qs out pq
  induction pq with
  | nil=>intro _;exact .nil
  | cons a t ih =>
   rename_i r0 w0 rs0 rows0
   intro h
   obtain ⟨h1,h2⟩:=dE.mp h
   refine dE.mpr ⟨fun w hw=>?_,ih h2⟩
   obtain ⟨r,hr,e⟩:∃ r∈rs0,H r=some (.lst (w.map V.int)):=by
    clear h h1 h2 ih
    induction t with
    | nil=>simp at hw
    | cons a t ih =>
     rcases aI.mp hw with e | hw
     ·subst e;exact ⟨_,ax,a⟩
     ·obtain ⟨r,hr,q⟩:=ih hw
      exact ⟨r,ao _ hr,q⟩
   have:=h1 (ag.ref r) (aU.mpr ⟨r,hr,rfl⟩)
   rw[Fx.iT (row _ _ e),Fx.iT (row _ _ a)] at this
   exact this
 exact all pq hs
end
def i3 (lt:ag→ag→Bool):Option ag→List ag→Option ag
 | b,[]=>b
 | none,x::r=>i3 lt (some x) r
 | some m,x::r=>i3 lt (some (if lt x m=true then x else m)) r
def LstAt (h:bU)(S:aj):Option ag→Prop
 | none=>∃ c,h.get? S=some {cls:=.type "list",dict:=none,data:=.seq #[] c,slots:=#[]}
 | some m=>∃ c,h.get? S=some {cls:=.type "list",dict:=none,data:=.seq #[m,m] c,slots:=#[]}
def dflt (d:Option ag):List (cp×ag):=match d with
 | some v=>[("default",v)]
 | none=>[]
section
variable {prog:aY}{w:bO}{A:cA}{s:au}
def Cs (R:qM→au→Prop)(d:Option ag)(s:au):Option ag→Prop
 | some m=>R (.ok (.ret m)) s
 | none=>∃ v,d=some v∧R (.ok (.ret v)) s
theorem sI {l I S:aj}{its:Array ag}(d:Option ag)(lt:ag→ag→Bool)(hh:A.handled=none)(nIS:I≠S)(nlI:l≠I)(nlS:l≠S){R:qM→au→Prop}(OK:bU→Prop)
  (keep:∀ h h':bU,OK h→(∀ c o,c≠I→c≠S→h.get? c=some o→h'.get? c=some o)→OK h')
  (cmp:∀ (s:au) (x y:ag) (Q:ag→au→Prop) (E:ag→au→Prop),OK s.heap→x∈its.toList→y∈its.toList→Q (.bool (lt x y)) s→wpAny (model prog w) A.in1 (richCompare .Lt x y) Q E s) :
  ∀ (rest:List ag) (i:Nat) (s:au) (b:Option ag),its.toList.drop i=rest→i≤its.size→s.heap.IsListIter I l i→s.heap.IsList l its→LstAt s.heap S b→OK s.heap→(∀ m,b=some m→m∈its.toList) →
   (∀ h' tk,(∀ c o,c≠I→c≠S→s.heap.get? c=some o→h'.get? c=some o)→Cs R d {s with heap:=h',toks:=tk} (i3 lt b rest)) →
   codeAny (model prog w) A (.builtin "min.loop" ⟨[.ref I,.none,.ref S],dflt d⟩) R s
 | [],i,s,b,hd,hi,hit,hl,hb,ok,hm,hR=>by
  have e:i=its.size:=by
   have:=congrArg dF hd
   rw[cq,eG,cM] at this
   omega
  have hx:its[i]?=none:=by rw[mR];omega
  refine eA F.entry_min_loop ?_
  rw[dh iD _]
  cases b with
  | none =>
   obtain ⟨c,hS⟩:=hb
   refine aa (m:=seqItems? (.ref S)) (c7 hS rfl (aa (m:=tryCatch (pyNext (.ref I)) _) (fJ (fZ hh hit hl hx fun h' ex=>?_))))
   obtain ⟨v,ev,q⟩:=hR h' s.toks fun c o n1 _ q=>ex c o n1 q
   subst ev
   exact aa (jm (ak q))
  | some m =>
   obtain ⟨c,hS⟩:=hb
   refine aa (m:=seqItems? (.ref S)) (c7 hS rfl (aa (m:=tryCatch (pyNext (.ref I)) _) (fJ (fZ hh hit hl hx fun h' ex=>?_))))
   have hS':=ex S _ nIS.symm hS
   refine aa (m:=updateSeq S fun _=>#[]) ?_
   refine ic hS' rfl (aa (gu (ak ?_)))
   exact hR _ s.toks (fun c o n1 n2 q=>(dC _ _ (gU n2)).trans (ex c o n1 q))
 | x::r,i,s,b,hd,hi,hit,hl,hb,ok,hm,hR=>by
  have lt1:i<its.size:=by
   have:=congrArg dF hd
   rw[cq,aS,cM] at this
   omega
  have hx0:its.toList[i]?=some x:=by rw[← rM,hd];rfl
  have hx:its[i]?=some x:=by rw[← gM];exact hx0
  have mx:x∈its.toList:=aV hx0
  have hd':its.toList.drop (i+1)=r:=by rw[← tp,hd];rfl
  have nm:(toString "min"++toString ".loop":String)="min.loop":=by decide
  refine eA F.entry_min_loop ?_
  rw[dh iD _]
  cases b with
  | none =>
   obtain ⟨c,hS⟩:=hb
   refine aa (m:=seqItems? (.ref S)) (c7 hS rfl (aa (m:=tryCatch (pyNext (.ref I)) _) (fJ (fL hit hl hx fun h' hit' sb=>?_))))
   have hS':=sb.extBut S _ nIS.symm hS
   refine aa (m:=updateSeq S fun _=>#[x,x]) ?_
   refine ic hS' rfl ?_
   rw[nm]
   have up:∀ c o,c≠S→h'.get? c=some o→(h'.update S (fA.mapSeq fun _=>#[x,x])).get? c=some o:=fun c o n q=>(dC _ _ (gU n)).trans q
   have all:∀ c o,c≠I→c≠S→s.heap.get? c=some o→(h'.update S (fA.mapSeq fun _=>#[x,x])).get? c=some o:=fun c o n1 n2 z=>up c o n2 (sb.extBut _ _ n1 z)
   refine ak ⟨dw iD _,sI d lt hh nIS nlI nlS OK keep cmp r (i+1) _ (some x) hd' lt1 (let ⟨o,q,z⟩:=hit';⟨o,up _ _ nIS q,z⟩) (let ⟨o,q,z⟩:=hl;⟨o,up _ _ nlS (sb.extBut _ _ nlI q),z⟩) ⟨_,cQ _ hS' rfl⟩ (keep _ _ ok all) (fun m e=>by cases e;exact mx) fun h2 tk q=>?_⟩
   exact hR h2 tk fun c o n1 n2 z=>q c o n1 n2 (all c o n1 n2 z)
  | some m =>
   obtain ⟨c,hS⟩:=hb
   have mm:=hm m rfl
   refine aa (m:=seqItems? (.ref S)) (c7 hS rfl (aa (m:=tryCatch (pyNext (.ref I)) _) (fJ (fL hit hl hx fun h' hit' sb=>?_))))
   have hS':=sb.extBut S _ nIS.symm hS
   have ok':OK h':=keep _ _ ok fun c o n1 _ q=>sb.extBut _ _ n1 q
   refine aa (m:=tryCatch (holding [x,x] (richCompare .Lt x m >>= _)) _) (fJ (dj (aa (cmp {s with heap:=h'} x m _ _ ok' mx mm (aa (dj (eY (aa (gu (ak ?_))))))))))
   by_cases g:lt x m=true
   ·rw[if_pos g]
    refine aa (m:=updateSeq S fun _=>#[x,x]) ?_
    refine ic hS' rfl (aa (gu ?_))
    rw[nm]
    have up:∀ c o,c≠S→h'.get? c=some o→(h'.update S (fA.mapSeq fun _=>#[x,x])).get? c=some o:=fun c o n q=>(dC _ _ (gU n)).trans q
    have all:∀ c o,c≠I→c≠S→s.heap.get? c=some o→(h'.update S (fA.mapSeq fun _=>#[x,x])).get? c=some o:=fun c o n1 n2 z=>up c o n2 (sb.extBut _ _ n1 z)
    refine ak ⟨dw iD _,sI d lt hh nIS nlI nlS OK keep cmp r (i+1) _ (some x) hd' lt1 (let ⟨o,q,z⟩:=hit';⟨o,up _ _ nIS q,z⟩) (let ⟨o,q,z⟩:=hl;⟨o,up _ _ nlS (sb.extBut _ _ nlI q),z⟩) ⟨_,cQ _ hS' rfl⟩ (keep _ _ ok all) (fun m e=>by cases e;exact mx) fun h2 tk q=>?_⟩
    have:=hR h2 tk fun c o n1 n2 z=>q c o n1 n2 (all c o n1 n2 z)
    rw[i3,if_pos g] at this
    exact this
   ·rw[if_neg g]
    refine aa (gu ?_)
    rw[nm]
    refine ak ⟨dw iD _,sI d lt hh nIS nlI nlS OK keep cmp r (i+1) _ (some m) hd' lt1 hit' (hl.extBut sb.extBut nlI) ⟨c,hS'⟩ ok' hm fun h2 tk q=>?_⟩
    have:=hR h2 tk fun c o n1 n2 z=>q c o n1 n2 (sb.extBut _ _ n1 z)
    rw[i3,if_neg g] at this
    exact this
end
section
variable {prog:aY}{w:bO}{A:cA}{s:au}{E:ag→au→Prop}
theorem LS (a v:ag):argsOk "min" ⟨[a],[(dG "default",v)]⟩:=by unfold argsOk;kernel_rfl
theorem args_min1 (a:ag):argsOk "min" ⟨[a],[]⟩:=by unfold argsOk;kernel_rfl
theorem Bb {l:aj}{its:Array ag}(d:Option ag)(lt:ag→ag→Bool)(OK:bU→Prop){Q:ag→au→Prop}(hh:A.handled=none)(hl:s.heap.IsList l its)(ok:OK s.heap)
  (keep:∀ h h':bU,OK h→(∀ c o,c<s.heap.objs.size→h.get? c=some o→h'.get? c=some o)→OK h')
  (cmp:∀ (s:au) (x y:ag) (Q:ag→au→Prop) (E:ag→au→Prop),OK s.heap→x∈its.toList→y∈its.toList→Q (.bool (lt x y)) s→wpAny (model prog w) A.in1 (richCompare .Lt x y) Q E s)
  (h:∀ h' tk,(∀ c o,s.heap.get? c=some o→h'.get? c=some o)→match i3 lt none its.toList with
   | some m=>Q m {s with heap:=h',toks:=tk}
   | none=>∃ v,d=some v∧Q v {s with heap:=h',toks:=tk}):wpAny (model prog w) A (call (.builtin "min") [.ref l] (dflt d)) Q E s:=by
 have nm:(toString "min"++toString ".loop":String)="min.loop":=by decide
 have ll:l<s.heap.objs.size:=let ⟨_,q,_⟩:=hl;aN q
 have z1:(s.heap.push {cls:=.type "list_iterator",data:=.fields #[.ref l,.int 0 0]}).objs.size=s.heap.objs.size+1:=cN ..
 have old:∀ {g:bU} {o u:fA} {c:aj},g.get? c=some u→(g.push o).get? c=some u:=fun q=>ay _ q
 have keep':∀ h h':bU,OK h→(∀ c o,c≠s.heap.objs.size→c≠(s.heap.push {cls:=.type "list_iterator",data:=.fields #[.ref l,.int 0 0]}).objs.size→h.get? c=some o→h'.get? c=some o)→OK h':=fun h h' o k=>keep h h' o fun c u hc q=>k c u (ba hc) (by rw[z1];exact ba (dD hc)) q
 have go:∀ R:qM→au→Prop,(∀ h' tk,(∀ c o,s.heap.get? c=some o→h'.get? c=some o)→Cs R d {s with heap:=h',toks:=tk} (i3 lt none its.toList)) →
   codeAny (model prog w) A (.builtin "min.loop" ⟨[.ref s.heap.objs.size,.none,.ref (s.heap.push {cls:=.type "list_iterator",data:=.fields #[.ref l,.int 0 0]}).objs.size],dflt d⟩) R {s with heap:=(s.heap.push {cls:=.type "list_iterator",data:=.fields #[.ref l,.int 0 0]}).push {cls:=.type "list",data:=.seq ([]:List ag).toArray}}:=fun R hR=>by
  refine sI (l:=l) (its:=its) d lt hh (ba (by rw[z1];exact dP _)) (ba ll) (ba (by rw[z1];exact dD ll)) OK keep' cmp its.toList 0 _ none rfl (aR _) ⟨_,old (aH _ rfl),rfl,rfl⟩ (let ⟨o,q,z⟩:=hl;⟨o,old (old q),z⟩) ⟨0,aH _ rfl⟩ (keep s.heap ((s.heap.push {cls:=.type "list_iterator",data:=.fields #[.ref l,.int 0 0]}).push {cls:=.type "list",data:=.seq ([]:List ag).toArray}) ok fun c o _ q=>old (old q)) (fun m e=>by cases e) fun h' tk kp=>?_
  refine hR h' tk fun c o q=>kp c o (ba (aN q)) (by rw[z1];exact ba (dD (aN q))) (old (old q))
 have fin:∀ h' tk,(∀ c o,s.heap.get? c=some o→h'.get? c=some o)→Cs (wants Q E) d {s with heap:=h',toks:=tk} (i3 lt none its.toList):=fun h' tk kp=>by
  have:=h h' tk kp
  revert this
  cases i3 lt none its.toList with
  | none=>exact fun z=>z
  | some m=>exact fun z=>z
 cases d with
 | some v =>
  refine nY F.kind_min F.plain_min F.entry_min (LS _ _) ?_
  refine aa (m:=jY "min" ["key","default"] 0 ⟨[],[(dG "default",v)]⟩) (jn (a:=[none,some v]) rfl (aa (ak (aa (ig hl (aa (cv ?_)))))))
  rw[nm]
  exact ak ⟨dw iD _,go _ fin⟩
 | none =>
  refine nY F.kind_min F.plain_min F.entry_min (args_min1 _) ?_
  refine aa (m:=jY "min" ["key","default"] 0 ⟨[],[]⟩) (jn (a:=[none,none]) rfl (aa (ak (aa (ig hl (aa (cv ?_)))))))
  rw[nm]
  exact ak ⟨dw iD _,go _ fin⟩
end
def k5:Option Int→List Int→Option Int
 | b,[]=>b
 | none,x::r=>k5 (some x) r
 | some m,x::r=>k5 (some (if x<m then x else m)) r
theorem A3:∀ (l:List Int) (m:Int),∃ v,k5 (some m) l=some v∧(v=m∨v∈l)∧v≤m∧∀ x∈l,v≤x
 | [],m=>⟨m,rfl,.inl rfl,Int.le_refl _,fun x h=>by simp at h⟩
 | x::l,m=>by
  rw[k5]
  obtain ⟨v,e,h1,h2,h3⟩:=A3 l (if x<m then x else m)
  refine ⟨v,e,?_,?_,fun y hy=>?_⟩
  ·rcases h1 with q | q
   ·split at q
    ·exact .inr (by rw[q];exact ax)
    ·exact .inl q
   ·exact .inr (ao _ q)
  ·split at h2<;>omega
  ·rcases aI.mp hy with q | q
   ·subst q;split at h2<;>omega
   ·exact h3 y q
def Xm (K:ai)(t:TA)(te:TE):TE:=fun σ H Q=>t σ H fun vs H1=>te σ H1 fun d H2=>∃ (a:aj) (ns:List Int),vs=[V.ref a]∧cG K H2 a (ns.map V.int)∧Q (Il d (k5 none ns)) H2
def ltI (x y:ag):Bool:=match x,y with
 | .int a _,.int b _=>decide (a<b)
 | _,_=>false
theorem rC:∀ {us:List ag} {ns:List Int},eK us ns→∀ (b:Option ag) (c:Option Int),(match b,c with | none,none=>True | some v,some n=>∃ t,v=ag.int n t | _,_=>False)→match i3 ltI b us,k5 c ns with | none,none=>True | some v,some n=>∃ t,v=ag.int n t | _,_=>False
 | _,_,.nil,b,c,h=>by unfold i3 k5;exact h
 | _,_,.cons n t r,none,none,h=>rC r (some _) (some _) ⟨t,rfl⟩
 | _,_,.cons n t r,none,some _,h=>h.elim
 | _,_,.cons n t r,some _,none,h=>h.elim
 | _,_,.cons n t r,some v,some m,h=>by
  obtain ⟨u,rfl⟩:=h
  rw[i3,k5]
  refine rC r _ _ ?_
  show match some (if decide (n<m)=true then ag.int n t else ag.int m u),some (if n<m then n else m) with | none,none=>True | some v,some n=>∃ t,v=ag.int n t | _,_=>False
  by_cases q:n<m
  ·rw[if_pos (decide_eq_true q),if_pos q];exact ⟨t,rfl⟩
  ·rw[if_neg (by rw[decide_eq_false q];decide),if_neg q];exact ⟨u,rfl⟩
theorem Ry {X:Cx}{e1 e2:Expr}{t:TA}{te:TE}{p pos kp:jK}(hc:X.calm=true)(hg:Gl X "min")(hm:X.mg "min"=none)(ha:PA X [e1] t)(hk:PE X e2 te)
  (he:backTo pos (bQ [e1] X.env)=(false,eval e1 X.env)::backTo pos (bQ [] X.env):=by rfl)(hpl:(backTo pos (bQ [e1] X.env)).any (·.1)=false:=by rfl) :
  PE X (.Call (.Name "min" p) [e1] [⟨some "default",e2,kp⟩] pos) (Xm X.K t te):=by
 intro pins s σ H Q I h
 refine d8 (jl I hg hm FD ?_)
 refine callWith_kw (gI (ha pos pins s σ H _ I h) fun us s1 ⟨vs,H1,I1,r,q⟩=>kws_cons (gI (hk pins s1 σ H1 _ I1 q) fun dv s2 ⟨d,H2,I2,rd,a,ns,ev,hs,q2⟩=>kws_nil ?_)) he hpl
 subst ev
 obtain ⟨its,rv,hl,_⟩:=I2.list hs
 rw[df.xw r]
 have hi:=rv.ints
 refine Bb (its:=its.toArray) (some dv) ltI (fun _=>True) (I2.ok.hd hc) hl.isList trivial (fun _ _ _ _=>trivial) (fun s x y Q E _ hx hy q=>?_) fun h' tk kp=>?_
 ·have ex:∀ {us:List ag} {ns:List Int},eK us ns→∀ v∈us,∃ n t,v=ag.int n t:=by
   intro us ns h
   induction h with
   | nil=>intro v hv;simp at hv
   | cons n t _ ih =>
    intro v hv
    rcases aI.mp hv with e | hv
    ·exact ⟨n,t,e⟩
    ·exact ih v hv
  obtain ⟨n,t,rfl⟩:=ex hi x (by simpa using hx)
  obtain ⟨m,u,rfl⟩:=ex hi y (by simpa using hy)
  exact HT.yK _ _ n t m u _ _ _ _ q
 ·have I3:Inv X pins σ H2 {s2 with heap:=h',toks:=tk}:=I2.kept kp
  have:=rC hi none none trivial
  revert this q2
  simp only[List.toList_toArray]
  cases i3 ltI none its with
  | none =>
   cases k5 none ns with
   | none=>exact fun q2 _=>⟨dv,rfl,d,H2,I3,rd,q2⟩
   | some n=>exact fun _ z=>z.elim
  | some v =>
   cases k5 none ns with
   | none=>exact fun _ z=>z.elim
   | some n =>
    intro q2 z
    exact ⟨.int n,H2,I3,z,q2⟩
def Xx (K:ai):List V→Hp→VK→Prop:=fun vs H Q=>∃ (a:aj) (rs:List aj) (rows:List (List Int)),vs=[V.ref a]∧cG K H a (rs.map V.ref)∧Paired (fun r row=>fN K H r (row.map V.int)) rs rows∧rs≠[] ∧
 ∀ (i:Nat) (q:aj) (row:List Int),rs[i]?=some q→rows[i]?=some row→(∀ w∈rows,HT.lexLt w row=false)→Q (.ref q) H
theorem wm (f:ag→List Int):∀ (l:List ag) (m:ag),∃ v,i3 (fun x y=>HT.lexLt (f x) (f y)) (some m) l=some v∧v∈m::l∧∀ x∈m::l,HT.lexLt (f x) (f v)=false
 | [],m=>⟨m,rfl,ax,fun x hx=>by
  rw[bB.mp hx]
  exact Fx.Cb _⟩
 | x::l,m=>by
  rw[i3]
  by_cases q:HT.lexLt (f x) (f m)=true
  ·rw[if_pos q]
   obtain ⟨v,e,h1,h2⟩:=wm f l x
   refine ⟨v,e,ao _ h1,fun y hy=>?_⟩
   rcases aI.mp hy with e' | hy
   ·subst e'
    have hx:=h2 x ax
    cases z:HT.lexLt (f y) (f v) with
    | false=>rfl
    | true =>
     have:=Fx.Gp _ _ _ q z
     rw[hx] at this
     cases this
   ·exact h2 y hy
  ·rw[if_neg q]
   obtain ⟨v,e,h1,h2⟩:=wm f l m
   have hm:=h2 m ax
   refine ⟨v,e,?_,fun y hy=>?_⟩
   ·rcases aI.mp h1 with e' | h1
    ·rw[e'];exact ax
    ·exact ao _ (ao _ h1)
   ·rcases aI.mp hy with e' | hy
    ·rw[e'];exact hm
    ·rcases aI.mp hy with e' | hy
     ·subst e'
      cases z:HT.lexLt (f y) (f v) with
      | false=>rfl
      | true =>
       rcases Fx.Ca _ (f m) _ z with w | w
       ·exact absurd w q
       ·rw[hm] at w;cases w
     ·exact h2 y (ao _ hy)
theorem xa {α β:Type}{R:α→β→Prop}:∀ {l:List α} {m:List β} {b:β},Paired R l m→b∈m→∃ a∈l,R a b
 | _,_,_,.nil,h=>by simp at h
 | _,_,_,.cons r t,h=>by
  rcases aI.mp h with e | h
  ·subst e;exact ⟨_,ax,r⟩
  ·obtain ⟨b,hb,q⟩:=xa t h
   exact ⟨b,ao _ hb,q⟩
theorem w9 {α β:Type}{R:α→β→Prop}:∀ {l:List α} {m:List β} {a:α},Paired R l m→a∈l→∃ (i:Nat) (b:β),l[i]?=some a∧m[i]?=some b∧R a b
 | _,_,_,.nil,h=>by simp at h
 | _,_,_,.cons r t,h=>by
  rcases aI.mp h with e | h
  ·subst e;exact ⟨0,_,rfl,rfl,r⟩
  ·obtain ⟨i,b,h1,h2,q⟩:=w9 t h
   exact ⟨i+1,b,h1,h2,q⟩
open Classical in
noncomputable def Fy (h:bU)(v:ag):List Int:=if q:∃ (row:List Int) (a:aj) (its:Array ag),v=.ref a∧qo h a its∧eK its.toList row then q.choose else []
theorem Hw {h:bU}{a:aj}{xs ys:Array ag}(x:qo h a xs)(y:qo h a ys):xs=ys:=by
 obtain ⟨o,e,_,n,d⟩:=x
 obtain ⟨o',e',_,n',d'⟩:=y
 rw[e] at e'
 cases e'
 rw[d] at d'
 injection d'
theorem xW {h:bU}{a:aj}{its:Array ag}{row:List Int}(x:qo h a its)(i:eK its.toList row):Fy h (.ref a)=row:=by
 have q:∃ (row:List Int) (b:aj) (its:Array ag),ag.ref a=.ref b∧qo h b its∧eK its.toList row:=⟨row,a,its,rfl,x,i⟩
 unfold Fy
 rw[dif_pos q]
 obtain ⟨b,its',e,y,j⟩:=q.choose_spec
 cases e
 have:=Hw x y
 subst this
 exact Fx.wt j i
theorem SV {X:Cx}(hc:X.calm=true)(hu:X.A.units+8<cLine):lC X (.builtin "min") (Xx X.K):=by
 intro pins s σ H vs us Q I r h
 obtain ⟨a,rs,rows,rfl,hs,pr,hne,q⟩:=h
 obtain ⟨its,rv,hl,hz⟩:=I.list hs
 have ei:=B6 rv
 subst ei
 rw[df.xw r]
 have row:∀ r row,fN X.K H r (row.map V.int)→∃ its:Array ag,qo s.heap r its∧eK its.toList row:=fun r row e=>by
  obtain ⟨its,r1,p1,_⟩:=I.tuple e
  exact ⟨its.toArray,p1,intsAre_of r1⟩
 refine Bb (its:=(rs.map ag.ref).toArray) none (fun x y=>HT.lexLt (Fy s.heap x) (Fy s.heap y)) (fun h=>∀ r∈rs,∃ (row:List Int) (its:Array ag),qo s.heap r its∧qo h r its∧eK its.toList row) (I.ok.hd hc) hl.isList (fun r hr=>?_) (fun h h' ok kp r hr=>?_) (fun s2 x y Q E ok hx hy qq=>?_) fun h' tk kp=>?_
 ·obtain ⟨w,hw,e⟩:=rk pr hr
  obtain ⟨its,p,i⟩:=row r w e
  exact ⟨w,its,p,p,i⟩
 ·obtain ⟨w,its,p,p2,i⟩:=ok r hr
  obtain ⟨o,e,z⟩:=p
  obtain ⟨o2,e2,z2⟩:=p2
  exact ⟨w,its,⟨o,e,z⟩,⟨o2,kp r o2 (aN e) e2,z2⟩,i⟩
 ·obtain ⟨r1,h1,rfl⟩:=aU.mp (show x∈rs.map ag.ref by simpa using hx)
  obtain ⟨r2,h2,rfl⟩:=aU.mp (show y∈rs.map ag.ref by simpa using hy)
  obtain ⟨w1,i1,p1,p1',j1⟩:=ok r1 h1
  obtain ⟨w2,i2,p2,p2',j2⟩:=ok r2 h2
  rw[xW p1 j1,xW p2 j2] at qq
  exact HT.Hs p1' p2' j1 j2 (aG (show X.A.units+1≤X.A.units+8 by omega) hu) qq
 ·obtain ⟨r0,rt,e0⟩:∃ r0 rt,rs=r0::rt:=by
   cases rs with
   | nil=>exact absurd rfl hne
   | cons r0 rt=>exact ⟨r0,rt,rfl⟩
  obtain ⟨v,ev,hv,hm⟩:=wm (Fy s.heap) (rt.map ag.ref) (ag.ref r0)
  have el:i3 (fun x y=>HT.lexLt (Fy s.heap x) (Fy s.heap y)) none (rs.map ag.ref).toArray.toList=some v:=by
   rw[e0]
   exact ev
  rw[el]
  have hv':v∈rs.map ag.ref:=by rw[e0];exact hv
  obtain ⟨c,hcm,rfl⟩:=aU.mp hv'
  obtain ⟨ix,w,hix,hw,hwc⟩:=w9 pr hcm
  have I3:Inv X pins σ H {s with heap:=h',toks:=tk}:=I.kept kp
  refine ⟨.ref c,H,I3,rfl,q ix c w hix hw fun w' hw'=>?_⟩
  obtain ⟨r',dQ,e'⟩:=xa pr hw'
  have:=hm (ag.ref r') (by
   have:ag.ref r'∈rs.map ag.ref:=aU.mpr ⟨r',dQ,rfl⟩
   rw[e0] at this
   exact this)
  obtain ⟨j1,p1,k1⟩:=row r' w' e'
  obtain ⟨j2,p2,k2⟩:=row c w hwc
  rw[xW p1 k1,xW p2 k2] at this
  exact this
section
variable {X:Cx}{pins:List (aj×fA)}{σ:L2.St}{H:Hp}{s:au}{d:aj}
theorem Inv.Us {kvs:List (List eD×V)}(I:Inv X pins σ H s)(h:H d=some (.dT kvs)) :
  (d==eV)=false∧kvs.length≤aA∧∃ (o:fA) (es:Array fq) (ep:Nat),s.heap.get? d=some o∧o.ExactDict∧o.data=.dict es ep∧es.size=kvs.length ∧
   ∀ (i:Nat) (k:List eD) (v:V),kvs[i]?=some (k,v)→∃ (en:fq) (q:aj),es[i]?=some en∧en.key=.ref q∧RelV v en.val∧kZ H q k:=by
 obtain ⟨z,hs,xs,pr,o,es,ep,ho,hx,hdt,he,_⟩:=(show fM X.prog X.w H s.heap d (.dT kvs) from I.fj d _ h)
 refine ⟨hs,z,o,es,ep,ho,hx,hdt,?_,fun i k v e=>?_⟩
 ·have l1:es.size=xs.length:=size_of_entries he
  have l2:kvs.length=xs.length:=Paired.length pr
  omega
 ·obtain ⟨b,hb,e1,e2,e3⟩:=zk pr e
  have q:=entry_at he i
  rw[hb] at q
  exact ⟨_,b.2.1,q,rfl,e3,e2⟩
end
section
variable {prog:aY}{w:bO}
theorem Zk {d:aj}{es:Array fq}{ep:Nat}(lo:(d==eV)=false):PySem.W.KdlSrc prog w "dict" d d es.size (fun i v=>∃ en,es[i]?=some en∧v=en.key) (fun h=>∃ o,h.get? d=some o∧o.ExactDict∧o.data=.dict es ep) where
 type:=fun _ ⟨o,e,x,_⟩=>⟨o,e,x.1⟩
 there:=fun _ ⟨o,e,_⟩=>⟨aN e,aN e⟩
 keep:=fun _ _ ⟨o,e,z⟩ k=>⟨o,k d (.inl rfl) o e,z⟩
 notList:=by decide
 notTuple:=by decide
 hint:=fun _ _ _ _ ⟨o,e,x,_⟩ q=>PySem.W.kdl_hint_dict ⟨o,e,x.1⟩ q
 iter:=fun A s hh ⟨o,e,x,dd⟩=>by
  refine ⟨_,fun i h=>h.IsKeyIter s.heap.objs.size d i es.size ep∧∃ o,h.get? d=some o∧o.ExactDict∧o.data=.dict es ep,(fun E Q q=>Lf lo e x dd q),?_,⟨_,aH _ rfl,rfl,rfl⟩,o,ay _ e,x,dd⟩
  have nd:d≠s.heap.objs.size:=ba (aN e)
  exact {
   sub:=fun b hb=>by simp at hb ⊢;exact .inl hb
   frame:=fun i h h' ⟨⟨oi,e1,z1⟩,o,e2,z2⟩ k=>⟨⟨oi,k _ (by simp) _ e1,z1⟩,o,k _ (by simp) _ e2,z2⟩
   item:=fun i s' Q E hi ⟨st,o,e2,x2,d2⟩ k=>by
    refine Aa st e2 d2 rfl (cx hi) fun h' st' sb=>?_
    exact k _ h' s'.toks ⟨_,cx hi,rfl⟩ ⟨st',o,(sb.2 _ nd).trans e2,x2,d2⟩ fun b u hb q=>(sb.2 b (fun z=>hb (by simp[z]))).trans q
   done:=fun s' Q E ⟨st,o,e2,x2,d2⟩ k=>CB hh st e2 d2 rfl (aL _) fun h' eb=>k h' s'.toks fun b u hb q=>eb b u (fun z=>hb (by simp[z])) q
   self:=fun i s' Q E ⟨st,_⟩ q=>wpAny_pyIter_keyiter st q}
end
theorem zv {P:Nat→ag→Prop}{acc:Array ag}{n:Nat}{xs:List V}(h:ItemsOf P acc n)(hl:xs.length=n)(hp:∀ (i:Nat) v x,P i v→xs[i]?=some x→RelV x v):df xs acc.toList:=by
 have go:∀ (us:List ag) (xs:List V) (k:Nat),us.length=xs.length→(∀ (i:Nat) v x,us[i]?=some v→xs[i]?=some x→RelV x v)→df xs us:=by
  intro us
  induction us with
  | nil =>
   intro xs k hl _
   have:xs=[]:=cW.mp (by simpa using hl.symm)
   subst this
   exact .nil
  | cons u us ih =>
   intro xs k hl hr
   cases xs with
   | nil=>simp at hl
   | cons x xs=>exact .cons (hr 0 u x rfl rfl) (ih xs k (by simpa using hl) fun i v y e1 e2=>hr (i+1) v y e1 e2)
 refine go acc.toList xs 0 (by rw[cM,h.1,hl]) fun i v x e1 e2=>hp i v x (h.2 i v ?_) e2
 rw[← gM]
 exact e1
section
variable {X:Cx}
theorem pP (hc:X.calm=true):lC X (.type "list") (fun xs H Q=>∃ (d:aj) (kvs:List (List eD×V)),xs=[.ref d]∧H d=some (.dT kvs)∧∀ (qs:List aj) (p:aj),Paired (fun q kv=>kZ H q kv.1) qs kvs→H p=none→Q (.ref p) (upd H p (.lst (qs.map V.ref)))):=by
 intro pins s σ H xs us Q I r h
 obtain ⟨d,kvs,rfl,hd,q⟩:=h
 rw[df.xw r]
 obtain ⟨lo,hz,o,es,ep,ho,hx,hdt,hsz,ent⟩:=I.Us hd
 refine L1 (Zk (es:=es) (ep:=ep) lo) (I.ok.hd hc) ⟨o,ho,hx,hdt⟩ (by rw[hsz];exact hz) fun h' tk acc c kp hg hi=>?_
 have pick:∀ (kvs:List (List eD×V)) (es:List fq),es.length=kvs.length→(∀ (i:Nat) (k:List eD) (v:V),kvs[i]?=some (k,v)→∃ (en:fq) (q:aj),es[i]?=some en∧en.key=.ref q∧kZ H q k)→∃ qs:List aj,es.map (·.key)=qs.map ag.ref∧Paired (fun q kv=>kZ H q kv.1) qs kvs:=by
  intro kvs
  induction kvs with
  | nil =>
   intro es hl _
   have:es=[]:=cW.mp (by simpa using hl)
   subst this
   exact ⟨[],rfl,.nil⟩
  | cons kv kvs ih =>
   intro es hl he
   cases es with
   | nil=>simp at hl
   | cons e es =>
    obtain ⟨en,q0,e1,e2,e3⟩:=he 0 kv.1 kv.2 rfl
    cases aJ e1
    obtain ⟨qs,e4,e5⟩:=ih es (by simpa using hl) fun i k v z=>he (i+1) k v z
    exact ⟨q0::qs,by simp[e2,e4],.cons e3 e5⟩
 obtain ⟨qs,e1,e2⟩:=pick kvs es.toList (by simpa using hsz) fun i k v z=>by
  obtain ⟨en,q0,a1,a2,_,a3⟩:=ent i k v z
  exact ⟨en,q0,by simpa using a1,a2,a3⟩
 have ea:acc.toList=qs.map ag.ref:=by
  rw[← e1]
  refine oZ fun i=>?_
  by_cases jV:i<acc.size
  ·obtain ⟨en,a1,a2⟩:=hi.2 i acc[i] (cx jV)
   rw[aO,gM,gM,a1,cx jV,a2]
   rfl
  ·rw[bG (by simpa using jV),bG (by have:=hi.1;simp;omega)]
 have hlen:(qs.map V.ref).length≤aA:=by rw[ae,Paired.length e2];exact hz
 have hg':h'.get? s.heap.objs.size=some {cls:=.type "list",dict:=none,data:=.seq (qs.map ag.ref).toArray c,slots:=#[]}:=by rw[hg,← ea,iY]
 exact ⟨.ref _,_,I.laid (o:=.lst (qs.map V.ref)) (t':=tk) kp (aL _) ⟨hlen,qs.map ag.ref,c,vS qs,hg'⟩,rfl,q qs _ e2 (I.fj.fresh (aL _))⟩
theorem Bc:lC X (.builtin "len") (fun xs H Q=>∃ (d:aj) (kvs:List (List eD×V)),xs=[V.ref d]∧H d=some (.dT kvs)∧Q (.int kvs.length) H):=by
 intro pins s σ H xs us Q I r h
 obtain ⟨d,kvs,rfl,hd,q⟩:=h
 rw[df.xw r]
 obtain ⟨lo,hz,o,es,ep,ho,hx,hdt,hsz,ent⟩:=I.Us hd
 have hT:s.TypeIs (.ref d) "dict":=⟨o,ho,hx.1⟩
 have hz':es.size≤16777216:=by rw[hsz];rw[kK] at hz;exact hz
 refine nT kind_len plain_len entry_len (args_len1 _) ?_
 unfold Builtin.«len»
 refine aa (m:=oneArg "len" _) (ak ?_)
 refine aa (m:=callSpecial? (.ref d) (dG "__len__")) (c9 (name:=dG "__len__") hT F.slot_dict_len (c5 F.slot_dict_len hT F.entry_dict_len ?_ (F.args_dict_len_1 _)))
 show wpAny _ _ (dictSize d >>= _) _ _ s
 unfold dictSize
 refine aa (aa (ij ho hdt (ak ?_)))
 show wpAny _ _ (Builtin.Dict.pendingCount d >>= _) _ _ s
 refine aa (wpAny_pendingCount_other lo ?_)
 show wpAny _ _ (retInt _) _ _ s
 unfold retInt
 refine aa (Q7 (ak ⟨_,rfl,?_⟩))
 refine aa (dj (ak (aa (gu ?_))))
 show wpAny _ _ (if ((es.size:Int)+((0:Nat):Int))<0 then _ else _) _ _ _
 rw[if_neg (by omega)]
 show wpAny _ _ (if ((es.size:Int)+((0:Nat):Int))≥2 ^ 63 then _ else _) _ _ _
 rw[if_neg (by omega)]
 show wpAny _ _ (mkInt ((es.size:Int)+((0:Nat):Int)) >>= _) _ _ _
 refine aa (Q7 (ak ⟨_,rfl,.int kvs.length,H,(I.tok _).tok _,⟨s.toks+1,?_⟩,q⟩))
 rw[hsz]
 simp
def Vb (te:TE):TE:=fun σ H Q=>te σ H fun x H1=>∃ (d:aj) (kvs:List (Key×V)),x=.ref d∧H1 d=some (.dK kvs)∧∀ p,H1 p=none→Q (.ref p) (upd H1 p (.lst (kvs.map (·.2))))
theorem z9 {e:Expr}{te:TE}{p pos apos jB:jK}(hc:X.calm=true)(hg:Gl X "list")(hm:X.mg "list"=none)(he:PE X e te)(hbase:iZ e "values" X.env (eval e X.env)=eval e X.env:=by rfl)(hline:(apos.endLine==jB.line)=true:=by rfl)
  (hs:bQ [.Call (.Attribute e "values" apos) [] [] jB] X.env=(false,eval (.Call (.Attribute e "values" apos) [] [] jB) X.env)::bQ [] X.env:=by rfl) :
  PE X (.Call (.Name "list" p) [.Call (.Attribute e "values" apos) [] [] jB] [] pos) (Vb te):=by
 intro pins s σ H Q I h
 refine d8 (jl I hg hm sU ?_)
 refine cK ?_ hs rfl
 rw[hs]
 show wpAny _ _ (spliced ((false,eval (.Call (.Attribute e "values" apos) [] [] jB) X.env)::backTo pos (bQ [] X.env))) _ _ s
 refine iE ?_
 refine qv (T:="dict") (id:="dict.values") hbase rfl hline zP T3 F.type_dict_values (gI (he pins s σ H _ I h) fun u s1 ⟨x,H1,I1,rx,d,kvs,ex,hd,q⟩=>?_)
 subst ex
 obtain rfl:u=ag.ref d:=rx
 obtain ⟨z,lo,vs,rel,dd⟩:=Al I1.fj (.inl hd)
 obtain ⟨ep,hm'⟩:=dd.dictAt
 refine ⟨dd.typeIs,dd.mapOf.noDict,?_⟩
 have I2:Inv X pins σ H1 {s1 with heap:=s1.heap.push {cls:=.type "dict_values",data:=.fields #[.ref d]}}:=I1.kept (t':=s1.toks) fun b ob q=>ay _ q
 have fin:wpAny (model X.prog X.w) X.A (spliced (backTo pos (bQ [] X.env))) (fun us s2=>wpAny (model X.prog X.w) X.A (call (.type "list") (.ref s1.heap.objs.size::us)) (EP X pins σ Q) X.xe s2) X.xe {s1 with heap:=s1.heap.push {cls:=.type "dict_values",data:=.fields #[.ref d]}}:=by
  refine j0 ?_
  refine L1 (PySem.W.kdl_values (knd:=dW X.prog X.w) (kvs:=vs) (ep:=ep) (r:=s1.heap.objs.size) (d:=d)) (I1.ok.hd hc) ⟨⟨_,aH _ rfl,rfl,rfl⟩,hm'.push _⟩ (by rw[← rel.length];exact z) fun h' tk acc c kp hg' hi=>?_
  have hv:df (kvs.map (·.2)) acc.toList:=zv hi (by rw[ae,rel.length]) fun i v x ⟨k,e1⟩ e2=>by
   rw[aO] at e2
   cases e3:kvs[i]? with
   | none=>rw[e3] at e2;cases e2
   | some kv =>
    rw[e3] at e2
    obtain ⟨k1,v1⟩:=kv
    obtain ⟨u,hu,ru⟩:=NL rel e3
    rw[hu] at e1
    cases e1
    cases e2
    exact ru
  have hlen:(kvs.map (·.2)).length≤aA:=by rw[ae];exact z
  exact ⟨.ref _,_,I2.laid (o:=.lst (kvs.map (·.2))) (t':=tk) kp (aL _) ⟨hlen,acc.toList,c,hv,by rw[iY];exact hg'⟩,rfl,q _ ((I2.fj.fresh (aL _)))⟩
 show wpAny _ _ (FC jB (.builtin "dict.values") [.ref d] [] []) _ X.xe s1
 exact GN T3 F.entry_dict_values rfl (uv ⟨rfl,dd.typeIs,F.args_dict_values_1 _,_,meets_dict_values (dW X.prog X.w) d lo,⟨vs,dd⟩,fin⟩)
def Vc (te:TE):TE:=fun σ H Q=>te σ H fun x H1=>∃ n:Nat,[x]=[V.int (n:Int)]∧n≤1000∧∀ p,H1 p=none→Q (.ref p) (upd H1 p (.lst ((bp n).map fun (i:Nat)=>V.int (i:Int))))
theorem Cz {e:Expr}{te:TE}{p pos p2 pos2:jK}(hc:X.calm=true)(hg:Gl X "list")(hm:X.mg "list"=none)(hg2:Gl X "range")(hm2:X.mg "range"=none)(he:PE X e te)
  (hs2:bQ [e] X.env=(false,eval e X.env)::bQ [] X.env:=by rfl)
  (hs:bQ [.Call (.Name "range" p2) [e] [] pos2] X.env=(false,eval (.Call (.Name "range" p2) [e] [] pos2) X.env)::bQ [] X.env:=by rfl) :
  PE X (.Call (.Name "list" p) [.Call (.Name "range" p2) [e] [] pos2] [] pos) (Vc te):=by
 intro pins s σ H Q I h
 refine d8 (jl I hg hm sU ?_)
 refine cK ?_ hs rfl
 rw[hs]
 show wpAny _ _ (spliced ((false,eval (.Call (.Name "range" p2) [e] [] pos2) X.env)::backTo pos (bQ [] X.env))) _ _ s
 refine iE ?_
 refine d8 (jl I hg2 hm2 GK ?_)
 refine cK (gI (ah (t:=Mr) he aB hs2 pos2 pins s σ H (fun vs H1=>∃ n:Nat,vs=[V.int (n:Int)]∧n≤1000∧∀ p,H1 p=none→Q (.ref p) (upd H1 p (.lst ((bp n).map fun (i:Nat)=>V.int (i:Int))))) I h) fun us s1 ⟨vs,H1,I1,r1,q1⟩=>?_) hs2 rfl
 obtain ⟨n,ev,hn,q⟩:=q1
 subst ev
 cases r1 with
 | cons r rr =>
  cases rr
  obtain ⟨t,rfl⟩:=r
  refine call_range_1 ?_
  refine j0 ?_
  have I2:Inv X pins σ H1 {s1 with heap:=s1.heap.push {cls:=.type "range",data:=.fields #[.int 0 s1.toks,.int (n:Int) t,.int 1 (s1.toks+1)]},toks:=s1.toks+1+1}:=I1.kept fun b o e=>ay _ e
  have z:gZ 0 (n:Int) 1=(n:Int):=by
   rw[rangeSize_one]
   split<;>omega
  refine call_list_range (n:=n) (I2.ok.hd hc) (ED ..) (small_one (by omega) (by omega) (by omega) (by omega)) z (by omega) fun h' tk acc c kp hg' hi=>?_
  have hv:df ((bp n).map fun (i:Nat)=>V.int (i:Int)) acc.toList:=zv hi (by simp) fun i v x ⟨t,e1⟩ e2=>by
   rw[aO] at e2
   by_cases jV:i<n
   ·rw[jg jV] at e2
    cases e2
    subst e1
    exact ⟨t,by simp⟩
   ·rw[bG (by simpa using jV)] at e2
    cases e2
  have hlen:((bp n).map fun (i:Nat)=>V.int (i:Int)).length≤aA:=by
   rw[ae,c4]
   exact aD hn (by decide)
  exact ⟨.ref _,_,I2.laid (o:=.lst _) (t':=tk) kp (aL _) ⟨hlen,acc.toList,c,hv,by rw[iY];exact hg'⟩,rfl,q _ (I2.fj.fresh (aL _))⟩
end
end L2
namespace Sk
open PySem PySem.Spec PyProof.Rows L2
abbrev vI (l:List Int):List V:=l.map V.int
theorem tR {l:List Int}{i:Nat}{x:Int}(h:l[i]?=some x):(vI l)[i]?=some (V.int x):=by rw[aO,h];rfl
theorem FG (a b:List Int):vI (a++b)=vI a++vI b:=aX
theorem Iq (a:List Int)(x:Int):vI (a++[x])=vI a++[V.int x]:=aX
structure C9 (mg:cp→Option ag):Prop where
 j:∃ t,mg "JOINT"=some (.int (-1) t)
 wl:∃ t,mg "WRITTEN_LANGUAGE"=some (.int 0 t)
 wj:∃ t,mg "WRITTEN_JOINT"=some (.int 1 t)
 len:mg "len"=none
 range:mg "range"=none
 list:mg "list"=none
 sorted:mg "sorted"=none
abbrev MN:d5:=top 9
abbrev FV:d5:=top 10
abbrev MU:d5:=top 11
abbrev UX:d5:=top 12
abbrev F1:d5:=top 13
abbrev FW:d5:=top 14
abbrev MY:d5:=top 15
def Nm (K:ai):Sp:=fun vs H Q _=>∃ (p:aj) (t:cD),vs=[.ref p]∧cG K H p (eT t.out)∧size t≤1000∧∀ H' q,aM H H'→H q=none→H' q=some (.lst (vI (gT t)))→Q (.ref q) H'
theorem uJ {r:List Nat}{at' k:Nat}{x:Nat}{rest:List Nat}(h:r.drop at'=rest)(e:rest[k]?=some x):(eT r)[at'+k]?=some (iv x):=by
 rw[aO]
 have:r[at'+k]?=some x:=by rw[← nD,h];exact e
 rw[this]
 rfl
theorem pk {a b:Int}:decide (V.int a=V.int b)=true↔a=b:=by
 rw[decide_eq_true_iff]
 exact ⟨fun h=>by injection h,fun h=>by rw[h]⟩
theorem NW {a b:Int}:(!decide (V.int a=V.int b))=true↔a≠b:=by
 rw[Qy,decide_eq_false_iff_not]
 exact ⟨fun h e=>h (by rw[e]),fun h e=>h (by injection e)⟩
section
variable {P:aY}{w:bO}{K:ai}{mg:cp→Option ag}{base:bU}
theorem yw:bW ["row","tree","at"] ["row"] (bF MN):=⟨rfl,rfl,rfl,by decide +kernel,rfl,by decide +kernel,by decide +kernel⟩
theorem RG {f:aj}{fd:bI}(F:jt K "read_tree" "read_tree" MN f fd)(T:C9 mg):cO P w K mg base fB 1 f fd ["row"] (Nm K):=by
 obtain ⟨tj,hj⟩:=T.j
 obtain ⟨tw,hw⟩:=T.wj
 refine F.ok yw (fun vs H Q E h=>?_) (fun iq A outer s H vs Q E hr h=>?_)
 ·obtain ⟨p,t,rfl,_⟩:=h
  rfl
 ·obtain ⟨p,t,rfl,hp,hz,k⟩:=h
  refine ⟨_,aF (cw (i:=1) yw.nd rfl (bj rfl) (cP aB))
   (aF (cw (i:=2) yw.nd rfl (bj rfl) aW)
   (aF (mn bH (bS wO (pv 2) (bP bD (by rfl) T.len bb (ah (pv 0) aB)) (cj _))
    (aQ (eE (bS gw (cy cJ (pv 0) (pv 2) (fun _ _=>rfl)) (bX (v:=.int 1) (by rfl) hw ⟨_,rfl⟩) (cj _))
     (aF (fP (jL bK cC cB gB (pv 1) (ah (bX (v:=.int (-1)) (by rfl) hj ⟨_,rfl⟩) aB)))
      (aQ (cw (i:=2) yw.nd rfl (bj rfl) (dX eL (pv 2) aW))))
     (aF (fP (jL bK cC cB gB (pv 1) (ah (cy cJ (pv 0) (dX eL (pv 2) aW) (fun _ _=>rfl)) aB)))
      (aQ (cw (i:=2) yw.nd rfl (bj rfl) (dX eL (pv 2) aW)))))))
   (aQ (bL (pv 1))))),?_⟩
  refine cn ⟨aR _,fun q hq=>cn ?_⟩
  have s0:aM H (upd H q (.lst [])):=aM.new hq
  let Inv:Nat→L2.St→Hp→Prop:=fun m σ H'=>∃ (ts:List cD) (acc:List Int) (a:Nat),σ=[some (.ref p),some (.ref q),some (iv a)]∧m=(outs ts).length∧t.out.drop a=outs ts∧a≤t.out.length∧acc++lV ts=gT t∧aM H H'∧H' q=some (.lst (vI acc))
  refine iL (fun σ H'=>∃ a,σ=[some (.ref p),some (.ref q),some (iv a)]∧aM H H'∧H' q=some (.lst (vI (gT t)))) (fun go=>?_) ?_
  ·refine ⟨Inv,⟨_,[t],[],0,rfl,rfl,by rw[OO];rfl,aR _,by rw[yQ];rfl,s0,aw⟩,?_⟩
   rintro m σ H1 ⟨ts,acc,a,rfl,rfl,hd,ha,hn,s1,e1⟩
   have lz:acc.length+(lV ts).length=size t:=by rw[← fQ,← hn,aK]
   refine ⟨_,rfl,_,rfl,p,_,rfl,.inl (s1.seq hp),_,_,rfl,rfl,_,rfl,?_⟩
   have hl:((eT t.out).length:Int)=(t.out.length:Int):=by rw[ae]
   rw[hl]
   cases ts with
   | nil =>
    have:a=t.out.length:=by
     have:=congrArg dF hd
     rw[cq] at this
     have z:(outs []).length=0:=rfl
     omega
    rw[decide_eq_false (by omega)]
    refine nI (go _ _ ⟨a,rfl,s1,?_⟩)
    rw[e1,← hn,O7,bV]
   | cons u ts =>
    have pos:0<(outs (u::ts)).length:=by
     rw[KG,aK]
     cases u<;>simp[mP]<;>omega
    have lt:a<t.out.length:=by
     have:=congrArg dF hd
     rw[cq] at this
     omega
    rw[decide_eq_true (by omega)]
    have room:(vI acc).length<aA:=by
     rw[ae]
     exact aG (show acc.length≤1000 by omega) (by decide)
    refine o9 ⟨fun σ' H'=>∃ m',m'<(outs (u::ts)).length∧Inv m' σ' H',fun σ' H' h=>h,?_⟩
    cases u with
    | leaf l =>
     rw[AX] at hd
     rw[A1] at hn
     refine ⟨_,rfl,_,rfl,p,_,a,_,rfl,rfl,s1.seq hp,cg (uJ (k:=0) hd rfl),rfl,_,rfl,?_⟩
     refine nI ?_
     refine iL (fun σ' H'=>σ'=[some (.ref p),some (.ref q),some (iv a)]∧aM H H'∧H' q=some (.lst (vI (acc++[(l:Int)])))) (fun go2=>?_) ?_
     ·refine ⟨_,rfl,.inl ⟨rfl,_,cG.of e1⟩,_,rfl,_,rfl,_,_,rfl,rfl,p,_,a+1,_,rfl,rfl,s1.seq hp,cg (uJ (k:=1) hd rfl),q,_,_,rfl,rfl,e1,room,?_⟩
      exact go2 _ _ ⟨rfl,s1.upd hq,by rw[aw,Iq]⟩
     ·rintro σ' H2 ⟨rfl,s2,e2⟩
      refine ⟨_,rfl,_,_,rfl,rfl,?_⟩
      refine ⟨(outs ts).length,by rw[AX];simp;omega,ts,acc++[(l:Int)],a+2,rfl,rfl,?_,?_,?_,s2,e2⟩
      ·have:=congrArg (ja 2) hd
       rw[fD] at this
       exact this
      ·have:=congrArg dF hd
       rw[cq] at this
       simp at this
       omega
      ·rw[dB];exact hn
    | node x y =>
     rw[AW] at hd
     rw[A0] at hn
     refine ⟨_,rfl,_,rfl,p,_,a,_,rfl,rfl,s1.seq hp,cg (uJ (k:=0) hd rfl),rfl,_,rfl,?_⟩
     refine o9 ?_
     refine iL (fun σ' H'=>σ'=[some (.ref p),some (.ref q),some (iv a)]∧aM H H'∧H' q=some (.lst (vI (acc++[-1])))) (fun go2=>?_) ?_
     ·refine ⟨_,rfl,.inl ⟨rfl,_,cG.of e1⟩,q,_,_,rfl,rfl,e1,room,?_⟩
      exact go2 _ _ ⟨rfl,s1.upd hq,by rw[aw,Iq]⟩
     ·rintro σ' H2 ⟨rfl,s2,e2⟩
      refine ⟨_,rfl,_,_,rfl,rfl,?_⟩
      refine ⟨(outs (x::y::ts)).length,by rw[AW];simp,x::y::ts,acc++[-1],a+1,rfl,rfl,?_,?_,?_,s2,e2⟩
      ·have:=congrArg (ja 1) hd
       rw[fD] at this
       exact this
      ·omega
      ·rw[dB];exact hn
  ·rintro σ H1 ⟨a,rfl,s1,e1⟩
   exact ⟨_,rfl,k H1 q s1 hq e1⟩
def Iy (K:ai):Sp:=fun vs H Q _=>∃ (p:aj) (t:cD),vs=[.ref p]∧cG K H p (vI (gT t))∧size t≤1000∧∀ H' q,aM H H'→H q=none→H' q=some (.lst (eT t.out))→Q (.ref q) H'
theorem BR:bW ["tree","row","node"] ["tree"] (bF FV):=⟨rfl,rfl,rfl,by decide +kernel,rfl,by decide +kernel,by decide +kernel⟩
theorem Ng:∀ l:List Int,(l.flatMap wr).length≤2*l.length
 | []=>by simp
 | x::l=>by
  have:=Ng l
  rw[bN,aK,aS]
  have:(wr x).length≤2:=by unfold wr;split<;>simp
  omega
theorem OP {f:aj}{fd:bI}(F:jt K "write_tree" "write_tree" FV f fd)(T:C9 mg):cO P w K mg base fB 1 f fd ["tree"] (Iy K):=by
 obtain ⟨tj,hj⟩:=T.j
 obtain ⟨tw,hw⟩:=T.wj
 obtain ⟨tl,hwl⟩:=T.wl
 refine F.ok BR (fun vs H Q E h=>?_) (fun iq A outer s H vs Q E hr h=>?_)
 ·obtain ⟨p,t,rfl,_⟩:=h
  rfl
 ·obtain ⟨p,t,rfl,hp,hz,k⟩:=h
  refine ⟨_,aF (cw (i:=1) BR.nd rfl (bj rfl) (cP aB))
   (aF (gp bH rfl (d9 (pv 0)) (cI (i:=2) BR.nd rfl (bj rfl))
    (aQ (fP (jL bK fT fS lN (pv 1) (ah (yL (bS gw (pv 2) (bX (v:=.int (-1)) (by rfl) hj ⟨_,rfl⟩) (cj _)) (cP (ah (bX (v:=.int 1) (by rfl) hw ⟨_,rfl⟩) aB)) (cP (ah (bX (v:=.int 0) (by rfl) hwl ⟨_,rfl⟩) (ah (pv 2) aB)))) aB)))))
   (aQ (bL (pv 1)))),?_⟩
  refine cn ⟨aR _,fun q hq=>?_⟩
  have s0:aM H (upd H q (.lst [])):=aM.new hq
  refine ⟨_,rfl,p,rfl,⟨_,s0.seq hp⟩,iC (K:=K) (a:=p) (xs:=vI (gT t)) (fun i σ H'=>∃ v2:Option V,σ=[some (.ref p),some (.ref q),v2]∧aM H H'∧H' q=some (.lst (vI (((gT t).take i).flatMap wr))))
   ⟨none,rfl,s0,aw⟩ (fun i σ H' _ ⟨_,_,s1,_⟩=>s1.seq hp) ?_ ?_⟩
  ·rintro i y σ H1 hi ⟨v2,rfl,s1,e1⟩
   obtain ⟨x,hx,rfl⟩:∃ x,(gT t)[i]?=some x∧y=V.int x:=by
    rw[aO] at hi
    cases e:(gT t)[i]? with
    | none=>rw[e] at hi;cases hi
    | some x=>rw[e] at hi;exact ⟨x,rfl,(aJ hi).symm⟩
   have room:(vI (((gT t).take i).flatMap wr)).length+2≤aA:=by
    rw[ae]
    have h1:=Ng ((gT t).take i)
    have h2:((gT t).take i).length≤size t:=by rw[← fQ,bM];omega
    exact aD (show _≤2002 by omega) (by decide)
   refine ⟨_,rfl,.inl ⟨rfl,_,cG.of e1⟩,_,rfl,rfl,_,rfl,?_⟩
   have step:((gT t).take (i+1)).flatMap wr=((gT t).take i).flatMap wr++wr x:=by rw[take_snoc hx,gA];simp
   refine gD (fun h1=>?_) fun h1=>?_
   ·have h1:=pk.mp h1
    refine ⟨(by show 1≤aA;decide),fun r dQ=>?_⟩
    have s2:=aM.new (o:=.lst [V.int 1]) dQ
    refine ⟨q,r,_,_,rfl,rfl,s2 _ _ e1,aw,by show _+1≤aA;omega,_,rfl,(s1.trans s2).upd hq,?_⟩
    rw[aw,step,FG]
    congr 3
    unfold wr
    rw[if_pos h1]
    rfl
   ·have h1:x≠-1:=fun e=>h1 (pk.mpr e)
    refine ⟨_,rfl,(by show 2≤aA;decide),fun r dQ=>?_⟩
    have s2:=aM.new (o:=.lst [V.int 0,V.int x]) dQ
    refine ⟨q,r,_,_,rfl,rfl,s2 _ _ e1,aw,by show _+2≤aA;omega,_,rfl,(s1.trans s2).upd hq,?_⟩
    rw[aw,step,FG]
    congr 3
    unfold wr
    rw[if_neg h1]
    rfl
  ·rintro σ H1 ⟨v2,rfl,s1,e1⟩
   refine ⟨_,rfl,k H1 q s1 hq ?_⟩
   rw[e1,ae,bE,FE]
   show some (HO.lst (vI (Si35.ints t.out)))=_
   unfold Si35.ints vI eT
   rw[br]
   rfl
def MC (K:ai):Sp:=fun vs H Q _=>∃ (p:aj) (ns:List Int) (a:Nat) (u:cD) (suf:List Int),vs=[.ref p,iv a]∧cG K H p (vI ns)∧ns.drop a=gT u++suf∧∀ H',aM H H'→Q (iv (a+size u)) H'
theorem Ig:bW ["tree","at","missing"] ["tree","at"] (bF UX):=⟨rfl,rfl,rfl,by decide +kernel,rfl,by decide +kernel,by decide +kernel⟩
theorem Vw {f:aj}{fd:bI}(F:jt K "end_of" "end_of" UX f fd)(T:C9 mg):cO P w K mg base fB 1 f fd ["tree","at"] (MC K):=by
 obtain ⟨tj,hj⟩:=T.j
 refine F.ok Ig (fun vs H Q E h=>?_) (fun iq A outer s H vs Q E hr h=>?_)
 ·obtain ⟨p,ns,a,u,suf,rfl,_⟩:=h
  rfl
 ·obtain ⟨p,ns,a,u,suf,rfl,hp,hd,k⟩:=h
  refine ⟨_,aF (cw (i:=2) Ig.nd rfl (bj rfl) aW)
   (aF (mn bH (bS Dg (pv 2) aW (cj _))
    (aF (cw (i:=2) Ig.nd rfl (bj rfl) (dX eL (pv 2) (yL (bS gw (cy cJ (pv 0) (pv 1) (fun _ _=>rfl)) (bX (v:=.int (-1)) (by rfl) hj ⟨_,rfl⟩) (cj _)) aW (qG lW aW))))
     (aQ (cw (i:=1) Ig.nd rfl (bj rfl) (dX eL (pv 1) aW)))))
   (aQ (bL (pv 1)))),?_⟩
  refine cn ?_
  refine iL (fun σ H'=>∃ v,σ=[some (.ref p),some (iv (a+size u)),v]∧aM H H') (fun go=>?_) ?_
  ·refine ⟨fun m σ H'=>∃ (ts:List cD) (b:Nat),σ=[some (.ref p),some (iv b),some (iv ts.length)]∧m=(lV ts).length∧ns.drop b=lV ts++suf∧b+(lV ts).length=a+size u∧H'=H,⟨_,[u],a,rfl,rfl,by rw[yQ];exact hd,by rw[yQ,fQ],rfl⟩,?_⟩
   rintro m σ H1 ⟨ts,b,rfl,rfl,hb,hz,rfl⟩
   refine ⟨_,rfl,_,_,rfl,rfl,_,rfl,?_⟩
   cases ts with
   | nil =>
    have hbb:b=a+size u:=by
     have z:(lV []).length=0:=rfl
     omega
    subst hbb
    exact nI (go _ _ ⟨_,rfl,aM.refl _⟩)
   | cons t ts =>
    rw[show decide (((t::ts).length:Int) > 0)=true from decide_eq_true (by simp)]
    refine o9 ⟨fun σ' H'=>∃ m',m'<(lV (t::ts)).length∧∃ (ts':List cD) (b:Nat),σ'=[some (.ref p),some (iv b),some (iv ts'.length)]∧m'=(lV ts').length∧ns.drop b=lV ts'++suf∧b+(lV ts').length=a+size u∧H'=H1,fun σ' H' h=>h,?_⟩
    have at0:∀ x r,lV (t::ts)=x::r→ns[b]?=some x:=fun x r e=>by
     have:(ns.drop b)[0]?=some x:=by rw[hb,e];rfl
     rw[nD] at this
     exact this
    have next:∀ x r,lV (t::ts)=x::r→ns.drop (b+1)=r++suf:=fun x r e=>by
     have:=congrArg (ja 1) hb
     rw[fD,e] at this
     exact this
    cases t with
    | leaf l =>
     have en:=A1 l ts
     refine cn ⟨_,rfl,_,rfl,_,rfl,p,_,b,_,rfl,rfl,hp,cg (tR (at0 _ _ en)),rfl,_,rfl,?_⟩
     rw[show decide (V.int (l:Int)=V.int (-1))=false from decide_eq_false fun e=>by injection e with e;omega]
     refine nI ⟨_,rfl,_,_,rfl,rfl,?_⟩
     refine ⟨_,rfl,_,_,rfl,rfl,(lV ts).length,by rw[en];simp,ts,b+1,?_,rfl,next _ _ en,?_,rfl⟩
     ·have:(((cD.leaf l::ts).length:Nat):Int)+-1=((ts.length:Nat):Int):=by simp;omega
      show [_,_,some (V.int _)]=_
      rw[this]
      rfl
     ·rw[en] at hz
      simp at hz
      omega
    | node x y =>
     have en:=A0 x y ts
     refine cn ⟨_,rfl,_,rfl,_,rfl,p,_,b,_,rfl,rfl,hp,cg (tR (at0 _ _ en)),rfl,_,rfl,?_⟩
     refine o9 ⟨_,_,rfl,rfl,?_⟩
     refine ⟨_,rfl,_,_,rfl,rfl,(lV (x::y::ts)).length,by rw[en];simp,x::y::ts,b+1,?_,rfl,next _ _ en,?_,rfl⟩
     ·have:(((cD.node x y::ts).length:Nat):Int)+1=(((x::y::ts).length:Nat):Int):=by simp
      show [_,_,some (V.int _)]=_
      rw[this]
      rfl
     ·rw[en] at hz
      simp at hz ⊢
      omega
  ·rintro σ H1 ⟨v,rfl,s1⟩
   exact ⟨_,rfl,k H1 s1⟩
def BP (K:ai):Sp:=fun vs H Q _=>∃ (p:aj) (t:cD) (a:Nat),vs=[.ref p,iv a]∧cG K H p (vI (gT t))∧a<size t∧∀ H' q,aM H H'→H q=none→H' q=some (.lst (eT (gW t a)))→Q (.ref q) H'
theorem Rr:bW ["tree","at"] ["tree","at"] (bF F1):=⟨rfl,rfl,rfl,by decide +kernel,rfl,by decide +kernel,by decide +kernel⟩
theorem OV {f fe:aj}{fd fde:bI}(F:jt K "parts_of" "parts_of" F1 f fd)(T:C9 mg)(G:cO P w K mg base fB 1 fe fde ["tree","at"] (MC K))(me:mg "end_of"=some (.ref fe))(ke:aP K (.ref fe)=true)(be:Binds K fde ["tree","at"] []) :
  cO P w K mg base fB 2 f fd ["tree","at"] (BP K):=by
 obtain ⟨tj,hj⟩:=T.j
 refine F.ok Rr (fun vs H Q E h=>?_) (fun iq A outer s H vs Q E hr h=>?_)
 ·obtain ⟨p,t,a,rfl,_⟩:=h
  rfl
 ·obtain ⟨p,t,a,rfl,hp,ha,k⟩:=h
  refine ⟨_,aF (eE (bS wN (cy cJ (pv 0) (pv 1) (fun _ _=>rfl)) (bX (v:=.int (-1)) (by rfl) hj ⟨_,rfl⟩) (cj _)) (aQ (bL (cP aB))) cU)
   (aQ (bL (cP (ah (dX eL (pv 1) aW) (ah (bY G hr rfl me ke be .nil cR (ah (pv 0) (ah (dX eL (pv 1) aW) aB))) aB))))),?_⟩
  have hat:=NH t a ha
  unfold gW at k
  refine ⟨_,rfl,_,rfl,p,_,a,_,rfl,rfl,hp,cg (tR hat),rfl,_,rfl,?_⟩
  cases e:subAt t a with
  | leaf l =>
   rw[e] at k
   show if (!decide (V.int (l:Int)=V.int (-1)))=true then _ else _
   rw[show (!decide (V.int (l:Int)=V.int (-1)))=true from NW.mpr (by omega)]
   refine o9 ⟨aR _,fun q hq=>k _ q (aM.new hq) hq aw⟩
  | node x y =>
   rw[e] at k
   show if (!decide (V.int (-1)=V.int (-1)))=true then _ else _
   rw[show (!decide (V.int (-1)=V.int (-1)))=false from by simp]
   refine nI ?_
   obtain ⟨g1,g2,g3⟩:=ou t a x y ha e
   obtain ⟨pre,suf,h1,h2,_⟩:=lL t (a+1) (by have:=size_pos x;omega)
   have hd:(gT t).drop (a+1)=gT x++suf:=by
    rw[h2,g2,← h1,il]
   refine ⟨_,rfl,_,_,rfl,rfl,_,rfl,_,rfl,_,_,rfl,rfl,p,gT t,a+1,x,suf,rfl,hp,hd,fun H1 s1=>⟨(by show 2≤aA;decide),fun q hq=>k _ q (s1.trans (aM.new hq)) (s1.free hq) ?_⟩⟩
   rw[aw]
   rfl
end
def dI (l:List Int):yo:=.list (l.map .int)
theorem xl:∀ a b:List Int,ur (a.map .int) (b.map .int)=decide (a=b)
 | [],[]=>rfl
 | [],_::_=>by simp[ur]
 | _::_,[]=>by simp[ur]
 | x::a,y::b=>by
  rw[bo,bo,ur,xl a b]
  show (x==y&&decide (a=b))=_
  rw[eJ]
  simp
theorem PR (a b:List Int):JQ (dI a) (dI b)=decide (a=b):=by
 unfold dI
 rw[JQ]
 exact xl a b
theorem shaped_ints (a:List Int):wI (dI a)=true:=by
 have d0:∀ l:List Int,Qr (l.map .int)=0:=by
  intro l
  induction l with
  | nil=>rfl
  | cons x l ih=>rw[bo,Qr,ih];rfl
 unfold wI dI
 rw[bx]
 refine ⟨?_,?_⟩
 ·rw[yo.canLay0];exact canLayAll_ints a
 ·rw[yo.depth,d0];decide
theorem Jv {K:ai}{H:Hp}{a:aj}{l:List Int}(h:cG K H a (vI l)):Dp K H (.ref a) (dI l):=by
 have go:∀ l:List Int,yt K H (vI l) (l.map .int):=by
  intro l
  induction l with
  | nil=>exact .nil
  | cons x l ih=>exact .cons (.int x) ih
 exact .lst h (go l)
def Nu (K:ai):Sp:=fun vs H Q _=>∃ (p:aj) (t:cD) (n:Nat),vs=[.ref p,iv n]∧cG K H p (vI (gT t))∧size t≤1000∧n≤1000∧∀ H',aM H H'→Q (.bl (sZ n t)) H'
theorem uW:∀ (ms:List Int),(∀ x∈ms,0≤x)→∃ l:List Nat,ms=l.map fun (n:Nat)=>(n:Int)
 | [],_=>⟨[],rfl⟩
 | x::ms,h=>by
  obtain ⟨l,e⟩:=uW ms fun y hy=>h y (ao _ hy)
  have:=h x ax
  exact ⟨x.toNat::l,by rw[bo,← e];congr 1;omega⟩
theorem xc:∀ {l m:List Nat},(l.map fun (n:Nat)=>(n:Int))=m.map (fun (n:Nat)=>(n:Int))→l=m
 | [],[],_=>rfl
 | [],_::_,h=>by simp at h
 | _::_,[],h=>by simp at h
 | a::l,b::m,h=>by
  rw[bo,bo] at h
  injection h with h1 h2
  rw[xc h2,show a=b by omega]
theorem OL:∀ {l m:List Nat},(l.map fun (n:Nat)=>(n:Int)).Perm (m.map fun (n:Nat)=>(n:Int))→l.Perm m:=fun {l m} h=>by
 have:=h.map jX
 rw[br,br] at this
 have e:∀ l:List Nat,l.map (jX∘fun (n:Nat)=>(n:Int))=l:=fun l=>by
  rw[dm (g:=id) fun x _=>by simp,JR]
 rw[e,e] at this
 exact this
section
variable {P:aY}{w:bO}{K:ai}{mg:cp→Option ag}{base:bU}
theorem FU:bW ["tree","languages","node"] ["tree","languages"] (bF MU):=⟨rfl,rfl,rfl,by decide +kernel,rfl,by decide +kernel,by decide +kernel⟩
theorem RN {f:aj}{fd:bI}(F:jt K "has_each_once" "has_each_once" MU f fd)(T:C9 mg):cO P w K mg base fB 1 f fd ["tree","languages"] (Nu K):=by
 obtain ⟨tj,hj⟩:=T.j
 refine F.ok FU (fun vs H Q E h=>?_) (fun iq A outer s H vs Q E hr h=>?_)
 ·obtain ⟨p,t,n,rfl,_⟩:=h
  rfl
 ·obtain ⟨p,t,n,rfl,hp,hz,hn,k⟩:=h
  refine ⟨_,aQ (bL (pE (Vs hr.units)
   (bP HI (by rfl) T.sorted Ra (ah (jc rfl FU.nd (d9 (pv 0)) (dS (own:=[("node",2)]) (by rfl)) (fun _ _ _ _ _=>cI (i:=2) FU.nd rfl (bj rfl)) (fun _ _ _ _ _=>pC (bS wN (pv 2) (bX (v:=.int (-1)) (by rfl) hj ⟨_,rfl⟩) (cj _))) (fun _ _ _ _ _=>pv 2)) aB))
   (Cz rfl (by rfl) T.list (by rfl) T.range (pv 1)) (cj _))),?_⟩
  have room:(vI (gT t)).length<aA:=by
   rw[ae,fQ]
   exact aG hz (by decide)
  refine ⟨_,rfl,p,rfl,⟨_,hp⟩,fun D hD=>pF (fun x=>!decide (x=V.int (-1))) (fun x=>x) hD hp room (fun x=>rfl) (fun x hx H1 s1 R hR=>?_) (fun x hx _ H1 s1 R hR=>⟨_,rfl,hR _ (aM.refl _)⟩) (fun H1 s1 e1=>?_)⟩
  ·obtain ⟨y,_,rfl⟩:=aU.mp hx
   exact ⟨_,rfl,rfl,_,rfl,hR _ (aM.refl _)⟩
  have ef:((vI (gT t)).filter fun x=>!decide (x=V.int (-1))).map (fun x=>x)=vI (t.leaves.map fun (l:Nat)=>(l:Int)):=by
   rw[qt,← tZ,zU]
   congr 1
   refine congrArg (fun p=>oW p (gT t)) (funext fun x=>?_)
   show (!decide (V.int x=V.int (-1)))=decide (x≠-1)
   rw[eJ,NW,decide_eq_true_iff]
  rw[ef] at e1
  refine ⟨D,_,rfl,cG.of e1,fun ms q hp1 hp2 hq=>?_⟩
  refine ⟨_,rfl,n,rfl,hn,fun r dQ=>?_⟩
  have s2:=aM.new (o:=.lst (vI ms)) hq
  have s3:=aM.new (o:=.lst ((bp n).map fun (i:Nat)=>V.int (i:Int))) dQ
  have er:((bp n).map fun (i:Nat)=>V.int (i:Int))=vI ((bp n).map fun (i:Nat)=>(i:Int)):=by unfold vI;rw[br];rfl
  refine ⟨dI ms,dI ((bp n).map fun (i:Nat)=>(i:Int)),Jv (cG.of (s3 _ _ aw)),Jv (cG.of (by rw[aw,er])),shaped_ints _,shaped_ints _,?_⟩
  rw[PR]
  obtain ⟨l,el⟩:=uW ms fun x hx=>by
   obtain ⟨m,_,e⟩:=aU.mp (hp1.mem_iff.mp hx)
   omega
  subst el
  have hs:l.Pairwise (·≤·):=by
   rw[gi] at hp2
   exact hp2.imp fun q=>by omega
  have:=k _ ((s1.trans s2).trans s3)
  rw[Rc n t l (OL hp1) hs] at this
  have ed:decide ((l.map fun (n:Nat)=>(n:Int))=(bp n).map fun (i:Nat)=>(i:Int))=decide (l=bp n):=decide_eq_decide.mpr ⟨xc,fun e=>by rw[e]⟩
  rw[ed]
  exact this
def yh (H:Hp)(p:aj)(ts:List cD):Prop:=∃ rs:List aj,H p=some (.lst (rs.map V.ref))∧Paired (fun r t=>H r=some (.lst (vI (gT t)))) rs ts
theorem y3 {H H2:Hp}{g r:aj}{xs ys:List V}{t:cD}(s:aM H H2)(hg:H2 g=some (.lst xs))(hr:H2 r=some (.lst (vI (gT t))))(ng:r≠g):∀ {rs:List aj} {ts:List cD},Paired (fun r t=>r≠g∧H r=some (.lst (vI (gT t)))) rs ts→Paired (fun r t=>r≠g∧upd H2 g (.lst ys) r=some (.lst (vI (gT t)))) (rs++[r]) (ts++[t])
 | _,_,.nil=>.cons ⟨ng,by rw[aT ng];exact hr⟩ .nil
 | _,_,.cons a t=>.cons ⟨a.1,by rw[aT a.1];exact s _ _ a.2⟩ (y3 s hg hr ng t)
theorem Gs (ns:List Int)(lo hi:Option Int):zZ (vI ns) lo hi=vI ((ns.drop (HT.Ag ns.length 0 lo)).take (HT.Ag ns.length ns.length hi - HT.Ag ns.length 0 lo)):=by
 unfold zZ
 rw[ae,← List.map_drop,← List.map_take]
theorem V9 (ns:List Int){j:Nat}(h:j≤ns.length):zZ (vI ns) none (some (j:Int))=vI (ns.take j):=by rw[Gs,HT.DR,HT.xV,mC h];rfl
theorem yb (ns:List Int){i j:Nat}(hi:i≤ns.length)(hj:j≤ns.length):zZ (vI ns) (some (i:Int)) (some (j:Int))=vI ((ns.drop i).take (j - i)):=by rw[Gs,HT.xV,HT.xV,mC hi,mC hj]
theorem P4 (ns:List Int){j:Nat}(h:j≤ns.length):zZ (vI ns) (some (j:Int)) none=vI (ns.drop j):=by
 rw[Gs,HT.DR,HT.xV,mC h,Ft (by rw[cq];omega)]
theorem va {H:Hp}{a b:aj}{xs zs:List Int}{Q:VK}(ha:H a=some (.lst (vI xs)))(hb:H b=some (.lst (vI zs)))(hz:xs.length+zs.length≤1000)(k:∀ p,H p=none→Q (.ref p) (upd H p (.lst (vI (xs++zs))))):W4 (.ref a) (.ref b) H Q :=
 ⟨a,b,vI xs,vI zs,rfl,rfl,ha,hb,by rw[ae,ae];exact aD hz (by decide),fun p hp=>by rw[← FG];exact k p hp⟩
def Iz (K:ai):Sp:=fun vs H Q _=>∃ (p:aj) (ts:List cD) (l:Nat),vs=[.ref p,iv l]∧yh H p ts∧(∀ t∈ts,size t≤20)∧ts.length≤105∧∀ H' q,aM H H'→yh H' q (ts.flatMap (j7 l))→Q (.ref q) H'
theorem uG:bW ["trees","language","grown","tree","at","end"] ["trees","language"] (bF FW):=⟨rfl,rfl,rfl,by decide +kernel,rfl,by decide +kernel,by decide +kernel⟩
theorem Jn (l:Nat):∀ ts:List cD,(∀ t∈ts,size t≤20)→(ts.flatMap (j7 l)).length≤20*ts.length
 | [],_=>by simp
 | t::ts,h=>by
  have h1:=Jn l ts fun u hu=>h u (ao _ hu)
  have h2:=h t ax
  rw[bN,aK,zw,aS]
  omega
theorem OQ {f fe:aj}{fd fde:bI}(F:jt K "with_language" "with_language" FW f fd)(T:C9 mg)(G:cO P w K mg base fB 1 fe fde ["tree","at"] (MC K))(me:mg "end_of"=some (.ref fe))(ke:aP K (.ref fe)=true)(be:Binds K fde ["tree","at"] []) :
  cO P w K mg base fB 2 f fd ["trees","language"] (Iz K):=by
 obtain ⟨tj,hj⟩:=T.j
 refine F.ok uG (fun vs H Q E h=>?_) (fun iq A outer s H vs Q E hr h=>?_)
 ·obtain ⟨p,ts,l,rfl,_⟩:=h
  rfl
 ·obtain ⟨p,ts,l,rfl,⟨rs,hp,pr⟩,hz,hn,k⟩:=h
  refine ⟨_,aF (cw (i:=2) uG.nd rfl (bj rfl) (cP aB))
   (aF (gp bH rfl (d9 (pv 0)) (cI (i:=3) uG.nd rfl (bj rfl))
    (aQ (gp bH rfl (oO rfl T.range (ah (bP bD (by rfl) T.len bb (ah (pv 3) aB)) aB)) (cI (i:=4) uG.nd rfl (bj rfl))
     (aF (cw (i:=5) uG.nd rfl (bj rfl) (bY G hr rfl me ke be .nil cR (ah (pv 3) (ah (pv 4) aB))))
      (aQ (fP (jL bK cC cB gB (pv 2) (ah
       (dX jk (dX jk (dX jk (dX jk (oC rT (pv 3) IU (kJ (pv 4))) (cP (ah (bX (v:=.int (-1)) (by rfl) hj ⟨_,rfl⟩) aB))) (oC rT (pv 3) (kJ (pv 4)) (kJ (pv 5)))) (cP (ah (pv 1) aB))) (oC rT (pv 3) (kJ (pv 5)) IU)) aB))))))))
   (aQ (bL (pv 2)))),?_⟩
  refine cn ⟨aR _,fun g hg=>?_⟩
  have s0:aM H (upd H g (.lst [])):=aM.new hg
  let Got:Hp→List cD→Prop:=fun H' us=>aM H H'∧∃ qs:List aj,H' g=some (.lst (qs.map V.ref))∧Paired (fun r t=>r≠g∧H' r=some (.lst (vI (gT t)))) qs us
  have most:∀ i,((ts.take i).flatMap (j7 l)).length≤2100:=fun i=>by
   have h1:=Jn l (ts.take i) fun t ht=>hz t (lE ht)
   have h2:(ts.take i).length≤ts.length:=by rw[bM];omega
   omega
  refine ⟨_,rfl,p,rfl,⟨_,cG.of (s0 _ _ hp)⟩,iC (K:=K) (a:=p) (xs:=rs.map V.ref) (fun i σ H'=>∃ v3 v4 v5:Option V,σ=[some (.ref p),some (iv l),some (.ref g),v3,v4,v5]∧Got H' ((ts.take i).flatMap (j7 l)))
   ⟨none,none,none,rfl,s0,[],aw,.nil⟩ (fun i σ H' _ ⟨_,_,_,_,s1,_⟩=>cG.of (s1 _ _ hp)) ?_ ?_⟩
  ·rintro i y σ H1 hi ⟨v3,v4,v5,rfl,s1,qs,e1,p1⟩
   obtain ⟨r,nW,rfl⟩:=eZ hi
   obtain ⟨t,ht,hrt⟩:=cX pr nW
   have hsz:=hz t (aV ht)
   have lv:((vI (gT t)).length:Int)=(size t:Int):=by rw[ae,fQ]
   refine ⟨_,rfl,r,_,rfl,.inl (cG.of (s1 _ _ hrt)),(size t:Int),by rw[lv],by omega,by omega,?_⟩
   rw[bR]
   refine oP (fun j σ H'=>∃ v4 v5:Option V,σ=[some (.ref p),some (iv l),some (.ref g),some (.ref r),v4,v5]∧Got H' ((ts.take i).flatMap (j7 l)++(bp j).map (putAt l t)))
    ⟨v4,v5,rfl,s1,qs,e1,by rw[List.range_zero,fC,bV];exact p1⟩ ?_ ?_
   ·rintro j σ H2 hj' ⟨v4,v5,rfl,s2,qs2,e2,p2⟩
    have ej:(0:Int)+(j:Int)=(j:Int):=GO _
    rw[ej]
    obtain ⟨pre,suf,q1,q2,q3⟩:=lL t j hj'
    have hd:(gT t).drop j=gT (subAt t j)++suf:=by rw[q2,← q1,il]
    have zt:pre.length+(size (subAt t j)+suf.length)=size t:=by
     have:=congrArg dF q2
     rw[fQ,aK,aK,fQ] at this
     exact this.symm
    refine cn ⟨_,rfl,_,rfl,r,gT t,j,subAt t j,suf,rfl,cG.of (s2 _ _ hrt),hd,fun H3 s3=>?_⟩
    have s23:=s2.trans s3
    have hrt3:=s23 _ _ hrt
    refine ⟨_,rfl,.inl ⟨rfl,_,cG.of (s3 _ _ e2)⟩,?_⟩
    refine ⟨_,rfl,_,rfl,_,rfl,r,_,rfl,cG.of hrt3,fun a1 ha1=>?_⟩
    have ln:(gT t).length=size t:=fQ t
    have lj:j≤(gT t).length:=by omega
    have le:j+size (subAt t j)≤(gT t).length:=by omega
    rw[V9 (gT t) lj]
    have c1:(gT t).take j=pre:=by rw[q2,← q1,nA]
    rw[c1]
    have t1:=aM.new (o:=.lst (vI pre)) ha1
    refine ⟨(by show 1≤aA;decide),fun a2 ha2=>?_⟩
    have t2:=aM.new (o:=.lst [V.int (-1)]) ha2
    refine va (zs:=[-1]) (t2 _ _ aw) aw (by simp;omega) fun a3 ha3=>?_
    have t3:=aM.new (o:=.lst (vI (pre++[-1]))) ha3
    refine ⟨_,rfl,_,rfl,_,rfl,_,rfl,_,rfl,r,_,rfl,cG.of (t3 _ _ (t2 _ _ (t1 _ _ hrt3))),fun a4 ha4=>?_⟩
    rw[yb (gT t) lj le,hd,gk,show (gT (subAt t j)++suf).take (size (subAt t j))=gT (subAt t j) by rw[← fQ,nA]]
    have t4:=aM.new (o:=.lst (vI (gT (subAt t j)))) ha4
    refine va (t4 _ _ aw) aw (by simp[fQ];omega) fun a5 ha5=>?_
    have t5:=aM.new (o:=.lst (vI (pre++[-1]++gT (subAt t j)))) ha5
    refine ⟨_,rfl,(by show 1≤aA;decide),fun a6 ha6=>?_⟩
    have t6:=aM.new (o:=.lst [iv l]) ha6
    refine va (zs:=[(l:Int)]) (t6 _ _ aw) aw (by simp[fQ];omega) fun a7 ha7=>?_
    have t7:=aM.new (o:=.lst (vI (pre++[-1]++gT (subAt t j)++[(l:Int)]))) ha7
    refine ⟨_,rfl,_,rfl,_,rfl,r,_,rfl,cG.of (t7 _ _ (t6 _ _ (t5 _ _ (t4 _ _ (t3 _ _ (t2 _ _ (t1 _ _ hrt3))))))),fun a8 ha8=>?_⟩
    have cf:(gT t).drop (j+size (subAt t j))=suf:=by
     have:=congrArg (ja (size (subAt t j))) hd
     rw[fD,← fQ,il] at this
     rw[← fQ]
     exact this
    rw[P4 (gT t) le,cf]
    have t8:=aM.new (o:=.lst (vI suf)) ha8
    refine va (t8 _ _ aw) aw (by simp[fQ];omega) fun a9 ha9=>?_
    have t9:=aM.new (o:=.lst (vI (pre++[-1]++gT (subAt t j)++[(l:Int)]++suf))) ha9
    have all:=(((((((t1.trans t2).trans t3).trans t4).trans t5).trans t6).trans t7).trans t8).trans t9
    have en:pre++[-1]++gT (subAt t j)++[(l:Int)]++suf=gT (putAt l t j):=by rw[q3 l];simp
    have e9:=(s3.trans all) _ _ e2
    refine ⟨g,_,_,rfl,rfl,e9,?_,?_⟩
    ·rw[ae,bz p2,aK,ae,c4]
     have:=most i
     exact aG (show _≤2120 by omega) (by decide)
    ·refine ⟨_,_,rfl,((s23.trans all).upd hg),qs2++[a9],by rw[aw,aX];rfl,?_⟩
     rw[TX,aX,← dB]
     refine y3 (s3.trans all) e9 (by rw[aw,en]) (fun z=>?_) p2
     have old:=(s3.trans (((((((t1.trans t2).trans t3).trans t4).trans t5).trans t6).trans t7).trans t8)) _ _ e2
     rw[z] at ha9
     rw[old] at ha9
     cases ha9
   ·rintro σ H2 ⟨v4,v5,rfl,s2,qs2,e2,p2⟩
    refine ⟨_,_,_,rfl,s2,qs2,e2,?_⟩
    rw[take_snoc ht,gA,bN,kX,bV,mz]
    exact p2
  ·rintro σ H1 ⟨v3,v4,v5,rfl,s1,qs,e1,p1⟩
   refine ⟨_,rfl,k H1 g s1 ⟨qs,e1,?_⟩⟩
   rw[ae,bz pr,bE] at p1
   have drop:∀ {qs:List aj} {us:List cD},Paired (fun r t=>r≠g∧H1 r=some (.lst (vI (gT t)))) qs us→Paired (fun r t=>H1 r=some (.lst (vI (gT t)))) qs us:=by
    intro qs us h
    induction h with
    | nil=>exact .nil
    | cons a t ih=>exact .cons a.2 ih
   exact drop p1
end
def Nz:Sp:=fun vs H Q _=>∃ n:Nat,vs=[iv n]∧1≤n∧n≤5∧∀ H' q,aM H H'→yh H' q (eN n)→Q (.ref q) H'
section
variable {P:aY}{w:bO}{K:ai}{mg:cp→Option ag}{base:bU}
theorem BD:bW ["languages","trees","language"] ["languages"] (bF MY):=⟨rfl,rfl,rfl,by decide +kernel,rfl,by decide +kernel,by decide +kernel⟩
theorem RT {f fe:aj}{fd fde:bI}(F:jt K "all_trees" "all_trees" MY f fd)(T:C9 mg)(G:cO P w K mg base fB 2 fe fde ["trees","language"] (Iz K))(me:mg "with_language"=some (.ref fe))(ke:aP K (.ref fe)=true)(be:Binds K fde ["trees","language"] []) :
  cO P w K mg base fB 3 f fd ["languages"] Nz:=by
 refine F.ok BD (fun vs H Q E h=>?_) (fun iq A outer s H vs Q E hr h=>?_)
 ·obtain ⟨n,rfl,_⟩:=h
  rfl
 ·obtain ⟨n,rfl,h1,h5,k⟩:=h
  refine ⟨_,aF (cw (i:=1) BD.nd rfl (bj rfl) (cP (ah (cP (ah aW aB)) aB)))
   (aF (gp bH rfl (AR rfl T.range (ah aW (ah (pv 0) aB))) (cI (i:=2) BD.nd rfl (bj rfl))
    (aQ (cw (i:=1) BD.nd rfl (bj rfl) (bY G hr rfl me ke be .nil cR (ah (pv 1) (ah (pv 2) aB))))))
   (aQ (bL (pv 1)))),?_⟩
  refine cn ⟨(by show 1≤aA;decide),fun a ha=>⟨(by show 1≤aA;decide),fun q hq=>?_⟩⟩
  have s1:=aM.new (o:=.lst [V.int 0]) ha
  have s2:=aM.new (o:=.lst [V.ref a]) hq
  have s0:=s1.trans s2
  refine ⟨_,rfl,_,_,rfl,⟨by omega,by omega,by omega,by omega⟩,?_⟩
  have en:((n:Int) - 1).toNat=n - 1:=by omega
  rw[en]
  refine oP (fun i σ H'=>∃ (r:aj) (v2:Option V),σ=[some (iv n),some (.ref r),v2]∧aM H H'∧yh H' r (eN (i+1)))
   ⟨q,none,rfl,s0,[a],aw,.cons (s2 _ _ aw) .nil⟩ ?_ ?_
  ·rintro i σ H1 hi ⟨r,v2,rfl,s3,tr⟩
   have ei:(1:Int)+(i:Int)=((i+1:Nat):Int):=by omega
   rw[ei]
   refine ⟨_,rfl,_,rfl,r,_,i+1,rfl,tr,fun t ht=>?_,?_,fun H2 r2 s4 tr2=>⟨r2,_,rfl,s3.trans s4,tr2⟩⟩
   ·have:=pI i t ht
    omega
   ·exact Az (i+1) (by omega)
  ·rintro σ H1 ⟨r,v2,rfl,s3,tr⟩
   refine ⟨_,rfl,k H1 r s3 ?_⟩
   have:n - 1+1=n:=by omega
   rw[this] at tr
   exact tr
end
theorem x6 {x:Nat}{l:List Nat}:((x:Int)∈l.map fun (n:Nat)=>(n:Int))↔x∈l:=by
 constructor
 ·intro h
  obtain ⟨y,hy,e⟩:=aU.mp h
  have e:y=x:=by omega
  exact e▸hy
 ·exact fun h=>aU.mpr ⟨x,h,rfl⟩
theorem Jf {K:ai}{a:aj}{xs:List V}{j:Nat}{tt:TT}{te:TE}{vs:List Nat}{σ:L2.St}{H1:Hp}{D:aj}{Qd:Hp→Prop}(p:V→Bool)(f:V→V)(hD:H1 D=none)(hl:fN K H1 a xs)(hz:xs.length<aA)
  (hw:∀ x,wipe ((wipe σ vs).set j (some x)) vs=wipe σ vs)
  (hp:∀ x∈xs,∀ H,aM H1 H→∀ R:Bool→Hp→Prop,(∀ H',aM H H'→R (p x) H')→tt ((wipe σ vs).set j (some x)) H R)
  (he:∀ x∈xs,p x=true→∀ H,aM H1 H→∀ R:V→Hp→Prop,(∀ H',aM H H'→R (f x) H')→te ((wipe σ vs).set j (some x)) H R)
  (hd:∀ H',aM H1 H'→H' D=some (.lst ((xs.filter p).map f))→Qd H') :
  ∃ W:Nat→Nat→Hp→Prop,(∃ m,W 0 m (upd H1 D (.lst [])))∧∀ i m H,W i m H →
   ((Ud K a).stop i H∧Qd H)∨((Ud K a).go i H∧∃ Nx:Hp→Prop,(∀ H',Nx H'→∃ m',m'<m∧W (i+1) m' H')∧∀ x H',(Ud K a).zS i H x H'→oh j x (wipe σ vs) H' fun σ2 H2=>wipe σ2 vs=wipe σ vs∧tt σ2 H2 fun b H3 =>
    if b=true then te σ2 H3 fun y H4=>∃ acc,H4 D=some (.lst acc)∧acc.length<aA∧Nx (upd H4 D (.lst (acc++[y]))) else Nx H3):=by
 refine VO (fun i H=>aM H1 H∧H D=some (.lst (((xs.take i).filter p).map f))) ⟨aM.new hD,aw⟩ (fun i H _ h=>h.1.tup hl) (fun i x H hx h=>?_) (fun H h=>?_)
 ·obtain ⟨s1,e⟩:=h
  have mx:=aV hx
  refine ⟨hw x,hp x mx H s1 _ fun H3 s3=>?_⟩
  have s13:=s1.trans s3
  cases hpx:p x with
  | false =>
   refine nI ⟨s13,?_⟩
   rw[fW p hx,hpx,if_neg (by decide),bV]
   exact s3 _ _ e
  | true =>
   refine o9 (he x mx hpx H3 s13 _ fun H4 s4=>⟨_,s4 _ _ (s3 _ _ e),?_,fun b u q=>?_,?_⟩)
   ·rw[ae]
    exact aG (gS xs i p) hz
   ·rw[aT (dg q hD)]
    exact s4 _ _ (s13 _ _ q)
   ·rw[aw,fW p hx,hpx,if_pos rfl,aX]
    rfl
 ·obtain ⟨s1,e⟩:=h
  rw[bE] at e
  exact hd H s1 e
theorem _root_.L2.vA {X:Cx}{K:ai}{i j:Nat}{x y:cp}{px py pos:jK}{k:Nat}(hK:X.K=K)(hc:X.calm=true)(hN:X.N.Nodup)(hi:X.N[i]?=some x)(hx:Loc X.env.scope x)(hj:X.N[j]?=some y)(hy:Loc X.env.scope y)
  (hf:X.fn x=true∨X.env.scope.names.lookup x=some .local:=by first | exact .inl rfl | exact .inr rfl)(hg:X.fn y=true∨X.env.scope.names.lookup y=some .local:=by first | exact .inl rfl | exact .inr rfl) :
  PG X (.Tuple [.Name x px,.Name y py] k pos) (W8 K 2 (Nb (oh i) (Nb (oh j) W9))):=by
 subst hK
 exact yz hc (je (cI hN hi hx hf) (je (cI hN hj hy hg) uI))
theorem Ed {d:aj}{o:fA}{kvs:List (Key×V)}{g:TG}{tt:TT}{te:TE}{vs:List Nat}{σ:L2.St}{H1:Hp}{D:aj}{Qd:Hp→Prop}(Pv:Nat→Hp→Prop)(h0:Pv 0 (upd H1 D (.lst [])))(hl:∀ i H,Pv i H→H d=some (.lG o (.dK kvs)))
  (hs:∀ i k v H T,kvs[i]?=some (k,v)→Pv i H→H T=none→g (.ref T) (wipe σ vs) (upd H T (.tup [kV k,v])) fun σ2 H2=>wipe σ2 vs=wipe σ vs∧tt σ2 H2 fun b H3 =>
   if b=true then te σ2 H3 fun y H4=>∃ acc,H4 D=some (.lst acc)∧acc.length<aA∧Pv (i+1) (upd H4 D (.lst (acc++[y]))) else Pv (i+1) H3)(hd:∀ H,Pv kvs.length H→Qd H) :
  ∃ W:Nat→Nat→Hp→Prop,(∃ m,W 0 m (upd H1 D (.lst [])))∧∀ i m H,W i m H →
   ((WS d o kvs).stop i H∧Qd H)∨((WS d o kvs).go i H∧∃ Nx:Hp→Prop,(∀ H',Nx H'→∃ m',m'<m∧W (i+1) m' H')∧∀ x H',(WS d o kvs).zS i H x H'→g x (wipe σ vs) H' fun σ2 H2=>wipe σ2 vs=wipe σ vs∧tt σ2 H2 fun b H3 =>
    if b=true then te σ2 H3 fun y H4=>∃ acc,H4 D=some (.lst acc)∧acc.length<aA∧Nx (upd H4 D (.lst (acc++[y]))) else Nx H3):=by
 refine ⟨fun i m H=>m=kvs.length - i∧i≤kvs.length∧Pv i H,⟨_,rfl,aR _,h0⟩,?_⟩
 rintro i m H ⟨rfl,hi,p⟩
 by_cases lt:i<kvs.length
 ·refine .inr ⟨⟨hl i H p,lt⟩,Pv (i+1),fun H' p'=>⟨_,by omega,rfl,by omega,p'⟩,?_⟩
  rintro x H' ⟨T,k,v,e,rfl,hT,rfl⟩
  exact hs i k v H T e p hT
 ·have e:i=kvs.length:=by omega
  exact .inl ⟨⟨hl i H p,by omega⟩,hd H (e▸p)⟩
theorem Mp {σ:L2.St}{H:Hp}{A B:Hp→Prop}(h:A H):Mq σ H (fun b H3=>if b=true then A H3 else B H3):=by
 show if true=true then A H else B H
 rw[if_pos rfl]
 exact h
theorem _root_.L2.aM.unlock {H H':Hp}{d:aj}{od:fA}{u:HO}(hd:H d=some u)(s:aM (upd H d (.lG od u)) H'):aM H (upd H' d u):=fun b v e=>by
 by_cases q:b=d
 ·subst q
  rw[hd] at e
  cases e
  exact aw
 ·rw[aT q]
  exact s _ _ (by rw[aT q];exact e)
theorem _root_.L2.aM.locked {H:Hp}{d b:aj}{od:fA}{u v:HO}(e:H b=some v)(n:b≠d):upd H d (.lG od u) b=some v:=by rw[aT n];exact e
def o3 (m:List (Nat×Nat)):List (Key×V):=m.map fun p=>(gF ((p.1:Nat):Int),iv p.2)
structure Dc (mg:cp→Option ag):Prop where
 WB:∃ t,mg "UNKNOWN"=some (.int 0 t)
 j:∃ t,mg "JOINT"=some (.int (-1) t)
 len:mg "len"=none
 range:mg "range"=none
 list:mg "list"=none
 sorted:mg "sorted"=none
 set:mg "set"=none
 min:mg "min"=none
 sum:mg "sum"=none
 dict:mg "dict"=none
abbrev B2:d5:=top 17
abbrev MK:d5:=top 18
abbrev MP:d5:=top 19
abbrev F8:d5:=top 20
abbrev F6:d5:=top 21
abbrev B3:d5:=top 22
abbrev FZ:d5:=top 23
abbrev BW:d5:=top 24
def DL (K:ai):Sp:=fun vs H Q _=>∃ (p:aj) (c:bJ),vs=[.ref p]∧fN K H p (eT c.sounds)∧c.sounds.length≤1000∧∀ H' q,aM H H'→H' q=some (.lst (eT (de c)))→Q (.ref q) H'
section
variable {P:aY}{w:bO}{K:ai}{mg:cp→Option ag}{base:bU}
theorem yF:bW ["sounds","sound"] ["sounds"] (bF B2):=⟨rfl,rfl,rfl,by decide +kernel,rfl,by decide +kernel,by decide +kernel⟩
theorem KQ {f:aj}{fd:bI}(F:jt K "choices_of" "choices_of" B2 f fd)(T:Dc mg):cO P w K mg base fB 1 f fd ["sounds"] (DL K):=by
 obtain ⟨tu,hun⟩:=T.WB
 refine F.ok yF (fun vs H Q E h=>?_) (fun iq A outer s H vs Q E hr h=>?_)
 ·obtain ⟨p,c,rfl,_⟩:=h
  rfl
 ·obtain ⟨p,c,rfl,hp,hz,k⟩:=h
  refine ⟨_,aQ (bL (vd rfl (by rfl) T.sorted (by rfl) T.set (jc rfl yF.nd (NB (pv 0)) (dS (own:=[("sound",1)]) (by rfl)) (fun _ _ _ _ _=>cI (i:=1) yF.nd rfl (bj rfl)) (fun _ _ _ _ _=>pC (bS wN (pv 1) (bX (v:=.int 0) (by rfl) hun ⟨_,rfl⟩) (cj _))) (fun _ _ _ _ _=>pv 1)))),?_⟩
  have room:(eT c.sounds).length<aA:=by
   rw[ae]
   exact aG hz (by decide)
  refine ⟨_,rfl,p,rfl,⟨_,hp⟩,fun D hD=>Jf (fun x=>!decide (x=V.int 0)) (fun x=>x) hD hp room (fun x=>rfl) (fun x hx H1 s1 R hR=>?_) (fun x hx _ H1 s1 R hR=>⟨_,rfl,hR _ (aM.refl _)⟩) (fun H1 s1 e1=>?_)⟩
  ·obtain ⟨y,_,rfl⟩:=aU.mp hx
   exact ⟨_,rfl,rfl,_,rfl,hR _ (aM.refl _)⟩
  let ns:List Nat:=c.sounds.filter fun s=>s != 0
  have ef:((eT c.sounds).filter fun x=>!decide (x=V.int 0)).map (fun x=>x)=(ns.map fun (n:Nat)=>(n:Int)).map V.int:=by
   rw[qt,br,zU]
   refine congr (congrArg eB rfl) (congrArg (fun p=>oW p c.sounds) (funext fun x=>?_))
   show (!decide (iv x=V.int ((0:Nat):Int)))=(x != 0)
   rw[eJ,qH]
   simp
  rw[ef] at e1
  refine ⟨D,ns.map fun (n:Nat)=>(n:Int),rfl,cG.of e1,?_,fun ms q jV hm hq=>?_⟩
  ·rw[ae]
   exact aD (cY _ _) hz
  refine k _ q (s1.trans (aM.new hq)) ?_
  rw[aw]
  obtain ⟨l,el⟩:=uW ms fun x hx=>by
   obtain ⟨m,_,e⟩:=aU.mp ((hm x).mp hx)
   omega
  subst el
  have hl:l=de c:=by
   refine nR ?_ (pN c) fun x=>?_
   ·rw[gi] at jV
    exact jV.imp fun q=>by omega
   ·rw[xm]
    have:=hm (x:Int)
    rw[x6,x6,fH] at this
    rw[this]
    simp
  rw[hl,br]
  rfl
def FK:Sp:=fun vs H Q _=>∃ (s:Nat) (d c:aj) (m:List (Nat×Nat)) (l:dq),vs=[iv s,.ref d,.ref c]∧H d=some (.dK (o3 m))∧m≠[]∧m.length≤1000∧iM H c l ∧
 ∀ H' q x r,aM H H'→(x,r)∈m→(∀ y r',(y,r')∈m→iO l s x+r<iO l s y+r'∨(iO l s x+r=iO l s y+r'∧x≤y))→H' q=some (.tup [iv (iO l s x+r),iv x])→Q (.ref q) H'
theorem FP:bW ["sound","below","costs","other","rest"] ["sound","below","costs"] (bF MK):=⟨rfl,rfl,rfl,by decide +kernel,rfl,by decide +kernel,by decide +kernel⟩
theorem Zh {a b c d:Int}(h:HT.lexLt [c,d] [a,b]=false):a<c∨(a=c∧b≤d):=by
 rw[HT.hJ] at h
 by_cases e:c=a
 ·rw[if_pos e,HT.hJ] at h
  by_cases e2:d=b
  ·exact .inr ⟨e.symm,by omega⟩
  ·rw[if_neg e2] at h
   have:=of_decide_eq_false h
   exact .inr ⟨e.symm,by omega⟩
 ·rw[if_neg e] at h
  have:=of_decide_eq_false h
  exact .inl (by omega)
theorem gz {α β:Type}{R S:α→β→Prop}(hRS:∀ a b,R a b→S a b){x:α}{y:β}(h:S x y):∀ {l:List α} {m:List β},Paired R l m→Paired S (l++[x]) (m++[y])
 | _,_,.nil=>.cons h .nil
 | _,_,.cons a t=>.cons (hRS _ _ a) (gz hRS h t)
theorem d7 {α β:Type}{R S:α→β→Prop}(hRS:∀ a b,R a b→S a b):∀ {l:List α} {m:List β},Paired R l m→Paired S l m
 | _,_,.nil=>.nil
 | _,_,.cons a t=>.cons (hRS _ _ a) (d7 hRS t)
theorem rl {α β γ:Type}{R:α→β→Prop}{S:α→γ→Prop}{g:β→γ}(hRS:∀ a b,R a b→S a (g b)):∀ {l:List α} {m:List β},Paired R l m→Paired S l (m.map g)
 | _,_,.nil=>.nil
 | _,_,.cons a t=>.cons (hRS _ _ a) (rl hRS t)
theorem RD {f fc:aj}{fd fdc:bI}(F:jt K "cheapest_step" "cheapest_step" MK f fd)(T:Dc mg)(G:cO P w K mg base fB 1 fc fdc ["costs","one","other"] yD)(mc:mg "change_cost"=some (.ref fc))(kc:aP K (.ref fc)=true)(bc:Binds K fdc ["costs","one","other"] []) :
  cO P w K mg base fB 2 f fd ["sound","below","costs"] FK:=by
 refine F.ok FP (fun vs H Q E h=>?_) (fun iq A outer s H vs Q E hr h=>?_)
 ·obtain ⟨x,d,c,m,l,rfl,_⟩:=h
  rfl
 ·obtain ⟨x,d,c,m,l,rfl,hd,hne,hz,hc,k⟩:=h
  refine ⟨_,aQ (bL (IX (bP (SV rfl (wR hr)) (by rfl) T.min FD (ah (jc rfl FP.nd (DV (pv 1)) (dS (own:=[("other",3),("rest",4)]) (by rfl)) (fun _ _ _ _ _=>vA (K:=K) (i:=3) (j:=4) rfl rfl FP.nd rfl (bj rfl) rfl (bj rfl)) (fun _ _ _ _ _=>gq)
   (fun _ _ _ _ _=>jj (ah (dX eL (bY G hr (by rfl) mc kc bc .nil cR (ah (pv 2) (ah (pv 0) (ah (pv 3) aB)))) (pv 4)) (ah (pv 3) aB)))) aB)))),?_⟩
  have hcd:c≠d:=by
   obtain ⟨kvs,e,_⟩:=hc
   exact ik e hd (by intro z;cases z)
  refine ⟨d,_,hd,trivial,fun od=>?_⟩
  have hc1:iM (upd H d (.lG od (.dK (o3 m)))) c l:=by
   obtain ⟨kvs,e,z⟩:=hc
   exact ⟨kvs,aM.locked e hcd,z⟩
  let rowOf:Nat×Nat→List Int:=fun p=>[((iO l x p.1+p.2:Nat):Int),((p.1:Nat):Int)]
  refine ⟨_,rfl,d,od,_,rfl,aw,fun D hD=>Ed (fun i H'=>aM (upd H d (.lG od (.dK (o3 m)))) H'∧∃ rs:List aj,H' D=some (.lst (rs.map V.ref))∧Paired (fun r p=>H' r=some (.tup ((rowOf p).map V.int))) rs (m.take i)) ⟨aM.new hD,[],aw,.nil⟩ (fun i H' h=>h.1 _ _ aw) ?_ ?_⟩
  ·rintro i kk v H1 T1 hi ⟨s1,rs,e1,p1⟩ hT
   obtain ⟨p,hp,ek,ev⟩:∃ p,m[i]?=some p∧kk=gF ((p.1:Nat):Int)∧v=iv p.2:=by
    unfold o3 at hi
    rw[aO] at hi
    cases e:m[i]? with
    | none=>rw[e] at hi;cases hi
    | some p=>rw[e] at hi;cases hi;exact ⟨p,rfl,rfl,rfl⟩
   subst ek ev
   have s2:=aM.new (o:=.tup [kV (gF ((p.1:Nat):Int)),iv p.2]) hT
   refine ⟨T1,_,rfl,fN.of aw,rfl,_,_,rfl,_,_,rfl,rfl,rfl,?_⟩
   refine Mp ?_
   refine ⟨_,rfl,_,rfl,_,rfl,c,x,p.1,l,rfl,hc1.same (s1.trans s2),fun H2 s3=>⟨_,rfl,_,_,rfl,rfl,_,rfl,(by show 2≤aA;decide),fun q hq=>?_⟩⟩
   have s4:=aM.new (o:=.tup [iv (iO l x p.1+p.2),iv p.1]) hq
   have s14:=(s2.trans s3).trans s4
   refine ⟨_,s14 _ _ e1,?_,(s1.trans s14).upd hD,rs++[q],by rw[aw,aX];rfl,?_⟩
   ·rw[ae,bz p1,bM]
    exact aG (show _≤1000 by omega) (by decide)
   ·rw[take_snoc hp]
    refine gz (fun r p h=>?_) ?_ p1
    ·rw[aT (ik h e1 (by intro z;cases z))]
     exact s14 _ _ h
    ·have e4:=s14 _ _ e1
     rw[aT (fun z=>by rw[z] at hq;rw[(s2.trans s3) _ _ e1] at hq;cases hq),aw]
     rfl
  ·rintro H1 ⟨s1,rs,e1,p1⟩
   have ll:(o3 m).length=m.length:=by unfold o3;rw[ae]
   rw[ll,bE] at p1
   have hrs:rs≠[]:=fun e=>hne (cW.mp (by rw[← bz p1,e];rfl))
   have p2:Paired (fun r row=>fN K H1 r (row.map V.int)) rs (m.map rowOf):=by
    exact rl (S:=fun r (row:List Int)=>fN K H1 r (row.map V.int)) (g:=rowOf) (fun r p h=>fN.of h) p1
   refine ⟨D,rs,m.map rowOf,rfl,cG.of e1,p2,hrs,fun ix q row hq hrow hmin=>⟨s1 _ _ aw,?_⟩⟩
   rw[aO] at hrow
   obtain ⟨⟨y,r⟩,hy0,eq1⟩:=cX p1 hq
   rw[hy0] at hrow
   have erow:rowOf (y,r)=row:=aJ hrow
   subst erow
   have hy:=aV hy0
   have nqd:q≠d:=ik eq1 (s1 _ _ aw) (by intro z;cases z)
   refine k _ q y r (aM.unlock hd s1) hy (fun y' r' hy'=>?_) (by rw[aT nqd,eq1];rfl)
   have:=Zh (hmin _ (aU.mpr ⟨_,hy',rfl⟩))
   dsimp only at this
   rcases this with z | z
   ·exact .inl (by omega)
   ·exact .inr (by omega)
end
theorem R1 {m:List (Nat×Nat)}{k:Nat}:((o3 m).any fun kv=>decide (kv.1=gF ((k:Nat):Int)))=m.any fun p=>decide (p.1=k):=by
 unfold o3
 rw[mH]
 refine congrArg (fun f=>m.any f) (funext fun p=>?_)
 exact decide_eq_decide.mpr ⟨fun z=>by injection z with z;omega,fun z=>by show (gF _:Key)=_;rw[show p.1=k from z]⟩
theorem IS {m:List (Nat×Nat)}{k v:Nat}(h:∀ p∈m,p.1≠k):putK (o3 m) (gF ((k:Nat):Int)) (iv v)=o3 (m++[(k,v)]):=by
 unfold putK
 rw[R1,if_neg]
 ·unfold o3
  rw[aX]
  rfl
 ·intro q
  obtain ⟨p,hp,e⟩:=qc.mp q
  exact h p hp (of_decide_eq_true e)
theorem A2:∀ (m acc:List (Nat×Nat)),(acc++m).Pairwise (fun p q=>p.1<q.1)→lY (o3 acc) (o3 m)=o3 (acc++m)
 | [],acc,_=>by rw[bV];rfl
 | p::m,acc,h=>by
  have e:lY (o3 acc) (o3 (p::m))=lY (putK (o3 acc) (gF ((p.1:Nat):Int)) (iv p.2)) (o3 m):=rfl
  rw[e,IS,A2 m (acc++[(p.1,p.2)]) (by rw[dB];exact h),dB]
  ·rfl
  ·intro q hq z
   have:=(tJ.mp h).2.2 q hq p ax
   omega
theorem Pl {K:ai}{a:aj}{xs:List Nat}{j:Nat}{tt:TT}{te:TE}{vs:List Nat}{σ:L2.St}{H1:Hp}{D:aj}{Qd:Hp→Prop}(p:Nat→Bool)(R:Hp→aj→Nat→Prop)(hD:H1 D=none)(hl:cG K H1 a (eT xs))(hz:xs.length≤1000)
  (hR:∀ H r x,R H r x→∀ H',aM H H'→R H' r x)(hRu:∀ H r x ys zs,R H r x→H D=some (.lst ys)→R (upd H D (.lst zs)) r x)
  (hw:∀ x,wipe ((wipe σ vs).set j (some x)) vs=wipe σ vs)
  (hp:∀ x∈xs,∀ H,aM H1 H→∀ Z:Bool→Hp→Prop,(∀ H',aM H H'→Z (p x) H')→tt ((wipe σ vs).set j (some (iv x))) H Z)
  (he:∀ x∈xs,p x=true→∀ H,aM H1 H→∀ Z:V→Hp→Prop,(∀ H' r,aM H H'→H r=none→R H' r x→Z (.ref r) H')→te ((wipe σ vs).set j (some (iv x))) H Z)
  (hd:∀ H' rs,aM H1 H'→H' D=some (.lst (rs.map V.ref))→Paired (R H') rs (xs.filter p)→Qd H') :
  ∃ W:Nat→Nat→Hp→Prop,(∃ m,W 0 m (upd H1 D (.lst [])))∧∀ i m H,W i m H →
   ((Ah K a).stop i H∧Qd H)∨((Ah K a).go i H∧∃ Nx:Hp→Prop,(∀ H',Nx H'→∃ m',m'<m∧W (i+1) m' H')∧∀ x H',(Ah K a).zS i H x H'→oh j x (wipe σ vs) H' fun σ2 H2=>wipe σ2 vs=wipe σ vs∧tt σ2 H2 fun b H3 =>
    if b=true then te σ2 H3 fun y H4=>∃ acc,H4 D=some (.lst acc)∧acc.length<aA∧Nx (upd H4 D (.lst (acc++[y]))) else Nx H3):=by
 refine uM (fun i H=>aM H1 H∧∃ rs:List aj,H D=some (.lst (rs.map V.ref))∧Paired (R H) rs ((xs.take i).filter p)) ⟨aM.new hD,[],aw,.nil⟩ (fun i H _ h=>h.1.seq hl) (fun i y H hy h=>?_) (fun H h=>?_)
 ·obtain ⟨s1,rs,e,pr⟩:=h
  obtain ⟨x,hx,rfl⟩:=qP hy
  have mx:=aV hx
  refine ⟨hw _,hp x mx H s1 _ fun H3 s3=>?_⟩
  have s13:=s1.trans s3
  have pr3:Paired (R H3) rs ((xs.take i).filter p):=d7 (fun r x h=>hR _ _ _ h _ s3) pr
  cases hpx:p x with
  | false =>
   refine nI ⟨s13,rs,s3 _ _ e,?_⟩
   rw[fW p hx,hpx,if_neg (by decide),bV]
   exact pr3
  | true =>
   refine o9 (he x mx hpx H3 s13 _ fun H4 r s4 hr hRr=>⟨_,s4 _ _ (s3 _ _ e),?_,(s13.trans s4).upd hD,rs++[r],by rw[aw,aX];rfl,?_⟩)
   ·rw[ae,bz pr]
    exact aG (aD (gS xs i p) hz) (by decide)
   ·rw[fW p hx,hpx,if_pos rfl]
    exact gz (R:=R H3) (S:=R (upd H4 D (.lst (rs.map V.ref++[V.ref r])))) (fun r' x' h=>hRu H4 r' x' _ _ (hR H3 r' x' h H4 s4) (s4 _ _ (s3 _ _ e))) (hRu H4 r x _ _ hRr (s4 _ _ (s3 _ _ e))) pr3
 ·obtain ⟨s1,rs,e,pr⟩:=h
  rw[ae,bE] at pr
  exact hd H rs s1 e pr
def Np (K:ai):Sp:=fun vs H Q _=>∃ (own:Nat) (p:aj) (ch:List Nat),vs=[iv own,.ref p]∧cG K H p (eT ch)∧ch.Pairwise (·<·)∧ch.length≤1000 ∧
 ∀ H' d,aM H H'→H d=none→H' d=some (.dK (o3 ((ch.filter fun s=>decide (own=0∨own=s)).map fun s=>(s,0))))→Q (.ref d) H'
section
variable {P:aY}{w:bO}{K:ai}{mg:cp→Option ag}{base:bU}
theorem FR:bW ["own","choices","sound"] ["own","choices"] (bF MP):=⟨rfl,rfl,rfl,by decide +kernel,rfl,by decide +kernel,by decide +kernel⟩
theorem RI {f:aj}{fd:bI}(F:jt K "language_may_be" "language_may_be" MP f fd)(T:Dc mg):cO P w K mg base fB 1 f fd ["own","choices"] (Np K):=by
 obtain ⟨tu,hun⟩:=T.WB
 refine F.ok FR (fun vs H Q E h=>?_) (fun iq A outer s H vs Q E hr h=>?_)
 ·obtain ⟨own,p,ch,rfl,_⟩:=h
  rfl
 ·obtain ⟨own,p,ch,rfl,hp,jV,hz,k⟩:=h
  refine ⟨_,aQ (bL (kl (HK rfl) (by rfl) T.dict boot_dict (ah (jc rfl FR.nd (d9 (pv 1)) (dS (own:=[("sound",2)]) (by rfl)) (fun _ _ _ _ _=>cI (i:=2) FR.nd rfl (bj rfl))
   (fun _ _ _ _ _=>pC (Ih (bS gw (pv 0) (bX (v:=.int 0) (by rfl) hun ⟨_,rfl⟩) (cj _)) (BE (bS gw (pv 0) (pv 2) (cj _)))).pt) (fun _ _ _ _ _=>jj (ah (pv 2) (ah aW aB)))) aB))),?_⟩
  refine ⟨_,rfl,p,rfl,⟨_,hp⟩,fun D hD=>Pl (fun s=>decide (own=0∨own=s)) (fun H r x=>H r=some (.tup [iv x,V.int 0])) hD hp hz (fun H r x h H' s=>s _ _ h) (fun H r x ys zs h e=>by rw[aT (ik h e (by intro z;cases z))];exact h) (fun x=>rfl) (fun x hx H1 s1 R hR=>?_) (fun x hx _ H1 s1 R hR=>?_) (fun H1 rs s1 e1 pr=>?_)⟩
  ·have fin:∀ b:Bool,b=decide (own=0∨own=x)→R b H1:=fun b e=>e▸hR _ (aM.refl _)
   refine ⟨_,rfl,rfl,_,rfl,?_⟩
   refine gD (fun h1=>?_) fun h1=>?_
   ·have h1:own=0:=wU.mp h1
    exact fin _ (by rw[h1];simp)
   ·have h1:own≠0:=fun e=>h1 (wU.mpr e)
    refine ⟨_,rfl,_,rfl,rfl,_,rfl,fin _ ?_⟩
    show decide (iv own=iv x)=_
    exact decide_eq_decide.mpr ⟨fun z=>.inr (by injection z with z;omega),fun z=>by rcases z with z | z;exact absurd z h1;rw[z]⟩
  ·refine ⟨_,rfl,(by show 2≤aA;decide),fun r dQ=>hR _ r (aM.new dQ) dQ aw⟩
  let m:=(ch.filter fun s=>decide (own=0∨own=s)).map fun s=>(s,0)
  have pr2:Paired (fun q (kv:Key×V)=>fN K H1 q [kV kv.1,kv.2]) rs (o3 m):=by
   show Paired _ rs (eB _ (eB _ _))
   rw[br]
   exact rl (S:=fun q (kv:Key×V)=>fN K H1 q [kV kv.1,kv.2]) (fun r x h=>fN.of h) pr
  refine ⟨D,rs,o3 m,rfl,cG.of e1,pr2,fun d hd=>?_⟩
  have hm:lY [] (o3 m)=o3 m:=by
   have:=A2 m [] (by
    show List.Pairwise _ (eB _ _)
    rw[gi]
    exact (jV.filter _).imp fun q=>q)
   exact this
  rw[hm]
  exact k _ d (s1.trans (aM.new hd)) (s1.free hd) aw
end
def yn (l:dq)(col:bJ)(H:Hp)(d:aj)(t:cD):Prop:=H d=some (.dK (o3 (mb l col t)))
theorem Gn (l:dq)(col:bJ)(t:cD):(mb l col t).length≤(de col).length:=by
 unfold mb
 exact List.length_filterMap_le _ _
def IF (K:ai):Sp:=fun vs H Q _=>∃ (p q c:aj) (col:bJ) (ds:List aj) (ts:List cD) (l:dq),vs=[.ref p,.ref q,.ref c]∧cG K H p (eT (de col))∧H q=some (.lst (ds.map V.ref))∧Paired (yn l col H) ds ts∧ts.length≤1000∧(de col).length≤1000∧iM H c l ∧
 ∀ H' d,aM H H'→H d=none→H' d=some (.dK (o3 ((de col).map fun s=>(s,(ts.map (lv l col s)).sum))))→Q (.ref d) H'
section
variable {P:aY}{w:bO}{K:ai}{mg:cp→Option ag}{base:bU}
theorem uH:bW ["choices","parts","costs","may_be","sound","below"] ["choices","parts","costs"] (bF F8):=⟨rfl,rfl,rfl,by decide +kernel,rfl,by decide +kernel,by decide +kernel⟩
theorem O0 {f fs:aj}{fd fds:bI}(F:jt K "joint_may_be" "joint_may_be" F8 f fd)(T:Dc mg)(G:cO P w K mg base fB 2 fs fds ["sound","below","costs"] FK)(ms:mg "cheapest_step"=some (.ref fs))(ks:aP K (.ref fs)=true)(bs:Binds K fds ["sound","below","costs"] []) :
  cO P w K mg base fB 3 f fd ["choices","parts","costs"] (IF K):=by
 refine F.ok uH (fun vs H Q E h=>?_) (fun iq A outer s H vs Q E hr h=>?_)
 ·obtain ⟨p,q,c,col,ds,ts,l,rfl,_⟩:=h
  rfl
 ·obtain ⟨p,q,c,col,ds,ts,l,rfl,hp,hq,pr,hz,hch,hc,k⟩:=h
  have hu:=wR hr
  refine ⟨_,aF (cw (i:=3) uH.nd rfl (bj rfl) DW)
   (aF (gp bH rfl (d9 (pv 0)) (cI (i:=4) uH.nd rfl (p5 rfl))
    (aQ (xY hu (pv 3) (pv 4) (bP (yA rfl) (by rfl) T.sum boot_sum (ah (jc rfl uH.nd (d9 (pv 1)) (dS (own:=[("below",5)]) (by rfl)) (fun _ _ _ _ _=>cI (i:=5) uH.nd rfl (bj rfl)) (fun _ _ _ _ _=>gq)
     (fun _ _ _ _ _=>cy (r:=C6 K) dO (bY G hr (by rfl) ms ks bs .nil cR (ah (pv 4) (ah (pv 5) (ah (pv 2) aB)))) aW (fun _ _=>rfl))) aB)) rfl)))
   (aQ (bL (pv 3)))),?_⟩
  refine cn fun d hd=>?_
  have s0:aM H (upd H d (.dK [])):=aM.new hd
  let F2:Nat→Nat×Nat:=fun s=>(s,(ts.map (lv l col s)).sum)
  refine ⟨_,rfl,p,rfl,⟨_,s0.seq hp⟩,iC (K:=K) (a:=p) (xs:=eT (de col)) (fun i σ H'=>∃ v4 v5:Option V,σ=[some (.ref p),some (.ref q),some (.ref c),some (.ref d),v4,v5]∧aM H H'∧H' d=some (.dK (o3 (((de col).take i).map F2))))
   ⟨none,none,rfl,s0,aw⟩ (fun i σ H' _ ⟨_,_,_,s1,_⟩=>s1.seq hp) ?_ ?_⟩
  ·rintro i y σ H1 hi ⟨v4,v5,rfl,s1,e1⟩
   obtain ⟨x,hx,rfl⟩:=qP hi
   have hne:de col≠[]:=iH (aV hx)
   refine ⟨_,rfl,q,rfl,⟨_,cG.of (s1 _ _ hq)⟩,fun D hD=>uM (fun j H'=>aM H1 H'∧H' D=some (.lst (((ts.take j).map fun t=>((lv l col x t:Nat):Int)).map V.int))) ⟨aM.new hD,aw⟩ (fun j H' _ h=>cG.of (h.1 _ _ (s1 _ _ hq))) (fun j z H2 hj h=>?_) (fun H2 h=>?_)⟩
   ·obtain ⟨s2,e2⟩:=h
    obtain ⟨b,hb,rfl⟩:=eZ hj
    obtain ⟨t,ht,hbt⟩:=cX pr hb
    have s12:=s1.trans s2
    refine ⟨rfl,Mp ?_⟩
    refine ⟨_,rfl,_,rfl,_,rfl,x,b,c,mb l col t,l,rfl,s12 _ _ hbt,yq l col hne t,aD (Gn l col t) hch,hc.same s12,fun H3 a y r s3 hy hmin e3=>?_⟩
    obtain ⟨e4,_⟩:=Iw hy hmin
    have ev:iO l x y+r=lv l col x t:=by unfold lv;rw[e4];rfl
    refine ⟨a,_,0,_,rfl,rfl,fN.of e3,cg (j:=0) rfl,_,s3 _ _ e2,?_,?_,?_⟩
    ·rw[ae,ae,bM]
     exact aG (show _≤1000 by omega) (by decide)
    ·exact (s2.trans s3).upd hD
    ·rw[aw,take_snoc ht,aX,aX,ev]
     rfl
   ·obtain ⟨s2,e2⟩:=h
    rw[ae,bz pr,bE] at e2
    refine ⟨D,_,rfl,cG.of e2,?_⟩
    have es:(ts.map fun t=>((lv l col x t:Nat):Int)).sum=(((ts.map (lv l col x)).sum:Nat):Int):=by rw[← oq,br];rfl
    rw[es]
    have e3:=s2 _ _ e1
    have hlen:(o3 (((de col).take i).map F2)).length<aA:=by
     unfold o3
     rw[ae,ae,bM]
     exact aG (show _≤1000 by omega) (by decide)
    refine ⟨_,rfl,_,rfl,d,_,rfl,z4.k (k:=gF ((x:Nat):Int)) e3 hlen,_,_,rfl,(s1.trans s2).upd hd,?_⟩
    rw[aw,IS,take_snoc hx,aX]
    ·rfl
    ·intro pp hpp e
     obtain ⟨y,hy,rfl⟩:=aU.mp hpp
     have e:y=x:=e
     obtain ⟨n,hn⟩:=kQ.mp hy
     have hn1:n<i:=by
      have:=(bT.mp hn).1
      rw[bM] at this
      omega
     rw[List.getElem?_take,if_pos hn1] at hn
     obtain ⟨l1,g1⟩:=bT.mp hn
     obtain ⟨l2,g2⟩:=bT.mp hx
     have:=g6.mp (pN col) n i l1 l2 hn1
     rw[g1,g2,e] at this
     exact absurd this (dn _)
  ·rintro σ H1 ⟨v4,v5,rfl,s1,e1⟩
   refine ⟨_,rfl,k H1 d s1 hd ?_⟩
   rw[ae,bE] at e1
   exact e1
end
theorem tX:∀ (t:cD) (i:Nat) (l:Nat),l∈(subAt t i).leaves→l∈t.leaves
 | t,0,l,h=>by cases t<;>simpa [subAt] using h
 | .leaf k,i+1,l,h=>h
 | .node a b,i+1,l,h=>by
  rw[HR,bq]
  by_cases q:i<size a
  ·simp only[subAt,q,if_true] at h
   exact .inl (tX a i l h)
  ·simp only[subAt,q,if_false] at h
   exact .inr (tX b _ l h)
def Tn (l:dq)(col:bJ)(t:cD)(H:Hp)(q:aj):Prop:=∃ ds:List aj,H q=some (.lst (ds.map V.ref))∧ds.length=size t∧∀ i d,ds[i]?=some d→yn l col H d (subAt t i)
def BQ (K:ai):Sp:=fun vs H Q _=>∃ (p a c:aj) (t:cD) (col:bJ) (l:dq),vs=[.ref p,.ref a,.ref c]∧cG K H p (vI (gT t))∧fN K H a (eT col.sounds)∧iM H c l∧size t≤1000∧col.sounds.length≤1000∧(∀ k∈t.leaves,k<col.sounds.length) ∧
 ∀ H' q,aM H H'→Tn l col t H' q→Q (.ref q) H'
theorem nv (c:bJ):(de c).length≤c.sounds.length:=by
 unfold de
 refine aD (Jt _) ?_
 rw[List.length_mergeSort]
 exact cY _ _
section
variable {P:aY}{w:bO}{K:ai}{mg:cp→Option ag}{base:bU}
theorem mU:bW ["tree","sounds","costs","choices","nodes","at","node","part"] ["tree","sounds","costs"] (bF F6):=⟨rfl,rfl,rfl,by decide +kernel,rfl,by decide +kernel,by decide +kernel⟩
theorem OY {f f1 f2 f3 f4:aj}{fd jW mG fd3 fd4:bI}(F:jt K "nodes_may_be" "nodes_may_be" F6 f fd)(T:Dc mg)
  (G1:cO P w K mg base fB 1 f1 jW ["sounds"] (DL K))(m1:mg "choices_of"=some (.ref f1))(k1:aP K (.ref f1)=true)(b1:Binds K jW ["sounds"] [])
  (G2:cO P w K mg base fB 2 f2 mG ["tree","at"] (BP K))(m2:mg "parts_of"=some (.ref f2))(k2:aP K (.ref f2)=true)(b2:Binds K mG ["tree","at"] [])
  (G3:cO P w K mg base fB 3 f3 fd3 ["choices","parts","costs"] (IF K))(m3:mg "joint_may_be"=some (.ref f3))(k3:aP K (.ref f3)=true)(b3:Binds K fd3 ["choices","parts","costs"] [])
  (G4:cO P w K mg base fB 1 f4 fd4 ["own","choices"] (Np K))(m4:mg "language_may_be"=some (.ref f4))(k4:aP K (.ref f4)=true)(b4:Binds K fd4 ["own","choices"] []) :
  cO P w K mg base fB 4 f fd ["tree","sounds","costs"] (BQ K):=by
 obtain ⟨tj,hj⟩:=T.j
 refine F.ok mU (fun vs H Q E h=>?_) (fun iq A outer s H vs Q E hr h=>?_)
 ·obtain ⟨p,a,c,t,col,l,rfl,_⟩:=h
  rfl
 ·obtain ⟨p,a,c,t,col,l,rfl,hp,ha,hc,hz,hsz,hlv,k⟩:=h
  have nW:fO 1 _:=hr.mono (by decide)
  have hr2:fO 2 _:=hr.mono (by decide)
  refine ⟨_,aF (cw (i:=3) mU.nd rfl (bj rfl) (bY G1 nW rfl m1 k1 b1 .nil cR (ah (pv 1) aB)))
   (aF (cw (i:=4) mU.nd rfl (p5 rfl) (jc rfl mU.nd (d9 (pv 0)) (dS (own:=[("node",6)]) (by rfl)) (fun _ _ _ _ _=>cI (i:=6) mU.nd rfl (bj rfl)) (fun _ _ _ _ _=>gq) (fun _ _ _ _ _=>DW)))
   (aF (gp bH rfl (sG rfl T.range (ah (dX ND (bP bD (by rfl) T.len bb (ah (pv 0) aB)) aW) (ah (qG lW aW) (ah (qG lW aW) aB)))) (cI (i:=5) mU.nd rfl (bj rfl))
    (aQ (eE (bS gw (cy cJ (pv 0) (pv 5) (fun _ _=>rfl)) (bX (v:=.int (-1)) (by rfl) hj ⟨_,rfl⟩) (cj _))
     (aQ (BF (bY G3 hr rfl m3 k3 b3 .nil cR (ah (pv 3) (ah (jc rfl mU.nd (d9 (bY G2 hr2 rfl m2 k2 b2 .nil cR (ah (pv 0) (ah (pv 5) aB)))) (dS (own:=[("part",7)]) (by rfl)) (fun _ _ _ _ _=>cI (i:=7) mU.nd rfl (bj rfl)) (fun _ _ _ _ _=>gq) (fun _ _ _ _ _=>cy (r:=J7 K) cJ (pv 4) (pv 7) (fun _ _=>rfl))) (ah (pv 2) aB)))) (BG (pv 4) (pv 5) set_list)))
     (aQ (BF (bY G4 nW rfl m4 k4 b4 .nil cR (ah (cy dO (pv 1) (cy cJ (pv 0) (pv 5) (fun _ _=>rfl)) (fun _ _=>rfl)) (ah (pv 3) aB))) (BG (pv 4) (pv 5) set_list))))))
   (aQ (bL (pv 4))))),?_⟩
  have hch:(de col).length≤1000:=aD (nv col) hsz
  have ln:(vI (gT t)).length=size t:=by rw[ae,fQ]
  refine cn ⟨_,rfl,a,col,rfl,ha,hsz,fun H1 pc s1 e1=>?_⟩
  refine cn ⟨_,rfl,p,rfl,⟨_,s1.seq hp⟩,fun D hD=>uM (fun j H'=>aM H1 H'∧∃ ds:List aj,H' D=some (.lst (ds.map V.ref))∧ds.length=j) ⟨aM.new hD,[],aw,rfl⟩ (fun j H' _ h=>h.1.seq (s1.seq hp)) (fun j z H2 hj' h=>?_) (fun H2 h=>?_)⟩
  ·obtain ⟨s2,ds,e2,n2⟩:=h
   refine ⟨rfl,Mp fun d hd=>?_⟩
   have s3:=aM.new (o:=.dK []) hd
   refine ⟨_,s3 _ _ e2,?_,(s2.trans s3).upd hD,ds++[d],by rw[aw,aX];rfl,by rw[aK,n2];rfl⟩
   have:=(bT.mp hj').1
   rw[ln] at this
   rw[ae,n2]
   exact aG (show j≤1000 by omega) (by decide)
  obtain ⟨s2,ds0,e2,n2⟩:=h
  rw[ln] at n2
  have hDn:H D=none:=s1.free hD
  have s12:=s1.trans s2
  refine ⟨_,rfl,p,_,rfl,.inl (s12.seq hp),_,_,rfl,rfl,_,rfl,_,rfl,(size t:Int) - 1,-1,-1,size t,by rw[ln],?_,?_⟩
  ·have:=UQ.neg (i:=(size t:Int) - 1) (j:=-1) (by omega) (by omega) (by omega) (by omega)
   have e:(((size t:Int) - 1) - -1).toNat=size t:=by omega
   rw[e] at this
   exact this
  refine uc (fun i σ H'=>∃ v5 v6 v7:Option V,σ=[some (.ref p),some (.ref a),some (.ref c),some (.ref pc),some (.ref D),v5,v6,v7]∧aM H1 H'∧∃ ds:List aj,H' D=some (.lst (ds.map V.ref))∧ds.length=size t∧∀ j d,size t - i≤j→ds[j]?=some d→yn l col H' d (subAt t j))
   ⟨none,none,none,rfl,s2,ds0,e2,n2,fun j d hj hd=>by
    have:=(bT.mp hd).1
    omega⟩ ?_ ?_
  ·rintro i σ H3 hi ⟨v5,v6,v7,rfl,s3,ds,e3,n3,inv⟩
   obtain ⟨b,hb⟩:∃ b,b=size t - 1 - i:=⟨_,rfl⟩
   have eb:((size t:Int) - 1)+(i:Nat)*(-1)=((b:Nat):Int):=by omega
   rw[eb]
   have hbl:b<size t:=by omega
   have s13:=s1.trans s3
   have hat:=NH t b hbl
   have dl:∀ j,j<size t→ds[j]?=some (ds[j]?.getD 0):=fun j hj=>by rw[aE (by omega)];rfl
   have store:∀ (H4:Hp) (d:aj),aM H3 H4→yn l col H4 d (subAt t b)→∃ v5' v6' v7':Option V,[some (V.ref p),some (V.ref a),some (V.ref c),some (V.ref pc),some (V.ref D),some (iv b),v6,v7]=[some (.ref p),some (.ref a),some (.ref c),some (.ref pc),some (.ref D),v5',v6',v7']∧aM H1 (upd H4 D (.lst ((ds.map V.ref).set b (.ref d))))∧∃ ds':List aj,upd H4 D (.lst ((ds.map V.ref).set b (.ref d))) D=some (.lst (ds'.map V.ref))∧ds'.length=size t∧∀ j d',size t - (i+1)≤j→ds'[j]?=some d'→yn l col (upd H4 D (.lst ((ds.map V.ref).set b (.ref d)))) d' (subAt t j):=fun H4 d s4 hd=>by
    refine ⟨_,_,_,rfl,(s3.trans s4).upd hD,ds.set b d,by rw[aw,Fn],by rw[lP];exact n3,fun j d' hj hd'=>?_⟩
    have e4:=s4 _ _ e3
    have keep:∀ x u,yn l col H4 x u→yn l col (upd H4 D (.lst ((ds.map V.ref).set b (.ref d)))) x u:=fun x u hx=>by
     show upd _ _ _ x=_
     rw[aT (ik hx e4 (by intro z;cases z))]
     exact hx
    rw[Qw] at hd'
    by_cases q:b=j
    ·subst q
     rw[if_pos rfl] at hd'
     split at hd'
     ·cases hd'
      exact keep _ _ hd
     ·cases hd'
    ·rw[if_neg q] at hd'
     exact keep _ _ (s4 _ _ (inv j d' (by omega) hd'))
   have ixb:Mm (ds.map V.ref).length ((b:Nat):Int)=some b:=by
    unfold Mm
    rw[ae,n3,if_pos (by omega),if_pos (by omega),bR]
   refine ⟨_,rfl,_,rfl,p,_,b,_,rfl,rfl,s13.seq hp,cg (tR hat),rfl,_,rfl,?_⟩
   cases e:subAt t b with
   | leaf m =>
    rw[e] at hat
    show if decide (V.int ((m:Nat):Int)=V.int (-1))=true then _ else _
    rw[show decide (V.int ((m:Nat):Int)=V.int (-1))=false from decide_eq_false fun z=>by injection z with z;omega]
    refine nI ?_
    have hm:m<col.sounds.length:=hlv m (tX t b m (by rw[e];simp[HR]))
    refine ⟨_,rfl,_,rfl,_,rfl,p,_,b,_,rfl,rfl,s13.seq hp,cg (tR hat),a,_,m,_,rfl,rfl,s13.tup ha,cg (tS hm),_,rfl,col.sounds[m],pc,de col,rfl,cG.of (s3 _ _ e1),pN col,hch,fun H4 d s4 hd ed=>?_⟩
    have hmb:yn l col H4 d (subAt t b):=by
     rw[e]
     show H4 d=some (.dK (o3 (mb l col (.leaf m))))
     rw[ed,R0,show col.sounds.getD m 0=col.sounds[m] by rw[gN,aE hm];rfl]
    exact ⟨_,rfl,_,rfl,D,_,b,b,rfl,rfl,s4 _ _ e3,ixb,store H4 d s4 hmb⟩
   | node x y =>
    rw[e] at hat
    refine o9 ?_
    obtain ⟨g1,g2,g3⟩:=ou t b x y hbl e
    have px:=size_pos x
    have py:=size_pos y
    have hparts:gW t b=[b+1,b+1+size x]:=by unfold gW;rw[e]
    refine ⟨_,rfl,_,rfl,_,rfl,p,t,b,rfl,s13.seq hp,hbl,fun H4 r s4 hr4 e4=>⟨r,rfl,⟨_,cG.of e4⟩,fun D2 hD2=>pF (fun _=>true) (fun v=>match v with | .int k=>V.ref (ds[k.toNat]?.getD 0) | _=>.hC) hD2 (cG.of e4) (by rw[ae,hparts];show 2<aA;decide) (fun x=>rfl) (fun x _ H5 _ R hR=>hR _ (aM.refl _)) (fun v hv _ H5 s5 R hR=>?_) (fun H5 s5 e5=>?_)⟩⟩
    ·obtain ⟨j,hj',rfl⟩:=aU.mp hv
     have hjl:j<size t:=(DY hbl hj').2
     refine ⟨_,rfl,_,rfl,D,_,j,_,rfl,rfl,cG.of (s5 _ _ (s4 _ _ e3)),cg (v:=V.ref (ds[j]?.getD 0)) (by rw[aO,dl j hjl];rfl),?_⟩
     have:=hR _ (aM.refl _)
     simpa using this
    rw[kz,hparts] at e5
    have d1:=inv (b+1) _ (by omega) (dl (b+1) (by omega))
    have d2:=inv (b+1+size x) _ (by omega) (dl (b+1+size x) (by omega))
    rw[g2] at d1
    rw[g3] at d2
    have s45:=s4.trans s5
    refine ⟨_,rfl,pc,D2,c,col,[ds[b+1]?.getD 0,ds[b+1+size x]?.getD 0],[x,y],l,rfl,cG.of (s45 _ _ (s3 _ _ e1)),?_,.cons (s45 _ _ d1) (.cons (s45 _ _ d2) .nil),by simp,hch,hc.same (s13.trans s45),fun H6 d s6 hd ed=>?_⟩
    ·rw[e5]
     show some (HO.lst [V.ref (ds[(((b+1:Nat):Int)).toNat]?.getD 0),V.ref (ds[(((b+1+size x:Nat):Int)).toNat]?.getD 0)])=_
     rw[bR,bR]
     rfl
    have hmb:yn l col H6 d (subAt t b):=by
     rw[e]
     show H6 d=some (.dK (o3 (mb l col (.node x y))))
     rw[ed,RZ]
     simp
    exact ⟨_,rfl,_,rfl,D,_,b,b,rfl,rfl,(s45.trans s6) _ _ e3,ixb,store H6 d (s45.trans s6) hmb⟩
  ·rintro σ H3 ⟨v5,v6,v7,rfl,s3,ds,e3,n3,inv⟩
   exact ⟨_,rfl,k H3 D (s1.trans s3) ⟨ds,e3,n3,fun i d hd=>inv i d (by omega) hd⟩⟩
end
def yC:Sp:=fun vs H Q _=>∃ (d:aj) (l:dq) (col:bJ) (t:cD),vs=[.ref d]∧yn l col H d t∧(de col).length≤1000 ∧
 ∀ H' q r,aM H H'→H r=none→H' q=some (.tup [iv (t.score l col),.ref r])→H' r=some (.lst (eT (t.roots l col)))→Q (.ref q) H'
theorem Pk (m:List (Nat×Nat)):∃ v:Nat,Il (V.int 0) (k5 none (m.map fun p=>((p.2:Nat):Int)))=iv v∧((m=[]∧v=0)∨((∃ x,(x,v)∈m)∧∀ p∈m,v≤p.2)):=by
 cases m with
 | nil=>exact ⟨0,rfl,.inl ⟨rfl,rfl⟩⟩
 | cons p m =>
  obtain ⟨v,e,h1,h2,h3⟩:=A3 (m.map fun p=>((p.2:Nat):Int)) ((p.2:Nat):Int)
  have e':k5 none ((p::m).map fun p=>((p.2:Nat):Int))=some v:=e
  rw[e']
  have ex:∃ x n:Nat,(x,n)∈p::m∧v=(n:Int):=by
   rcases h1 with q | q
   ·exact ⟨p.1,p.2,ax,q⟩
   ·obtain ⟨p',hp',e⟩:=aU.mp q
    exact ⟨p'.1,p'.2,ao _ hp',e.symm⟩
  obtain ⟨x,n,hx,rfl⟩:=ex
  refine ⟨n,rfl,.inr ⟨⟨x,hx⟩,fun p' hp'=>?_⟩⟩
  rcases aI.mp hp' with q | q
  ·subst q;omega
  ·have:=h3 _ (aU.mpr ⟨p',q,rfl⟩)
   omega
section
variable {P:aY}{w:bO}{K:ai}{mg:cp→Option ag}{base:bU}
theorem uT:bW ["may_be","least","sound","below"] ["may_be"] (bF B3):=⟨rfl,rfl,rfl,by decide +kernel,rfl,by decide +kernel,by decide +kernel⟩
theorem KR {f:aj}{fd:bI}(F:jt K "cheapest_sounds" "cheapest_sounds" B3 f fd)(T:Dc mg):cO P w K mg base fB 1 f fd ["may_be"] yC:=by
 refine F.ok uT (fun vs H Q E h=>?_) (fun iq A outer s H vs Q E hr h=>?_)
 ·obtain ⟨d,l,col,t,rfl,_⟩:=h
  rfl
 ·obtain ⟨d,l,col,t,rfl,hd,hz,k⟩:=h
  have hd:H d=some (.dK (o3 (mb l col t))):=hd
  have hlen:(mb l col t).length≤1000:=aD (Gn l col t) hz
  refine ⟨_,aF (cw (i:=1) uT.nd rfl (p5 rfl) (Ry rfl (by rfl) T.min (ah (z9 rfl (by rfl) T.list (pv 0)) aB) aW))
   (aQ (bL (jj (ah (pv 1) (ah (IX (jc rfl uT.nd (DV (pv 0)) (dS (own:=[("sound",2),("below",3)]) (by rfl)) (fun _ _ _ _ _=>vA (K:=K) (i:=2) (j:=3) rfl rfl uT.nd rfl (bj rfl) rfl (bj rfl)) (fun _ _ _ _ _=>pC (bS gw (pv 3) (pv 1) (cj _))) (fun _ _ _ _ _=>pv 2))) aB))))),?_⟩
  refine cn ⟨_,rfl,d,_,rfl,hd,fun pl hpl=>?_⟩
  have s1:=aM.new (o:=.lst ((o3 (mb l col t)).map (·.2))) hpl
  have ev:(o3 (mb l col t)).map (·.2)=((mb l col t).map fun p=>((p.2:Nat):Int)).map V.int:=by unfold o3;rw[br,br];rfl
  refine ⟨pl,_,rfl,cG.of (by rw[aw,ev]),?_⟩
  obtain ⟨v,e0,hv⟩:=Pk (mb l col t)
  rw[e0]
  have hsc:=Ow l t col hv
  subst hsc
  refine ⟨_,rfl,d,_,s1 _ _ hd,trivial,fun od=>?_⟩
  refine ⟨_,rfl,d,od,_,rfl,aw,fun D hD=>Ed (fun i H'=>aM (upd (upd H pl (.lst ((o3 (mb l col t)).map (·.2)))) d (.lG od (.dK (o3 (mb l col t))))) H'∧H' D=some (.lst (eT ((((mb l col t).take i).filter fun p=>decide (p.2=t.score l col)).map (·.1))))) ⟨aM.new hD,aw⟩ (fun i H' h=>h.1 _ _ aw) ?_ ?_⟩
  ·rintro i kk v H1 T1 hi ⟨s2,e1⟩ hT
   obtain ⟨p,hp,ek,evv⟩:∃ p,(mb l col t)[i]?=some p∧kk=gF ((p.1:Nat):Int)∧v=iv p.2:=by
    unfold o3 at hi
    rw[aO] at hi
    cases e:(mb l col t)[i]? with
    | none=>rw[e] at hi;cases hi
    | some p=>rw[e] at hi;cases hi;exact ⟨p,rfl,rfl,rfl⟩
   subst ek evv
   have s3:=aM.new (o:=.tup [kV (gF ((p.1:Nat):Int)),iv p.2]) hT
   refine ⟨T1,_,rfl,fN.of aw,rfl,_,_,rfl,_,_,rfl,rfl,rfl,_,rfl,_,rfl,rfl,_,rfl,?_⟩
   have el:=s3 _ _ e1
   refine gD (fun h1=>?_) fun h1=>?_
   ·have h1:p.2=t.score l col:=by
     have:=of_decide_eq_true h1
     injection this with this
     omega
    refine ⟨_,rfl,_,el,?_,(s2.trans s3).upd hD,?_⟩
    ·rw[ae,ae]
     exact aG (aD (gS _ _ _) hlen) (by decide)
    ·rw[aw,fW _ hp,if_pos (decide_eq_true h1),aX]
     show _=some (HO.lst (eB iv (_++[p.1])))
     rw[aX]
     rfl
   ·have h1:¬ p.2=t.score l col:=fun e=>h1 (decide_eq_true (by rw[e]))
    refine ⟨s2.trans s3,?_⟩
    rw[fW _ hp,if_neg (by simp[h1]),bV]
    exact el
  ·rintro H1 ⟨s2,e1⟩
   have ll:(o3 (mb l col t)).length=(mb l col t).length:=by unfold o3;rw[ae]
   rw[ll,bE,← OE] at e1
   have hDn:H D=none:=by
    have h1:d≠D:=fun z=>by rw[← z,aw] at hD;cases hD
    rw[aT h1.symm] at hD
    exact s1.free hD
   have nDd:D≠d:=ik e1 (s2 _ _ aw) (by intro z;cases z)
   refine ⟨s2 _ _ aw,(by show 2≤aA;decide),fun q hq=>?_⟩
   have s3:aM H (upd H1 d (.dK (o3 (mb l col t)))):=s1.trans (aM.unlock (s1 _ _ hd) s2)
   have s4:=aM.new (o:=.tup [iv (t.score l col),.ref D]) hq
   exact k _ q D (s3.trans s4) hDn aw (s4 _ _ (by rw[aT nDd];exact e1))
def BO (K:ai):Sp:=fun vs H Q _=>∃ (p a c:aj) (t:cD) (col:bJ) (l:dq),vs=[.ref p,.ref a,.ref c]∧cG K H p (vI (gT t))∧fN K H a (eT col.sounds)∧iM H c l∧size t≤1000∧col.sounds.length≤1000∧(∀ k∈t.leaves,k<col.sounds.length) ∧
 ∀ H' q r,aM H H'→H r=none→H' q=some (.tup [iv (t.score l col),.ref r])→H' r=some (.lst (eT (t.roots l col)))→Q (.ref q) H'
theorem Rq:bW ["tree","sounds","costs"] ["tree","sounds","costs"] (bF FZ):=⟨rfl,rfl,rfl,by decide +kernel,rfl,by decide +kernel,by decide +kernel⟩
theorem OT {f f1 f2:aj}{fd jW mG:bI}(F:jt K "score_and_roots" "score_and_roots" FZ f fd)
  (G1:cO P w K mg base fB 4 f1 jW ["tree","sounds","costs"] (BQ K))(m1:mg "nodes_may_be"=some (.ref f1))(k1:aP K (.ref f1)=true)(b1:Binds K jW ["tree","sounds","costs"] [])
  (G2:cO P w K mg base fB 1 f2 mG ["may_be"] yC)(m2:mg "cheapest_sounds"=some (.ref f2))(k2:aP K (.ref f2)=true)(b2:Binds K mG ["may_be"] []) :
  cO P w K mg base fB 5 f fd ["tree","sounds","costs"] (BO K):=by
 refine F.ok Rq (fun vs H Q E h=>?_) (fun iq A outer s H vs Q E hr h=>?_)
 ·obtain ⟨p,a,c,t,col,l,rfl,_⟩:=h
  rfl
 ·obtain ⟨p,a,c,t,col,l,rfl,hp,ha,hc,hz,hsz,hlv,k⟩:=h
  have nW:fO 1 _:=hr.mono (by decide)
  refine ⟨_,aQ (bL (bY G2 nW rfl m2 k2 b2 .nil cR (ah (cy cJ (bY G1 hr rfl m1 k1 b1 .nil cR (ah (pv 0) (ah (pv 1) (ah (pv 2) aB)))) aW (fun _ _=>rfl)) aB))),?_⟩
  refine ⟨_,rfl,_,rfl,_,rfl,p,a,c,t,col,l,rfl,hp,ha,hc,hz,hsz,hlv,fun H1 q s1 ⟨ds,e1,n1,z1⟩=>?_⟩
  have h0:ds[0]?=some (ds[0]?.getD 0):=by
   have:=size_pos t
   rw[aE (by omega)]
   rfl
  have hm:=z1 0 _ h0
  rw[show subAt t 0=t by cases t<;>rfl] at hm
  refine ⟨q,_,0,_,rfl,rfl,cG.of e1,cg (j:=0) (v:=V.ref (ds[0]?.getD 0)) (by rw[aO,h0];rfl),ds[0]?.getD 0,l,col,t,rfl,hm,aD (nv col) hsz,fun H2 q2 r s2 hr2 e2 e3=>k H2 q2 r (s1.trans s2) (s1.free hr2) e2 e3⟩
end
def DF (K:ai):Sp:=fun vs H Q _=>∃ (p a c:aj) (t:cD) (col:bJ) (l:dq),vs=[.ref p,.ref a,.ref c]∧cG K H p (vI (gT t))∧fN K H a (eT col.sounds)∧iM H c l∧size t≤1000∧col.sounds.length≤1000∧(∀ k∈t.leaves,k<col.sounds.length) ∧
 ∀ H' q,aM H H'→H q=none→H' q=some (.lst (eT (t.states l col ((t.roots l col).headD 0))))→Q (.ref q) H'
theorem NV {n k:Nat}(h:k<n):Mm n ((k:Nat):Int)=some k:=by
 unfold Mm
 rw[if_pos (by omega),if_pos (by omega),bR]
section
variable {P:aY}{w:bO}{K:ai}{mg:cp→Option ag}{base:bU}
theorem ml:bW ["tree","sounds","costs","nodes","roots","states","at","part","node"] ["tree","sounds","costs"] (bF BW):=⟨rfl,rfl,rfl,by decide +kernel,rfl,by decide +kernel,by decide +kernel⟩
theorem KI {f f1 f2 f3 f4:aj}{fd jW mG fd3 fd4:bI}(F:jt K "states_on" "states_on" BW f fd)(T:Dc mg)
  (G1:cO P w K mg base fB 4 f1 jW ["tree","sounds","costs"] (BQ K))(m1:mg "nodes_may_be"=some (.ref f1))(k1:aP K (.ref f1)=true)(b1:Binds K jW ["tree","sounds","costs"] [])
  (G2:cO P w K mg base fB 1 f2 mG ["may_be"] yC)(m2:mg "cheapest_sounds"=some (.ref f2))(k2:aP K (.ref f2)=true)(b2:Binds K mG ["may_be"] [])
  (G3:cO P w K mg base fB 2 f3 fd3 ["tree","at"] (BP K))(m3:mg "parts_of"=some (.ref f3))(k3:aP K (.ref f3)=true)(b3:Binds K fd3 ["tree","at"] [])
  (G4:cO P w K mg base fB 2 f4 fd4 ["sound","below","costs"] FK)(m4:mg "cheapest_step"=some (.ref f4))(k4:aP K (.ref f4)=true)(b4:Binds K fd4 ["sound","below","costs"] []) :
  cO P w K mg base fB 5 f fd ["tree","sounds","costs"] (DF K):=by
 obtain ⟨tu,hun⟩:=T.WB
 refine F.ok ml (fun vs H Q E h=>?_) (fun iq A outer s H vs Q E hr h=>?_)
 ·obtain ⟨p,a,c,t,col,l,rfl,_⟩:=h
  rfl
 ·obtain ⟨p,a,c,t,col,l,rfl,hp,ha,hc,hz,hsz,hlv,k⟩:=h
  have nW:fO 1 _:=hr.mono (by decide)
  have hr2:fO 2 _:=hr.mono (by decide)
  refine ⟨_,aF (cw (i:=3) ml.nd rfl (bj rfl) (bY G1 hr rfl m1 k1 b1 .nil cR (ah (pv 0) (ah (pv 1) (ah (pv 2) aB)))))
   (aF (cw (i:=4) ml.nd rfl (bj rfl) (cy dO (bY G2 nW rfl m2 k2 b2 .nil cR (ah (cy cJ (pv 3) aW (fun _ _=>rfl)) aB)) aW (fun _ _=>rfl)))
   (aF (qT (i:=5) rfl ml.nd rfl rfl (uF rfl rfl rfl rfl) (d9 (pv 0)) (dS (own:=[("node",8)]) (by rfl)) (fun _ _ _ _ _=>cI (i:=8) ml.nd rfl (bj rfl)) (fun _ _ _ _ _=>gq) (fun _ _ _ _ _=>bX (v:=.int 0) (by rfl) hun ⟨_,rfl⟩))
   (aF (eE (bS gw (bP bD (by rfl) T.len bb (ah (pv 4) aB)) aW (cj _)) (aQ (bL (pv 5))) cU)
   (aF (BF (cy cJ (pv 4) aW (fun _ _=>rfl)) (BG (pv 5) aW set_list))
   (aF (gp bH rfl (oO rfl T.range (ah (bP bD (by rfl) T.len bb (ah (pv 0) aB)) aB)) (cI (i:=6) ml.nd rfl (bj rfl))
    (aQ (gp bH rfl (d9 (bY G3 hr2 rfl m3 k3 b3 .nil cR (ah (pv 0) (ah (pv 6) aB)))) (cI (i:=7) ml.nd rfl (bj rfl))
     (aQ (BF (cy dO (bY G4 hr2 rfl m4 k4 b4 .nil cR (ah (cy cJ (pv 5) (pv 6) (fun _ _=>rfl)) (ah (cy cJ (pv 3) (pv 7) (fun _ _=>rfl)) (ah (pv 2) aB)))) aW (fun _ _=>rfl)) (BG (pv 5) (pv 7) set_list))))))
   (aQ (bL (pv 5)))))))),?_⟩
  have ln:(vI (gT t)).length=size t:=by rw[ae,fQ]
  have pos:=size_pos t
  have hch:(de col).length≤1000:=aD (nv col) hsz
  refine cn ⟨_,rfl,_,rfl,_,rfl,p,a,c,t,col,l,rfl,hp,ha,hc,hz,hsz,hlv,fun H1 qn s1 hn=>?_⟩
  obtain ⟨ds,e1,n1,z1⟩:=id hn
  have dl:∀ j,j<size t→ds[j]?=some (ds[j]?.getD 0):=fun j hj=>by rw[aE (by omega)];rfl
  have hm:=z1 0 _ (dl 0 pos)
  rw[show subAt t 0=t by cases t<;>rfl] at hm
  refine cn ⟨_,rfl,qn,_,0,_,rfl,rfl,cG.of e1,cg (j:=0) (v:=V.ref (ds[0]?.getD 0)) (by rw[aO,dl 0 pos];rfl),ds[0]?.getD 0,l,col,t,rfl,hm,hch,fun H2 q2 r s2 hr2' e2 e3=>?_⟩
  refine ⟨q2,_,1,_,rfl,rfl,fN.of e2,cg (j:=1) rfl,?_⟩
  have s12:=s1.trans s2
  refine cn ⟨_,rfl,p,rfl,⟨_,s12.seq hp⟩,fun S hS=>pF (fun _=>true) (fun _=>V.int 0) hS (s12.seq hp) (by rw[ln];exact aG hz (by decide)) (fun x=>rfl) (fun x _ H3 _ R hR=>hR _ (aM.refl _)) (fun x hx _ H3 s3 R hR=>hR _ (aM.refl _)) (fun H3 s3 e4=>?_)⟩
  have hSn:H S=none:=s12.free hS
  have eS:((vI (gT t)).filter fun _=>true).map (fun _=>V.int 0)=eT (tq (size t) 0):=by
   rw[kz,br,← fQ]
   show (gT t).map (fun _=>V.int 0)=_
   rw[List.map_const']
   show _=eB iv _
   rw[List.map_replicate]
   rfl
  rw[eS] at e4
  have s13:=s12.trans s3
  have e3':=s3 _ _ e3
  refine iL (fun σ' H'=>σ'=[some (.ref p),some (.ref a),some (.ref c),some (.ref qn),some (.ref r),some (.ref S),none,none,none]∧H'=H3∧t.roots l col≠[]) (fun go=>?_) ?_
  ·refine ⟨_,rfl,r,_,rfl,.inl (cG.of e3'),rfl,_,rfl,?_⟩
   rw[ae]
   refine gD (fun h1=>?_) fun h1=>?_
   ·have h1:t.roots l col=[]:=cW.mp (wU.mp h1)
    have hcn:de col=[]:=dR fun q=>OD l t col q h1
    refine ⟨_,rfl,k H3 S s13 hSn ?_⟩
    rw[e4,h1]
    show _=some (HO.lst (eT (t.states l col 0)))
    rw[qZ l col hcn]
   ·exact go _ _ ⟨rfl,rfl,fun e=>h1 (wU.mpr (by rw[e];rfl))⟩
  rintro σ' H' ⟨rfl,rfl,hro⟩
  obtain ⟨r0,rt,er⟩:∃ r0 rt,t.roots l col=r0::rt:=by
   cases e:t.roots l col with
   | nil=>exact absurd e hro
   | cons r0 rt=>exact ⟨r0,rt,rfl⟩
  have hne:de col≠[]:=fun e=>hro (Hc l t col e)
  rw[er] at e3'
  let fin:=t.states l col r0
  have lf:fin.length=size t:=iw l col t r0
  have kfin:∀ H' q,aM H H'→H q=none→H' q=some (.lst (eT fin))→Q (.ref q) H':=fun H' q s hq e=>k H' q s hq (by rw[e,er];rfl)
  refine iL (fun σ' H'=>σ'=[some (.ref p),some (.ref a),some (.ref c),some (.ref qn),some (.ref r),some (.ref S),none,none,none]∧aM H2 H'∧H' S=some (.lst (eT ((tq (size t) 0).set 0 r0)))) (fun go=>?_) ?_
  ·refine ⟨_,rfl,r,_,0,_,rfl,rfl,cG.of e3',cg (j:=0) rfl,_,rfl,S,_,0,0,rfl,rfl,e4,NV (k:=0) (by rw[ae,kR];exact pos),?_⟩
   refine go _ _ ⟨rfl,s3.upd hS,?_⟩
   rw[aw]
   show _=some (HO.lst (eB iv _))
   rw[Fn]
  rintro σ' H4 ⟨rfl,s4,e5⟩
  have s14:=s12.trans s4
  refine ⟨_,rfl,p,_,rfl,.inl (s14.seq hp),(size t:Int),by rw[ln],by omega,by omega,?_⟩
  rw[bR]
  let Done:Nat→Nat→Nat→Prop:=fun at' b j=>j=0∨(∃ pp,pp<at'∧j∈gW t pp)∨j∈(gW t at').take b
  let Pv:Nat→Nat→Hp→Prop:=fun at' b H'=>aM H2 H'∧∃ st:List Nat,H' S=some (.lst (eT st))∧st.length=size t∧∀ j,j<size t→Done at' b j→st[j]?=fin[j]?
  refine oP (fun i σ H'=>∃ v6 v7 v8:Option V,σ=[some (.ref p),some (.ref a),some (.ref c),some (.ref qn),some (.ref r),some (.ref S),v6,v7,v8]∧Pv i 0 H')
   ⟨none,none,none,rfl,s4,_,e5,by rw[lP,kR],fun j hj hd=>?_⟩ ?_ ?_
  ·rcases hd with h | ⟨pp,h,_⟩ | h
   ·subst h
    rw[ka (by rw[kR];exact pos)]
    exact (ra l col t r0).symm
   ·omega
   ·simp at h
  ·rintro i σ H5 hi ⟨v6,v7,v8,rfl,s5,st,e6,n6,inv⟩
   have ei:(0:Int)+(i:Int)=(i:Int):=GO _
   rw[ei]
   refine ⟨_,rfl,_,rfl,p,t,i,rfl,(s12.trans s5).seq hp,hi,fun H6 rp s6 hrp e7=>⟨rp,rfl,⟨_,cG.of e7⟩,iC (K:=K) (a:=rp) (xs:=eT (gW t i)) (fun b σ H'=>∃ v7 v8:Option V,σ=[some (.ref p),some (.ref a),some (.ref c),some (.ref qn),some (.ref r),some (.ref S),some (iv i),v7,v8]∧H' rp=some (.lst (eT (gW t i)))∧Pv i b H') ⟨_,_,rfl,e7,s5.trans s6,st,s6 _ _ e6,n6,inv⟩ (fun b σ H' _ ⟨_,_,_,h,_⟩=>cG.of h) ?_ ?_⟩⟩
   ·rintro b y σ H7 hb ⟨v7,v8,rfl,e8,s7,st2,e9,n9,inv2⟩
    obtain ⟨j,hj,rfl⟩:=qP hb
    have hjm:=aV hj
    have hjl:=DY hi hjm
    have own:st2[i]?=fin[i]?:=inv2 i hi (by
     by_cases z:i=0
     ·exact .inl z
     ·obtain ⟨pp,h1,h2⟩:=parent t i (by omega) hi
      exact .inr (.inl ⟨pp,h1,h2⟩))
    obtain ⟨si,hsi⟩:∃ si,fin[i]?=some si:=⟨fin[i]'(by omega),aE (by omega)⟩
    have hsi2:st2[i]?=some si:=own.trans hsi
    have next:fin[j]?=some (Si35.nextOf l col si (subAt t j)):=by
     cases e:subAt t i with
     | leaf m=>unfold gW at hjm;rw[e] at hjm;simp at hjm
     | node x y =>
      obtain ⟨g1,g2,g3⟩:=ou t i x y hi e
      obtain ⟨s',h1,h2,h3⟩:=Ko l col t r0 i x y hi e
      have es:s'=si:=by
       have:fin[i]?=some s':=h1
       rw[hsi] at this
       exact (aJ this).symm
      subst es
      unfold gW at hjm
      rw[e] at hjm
      rcases aI.mp hjm with q | q
      ·rw[q,g2];exact h2
      ·rw[bB.mp q,g3];exact h3
    have s17:=s12.trans s7
    have hmj:yn l col H7 (ds[j]?.getD 0) (subAt t j):=(s2.trans s7) _ _ (z1 j _ (dl j hjl.2))
    refine ⟨_,rfl,_,rfl,S,_,i,_,rfl,rfl,cG.of e9,cg (v:=iv si) (by rw[aO,hsi2];rfl),_,rfl,_,rfl,qn,_,j,_,rfl,rfl,cG.of ((s2.trans s7) _ _ e1),cg (v:=V.ref (ds[j]?.getD 0)) (by rw[aO,dl j hjl.2];rfl),_,rfl,si,ds[j]?.getD 0,c,mb l col (subAt t j),l,rfl,hmj,yq l col hne _,aD (Gn l col _) hch,hc.same s17,fun H8 q8 x8 r8 s8 hx8 hmin e10=>?_⟩
    obtain ⟨_,enx⟩:=Iw hx8 hmin
    rw[enx] at next
    refine ⟨q8,_,1,_,rfl,rfl,fN.of e10,cg (j:=1) rfl,_,rfl,_,rfl,S,_,j,j,rfl,rfl,s8 _ _ e9,NV (by rw[ae];omega),_,_,rfl,?_,?_⟩
    ·rw[aT (fun z=>by rw[z,e6] at hrp;cases hrp)]
     exact s8 _ _ e8
    ·refine ⟨(s7.trans s8).upd hS,st2.set j x8,?_,by rw[lP];exact n9,fun j' hj' hd=>?_⟩
     ·rw[aw]
      show _=some (HO.lst (eB iv _))
      rw[Fn]
     ·rw[Qw]
      by_cases z:j=j'
      ·subst z
       rw[if_pos rfl,if_pos (by omega)]
       exact next.symm
      ·rw[if_neg z]
       refine inv2 j' hj' ?_
       rcases hd with h | h | h
       ·exact .inl h
       ·exact .inr (.inl h)
       ·rw[take_snoc hj,bq,bB] at h
        rcases h with h | h
        ·exact .inr (.inr h)
        ·exact absurd h.symm z
   ·rintro σ H7 ⟨v7,v8,rfl,e8,s7,st2,e9,n9,inv2⟩
    refine ⟨_,_,_,rfl,s7,st2,e9,n9,fun j hj hd=>inv2 j hj ?_⟩
    rcases hd with h | ⟨pp,h1,h2⟩ | h
    ·exact .inl h
    ·by_cases z:pp=i
     ·subst z
      exact .inr (.inr (by rw[ae,bE];exact h2))
     ·exact .inr (.inl ⟨pp,by omega,h2⟩)
    ·simp at h
  ·rintro σ H5 ⟨v6,v7,v8,rfl,s5,st,e6,n6,inv⟩
   refine ⟨_,rfl,kfin H5 S (s12.trans s5) hSn ?_⟩
   have:st=fin:=oZ fun j=>by
    by_cases hj:j<size t
    ·refine inv j hj ?_
     by_cases z:j=0
     ·exact .inl z
     ·obtain ⟨pp,h1,h2⟩:=parent t j (by omega) hj
      exact .inr (.inl ⟨pp,by omega,h2⟩)
    ·rw[bG (by omega),bG (by omega)]
   rw[e6,this]
end
abbrev YM:d5:=top 36
abbrev MO:d5:=top 38
abbrev B1:d5:=top 39
abbrev F7:d5:=top 40
structure Dl (mg:cp→Option ag):Prop where
 max:mg "max"=none
 range:mg "range"=none
 zip:mg "zip"=none
 len:mg "len"=none
 list:mg "list"=none
 enumerate:mg "enumerate"=none
def Qg (H:Hp)(g:aj)(gs:List (List bJ)):Prop:=∃ qs:List aj,H g=some (.lst (qs.map V.ref))∧Paired (gE H) qs gs
def US:Sp:=fun vs H Q _=>∃ (p:aj) (cs:List bJ),vs=[.ref p]∧gE H p cs∧cs.length≤8∧∀ H' g,aM H H'→Qg H' g (groups cs (bC cs) (aZ (bC cs)))→Q (.ref g) H'
theorem Vt {r:List Nat}{i x:Nat}(h:r[i]?=some x):x<aZ r:=by
 have hm:=aV h
 have qg:=rX (aZ r) r
 rw[decide_eq_true (aL _),dJ] at qg
 exact of_decide_eq_true (qg x hm)
theorem AZ {α:Type}:∀ {l:List α} {i j:Nat} {a:α},l.Nodup→l[i]?=some a→l[j]?=some a→i=j
 | [],i,j,a,_,h,_=>by simp at h
 | b::l,0,0,a,_,_,_=>rfl
 | b::l,0,j+1,a,hn,h1,h2=>by
  cases aJ h1
  exact absurd (aV (l:=l) (i:=j) h2) (eX.mp hn).1
 | b::l,i+1,0,a,hn,h1,h2=>by
  cases aJ h2
  exact absurd (aV (l:=l) (i:=i) h1) (eX.mp hn).1
 | b::l,i+1,j+1,a,hn,h1,h2=>by rw[AZ (l:=l) (i:=i) (j:=j) (eX.mp hn).2 h1 h2]
theorem kL {α β:Type}{R:α→β→Prop}:∀ {l:List α} {m:List β},l.length=m.length→(∀ (i:Nat) a b,l[i]?=some a→m[i]?=some b→R a b)→Paired R l m
 | [],[],_,_=>.nil
 | [],_::_,h,_=>by simp at h
 | _::_,[],h,_=>by simp at h
 | a::l,b::m,h,hr=>.cons (hr 0 a b rfl rfl) (kL (by simpa using h) fun i x y hx hy=>hr (i+1) x y hx hy)
section
variable {P:aY}{w:bO}{K:ai}{mg:cp→Option ag}{base:bU}
theorem J6:bW ["patterns","numbers","groups","pattern","number"] ["patterns"] (bF YM):=⟨rfl,rfl,rfl,by decide +kernel,rfl,by decide +kernel,by decide +kernel⟩
theorem Xy {f f1:aj}{fd jW:bI}(F:jt K "by_old_sound" "by_old_sound" YM f fd)(T:Dl mg)
  (G1:cO P w K mg base fB 12 f1 jW ["patterns"] FL)(m1:mg "give_old_sounds"=some (.ref f1))(k1:aP K (.ref f1)=true)(b1:Binds K jW ["patterns"] []) :
  cO P w K mg base fB 13 f fd ["patterns"] US:=by
 refine F.ok J6 (fun vs H Q E h=>?_) (fun iq A outer s H vs Q E hr h=>?_)
 ·obtain ⟨p,cs,rfl,_⟩:=h
  rfl
 ·obtain ⟨p,cs,rfl,hp,hz,k⟩:=h
  refine ⟨_,aF (cw (i:=1) J6.nd rfl (bj rfl) (bY G1 hr rfl m1 k1 b1 .nil cR (ah (pv 0) aB)))
   (aF (qT (i:=2) rfl J6.nd rfl rfl (uF rfl rfl rfl rfl) (oO rfl T.range (ah (dX eL (xZ rfl (by rfl) T.max (ah (pv 1) aB) (qG lW aW)) aW) aB)) (dS (own:=[("number",4)]) (by rfl)) (fun _ _ _ _ _=>cI (i:=4) J6.nd rfl (bj rfl)) (fun _ _ _ _ _=>gq) (fun _ _ _ _ _=>cP aB))
   (aF (gp bH rfl (Gg rfl T.zip (ah (pv 0) (ah (pv 1) aB))) (yz rfl (je (cI (i:=3) J6.nd rfl (bj rfl)) (je (cI (i:=4) J6.nd rfl (bj rfl)) uI)))
    (aQ (fP (jL bK cC cB gB (cy cJ (pv 2) (pv 4) (fun _ _=>rfl)) (ah (pv 3) aB)))))
   (aQ (bL (pv 2))))),?_⟩
  obtain ⟨rs,hp1,pc⟩:=id hp
  let ns:=bC cs
  have lns:ns.length=cs.length:=zD cs
  have hN:aZ ns≤8:=aD (xk cs) hz
  have hgi:eT ns=(ns.map fun n=>((n:Nat):Int)).map V.int:=by show eB iv ns=_;rw[br];rfl
  refine cn ⟨_,rfl,p,cs,rfl,hp,hz,fun H1 q s1 e1=>?_⟩
  have e1:H1 q=some (.lst (eT ns)):=e1
  refine cn ⟨_,rfl,_,rfl,q,_,rfl,cG.of (hgi▸e1),_,1,sN ns,rfl,(aZ ns:Int),by show [V.int ((aZ ns:Int) - 1+1)]=_;rw[show (aZ ns:Int) - 1+1=(aZ ns:Int) by omega],by omega,by omega,fun D hD=>?_⟩
  rw[bR]
  refine Ec (fun i H'=>aM H1 H'∧∃ qs:List aj,H' D=some (.lst (qs.map V.ref))∧qs.length=i∧qs.Nodup∧∀ x∈qs,H1 x=none∧x≠D∧H' x=some (.lst [])) ⟨aM.new hD,[],aw,rfl,by simp,fun x h=>by simp at h⟩ (fun i H2 hi h=>?_) (fun H2 h=>?_)
  ·obtain ⟨s2,qs,e2,n2,nd2,al2⟩:=h
   refine ⟨rfl,Mp ⟨aR _,fun r dQ=>?_⟩⟩
   have s3:=aM.new (o:=.lst []) dQ
   have nrD:r≠D:=fun z=>by rw[z,e2] at dQ;cases dQ
   refine ⟨_,s3 _ _ e2,?_,(s2.trans s3).upd hD,qs++[r],by rw[aw,aX];rfl,by rw[aK,n2];rfl,?_,fun x hx=>?_⟩
   ·rw[ae,n2]
    exact aG (show i≤8 by omega) (by decide)
   ·refine Qu.mpr ⟨nd2,by simp,fun x hx y hy e=>?_⟩
    rw[bB] at hy
    have:=(al2 x hx).2.2
    rw[e,hy,dQ] at this
    cases this
   ·rcases bq.mp hx with h | h
    ·obtain ⟨a1,a2,a3⟩:=al2 x h
     exact ⟨a1,a2,by rw[aT a2];exact s3 _ _ a3⟩
    ·rw[bB.mp h]
     exact ⟨s2.free dQ,nrD,by rw[aT nrD,aw]⟩
  obtain ⟨s2,qs,e2,n2,nd2,al2⟩:=h
  have s12:=s1.trans s2
  refine ⟨_,rfl,_,rfl,p,q,_,_,rfl,cG.of (s12 _ _ hp1),cG.of (s2 _ _ e1),Jp (K:=K) (xs:=rs.map V.ref) (ys:=eT ns) (fun i σ H'=>∃ v3 v4:Option V,σ=[some (.ref p),some (.ref q),some (.ref D),v3,v4]∧aM H1 H'∧H' D=some (.lst (qs.map V.ref))∧∀ (k:Nat) (x:aj),qs[k]?=some x→∃ rs':List aj,H' x=some (.lst (rs'.map V.ref))∧Paired (ju H1) rs' (group (cs.take i) (ns.take i) k))
   ⟨none,none,rfl,s2,e2,fun k x hx=>⟨[],(al2 x (aV hx)).2.2,.nil⟩⟩ (fun i σ H' ⟨_,_,_,h,_⟩=>⟨cG.of ((s1.trans h) _ _ hp1),cG.of (h _ _ e1)⟩) ?_ ?_⟩
  ·rintro i x y σ H3 T1 hx hy ⟨v3,v4,rfl,s3,e3,inv⟩ hT
   obtain ⟨a,ha,rfl⟩:=eZ hx
   obtain ⟨c,hc,hca⟩:=cX pc ha
   obtain ⟨n,hn,rfl⟩:=qP hy
   have hnl:n<qs.length:=by rw[n2];exact Vt hn
   obtain ⟨x0,hx0⟩:∃ x0,qs[n]?=some x0:=⟨_,aE hnl⟩
   obtain ⟨rs0,er0,pr0⟩:=inv n x0 hx0
   have s4:=aM.new (o:=.tup [V.ref a,iv n]) hT
   obtain ⟨a1,a2,_⟩:=al2 x0 (aV hx0)
   refine ⟨T1,_,rfl,fN.of aw,rfl,_,_,rfl,_,_,rfl,rfl,?_⟩
   refine ⟨_,rfl,_,rfl,D,_,n,_,rfl,rfl,cG.of (s4 _ _ e3),cg (v:=V.ref x0) (by rw[aO,hx0];rfl),.inl ⟨rfl,_,cG.of (s4 _ _ er0)⟩,_,rfl,x0,_,_,rfl,rfl,s4 _ _ er0,?_,_,_,rfl,(s3.trans s4).upd a1,?_,fun k x hk=>?_⟩
   ·rw[ae,bz pr0]
    have:(group (cs.take i) (ns.take i) n).length≤8:=by
     unfold group
     rw[ae]
     refine aD (cY _ _) ?_
     rw[rL,bM]
     omega
    exact aG this (by decide)
   ·rw[aT a2.symm]
    exact s4 _ _ e3
   ·obtain ⟨rs',er,pr⟩:=inv k x hk
    have gs:=Hx hc hn k
    by_cases z:n=k
    ·subst z
     rw[hx0] at hk
     cases hk
     rw[er0] at er
     have er':rs'.map V.ref=rs0.map V.ref:=by injection er with er;injection er with er;exact er.symm
     refine ⟨rs0++[a],by rw[aw,aX];rfl,?_⟩
     rw[gs,if_pos rfl]
     exact gz (fun _ _ h=>h) (hca.same s1) pr0
    ·rw[gs,if_neg z,bV]
     have nx:x≠x0:=fun e=>by
      subst e
      exact z (AZ nd2 hx0 hk)
     exact ⟨rs',by rw[aT nx];exact s4 _ _ er,pr⟩
  ·rintro σ H3 ⟨v3,v4,rfl,s3,e3,inv⟩
   refine ⟨_,rfl,k H3 D (s1.trans s3) ⟨qs,e3,?_⟩⟩
   have lz:min (rs.map V.ref).length (eT ns).length=cs.length:=by rw[ae,ae,bz pc,lns,Nat.min_self]
   rw[lz] at inv
   have tk:ns.take cs.length=ns:=by rw[← lns,bE]
   refine kL (by unfold groups;rw[ae,c4];exact n2) fun i x g hx hg=>?_
   unfold groups at hg
   rw[aO] at hg
   have hi:i<aZ ns:=by
    have:=(bT.mp hx).1
    rw[n2] at this
    exact this
   rw[jg hi] at hg
   cases hg
   obtain ⟨rs',er,pr⟩:=inv i x hx
   rw[bE,tk] at pr
   exact ⟨rs',er,sL s3 pr⟩
end
def BL (H:Hp)(q:aj)(rows:List (List Nat)):Prop:=∃ rs:List aj,H q=some (.lst (rs.map V.ref))∧Paired (fun r row=>H r=some (.lst (eT row))) rs rows
theorem AN {H H2:Hp}{g r:aj}{ys:List V}{row:List Nat}(s:aM H H2)(hr:H2 r=some (.lst (eT row)))(ng:r≠g):∀ {rs:List aj} {rows:List (List Nat)},Paired (fun r row=>r≠g∧H r=some (.lst (eT row))) rs rows→Paired (fun r row=>r≠g∧upd H2 g (.lst ys) r=some (.lst (eT row))) (rs++[r]) (rows++[row])
 | _,_,.nil=>.cons ⟨ng,by rw[aT ng];exact hr⟩ .nil
 | _,_,.cons a t=>.cons ⟨a.1,by rw[aT a.1];exact s _ _ a.2⟩ (AN s hr ng t)
def Nn:Sp:=fun vs H Q _=>∃ (p:aj) (rows:List (List Nat)) (n:Nat),vs=[.ref p,iv n]∧BL H p rows∧rows.length≤100∧n≤6∧(∀ r∈rows,r.length≤10∧aZ r≤10)∧∀ H' q,aM H H'→BL H' q (oneMore n rows)→Q (.ref q) H'
theorem KY (n:Nat)(c:List Nat):(Ii n c).length≤n:=by unfold Ii;rw[Mj];omega
theorem D5 (n:Nat):∀ rows:List (List Nat),(oneMore n rows).length≤n*rows.length
 | []=>by simp[oneMore]
 | r::rows=>by
  have ih:=D5 n rows
  have h:=KY n r
  unfold oneMore at ih ⊢
  rw[bN,aK,ae,aS,xE]
  omega
section
variable {P:aY}{w:bO}{K:ai}{mg:cp→Option ag}{base:bU}
theorem BB:bW ["choices","how_many","longer","chosen","number"] ["choices","how_many"] (bF MO):=⟨rfl,rfl,rfl,by decide +kernel,rfl,by decide +kernel,by decide +kernel⟩
theorem RH {f:aj}{fd:bI}(F:jt K "with_one_more" "with_one_more" MO f fd)(T:Dl mg):cO P w K mg base fB 1 f fd ["choices","how_many"] Nn:=by
 refine F.ok BB (fun vs H Q E h=>?_) (fun iq A outer s H vs Q E hr h=>?_)
 ·obtain ⟨p,rows,n,rfl,_⟩:=h
  rfl
 ·obtain ⟨p,rows,n,rfl,⟨rs,hp,pr⟩,hl,hn,hrow,k⟩:=h
  refine ⟨_,aF (cw (i:=2) BB.nd rfl (bj rfl) (cP aB))
   (aF (gp bH rfl (d9 (pv 0)) (cI (i:=3) BB.nd rfl (bj rfl))
    (aQ (gp bH rfl (AR rfl T.range (ah (dX eL (xZ rfl (by rfl) T.max (ah (pv 3) aB) (qG lW aW)) aW) (ah (pv 1) aB))) (cI (i:=4) BB.nd rfl (bj rfl))
     (aQ (fP (jL bK cC cB gB (pv 2) (ah (dX jk (pv 3) (cP (ah (pv 4) aB))) aB)))))))
   (aQ (bL (pv 2)))),?_⟩
  refine cn ⟨aR _,fun g hg=>?_⟩
  have s0:aM H (upd H g (.lst [])):=aM.new hg
  let Got:Hp→List (List Nat)→Prop:=fun H' us=>aM H H'∧∃ qs:List aj,H' g=some (.lst (qs.map V.ref))∧Paired (fun r row=>r≠g∧H' r=some (.lst (eT row))) qs us
  have most:∀ i,(oneMore n (rows.take i)).length≤600:=fun i=>by
   have h1:=D5 n (rows.take i)
   have h2:(rows.take i).length≤100:=by rw[bM];omega
   exact aD h1 (aD (Nat.mul_le_mul hn h2) (by decide))
  refine ⟨_,rfl,p,rfl,⟨_,cG.of (s0 _ _ hp)⟩,iC (K:=K) (a:=p) (xs:=rs.map V.ref) (fun i σ H'=>∃ v3 v4:Option V,σ=[some (.ref p),some (iv n),some (.ref g),v3,v4]∧Got H' (oneMore n (rows.take i)))
   ⟨none,none,rfl,s0,[],aw,.nil⟩ (fun i σ H' _ ⟨_,_,_,s1,_⟩=>cG.of (s1 _ _ hp)) ?_ ?_⟩
  ·rintro i y σ H1 hi ⟨v3,v4,rfl,s1,qs,e1,p1⟩
   obtain ⟨r,nW,rfl⟩:=eZ hi
   obtain ⟨row,ht,hrt⟩:=cX pr nW
   obtain ⟨hz1,hz2⟩:=hrow row (aV ht)
   have hgi:eT row=(row.map fun n=>((n:Nat):Int)).map V.int:=by show eB iv row=_;rw[br];rfl
   refine ⟨_,rfl,_,rfl,r,_,rfl,cG.of (hgi▸s1 _ _ hrt),_,1,sN row,rfl,_,rfl,(aZ row:Int),(n:Int),by show [V.int ((aZ row:Int) - 1+1),_]=_;rw[show (aZ row:Int) - 1+1=(aZ row:Int) by omega],⟨by omega,by omega,by omega,by omega⟩,?_⟩
   have en:((n:Int) - (aZ row:Int)).toNat=n - aZ row:=by omega
   rw[en]
   refine oP (fun j σ H'=>∃ v4:Option V,σ=[some (.ref p),some (iv n),some (.ref g),some (.ref r),v4]∧Got H' (oneMore n (rows.take i)++(tf (aZ row) j).map fun x=>row++[x]))
    ⟨v4,rfl,s1,qs,e1,by show Paired _ qs (_++[]);rw[bV];exact p1⟩ ?_ ?_
   ·rintro j σ H2 hj' ⟨v4,rfl,s2,qs2,e2,p2⟩
    have ej:(aZ row:Int)+(j:Int)=((aZ row+j:Nat):Int):=by omega
    rw[ej]
    refine ⟨_,rfl,.inl ⟨rfl,_,cG.of e2⟩,_,rfl,_,rfl,(by show 1≤aA;decide),fun a ha=>?_⟩
    have t1:=aM.new (o:=.lst [iv (aZ row+j)]) ha
    refine ⟨r,a,_,_,rfl,rfl,t1 _ _ (s2 _ _ hrt),aw,?_,fun b hb=>?_⟩
    ·rw[ae]
     exact aD (show row.length+1≤11 by omega) (by decide)
    have ga:eT row++[iv (aZ row+j)]=eT (row++[aZ row+j]):=(aX (f:=iv) (l₁:=row) (l₂:=[aZ row+j])).symm
    rw[ga]
    have t2:=aM.new (o:=.lst (eT (row++[aZ row+j]))) hb
    have nb:b≠g:=fun z=>by
     rw[z,t1 _ _ e2] at hb
     cases hb
    refine ⟨g,_,_,rfl,rfl,t2 _ _ (t1 _ _ e2),?_,_,rfl,((s2.trans t1).trans t2).upd hg,qs2++[b],by rw[aw,aX];rfl,?_⟩
    ·rw[ae,bz p2,aK,ae,Mj]
     have:=most i
     exact aG (show _≤620 by omega) (by decide)
    ·rw[List.range'_concat,aX,← dB,Nat.one_mul]
     exact AN (t1.trans t2) aw nb p2
   ·rintro σ H2 ⟨v4,rfl,s2,qs2,e2,p2⟩
    refine ⟨_,_,rfl,s2,qs2,e2,?_⟩
    rw[take_snoc ht]
    unfold oneMore at p2 ⊢
    rw[gA,bN,kX,bV]
    exact p2
  ·rintro σ H1 ⟨v3,v4,rfl,s1,qs,e1,p1⟩
   refine ⟨_,rfl,k H1 g s1 ⟨qs,e1,?_⟩⟩
   rw[ae,bz pr,bE] at p1
   exact d7 (fun _ _ h=>h.2) p1
def DK:Sp:=fun vs H Q _=>∃ (p:aj) (ws:List eF) (lim:Nat),vs=[.ref p,iv lim]∧lI H p ws∧ws.flatten.length≤1000∧(az ws).length≤8∧lim≤5000000000∧∀ H',aM H H'→Q (.bl (decide (aZ (bC (az ws))≤lim))) H'
theorem AS {H:Hp}:∀ {qs:List aj} {t:List (bJ×Nat)},Paired (fun q (kv:List eD×V)=>kZ H q kv.1) qs (jA t)→Paired (ju H) qs (t.map (·.1))
 | [],[],_=>.nil
 | _::_,[],h=>by cases h
 | [],_::_,h=>by cases h
 | q::qs,kv::t,.cons a b=>.cons (ju.NG a) (AS b)
theorem sH {H:Hp}{p:aj}{qs:List aj}{ws:List eF}(hp:H p=none)(h:Paired (fun q (kv:List eD×V)=>kZ H q kv.1) qs (jA (gJ ws.flatten))):gE (upd H p (.lst (qs.map V.ref))) p (az ws):=by
 refine ⟨qs,aw,?_⟩
 have:=AS h
 rw[y4] at this
 exact sL (aM.new hp) this
theorem Ox:bW ["words","limit"] ["words","limit"] (bF B1):=⟨rfl,rfl,rfl,by decide +kernel,rfl,by decide +kernel,by decide +kernel⟩
theorem KP {f f1 f2:aj}{fd jW mG:bI}(F:jt K "are_enough" "are_enough" B1 f fd)(T:Dl mg)
  (G1:cO P w K mg base fB 1 f1 jW ["words"] pz)(m1:mg "count_places"=some (.ref f1))(k1:aP K (.ref f1)=true)(b1:Binds K jW ["words"] [])
  (G2:cO P w K mg base fB 11 f2 mG ["patterns","limit","given"] (Df 9))(m2:mg "first_way"=some (.ref f2))(k2:aP K (.ref f2)=true)(b2:Binds K mG ["patterns","limit","given"] []) :
  cO P w K mg base fB 12 f fd ["words","limit"] DK:=by
 refine F.ok Ox (fun vs H Q E h=>?_) (fun iq A outer s H vs Q E hr h=>?_)
 ·obtain ⟨p,ws,lim,rfl,_⟩:=h
  rfl
 ·obtain ⟨p,ws,lim,rfl,hp,hz,h8,hlim,k⟩:=h
  have nW:fO 1 _:=hr.mono (by decide)
  refine ⟨_,aQ (bL (pE x4 (bY G2 hr rfl m2 k2 b2 .nil cR (ah (kl (pP rfl) (by rfl) T.list sU (ah (bY G1 nW (by rfl) m1 k1 b1 .nil cR (ah (pv 0) aB)) aB)) (ah (pv 1) (ah (cP aB) aB)))) nM (cj _))),?_⟩
  refine ⟨_,rfl,p,ws,rfl,hp,hz,fun H1 t s1 _ e1=>?_⟩
  refine ⟨t,_,rfl,e1,fun qs q pq hq=>?_⟩
  have s2:=aM.new (o:=.lst (qs.map V.ref)) hq
  refine ⟨_,rfl,aR _,fun g hg=>?_⟩
  have s3:=aM.new (o:=.lst []) hg
  refine ⟨q,g,az ws,[],lim,rfl,(sH hq pq).same s3,aw,aR _,by simp;omega,by omega,hlim,aR _,fun H2 v s4 hv=>?_⟩
  have zz:gf lim ((az ws).zip []) (aZ []) ((az ws).drop ([]:List Nat).length)=gf lim [] 0 (az ws):=by
   rw[vp]
   rfl
  rw[zz] at hv
  have we:=GP lim (az ws)
  refine ⟨rfl,?_⟩
  have sa:=((s1.trans s2).trans s3).trans s4
  have kk:=k H2 sa
  rw[← we] at kk
  generalize gf lim [] 0 (az ws)=res at hv kk
  cases res with
  | none =>
   have hv:v=.hC:=hv
   subst hv
   exact kk
  | some r =>
   obtain ⟨t',rfl,_⟩:=hv
   exact kk
end
theorem Sm {K:ai}{a:aj}{xs:List V}{g:TG}{tt:TT}{te:TE}{vs:List Nat}{σ:L2.St}{H1:Hp}{D:aj}{Qd:Hp→Prop}(Pv:Nat→Hp→Prop)(h0:Pv 0 (upd H1 D (.lst [])))(hl:∀ i H,Pv i H→cG K H a xs)
  (hs:∀ i x H T,xs[i]?=some x→Pv i H→H T=none→g (.ref T) (wipe σ vs) (upd H T (.tup [.int (i:Nat),x])) fun σ2 H2=>wipe σ2 vs=wipe σ vs∧tt σ2 H2 fun b H3 =>
   if b=true then te σ2 H3 fun y H4=>∃ acc,H4 D=some (.lst acc)∧acc.length<aA∧Pv (i+1) (upd H4 D (.lst (acc++[y]))) else Pv (i+1) H3)(hd:∀ H,Pv xs.length H→Qd H) :
  ∃ W:Nat→Nat→Hp→Prop,(∃ m,W 0 m (upd H1 D (.lst [])))∧∀ i m H,W i m H →
   ((WT K a).stop i H∧Qd H)∨((WT K a).go i H∧∃ Nx:Hp→Prop,(∀ H',Nx H'→∃ m',m'<m∧W (i+1) m' H')∧∀ x H',(WT K a).zS i H x H'→g x (wipe σ vs) H' fun σ2 H2=>wipe σ2 vs=wipe σ vs∧tt σ2 H2 fun b H3 =>
    if b=true then te σ2 H3 fun y H4=>∃ acc,H4 D=some (.lst acc)∧acc.length<aA∧Nx (upd H4 D (.lst (acc++[y]))) else Nx H3):=by
 refine ⟨fun i m H=>m=xs.length - i∧i≤xs.length∧Pv i H,⟨_,rfl,aR _,h0⟩,?_⟩
 rintro i m H ⟨rfl,hi,p⟩
 have q:=hl i H p
 by_cases lt:i<xs.length
 ·have e1:xs[i]?=some (xs[i]'lt):=aE lt
  refine .inr ⟨⟨xs,_,q,e1⟩,Pv (i+1),fun H' p'=>⟨_,by omega,rfl,by omega,p'⟩,?_⟩
  rintro x H' ⟨T,u,rfl,hT,rfl,f1⟩
  exact hs i u H T (f1 xs q) p hT
 ·have e:i=xs.length:=by omega
  exact .inl ⟨⟨xs,q,by omega⟩,hd H (e▸p)⟩
theorem VN {K:ai}{a b:aj}{xs ys:List V}{g:TG}{tt:TT}{te:TE}{vs:List Nat}{σ:L2.St}{H1:Hp}{D:aj}{Qd:Hp→Prop}(Pv:Nat→Hp→Prop)(h0:Pv 0 (upd H1 D (.lst [])))(hl:∀ i H,Pv i H→cG K H a xs∧cG K H b ys)
  (hs:∀ i x y H T,xs[i]?=some x→ys[i]?=some y→Pv i H→H T=none→g (.ref T) (wipe σ vs) (upd H T (.tup [x,y])) fun σ2 H2=>wipe σ2 vs=wipe σ vs∧tt σ2 H2 fun b H3 =>
   if b=true then te σ2 H3 fun y H4=>∃ acc,H4 D=some (.lst acc)∧acc.length<aA∧Pv (i+1) (upd H4 D (.lst (acc++[y]))) else Pv (i+1) H3)(hd:∀ H,Pv (min xs.length ys.length) H→Qd H) :
  ∃ W:Nat→Nat→Hp→Prop,(∃ m,W 0 m (upd H1 D (.lst [])))∧∀ i m H,W i m H →
   ((Uc K a b).stop i H∧Qd H)∨((Uc K a b).go i H∧∃ Nx:Hp→Prop,(∀ H',Nx H'→∃ m',m'<m∧W (i+1) m' H')∧∀ x H',(Uc K a b).zS i H x H'→g x (wipe σ vs) H' fun σ2 H2=>wipe σ2 vs=wipe σ vs∧tt σ2 H2 fun b H3 =>
    if b=true then te σ2 H3 fun y H4=>∃ acc,H4 D=some (.lst acc)∧acc.length<aA∧Nx (upd H4 D (.lst (acc++[y]))) else Nx H3):=by
 refine ⟨fun i m H=>m=min xs.length ys.length - i∧i≤min xs.length ys.length∧Pv i H,⟨_,rfl,aR _,h0⟩,?_⟩
 rintro i m H ⟨rfl,hi,p⟩
 obtain ⟨q1,q2⟩:=hl i H p
 by_cases lt:i<min xs.length ys.length
 ·have e1:xs[i]?=some (xs[i]'(by omega)):=aE (by omega)
  have e2:ys[i]?=some (ys[i]'(by omega)):=aE (by omega)
  refine .inr ⟨⟨xs,ys,_,_,q1,q2,e1,e2⟩,Pv (i+1),fun H' p'=>⟨_,by omega,rfl,by omega,p'⟩,?_⟩
  rintro x H' ⟨T,u,v,rfl,hT,rfl,f1,f2⟩
  exact hs i u v H T (f1 xs q1) (f2 ys q2) p hT
 ·have e:i=min xs.length ys.length:=by omega
  exact .inl ⟨⟨xs,ys,q1,q2,by omega⟩,hd H (e▸p)⟩
theorem SF (x:Nat)(l:List Nat):WM (iv x) (eT l)=l.contains x:=by
 unfold WM eT
 rw[mH,List.contains_eq_any_beq]
 refine congrArg (fun f=>l.any f) (funext fun y=>?_)
 show ((y:Int)==(x:Int))=(x==y)
 rw[eJ,beq_iff_eq,beq_iff_eq]
 omega
theorem PC (l:List Nat):(eT l).all uB=true:=by
 unfold eT
 rw[Fo]
 exact dJ.mpr fun _ _=>rfl
theorem Jq {α:Type}(f:α→Bool):∀ (l:List α) (k:Nat) (a:α),l[k]?=some a→(∀ j b,j<k→l[j]?=some b→f b=false)→f a=true→l.find? f=some a
 | [],k,a,h,_,_=>by simp at h
 | b::l,0,a,h,_,h2=>by
  cases aJ h
  rw[cH,h2]
 | b::l,k+1,a,h,h1,h2=>by
  rw[cH,h1 0 b (by omega) rfl]
  exact Jq f l k a h (fun j c hj hc=>h1 (j+1) c (by omega) hc) h2
theorem wb {α:Type}[DecidableEq α]:∀ {l m:List α},l.Nodup→(∀ k,k∈l→k∈m)→l.length≤m.length
 | [],m,_,_=>aR _
 | a::l,m,hn,h=>by
  have ha:=h a ax
  obtain ⟨n1,n2⟩:=eX.mp hn
  have:=wb (l:=l) (m:=m.erase a) n2 fun k hk=>(tK (fun e:k=a=>n1 (e▸hk))).mpr (h k (ao _ hk))
  rw[o6 ha] at this
  have:=Fu ha
  simp
  omega
theorem wV (l:List eF)(o:List Nat):(j5 l o).Sublist l:=by
 unfold j5
 have:=(List.filter_sublist (l:=l.zipIdx) (p:=fun (x:eF×Nat)=>!o.contains x.2)).map (fun x:eF×Nat=>x.1)
 have e:l.zipIdx.map (fun x:eF×Nat=>x.1)=l:=List.zipIdx_map_fst 0 l
 rw[e] at this
 exact this
theorem qU {α:Type}:∀ {l m:List (List α)},l.Sublist m→l.flatten.Sublist m.flatten
 | _,_,.slnil=>CP _
 | _,_,.cons a h=>by rw[j9];exact (qU h).trans (List.sublist_append_right _ _)
 | _,_,.cons₂ a h=>by rw[j9,j9];exact List.Sublist.append (CP _) (qU h)
theorem Cw (l:List eF)(o:List Nat):(az (j5 l o)).length≤(az l).length:=by
 unfold az
 exact wb (HG _) fun k hk=>(ia k _).mpr ((qU (wV l o)).subset ((ia k _).mp hk))
def IE:Sp:=fun vs H Q _=>∃ (p:aj) (ws:List eF) (lim:Nat),vs=[.ref p,iv lim]∧lI H p ws∧ws.length≤6∧ws.flatten.length≤1000∧(az ws).length≤8∧lim≤5000000000∧∀ H' q,aM H H'→H' q=some (.lst (eT (k8 ws lim)))→Q (.ref q) H'
section
variable {P:aY}{w:bO}{K:ai}{mg:cp→Option ag}{base:bU}
theorem rW:bW ["words","limit","choices","left_out","others","number","places"] ["words","limit"] (bF F7):=⟨rfl,rfl,rfl,by decide +kernel,rfl,by decide +kernel,by decide +kernel⟩
theorem OZ {f f1 f2:aj}{fd jW mG:bI}(F:jt K "leave_out" "leave_out" F7 f fd)(T:Dl mg)
  (G1:cO P w K mg base fB 12 f1 jW ["words","limit"] DK)(m1:mg "are_enough"=some (.ref f1))(k1:aP K (.ref f1)=true)(b1:Binds K jW ["words","limit"] [])
  (G2:cO P w K mg base fB 1 f2 mG ["choices","how_many"] Nn)(m2:mg "with_one_more"=some (.ref f2))(k2:aP K (.ref f2)=true)(b2:Binds K mG ["choices","how_many"] []) :
  cO P w K mg base fB 13 f fd ["words","limit"] IE:=by
 refine F.ok rW (fun vs H Q E h=>?_) (fun iq A outer s H vs Q E hr h=>?_)
 ·obtain ⟨p,ws,lim,rfl,_⟩:=h
  rfl
 ·obtain ⟨p,ws,lim,rfl,hp,h6,hz,h8,hlim,k⟩:=h
  obtain ⟨qs,hp1,pw⟩:=id hp
  have nW:fO 1 _:=hr.mono (by decide)
  refine ⟨_,aF (cw (i:=2) rW.nd rfl (bj rfl) (cP (ah (cP aB) aB)))
   (aQ (mn bH (pj Ai)
    (aF (gp bH rfl (d9 (pv 2)) (cI (i:=3) rW.nd rfl (p5 rfl))
     (aF (qT (i:=4) rfl rW.nd rfl rfl (uF rfl rfl rfl rfl) (Rx rfl T.enumerate (ah (pv 0) aB)) (dS (own:=[("number",5),("places",6)]) (by rfl)) (fun _ _ _ _ _=>vA (K:=K) (i:=5) (j:=6) rfl rfl rW.nd rfl (bj rfl) rfl (bj rfl)) (fun _ _ _ _ _=>pC (bS (r:=ZK K true) CA (pv 5) (pv 3) rfl)) (fun _ _ _ _ _=>pv 6))
      (aQ (eE (pj (bY G1 hr (by rfl) m1 k1 b1 .nil cR (ah (pv 4) (ah (pv 1) aB)))) (aQ (bL (pv 3))) cU))))
    (aQ (cw (i:=2) rW.nd rfl (bj rfl) (bY G2 nW (by rfl) m2 k2 b2 .nil cR (ah (pv 2) (ah (bP bD (by rfl) T.len bb (ah (pv 0) aB)) aB))))))))
   ,?_⟩
  let n:=ws.length
  let ok:List Nat→Prop:=fun o=>aZ (bC (az (j5 ws o)))≤lim
  refine cn ⟨aR _,fun a0 ha0=>⟨(by show 1≤aA;decide),fun c0 hc0=>?_⟩⟩
  have s1:=aM.new (o:=.lst []) ha0
  have s2:=aM.new (o:=.lst [V.ref a0]) hc0
  refine ⟨fun m σ H'=>∃ (j:Nat) (c:aj) (v3 v4 v5 v6:Option V),σ=[some (.ref p),some (iv lim),some (.ref c),v3,v4,v5,v6]∧m+j=n∧aM H H'∧BL H' c (lD j n (bp n))∧∀ i<j,∀ o∈lD i n (bp n),¬ ok o,
   ⟨n,0,c0,none,none,none,none,rfl,rfl,s1.trans s2,⟨[a0],aw,by rw[CH];exact .cons (s2 _ _ aw) .nil⟩,fun i h=>by omega⟩,?_⟩
  rintro m σ H1 ⟨j,c,v3,v4,v5,v6,rfl,hm,s3,⟨cs,ec,pc⟩,bad⟩
  refine ⟨_,rfl,o9 ⟨fun σ' H'=>∃ m'<m,∃ (j:Nat) (c:aj) (v3 v4 v5 v6:Option V),σ'=[some (.ref p),some (iv lim),some (.ref c),v3,v4,v5,v6]∧m'+j=n∧aM H H'∧BL H' c (lD j n (bp n))∧∀ i<j,∀ o∈lD i n (bp n),¬ ok o,fun _ _ h=>h,?_⟩⟩
  have hcm:=pM j n (bp n)
  refine ⟨_,rfl,c,rfl,⟨_,cG.of ec⟩,iC (K:=K) (a:=c) (xs:=cs.map V.ref) (fun i σ H'=>∃ v3 v4 v5 v6:Option V,σ=[some (.ref p),some (iv lim),some (.ref c),v3,v4,v5,v6]∧aM H1 H'∧∀ l o,l<i→(lD j n (bp n))[l]?=some o→¬ ok o)
   ⟨v3,v4,v5,v6,rfl,aM.refl _,fun l o h=>by omega⟩ (fun i σ H' _ ⟨_,_,_,_,_,s4,_⟩=>cG.of (s4 _ _ ec)) ?_ ?_⟩
  ·rintro i y σ H2 hi ⟨v3,v4,v5,v6,rfl,s4,al⟩
   obtain ⟨r,dQ,rfl⟩:=eZ hi
   obtain ⟨o,ho,hro⟩:=cX pc dQ
   have s34:=s3.trans s4
   have hro2:=s4 _ _ hro
   refine cn ⟨_,rfl,p,_,rfl,cG.of (s34 _ _ hp1),fun D hD=>Sm (K:=K) (a:=p) (xs:=qs.map V.ref) (fun e H'=>aM H2 H'∧∃ rs:List aj,H' D=some (.lst (rs.map V.ref))∧Paired (gE H2) rs (((ws.zipIdx.take e).filter fun (x:eF×Nat)=>!o.contains x.2).map fun x=>x.1)) ⟨aM.new hD,[],aw,.nil⟩ (fun e H' h=>cG.of (h.1 _ _ (s34 _ _ hp1))) ?_ ?_⟩
   ·rintro e x H3 T1 he ⟨s5,rs,er,pr⟩ hT
    obtain ⟨q,hq,rfl⟩:=eZ he
    obtain ⟨wd,hw,hwa⟩:=cX pw hq
    have hzi:ws.zipIdx[e]?=some (wd,e):=by rw[List.getElem?_zipIdx,hw];simp
    have s6:=aM.new (o:=.tup [.int (e:Nat),V.ref q]) hT
    refine ⟨T1,_,rfl,fN.of aw,rfl,_,_,rfl,_,_,rfl,rfl,rfl,_,rfl,_,rfl,r,_,rfl,.inl (cG.of (s6 _ _ (s5 _ _ hro2))),rfl,PC o,?_⟩
    refine ⟨_,rfl,?_⟩
    show if (!WM (iv e) (eT o))=true then _ else _
    rw[SF]
    refine gD (fun h1=>?_) fun h1=>?_
    ·refine ⟨_,rfl,_,s6 _ _ er,?_,(s5.trans s6).upd hD,rs++[q],by rw[aw,aX];rfl,?_⟩
     ·rw[ae,bz pr,ae]
      refine aG (aD (gS _ _ _) (show ws.zipIdx.length≤6 by rw[Mi];exact h6)) (by decide)
     ·rw[fW _ hzi,if_pos h1,aX]
      exact gz (fun _ _ h=>h) (hwa.same s34) pr
    ·refine ⟨s5.trans s6,rs,s6 _ _ er,?_⟩
     rw[fW _ hzi,if_neg h1,bV]
     exact pr
   ·rintro H3 ⟨s5,rs,er,pr⟩
    have lz:(qs.map V.ref).length=ws.zipIdx.length:=by rw[ae,bz pw,Mi]
    rw[lz,bE] at pr
    have hwo:lI H3 D (j5 ws o):=⟨rs,er,pG s5 pr⟩
    refine ⟨_,rfl,_,rfl,D,_,lim,rfl,hwo,aD (qU (wV ws o)).length_le hz,aD (Cw ws o) h8,hlim,fun H4 s6=>⟨_,rfl,?_⟩⟩
    have s56:=s5.trans s6
    refine gD (fun h1=>?_) fun h1=>?_
    ·have h1:ok o:=of_decide_eq_true h1
     refine ⟨_,rfl,k H4 r (s34.trans s56) ?_⟩
     rw[Pj ws lim j o (by omega) (fun i hi o' ho'=>bad i hi o' ho') (Jq _ _ i o ho (fun l b hl hb=>decide_eq_false (al l b hl hb)) (decide_eq_true h1))]
     exact s56 _ _ hro2
    ·refine ⟨_,_,_,_,rfl,s4.trans s56,fun l o' hl ho'=>?_⟩
     by_cases z:l=i
     ·rw[z,ho] at ho'
      cases ho'
      exact fun q=>h1 (decide_eq_true q)
     ·exact al l o' (by omega) ho'
  ·rintro σ H2 ⟨v3,v4,v5,v6,rfl,s4,al⟩
   have all:∀ o∈lD j n (bp n),¬ ok o:=fun o ho=>by
    obtain ⟨l,hl⟩:=List.getElem?_of_mem ho
    exact al l o (by rw[ae,bz pc];exact (bT.mp hl).1) hl
   have hj:j<n:=by
    refine Qs (by omega) fun e=>?_
    have ca:=zF (bp n)
    rw[c4] at ca
    refine all (bp n) (by rw[e,ca];exact bB.mpr rfl) ?_
    show aZ (bC (az (j5 ws (bp ws.length))))≤lim
    rw[EF]
    exact aR _
   have ln:(qs.map V.ref).length=n:=by rw[ae,bz pw]
   refine ⟨_,rfl,_,rfl,p,_,rfl,.inl (cG.of ((s3.trans s4) _ _ hp1)),c,_,n,by rw[ln];rfl,⟨cs,s4 _ _ ec,d7 (fun r row h=>s4 _ _ h) pc⟩,?_,h6,fun r dQ=>?_,fun H3 q s5 hq=>?_⟩
   ·exact aD (uf j n _) (aD (lK (by decide) h6) (by decide))
   ·obtain ⟨l1,l2⟩:=hcm r dQ
    refine ⟨by omega,?_⟩
    have:(r.all fun k=>decide (k<n))=true:=dJ.mpr fun x hx=>decide_eq_true (dH.mp (l2 x hx))
    rw[rX] at this
    have:=of_decide_eq_true this
    omega
   ·refine ⟨m - 1,by omega,j+1,q,_,_,_,_,rfl,by omega,(s3.trans s4).trans s5,by rw[E6];exact hq,fun i hi o ho=>?_⟩
    by_cases z:i=j
    ·rw[z] at ho
     exact all o ho
    ·exact bad i (by omega) o ho
end
abbrev MS:d5:=top 65
abbrev F0:d5:=top 66
abbrev BZ:d5:=top 67
abbrev F4:d5:=top 68
abbrev ML:d5:=top 69
abbrev MW:d5:=top 70
abbrev Bw:d5:=top 71
structure qi (mg:cp→Option ag):Prop where
 len:mg "len"=none
 all:mg "all"=none
 any:mg "any"=none
 sum:mg "sum"=none
 sorted:mg "sorted"=none
 set:mg "set"=none
 list:mg "list"=none
 tuple:mg "tuple"=none
 min:mg "min"=none
 max:mg "max"=none
 range:mg "range"=none
 zip:mg "zip"=none
theorem BJ (l:List Nat):eT l=vI (QC l):=by
 unfold vI QC eT
 rw[br]
 rfl
theorem wz:bootBuiltins "all"=some (.builtin "all"):=by decide +kernel
theorem LK:bootBuiltins "any"=some (.builtin "any"):=by decide +kernel
theorem wy:bootBuiltins "sum"=some (.builtin "sum"):=by decide +kernel
theorem LJ:bootBuiltins "tuple"=some (.type "tuple"):=by decide +kernel
theorem Gw {α:Type}(l:List α)(f:α→Bool):(l.map f).all id=l.all f:=by rw[Fo];rfl
theorem Wo {α:Type}(l:List α)(f:α→Bool):(l.map f).any id=l.any f:=by rw[mH];rfl
def Nr (K:ai):Sp:=fun vs H Q _=>∃ (p:aj) (x:List Nat),vs=[.ref p]∧cG K H p (eT x)∧x.length≤1000∧∀ H',aM H H'→Q (.bl (dA x)) H'
def placeOk (n:Nat)(c:bJ):Bool:=decide (c.env≤9)&&(decide (c.sounds.length=n)&&c.sounds.all fun s=>decide (s≤mZ))
def IB:Sp:=fun vs H Q _=>∃ (p:aj) (c:bJ) (n:Nat),vs=[.ref p,iv n]∧ju H p c∧c.sounds.length≤1000∧∀ H',aM H H'→Q (.bl (placeOk n c)) H'
section
variable {P:aY}{w:bO}{K:ai}{mg:cp→Option ag}{base:bU}
theorem FT:bW ["row","sound"] ["row"] (bF MS):=⟨rfl,rfl,rfl,by decide +kernel,rfl,by decide +kernel,by decide +kernel⟩
theorem RL {f:aj}{fd:bI}(F:jt K "is_row_of_sounds" "is_row_of_sounds" MS f fd)(T:qi mg):cO P w K mg base fB 1 f fd ["row"] (Nr K):=by
 refine F.ok FT (fun vs H Q E h=>?_) (fun iq A outer s H vs Q E hr h=>?_)
 ·obtain ⟨p,x,rfl,_⟩:=h
  rfl
 ·obtain ⟨p,x,rfl,hp,hz,k⟩:=h
  refine ⟨_,aQ (bL (Gi (pE mS (bP bD (by rfl) T.len bb (ah (pv 0) aB)) aW (cj _))
   (NC (bP (Gu rfl) (by rfl) T.all wz (ah (jc rfl FT.nd (d9 (pv 0)) (dS (own:=[("sound",1)]) (by rfl)) (fun _ _ _ _ _=>cI (i:=1) FT.nd rfl (bj rfl)) (fun _ _ _ _ _=>gq) (fun _ _ _ _ _=>ON mS mS aW (pv 1) aW)) aB))))),?_⟩
  have hl:((eT x).length:Int)=(x.length:Int):=by rw[ae]
  refine ⟨_,rfl,p,_,rfl,.inl hp,_,_,rfl,rfl,_,rfl,?_⟩
  rw[hl]
  unfold dA at k
  refine gD (fun h1=>?_) fun h1=>?_
  ·refine ⟨_,rfl,p,rfl,⟨_,hp⟩,fun D hD=>pF (fun _=>true) (fun v=>match v with | .int k=>V.bl (decide (2≤k)&&decide (k≤99)) | _=>.hC) hD hp (by rw[ae];exact aG hz (by decide)) (fun x=>rfl) (fun x _ H1 _ R hR=>hR _ (aM.refl _)) (fun v hv _ H1 s1 R hR=>?_) (fun H1 s1 e1=>?_)⟩
   ·obtain ⟨y,_,rfl⟩:=aU.mp hv
    refine ⟨_,rfl,_,_,rfl,rfl,_,rfl,?_⟩
    have q:=hR H1 (aM.refl _)
    refine gD (fun h2=>?_) fun h2=>?_
    ·refine ⟨_,_,rfl,rfl,?_⟩
     have q:R (V.bl (decide ((2:Int)≤(y:Int))&&decide ((y:Int)≤99))) H1:=q
     rw[h2] at q
     exact q
    ·have q:R (V.bl (decide ((2:Int)≤(y:Int))&&decide ((y:Int)≤99))) H1:=q
     rw[kY] at h2
     rw[h2] at q
     exact q
   ·rw[kz,br] at e1
    have ef:x.map ((fun v=>match v with | .int k=>V.bl (decide (2≤k)&&decide (k≤99)) | _=>.hC)∘iv)=(x.map fun s=>decide (2≤s)&&decide (s≤mZ)).map V.bl:=by
     rw[br]
     refine dm fun y _=>?_
     show V.bl (decide ((2:Int)≤(y:Int))&&decide ((y:Int)≤99))=V.bl (decide (2≤y)&&decide (y≤99))
     rw[show decide ((2:Int)≤(y:Int))=decide (2≤y) from decide_eq_decide.mpr (by omega),show decide ((y:Int)≤99)=decide (y≤99) from decide_eq_decide.mpr (by omega)]
    rw[ef] at e1
    refine ⟨D,_,rfl,cG.of e1,?_⟩
    have q:=k H1 s1
    rw[decide_eq_true (show x.length≤6 by have:=of_decide_eq_true h1;omega),jy] at q
    rw[Gw]
    exact q
  ·have q:=k H (aM.refl _)
   rw[decide_eq_false (show ¬ x.length≤6 from fun e=>h1 (decide_eq_true (by omega))),ip] at q
   exact q
theorem BS:bW ["place","languages","sound"] ["place","languages"] (bF F0):=⟨rfl,rfl,rfl,by decide +kernel,rfl,by decide +kernel,by decide +kernel⟩
theorem OU {f:aj}{fd:bI}(F:jt K "is_place" "is_place" F0 f fd)(T:qi mg):cO P w K mg base fB 1 f fd ["place","languages"] IB:=by
 refine F.ok BS (fun vs H Q E h=>?_) (fun iq A outer s H vs Q E hr h=>?_)
 ·obtain ⟨p,c,n,rfl,_⟩:=h
  rfl
 ·obtain ⟨p,c,n,rfl,⟨b,hp,hb⟩,hz,k⟩:=h
  refine ⟨_,aQ (bL (Gi (pE mS (cy dO (pv 0) aW (fun _ _=>rfl)) aW (cj _))
   (Gi (pE gw (bP bD (by rfl) T.len bb (ah (cy dO (pv 0) aW (fun _ _=>rfl)) aB)) (pv 1) (cj _))
   (NC (bP (Gu rfl) (by rfl) T.all wz (ah (jc rfl BS.nd (NB (cy dO (pv 0) aW (fun _ _=>rfl))) (dS (own:=[("sound",2)]) (by rfl)) (fun _ _ _ _ _=>cI (i:=2) BS.nd rfl (bj rfl)) (fun _ _ _ _ _=>gq) (fun _ _ _ _ _=>pE mS (pv 2) aW (cj _))) aB)))))),?_⟩
  have hl:((eT c.sounds).length:Int)=(c.sounds.length:Int):=by rw[ae]
  have i1:Ia [iv c.env,V.ref b] 1=some (.ref b):=rfl
  refine ⟨_,rfl,p,_,0,_,rfl,rfl,fN.of hp,rfl,_,_,rfl,rfl,_,rfl,?_⟩
  unfold placeOk at k
  refine gD (fun h1=>?_) fun h1=>?_
  ·rw[decide_eq_true (show c.env≤9 by have:=of_decide_eq_true h1;omega),jy] at k
   refine ⟨_,rfl,p,_,1,_,rfl,rfl,fN.of hp,i1,b,_,rfl,.inr (fN.of hb),_,rfl,rfl,_,rfl,?_⟩
   rw[hl]
   refine gD (fun h2=>?_) fun h2=>?_
   ·have h2:c.sounds.length=n:=by
     have:=pk.mp h2
     omega
    rw[decide_eq_true h2,jy] at k
    refine ⟨_,rfl,p,_,1,_,rfl,rfl,fN.of hp,i1,b,rfl,⟨_,fN.of hb⟩,fun D hD=>Jf (fun _=>true) (fun v=>match v with | .int k=>V.bl (decide (k≤99)) | _=>.hC) hD (fN.of hb) (by rw[ae];exact aG hz (by decide)) (fun x=>rfl) (fun x _ H1 _ R hR=>hR _ (aM.refl _)) (fun v hv _ H1 s1 R hR=>?_) (fun H1 s1 e1=>?_)⟩
    ·obtain ⟨y,_,rfl⟩:=aU.mp hv
     exact ⟨_,rfl,_,_,rfl,rfl,hR H1 (aM.refl _)⟩
    ·rw[kz,br] at e1
     have ef:c.sounds.map ((fun v=>match v with | .int k=>V.bl (decide (k≤99)) | _=>.hC)∘iv)=(c.sounds.map fun s=>decide (s≤mZ)).map V.bl:=by
      rw[br]
      refine dm fun y _=>?_
      show V.bl (decide ((y:Int)≤99))=V.bl (decide (y≤99))
      rw[show decide ((y:Int)≤99)=decide (y≤99) from decide_eq_decide.mpr (by omega)]
     rw[ef] at e1
     refine ⟨D,_,rfl,cG.of e1,?_⟩
     rw[Gw]
     exact k H1 s1
   ·rw[decide_eq_false (show ¬ c.sounds.length=n from fun e=>h2 (pk.mpr (by omega))),ip] at k
    exact k H (aM.refl _)
  ·rw[decide_eq_false (show ¬ c.env≤9 from fun e=>h1 (decide_eq_true (by omega))),ip] at k
   exact k H (aM.refl _)
end
def DI (K:ai):Sp:=fun vs H Q _=>∃ (p:aj) (wd:eF),vs=[.ref p]∧cG K H p (eT (wd.flatMap J9))∧wd.length≤12∧(∀ c∈wd,c.sounds.length≤12)∧∀ H' q,aM H H'→H q=none→gE H' q wd→Q (.ref q) H'
def JG (H:Hp)(q:aj)(l:List (Nat×Nat)):Prop:=∃ rs:List aj,H q=some (.lst (rs.map V.ref))∧Paired (fun r (p:Nat×Nat)=>H r=some (.tup [iv p.1,iv p.2])) rs l
def IC (K:ai):Sp:=fun vs H Q _=>∃ (p:aj) (l:List (Nat×Nat)),vs=[.ref p]∧cG K H p (eT (l.flatMap fun p=>[p.1,p.2]))∧l.length≤12∧∀ H' q,aM H H'→H q=none→JG H' q l→Q (.ref q) H'
def Im (H:Hp)(q:aj)(xs:List (List Int)):Prop:=∃ rs:List aj,H q=some (.lst (rs.map V.ref))∧Paired (fun r x=>H r=some (.lst (vI x))) rs xs
def Uv (H0 H:Hp)(q:aj)(xs:List (List Int)):Prop:=∃ rs:List aj,H q=some (.lst (rs.map V.ref))∧Paired (fun r x=>H0 r=none∧H r=some (.lst (vI x))) rs xs
def Nk (K:ai):Sp:=fun vs H Q _=>∃ (p:aj) (cs:List Int) (a k:Nat) (xs:List (List Int)) (t:List Int),vs=[.ref p,iv a,iv k]∧cG K H p (vI cs)∧cs.drop a=og xs++t∧xs.length=k∧k≤10∧∀ H' q,aM H H'→H q=none→Uv H H' q xs→Q (.ref q) H'
theorem Lb {lo c:Int}{n:Nat}{g:TG}{tt:TT}{te:TE}{vs:List Nat}{σ:L2.St}{H1:Hp}{D:aj}{Qd:Hp→Prop}(Pv:Nat→Hp→Prop)(h0:Pv 0 (upd H1 D (.lst [])))
  (hs:∀ i H,i<n→Pv i H→g (.int (lo+(i:Nat)*c)) (wipe σ vs) H fun σ2 H2=>wipe σ2 vs=wipe σ vs∧tt σ2 H2 fun b H3 =>
   if b=true then te σ2 H3 fun y H4=>∃ acc,H4 D=some (.lst acc)∧acc.length<aA∧Pv (i+1) (upd H4 D (.lst (acc++[y]))) else Pv (i+1) H3)(hd:∀ H,Pv n H→Qd H) :
  ∃ W:Nat→Nat→Hp→Prop,(∃ m,W 0 m (upd H1 D (.lst [])))∧∀ i m H,W i m H →
   ((Ue lo c n).stop i H∧Qd H)∨((Ue lo c n).go i H∧∃ Nx:Hp→Prop,(∀ H',Nx H'→∃ m',m'<m∧W (i+1) m' H')∧∀ x H',(Ue lo c n).zS i H x H'→g x (wipe σ vs) H' fun σ2 H2=>wipe σ2 vs=wipe σ vs∧tt σ2 H2 fun b H3 =>
    if b=true then te σ2 H3 fun y H4=>∃ acc,H4 D=some (.lst acc)∧acc.length<aA∧Nx (upd H4 D (.lst (acc++[y]))) else Nx H3):=by
 refine ⟨fun i m H=>m=n - i∧i≤n∧Pv i H,⟨_,rfl,aR _,h0⟩,?_⟩
 rintro i m H ⟨rfl,hi,p⟩
 by_cases lt:i<n
 ·refine .inr ⟨lt,Pv (i+1),fun H' p'=>⟨_,by omega,rfl,by omega,p'⟩,?_⟩
  rintro x H' ⟨rfl,rfl⟩
  exact hs i H' lt p
 ·have e:i=n:=by omega
  exact .inl ⟨show n≤i by omega,hd H (e▸p)⟩
theorem Vp:∀ m:Nat,m≤12→UQ 0 (2*(m:Int)) 2 m:=by
 have h:∀ m:Fin 13,zW 0 (2*((m.val:Nat):Int)) 2=true∧gZ 0 (2*((m.val:Nat):Int)) 2=(m.val:Nat):=by decide +kernel
 exact fun m hm=>⟨by decide,by decide,h ⟨m,by omega⟩⟩
theorem AV:∀ (l:List (Nat×Nat)) (i:Nat) (p:Nat×Nat),l[i]?=some p→(l.flatMap fun p=>[p.1,p.2])[2*i]?=some p.1∧(l.flatMap fun p=>[p.1,p.2])[2*i+1]?=some p.2
 | [],i,p,h=>by simp at h
 | q::l,0,p,h=>by
  cases aJ h
  exact ⟨rfl,rfl⟩
 | q::l,i+1,p,h=>by
  have:=AV l i p h
  rw[bN,show 2*(i+1)=2*i+1+1 by omega]
  exact this
theorem pairs_len (l:List (Nat×Nat)):(l.flatMap fun p=>[p.1,p.2]).length=2*l.length:=by
 induction l with
 | nil=>rfl
 | cons p l ih=>rw[bN,aK,ih];simp;omega
section
variable {P:aY}{w:bO}{K:ai}{mg:cp→Option ag}{base:bU}
theorem BU:bW ["row","at"] ["row"] (bF F4):=⟨rfl,rfl,rfl,by decide +kernel,rfl,by decide +kernel,by decide +kernel⟩
theorem OW {f:aj}{fd:bI}(F:jt K "read_pairs" "read_pairs" F4 f fd)(T:qi mg):cO P w K mg base fB 1 f fd ["row"] (IC K):=by
 refine F.ok BU (fun vs H Q E h=>?_) (fun iq A outer s H vs Q E hr h=>?_)
 ·obtain ⟨p,l,rfl,_⟩:=h
  rfl
 ·obtain ⟨p,l,rfl,hp,hz,k⟩:=h
  refine ⟨_,aQ (bL (jc rfl BU.nd (sG rfl T.range (ah aW (ah (bP bD (by rfl) T.len bb (ah (pv 0) aB)) (ah aW aB)))) (dS (own:=[("at",1)]) (by rfl)) (fun _ _ _ _ _=>cI (i:=1) BU.nd rfl (bj rfl)) (fun _ _ _ _ _=>gq) (fun _ _ _ _ _=>jj (ah (cy (r:=J7 K) cJ (pv 0) (pv 1) (fun _ _=>rfl)) (ah (cy (r:=J7 K) cJ (pv 0) (dX eL (pv 1) aW) (fun _ _=>rfl)) aB))))),?_⟩
  have hl:((eT (l.flatMap fun p=>[p.1,p.2])).length:Int)=2*(l.length:Int):=by rw[ae,pairs_len];omega
  refine ⟨_,rfl,p,_,rfl,.inl hp,0,_,2,l.length,by rw[hl],Vp _ hz,fun D hD=>Lb (fun i H'=>aM H H'∧∃ rs:List aj,H' D=some (.lst (rs.map V.ref))∧Paired (fun r (p:Nat×Nat)=>H' r=some (.tup [iv p.1,iv p.2])) rs (l.take i)) ⟨aM.new hD,[],aw,.nil⟩ (fun i H1 hi h=>?_) (fun H1 h=>?_)⟩
  ·obtain ⟨s1,rs,e1,p1⟩:=h
   obtain ⟨⟨a,b⟩,hab⟩:∃ q,l[i]?=some q:=⟨_,aE hi⟩
   obtain ⟨g1,g2⟩:=AV l i _ hab
   have ei:(0:Int)+(i:Nat)*2=((2*i:Nat):Int):=by omega
   rw[ei]
   have a1:(eT (l.flatMap fun p=>[p.1,p.2]))[2*i]?=some (iv a):=by rw[aO,g1];rfl
   have a2:(eT (l.flatMap fun p=>[p.1,p.2]))[2*i+1]?=some (iv b):=by rw[aO,g2];rfl
   refine ⟨rfl,Mp ⟨_,rfl,_,rfl,p,_,_,_,rfl,rfl,s1.seq hp,cg a1,_,rfl,_,rfl,_,_,rfl,rfl,p,_,((2*i+1:Nat):Int),_,rfl,by congr 1,s1.seq hp,cg a2,(by show 2≤aA;decide),fun t ht=>?_⟩⟩
   have s2:=aM.new (o:=.tup [iv a,iv b]) ht
   have nt:t≠D:=fun z=>by rw[z,e1] at ht;cases ht
   refine ⟨_,s2 _ _ e1,?_,(s1.trans s2).upd hD,rs++[t],by rw[aw,aX];rfl,?_⟩
   ·rw[ae,bz p1,bM]
    exact aG (show _≤12 by omega) (by decide)
   ·rw[take_snoc hab]
    refine gz (fun r q h=>?_) (by rw[aT nt];exact aw) p1
    rw[aT (ik h e1 (by intro z;cases z))]
    exact s2 _ _ h
  ·obtain ⟨s1,rs,e1,p1⟩:=h
   rw[bE] at p1
   exact k H1 D s1 hD ⟨rs,e1,p1⟩
theorem BA:bW ["calls","at","how_many","rows","end"] ["calls","at","how_many"] (bF ML):=⟨rfl,rfl,rfl,by decide +kernel,rfl,by decide +kernel,by decide +kernel⟩
theorem RE {f:aj}{fd:bI}(F:jt K "read_rows" "read_rows" ML f fd)(T:qi mg):cO P w K mg base fB 1 f fd ["calls","at","how_many"] (Nk K):=by
 refine F.ok BA (fun vs H Q E h=>?_) (fun iq A outer s H vs Q E hr h=>?_)
 ·obtain ⟨p,cs,a,k,xs,t,rfl,_⟩:=h
  rfl
 ·obtain ⟨p,cs,a,n,xs,t,rfl,hp,hd,hn,hz,k⟩:=h
  refine ⟨_,aF (cw (i:=3) BA.nd rfl (bj rfl) (cP aB))
   (aF (mn bH (bS wO (bP bD (by rfl) T.len bb (ah (pv 3) aB)) (pv 2) (cj _))
    (aF (cw (i:=4) BA.nd rfl (bj rfl) (dX eL (dX eL (pv 1) aW) (cy cJ (pv 0) (pv 1) (fun _ _=>rfl))))
    (aF (fP (jL bK cC cB gB (pv 3) (ah (oC rT (pv 0) (kJ (dX eL (pv 1) aW)) (kJ (pv 4))) aB)))
    (aQ (cw (i:=1) BA.nd rfl (bj rfl) (pv 4))))))
   (aQ (bL (pv 3)))),?_⟩
  refine cn ⟨aR _,fun g hg=>?_⟩
  have s0:aM H (upd H g (.lst [])):=aM.new hg
  let Iv:Nat→L2.St→Hp→Prop:=fun m σ H'=>∃ (i b:Nat) (v4:Option V),σ=[some (.ref p),some (iv b),some (iv n),some (.ref g),v4]∧m+i=n∧cs.drop b=og (xs.drop i)++t∧aM H H'∧∃ rs:List aj,H' g=some (.lst (rs.map V.ref))∧Paired (fun r x=>H r=none∧r≠g∧H' r=some (.lst (vI x))) rs (xs.take i)
  refine iL (fun σ H'=>∃ (b:Nat) (v4:Option V),σ=[some (.ref p),some (iv b),some (iv n),some (.ref g),v4]∧aM H H'∧Uv H H' g xs) (fun go=>?_) ?_
  ·refine ⟨Iv,⟨n,0,a,none,rfl,rfl,hd,s0,[],aw,.nil⟩,?_⟩
   rintro m σ H1 ⟨i,b,v4,rfl,hm,hb,s1,rs,e1,p1⟩
   have lr:(rs.map V.ref).length=i:=by rw[ae,bz p1,bM];omega
   refine ⟨_,rfl,g,_,rfl,.inl (cG.of e1),_,rfl,_,_,rfl,rfl,_,rfl,?_⟩
   rw[lr]
   refine gD (fun h1=>?_) fun h1=>?_
   ·have hi:i<xs.length:=by
     have:=of_decide_eq_true h1
     omega
    refine ⟨fun σ' H'=>∃ m',m'<m∧Iv m' σ' H',fun σ' H' h=>h,?_⟩
    obtain ⟨x,hx⟩:∃ x,xs[i]?=some x:=⟨_,aE hi⟩
    have hdx:xs.drop i=x::xs.drop (i+1):=by
     rw[dt hi]
     congr 1
     rw[aE hi] at hx
     exact aJ hx
    have hb':cs.drop b=(x.length:Int)::(x++(og (xs.drop (i+1))++t)):=by
     rw[hb,hdx]
     unfold og Q0
     rw[bN]
     simp
    have lcs:b+1+x.length≤cs.length:=by
     have:=congrArg dF hb'
     rw[cq,aS,aK] at this
     omega
    have g0:(vI cs)[b]?=some (V.int (x.length:Int)):=by
     have:cs[b]?=some (x.length:Int):=by
      have:=congrArg (fun l=>l[0]?) hb'
      simp only[nD] at this
      exact this
     exact tR this
    refine cn ⟨_,rfl,_,_,rfl,rfl,_,rfl,_,rfl,p,_,b,_,rfl,rfl,s1.seq hp,cg g0,_,_,rfl,rfl,?_⟩
    refine ⟨_,rfl,.inl ⟨rfl,_,cG.of e1⟩,_,rfl,_,rfl,_,_,rfl,rfl,((b+1:Nat):Int),rfl,_,rfl,((b+1+x.length:Nat):Int),rfl,p,_,rfl,s1.seq hp,fun q hq=>?_⟩
    rw[yb cs (by omega) lcs]
    have ecut:(cs.drop (b+1)).take (b+1+x.length - (b+1))=x:=by
     have:=congrArg (ja 1) hb'
     rw[fD] at this
     rw[this,gk]
     simp
    rw[ecut]
    have s2:=aM.new (o:=.lst (vI x)) hq
    have nq:q≠g:=fun z=>by rw[z,e1] at hq;cases hq
    refine ⟨g,_,_,rfl,rfl,s2 _ _ e1,by rw[lr];exact aG (show i≤10 by omega) (by decide),?_⟩
    refine ⟨_,rfl,m - 1,by have:=of_decide_eq_true h1;omega,i+1,b+1+x.length,_,rfl,by have:=of_decide_eq_true h1;omega,?_,(s1.trans s2).upd hg,rs++[q],by rw[aw,aX];rfl,?_⟩
    ·have:=congrArg (ja (1+x.length)) hb'
     rw[fD] at this
     rw[pS,this,mO 1,mF,il]
    ·rw[take_snoc hx]
     exact gz (fun r y h=>⟨h.1,h.2.1,by rw[aT h.2.1];exact s2 _ _ h.2.2⟩) ⟨s1.free hq,nq,by rw[aT nq];exact aw⟩ p1
   ·have hi:i=xs.length:=by
     have:¬ (i:Int)<(n:Int):=fun e=>h1 (decide_eq_true e)
     omega
    refine go _ _ ⟨b,v4,rfl,s1,rs,e1,?_⟩
    rw[hi,bE] at p1
    exact d7 (fun _ _ h=>⟨h.1,h.2.2⟩) p1
  ·rintro σ H1 ⟨b,v4,rfl,s1,r⟩
   exact ⟨_,rfl,k H1 g s1 hg r⟩
theorem qS:bW ["row","places","at","end"] ["row"] (bF BZ):=⟨rfl,rfl,rfl,by decide +kernel,rfl,by decide +kernel,by decide +kernel⟩
theorem KN {f:aj}{fd:bI}(F:jt K "read_places" "read_places" BZ f fd)(T:qi mg):cO P w K mg base fB 1 f fd ["row"] (DI K):=by
 refine F.ok qS (fun vs H Q E h=>?_) (fun iq A outer s H vs Q E hr h=>?_)
 ·obtain ⟨p,wd,rfl,_⟩:=h
  rfl
 ·obtain ⟨p,wd,rfl,hp,hz,hs,k⟩:=h
  refine ⟨_,aF (cw (i:=1) qS.nd rfl (bj rfl) (cP aB))
   (aF (cw (i:=2) qS.nd rfl (bj rfl) aW)
   (aF (mn bH (bS wO (pv 2) (bP bD (by rfl) T.len bb (ah (pv 0) aB)) (cj _))
    (aF (cw (i:=3) qS.nd rfl (bj rfl) (dX eL (dX eL (pv 2) aW) (cy cJ (pv 0) (dX eL (pv 2) aW) (fun _ _=>rfl))))
    (aF (fP (jL bK cC cB gB (pv 1) (ah (jj (ah (cy cJ (pv 0) (pv 2) (fun _ _=>rfl)) (ah (kl Ab (by rfl) T.tuple LJ (ah (oC rT (pv 0) (kJ (dX eL (pv 2) aW)) (kJ (pv 3))) aB)) aB))) aB)))
    (aQ (cw (i:=2) qS.nd rfl (bj rfl) (pv 3))))))
   (aQ (bL (pv 1))))),?_⟩
  refine cn ⟨aR _,fun g hg=>cn ?_⟩
  have s0:aM H (upd H g (.lst [])):=aM.new hg
  let row:=wd.flatMap J9
  let Iv:Nat→L2.St→Hp→Prop:=fun m σ H'=>∃ (i b:Nat) (v3:Option V),σ=[some (.ref p),some (.ref g),some (iv b),v3]∧m+i=wd.length∧row.drop b=(wd.drop i).flatMap J9∧b≤row.length∧aM H H'∧∃ rs:List aj,H' g=some (.lst (rs.map V.ref))∧Paired (ju H') rs (wd.take i)
  refine iL (fun σ H'=>∃ (b:Nat) (v3:Option V),σ=[some (.ref p),some (.ref g),some (iv b),v3]∧aM H H'∧gE H' g wd) (fun go=>?_) ?_
  ·refine ⟨Iv,⟨wd.length,0,0,none,rfl,rfl,rfl,aR _,s0,[],aw,.nil⟩,?_⟩
   rintro m σ H1 ⟨i,b,v3,rfl,hm,hb,hbl,s1,rs,e1,p1⟩
   have lr:(rs.map V.ref).length=i:=by rw[ae,bz p1,bM];omega
   have ll:((eT row).length:Int)=(row.length:Int):=by rw[ae]
   refine ⟨_,rfl,_,rfl,p,_,rfl,.inl (s1.seq hp),_,_,rfl,rfl,_,rfl,?_⟩
   show if decide ((b:Int)<((eT row).length:Int))=true then _ else _
   rw[ll]
   by_cases hi:i<wd.length
   ·obtain ⟨c,hc⟩:∃ c,wd[i]?=some c:=⟨_,aE hi⟩
    have hdx:wd.drop i=c::wd.drop (i+1):=by
     rw[dt hi]
     congr 1
     rw[aE hi] at hc
     exact aJ hc
    have hb':row.drop b=c.env::c.sounds.length::(c.sounds++(wd.drop (i+1)).flatMap J9):=by
     rw[hb,hdx,bN]
     rfl
    have lcs:b+2+c.sounds.length≤row.length:=by
     have:=congrArg dF hb'
     rw[cq,aS,aS,aK] at this
     omega
    rw[decide_eq_true (by omega)]
    refine o9 ⟨fun σ' H'=>∃ m',m'<m∧Iv m' σ' H',fun σ' H' h=>h,?_⟩
    have g0:(eT row)[b+0]?=some (iv c.env):=uJ hb' rfl
    have g1:(eT row)[b+1]?=some (iv c.sounds.length):=uJ hb' rfl
    refine cn ⟨_,rfl,_,_,rfl,rfl,_,rfl,_,rfl,_,_,rfl,rfl,p,_,((b+1:Nat):Int),_,rfl,rfl,s1.seq hp,cg g1,_,_,rfl,rfl,?_⟩
    refine ⟨_,rfl,.inl ⟨rfl,_,cG.of e1⟩,_,rfl,_,rfl,p,_,b,_,rfl,rfl,s1.seq hp,cg g0,_,rfl,_,rfl,_,_,rfl,rfl,((b+2:Nat):Int),rfl,_,rfl,((b+2+c.sounds.length:Nat):Int),rfl,p,_,rfl,s1.seq hp,fun q hq=>?_⟩
    have ecut:zZ (eT row) (some ((b+2:Nat):Int)) (some ((b+2+c.sounds.length:Nat):Int))=eT c.sounds:=by
     rw[BJ row,yb (QC row) (by unfold QC;rw[ae];omega) (by unfold QC;rw[ae];omega)]
     have e2:=congrArg (ja 2) hb'
     rw[fD] at e2
     unfold QC
     rw[← List.map_drop,e2,gk,BJ]
     show vI (List.take c.sounds.length (eB _ (c.sounds++_)))=vI (QC c.sounds)
     rw[aX]
     congr 1
     unfold QC
     rw[show c.sounds.length=(c.sounds.map fun (n:Nat)=>(n:Int)).length by rw[ae],nA]
    rw[ecut]
    have s2:=aM.new (o:=.lst (eT c.sounds)) hq
    refine ⟨q,_,rfl,.inl ⟨cG.of aw,fun t ht=>?_⟩⟩
    have s3:=aM.new (o:=.tup (eT c.sounds)) ht
    refine ⟨(by show 2≤aA;decide),fun u hu=>?_⟩
    have s4:=aM.new (o:=.tup [iv c.env,.ref t]) hu
    have s24:=(s2.trans s3).trans s4
    have eg:=s24 _ _ e1
    refine ⟨g,_,_,rfl,rfl,eg,by rw[lr];exact aG (show i≤12 by omega) (by decide),?_⟩
    have cup:∀ (zs:List V) (r:aj) (c':bJ) (H5:Hp),ju H5 r c'→H5 g=some (.lst (rs.map V.ref))→ju (upd H5 g (.lst zs)) r c':=fun zs r c' H5 ⟨d,d1,d2⟩ hg5=>⟨d,by rw[aT (ik d1 hg5 (by intro z;cases z))];exact d1,by rw[aT (ik d2 hg5 (by intro z;cases z))];exact d2⟩
    refine ⟨_,rfl,m - 1,by omega,i+1,b+2+c.sounds.length,_,rfl,by omega,?_,lcs,(s1.trans s24).upd hg,rs++[u],by rw[aw,aX];rfl,?_⟩
    ·have:=congrArg (ja (2+c.sounds.length)) hb'
     rw[fD] at this
     rw[pS,this,mO 2,mF,mF,il]
    ·rw[take_snoc hc]
     exact gz (fun r c' h=>cup _ r c' _ (h.same s24) eg) (cup _ u c _ ⟨t,aw,s4 _ _ aw⟩ eg) p1
   ·have hi:i=wd.length:=by omega
    have:b=row.length:=by
     have:=congrArg dF hb
     rw[hi,p9,cq] at this
     have z:([]:List bJ).flatMap J9=[]:=rfl
     rw[z,eG] at this
     omega
    rw[decide_eq_false (by omega)]
    refine nI (go _ _ ⟨b,v3,rfl,s1,rs,e1,?_⟩)
    rw[hi,bE] at p1
    exact p1
  ·rintro σ H1 ⟨b,v3,rfl,s1,r⟩
   exact ⟨_,rfl,k H1 g s1 hg r⟩
end
abbrev qh:d5:=top 64
abbrev MQ:d5:=inClass qh 0
abbrev FY:d5:=inClass qh 1
abbrev B5:d5:=inClass qh 2
abbrev MV:d5:=inClass qh 3
abbrev yJ:d5:=inClass qh 4
abbrev MI:d5:=inClass qh 5
abbrev vZ:d5:=inClass qh 6
abbrev F5:d5:=inClass qh 7
abbrev BY:d5:=inClass qh 8
abbrev v9:d5:=inClass qh 9
abbrev B0:d5:=inClass qh 10
abbrev FX:d5:=inClass qh 11
abbrev vY:d5:=inClass qh 12
abbrev BX:d5:=inClass qh 13
abbrev yH:d5:=inClass qh 14
abbrev MM:d5:=inClass qh 15
abbrev yG:d5:=inClass qh 16
abbrev MX:d5:=inClass qh 17
def ff (n told:Nat)(c w:aj)(tt:V):List (cp×V):=[("languages",iv n),("told",iv told),("costs",.ref c),("words",.ref w),("told_tree",tt)]
theorem iu (k k':cp)(v:V)(l:List (cp×V))(h:¬ k=k'):((k',v)::l).lookup k=l.lookup k:=by
 rw[fV]
 rw[show (k==k')=false from beq_eq_false_iff_ne.mpr h]
theorem uK (k:cp)(v:V)(l:List (cp×V)):((k,v)::l).lookup k=some v:=by rw[fV,show (k==k)=true from beq_self_eq_true k]
theorem uO (n told c w tt):(ff n told c w tt).lookup ("languages":cp)=some (iv n):=uK ..
theorem Cg (n told c w tt):(ff n told c w tt).lookup ("told":cp)=some (iv told):=by
 unfold ff
 rw[iu _ _ _ _ (by decide +kernel),uK]
theorem qV (n told c w tt):(ff n told c w tt).lookup ("costs":cp)=some (.ref c):=by
 unfold ff
 rw[iu _ _ _ _ (by decide +kernel),iu _ _ _ _ (by decide +kernel),uK]
theorem gX (n told c w tt):(ff n told c w tt).lookup ("words":cp)=some (.ref w):=by
 unfold ff
 rw[iu _ _ _ _ (by decide +kernel),iu _ _ _ _ (by decide +kernel),iu _ _ _ _ (by decide +kernel),uK]
theorem uN (n told c w tt):(ff n told c w tt).lookup ("told_tree":cp)=some tt:=by
 unfold ff
 rw[iu _ _ _ _ (by decide +kernel),iu _ _ _ _ (by decide +kernel),iu _ _ _ _ (by decide +kernel),iu _ _ _ _ (by decide +kernel),uK]
theorem Ak (n told c w tt){m:cp}(h1:¬ m="languages")(h2:¬ m="told")(h3:¬ m="costs")(h4:¬ m="words")(h5:¬ m="told_tree"):(ff n told c w tt).lookup m=none:=by
 unfold ff
 rw[iu _ _ _ _ h1,iu _ _ _ _ h2,iu _ _ _ _ h3,iu _ _ _ _ h4,iu _ _ _ _ h5]
 rfl
theorem eQ (k k':cp)(v v':V)(l:List (cp×V))(h:¬ k'=k):ir k v ((k',v')::l)=(k',v')::ir k v l:=if_neg h
theorem pD (k:cp)(v v':V)(l:List (cp×V)):ir k v ((k,v')::l)=(k,v)::l:=if_pos rfl
theorem SI (n told c w tt)(y:Nat):ir "told" (iv y) (ff n told c w tt)=ff n y c w tt:=by
 unfold ff
 rw[eQ _ _ _ _ _ (by decide +kernel),pD]
theorem SJ (n told c w tt)(y:V):ir "told_tree" y (ff n told c w tt)=ff n told c w y:=by
 unfold ff
 rw[eQ _ _ _ _ _ (by decide +kernel),eQ _ _ _ _ _ (by decide +kernel),eQ _ _ _ _ _ (by decide +kernel),eQ _ _ _ _ _ (by decide +kernel),pD]
theorem V1 (fs:List (cp×V))(h:fs=[]∨∃ n told c w tt,fs=ff n told c w tt)(n told:Nat)(c w:aj)(tt:V) :
  ir "told_tree" tt (ir "words" (.ref w) (ir "costs" (.ref c) (ir "told" (iv told) (ir "languages" (iv n) fs))))=ff n told c w tt:=by
 rcases h with rfl | ⟨n',t',c',w',tt',rfl⟩
 ·show ir "told_tree" tt (ir "words" (.ref w) (ir "costs" (.ref c) (ir "told" (iv told) [("languages",iv n)])))=_
  rw[eQ _ _ _ _ _ (by decide +kernel)]
  show ir "told_tree" tt (ir "words" (.ref w) (ir "costs" (.ref c) [("languages",iv n),("told",iv told)]))=_
  rw[eQ _ _ _ _ _ (by decide +kernel),eQ _ _ _ _ _ (by decide +kernel)]
  show ir "told_tree" tt (ir "words" (.ref w) [("languages",iv n),("told",iv told),("costs",.ref c)])=_
  rw[eQ _ _ _ _ _ (by decide +kernel),eQ _ _ _ _ _ (by decide +kernel),eQ _ _ _ _ _ (by decide +kernel)]
  show ir "told_tree" tt [("languages",iv n),("told",iv told),("costs",.ref c),("words",.ref w)]=_
  rw[eQ _ _ _ _ _ (by decide +kernel),eQ _ _ _ _ _ (by decide +kernel),eQ _ _ _ _ _ (by decide +kernel),eQ _ _ _ _ _ (by decide +kernel)]
  rfl
 ·unfold ff
  rw[pD,eQ "told" _ _ _ _ (by decide +kernel),pD,eQ "costs" _ _ _ _ (by decide +kernel),eQ "costs" _ _ _ _ (by decide +kernel),pD,
   eQ "words" _ _ _ _ (by decide +kernel),eQ "words" _ _ _ _ (by decide +kernel),eQ "words" _ _ _ _ (by decide +kernel),pD,
   eQ "told_tree" _ _ _ _ (by decide +kernel),eQ "told_tree" _ _ _ _ (by decide +kernel),eQ "told_tree" _ _ _ _ (by decide +kernel),eQ "told_tree" _ _ _ _ (by decide +kernel),pD]
def Am (H:Hp)(v:V):Option cD→Prop
 | some t=>∃ a,v=.ref a∧H a=some (.lst (vI (gT t)))
 | none=>v=.hC
theorem Am.same {H H':Hp}{v:V}{o:Option cD}(h:Am H v o)(s:aM H H'):Am H' v o:=by
 cases o with
 | none=>exact h
 | some t=>obtain ⟨a,e,q⟩:=h;exact ⟨a,e,s _ _ q⟩
structure By (s:dz):Prop where
 l2:2≤s.langs
 l5:s.langs≤5
 cs:s.costs.length≤200
 ws:s.words.length≤6
 wd:∀ wd∈s.words,1≤wd.length∧wd.length≤6∧∀ c∈wd,c.sounds.length=s.langs
 tr:∀ t,s.tree=some t→sZ s.langs t=true
structure qL (C:aj)(H:Hp)(p dx c w:aj)(tt:V)(s:dz):Prop where
 ins:H p=some (.ins C dx (ff s.langs s.costs.length c w tt))
 costs:iM H c s.costs
 words:lI H w s.words
 tree:Am H tt s.tree
 ok:By s
theorem qL.same {C:aj}{H H':Hp}{p dx c w:aj}{tt:V}{s:dz}(h:qL C H p dx c w tt s)(q:aM H H'):qL C H' p dx c w tt s:=⟨q _ _ h.ins,h.costs.same q,h.words.same q,h.tree.same q,h.ok⟩
def sS (C:aj)(H:Hp)(p:aj)(O:aj→Prop)(s:dz):Prop:=∃ dx c w tt,qL C H p dx c w tt s∧∀ b,O b↔(b=p∨b=c∨b=w)
theorem sS.same {C:aj}{H H':Hp}{p:aj}{O:aj→Prop}{s:dz}(h:sS C H p O s)(q:aM H H'):sS C H' p O s:=let ⟨dx,c,w,tt,f,o⟩:=h;⟨dx,c,w,tt,f.same q,o⟩
def Dd (O O':aj→Prop)(H H':Hp):Prop:=(∀ b o,H b=some o→¬ O b→H' b=some o)∧∀ b,O' b→O b∨H b=none
theorem Dd.of_same {O:aj→Prop}{H H':Hp}(s:aM H H'):Dd O O H H':=⟨fun b o h _=>s _ _ h,fun b h=>.inl h⟩
theorem Dd.trans {O O1 O2:aj→Prop}{H H1 H2:Hp}(a:Dd O O1 H H1)(b:Dd O1 O2 H1 H2):Dd O O2 H H2:=by
 refine ⟨fun x o hx ho=>b.1 x o (a.1 x o hx ho) fun q=>?_,fun x q=>?_⟩
 ·rcases a.2 x q with z | z
  ·exact ho z
  ·rw[z] at hx;cases hx
 ·rcases b.2 x q with z | z
  ·exact a.2 x z
  ·cases e:H x with
   | none=>exact .inr rfl
   | some o =>
    by_cases ho:O x
    ·exact .inl ho
    ·rw[a.1 x o e ho] at z
     cases z
def eP (C p:aj)(O:aj→Prop)(H:Hp)(s':dz)(a:List Int)(Q:VK):Prop:=∀ H' O' r,sS C H' p O' s'→Dd O O' H H'→H r=none→¬ O' r→H' r=some (.lst (vI a))→Q (.ref r) H'
theorem jP (f:cp)(v:V):∀ fs:List (cp×V),(ir f v fs).length≤fs.length+1
 | []=>aL _
 | (g,x)::r=>by
  show (if g=f then (g,v)::r else (g,x)::ir f v r).length≤_
  split
  ·simp
  ·have:=jP f v r
   simp
   omega
theorem OJ (kvs:List (List eD×V))(k:List eD)(v:V):(putK kvs k v).length≤kvs.length+1:=by
 unfold putK
 split
 ·rw[ae];omega
 ·rw[aK];simp
theorem Rb (kvs:List (List eD×V))(k q:List eD)(v:V):jZ (putK kvs k v) q=if q=k then some v else jZ kvs q:=Dv kvs k q v
theorem pO {ta tb tc:TE}{σ:L2.St}{H:Hp}{Q:Bool→Hp→Prop}{a b c:Int}(ha:∀ R:VK,R (.int a) H→ta σ H R)(hb:∀ R:VK,R (.int b) H→tb σ H R)(hc:∀ R:VK,R (.int c) H→tc σ H R)
  (h:Q (decide (a≤b)&&decide (b≤c)) H):MB (FH (QA fun i j=>.bl (decide (i≤j))) (QA fun i j=>.bl (decide (i≤j))) ta tb tc) σ H Q:=by
 refine ha _ (hb _ ⟨a,b,rfl,rfl,_,rfl,?_⟩)
 cases e:decide (a≤b) with
 | true =>
  rw[e,jy] at h
  exact o9 (hc _ ⟨b,c,rfl,rfl,_,rfl,h⟩)
 | false =>
  rw[e,ip] at h
  exact nI ⟨_,rfl,h⟩
theorem Es {t u:TT}{σ:L2.St}{H:Hp}{Q:Bool→Hp→Prop}{b c:Bool}(ht:∀ R:Bool→Hp→Prop,R b H→t σ H R)(hu:∀ R:Bool→Hp→Prop,R c H→u σ H R)(h:Q (b&&c) H):WY t u σ H Q:=by
 refine ht _ ?_
 cases b with
 | true=>exact o9 (hu _ (by rw[jy] at h;exact h))
 | false=>exact nI (by rw[ip] at h;exact h)
theorem sS.own {C:aj}{H:Hp}{p:aj}{O:aj→Prop}{s:dz}(h:sS C H p O s){b:aj}(q:O b):∃ o,H b=some o:=by
 obtain ⟨dx,c,w,tt,f,o⟩:=h
 obtain ⟨kvs,ec,_⟩:=f.costs
 obtain ⟨qs,ew,_⟩:=f.words
 rcases (o b).mp q with rfl | rfl | rfl
 ·exact ⟨_,f.ins⟩
 ·exact ⟨_,ec⟩
 ·exact ⟨_,ew⟩
theorem finish {C p:aj}{O:aj→Prop}{H H':Hp}{s:dz}{a:List Int}{Q:VK}{r:aj}(F:sS C H p O s)(k:eP C p O H s a Q)(sm:aM H H')(hr:H r=none)(e:H' r=some (.lst (vI a))):Q (.ref r) H' :=
 k H' O r (F.same sm) (.of_same sm) hr (fun o=>by obtain ⟨_,z⟩:=F.own o;rw[z] at hr;cases hr) e
structure nJ (K:ai)(mg:cp→Option ag)(C:aj):Prop where
 cl:QE K C
 nl:lZ K C "languages"
 nt:lZ K C "told"
 nc:lZ K C "costs"
 nw:lZ K C "words"
 nr:lZ K C "told_tree"
 mgC:mg "Family"=some (.ref C)
 WK:∃ t,mg "OUT_OF_RANGE"=some (.int (-1) t)
 not:∃ t,mg "NO_TREE"=some (.int (-4) t)
 J4:∃ t,mg "TOO_MANY"=some (.int (-5) t)
 Gk:∃ t,mg "NOT_THERE"=some (.int (-6) t)
 laf:∃ t,mg "LANGUAGES_AT_FIRST"=some (.int 2 t)
 XA:∃ t,mg "MOST_COSTS"=some (.int 200 t)
 Xz:∃ t,mg "MOST_WORDS"=some (.int 6 t)
 Ij:∃ t,mg "MOST_PATTERNS"=some (.int 8 t)
def BN (C:aj):Sp:=fun vs H Q _=>∃ (p dx:aj) (fs:List (cp×V)) (n:Nat),vs=[.ref p,iv n]∧H p=some (.ins C dx fs)∧(fs=[]∨∃ n told c w tt,fs=ff n told c w tt)∧2≤n∧n≤5 ∧
 ∀ H' c w,qL C H' p dx c w .hC ⟨n,[],[],none⟩→(∀ b o,H b=some o→b≠p→H' b=some o)→H c=none→H w=none→Q .hC H'
def Nq (C:aj):Sp:=fun vs H Q _=>∃ (p dx:aj),vs=[.ref p]∧H p=some (.ins C dx []) ∧
 ∀ H' c w,qL C H' p dx c w .hC QG→(∀ b o,H b=some o→b≠p→H' b=some o)→H c=none→H w=none→Q .hC H'
def DM (C:aj):Sp:=fun vs H Q _=>∃ (p:aj) (O:aj→Prop) (s:dz) (n:Nat),vs=[.ref p,iv n]∧sS C H p O s∧eP C p O H (bu s (.begins n)).1 (cV s (.begins n)) Q
def Nv (C:aj):Sp:=fun vs H Q _=>∃ (p:aj) (O:aj→Prop) (s:dz) (a b c:Nat),vs=[.ref p,iv a,iv b,iv c]∧sS C H p O s∧eP C p O H (bu s (.cost a b c)).1 (cV s (.cost a b c)) Q
section
variable {P:aY}{w:bO}{K:ai}{mg:cp→Option ag}{base:bU}{C:aj}
theorem Rp:bW ["self","languages"] ["self","languages"] (bF FY):=⟨rfl,rfl,rfl,by decide +kernel,rfl,by decide +kernel,by decide +kernel⟩
theorem OS {f:aj}{fd:bI}(F:jt K "start_over" "Family.start_over" FY f fd)(T:nJ K mg C):cO P w K mg base fB 1 f fd ["self","languages"] (BN C):=by
 refine F.ok Rp (fun vs H Q E h=>?_) (fun iq A outer s H vs Q E hr h=>?_)
 ·obtain ⟨p,dx,fs,n,rfl,_⟩:=h
  rfl
 ·obtain ⟨p,dx,fs,n,rfl,hp,hfs,h2,h5,k⟩:=h
  refine ⟨_,aF (tP (pv 0) (pv 1) rfl) (aF (tP (pv 0) aW rfl) (aF (tP (pv 0) yM rfl) (aF (tP (pv 0) (cP aB) rfl) (aQ (tP (pv 0) nM rfl))))),?_⟩
  refine ⟨_,rfl,_,rfl,p,C,dx,_,rfl,hp,T.cl,T.nl,by rcases hfs with rfl | ⟨_,_,_,_,_,rfl⟩<;>simp[ff],?_⟩
  have l0:fs.length≤5:=by rcases hfs with rfl | ⟨_,_,_,_,_,rfl⟩<;>simp[ff]
  refine ⟨_,rfl,p,C,dx,_,rfl,aw,T.cl,T.nt,aG (jP _ _ _) (by omega),?_⟩
  refine fun d hd=>⟨_,rfl,p,C,dx,_,rfl,(by rw[aT (dg aw hd)];exact aw),T.cl,T.nc,aG (jP _ _ _) (aG (ee (jP _ _ _)) (by omega)),?_⟩
  have ndp:d≠p:=(dg aw hd).symm
  refine ⟨aR _,fun l hl=>?_⟩
  have nlp:l≠p:=(dg aw hl).symm
  have nld:l≠d:=fun z=>by
   rw[z,aT ndp,aw] at hl
   cases hl
  refine ⟨_,rfl,p,C,dx,_,rfl,(by rw[aT nlp.symm];exact aw),T.cl,T.nw,aG (jP _ _ _) (aG (ee (jP _ _ _)) (aG (ee (ee (jP _ _ _))) (by omega))),?_⟩
  refine ⟨_,rfl,p,C,dx,_,rfl,aw,T.cl,T.nr,aG (jP _ _ _) (aG (ee (jP _ _ _)) (aG (ee (ee (jP _ _ _))) (aG (ee (ee (ee (jP _ _ _)))) (by omega)))),?_⟩
  have hd0:H d=none:=by
   rw[aT ndp,aT ndp] at hd
   exact hd
  have hl0:H l=none:=by
   rw[aT nlp,aT nld,aT nlp,aT nlp] at hl
   exact hl
  refine k _ d l ⟨?_,⟨[],?_,aR _,fun _ _=>rfl⟩,⟨[],?_,.nil⟩,rfl,⟨h2,h5,aR _,aR _,fun _ h=>by simp at h,fun t h=>by cases h⟩⟩ (fun b o e nb=>?_) hd0 hl0
  ·rw[aw]
   exact congrArg (fun z=>some (HO.ins C dx z)) (V1 fs hfs n 0 d l .hC)
  ·rw[aT ndp,aT ndp,aT nld.symm,aT ndp,aw]
  ·rw[aT nlp,aT nlp,aw]
   rfl
  ·rw[aT nb,aT nb,aT (dg e hl0),aT nb,aT (dg e hd0),aT nb,aT nb]
   exact e
theorem Vl:bW ["self"] ["self"] (bF MQ):=⟨rfl,rfl,rfl,by decide +kernel,rfl,by decide +kernel,by decide +kernel⟩
theorem RJ {f f1:aj}{fd jW:bI}(F:jt K "__init__" "Family.__init__" MQ f fd)(T:nJ K mg C)(G:cO P w K mg base fB 1 f1 jW ["self","languages"] (BN C))(m1:ym K C "start_over" f1)(b1:Binds K jW ["self","languages"] []) :
  cO P w K mg base fB 2 f fd ["self"] (Nq C):=by
 obtain ⟨tl,hlaf⟩:=T.laf
 refine F.ok Vl (fun vs H Q E h=>?_) (fun iq A outer s H vs Q E hr h=>?_)
 ·obtain ⟨p,dx,rfl,_⟩:=h
  rfl
 ·obtain ⟨p,dx,rfl,hp,k⟩:=h
  refine ⟨_,aQ (fP (hZ (pv 0) T.cl m1 G hr b1 .nil cR (ah (bX (v:=.int 2) (by rfl) hlaf ⟨_,rfl⟩) aB))),?_⟩
  exact ⟨_,rfl,p,dx,[],rfl,hp,rfl,p,dx,[],2,rfl,hp,.inl rfl,by decide,by decide,fun H' c w h1 h2 h3 h4=>k H' c w h1 h2 h3 h4⟩
theorem Oz:bW ["self","languages"] ["self","languages"] (bF B5):=⟨rfl,rfl,rfl,by decide +kernel,rfl,by decide +kernel,by decide +kernel⟩
theorem KU {f f1:aj}{fd jW:bI}(F:jt K "begins" "Family.begins" B5 f fd)(T:nJ K mg C)(G:cO P w K mg base fB 1 f1 jW ["self","languages"] (BN C))(m1:ym K C "start_over" f1)(b1:Binds K jW ["self","languages"] []) :
  cO P w K mg base fB 2 f fd ["self","languages"] (DM C):=by
 obtain ⟨to,hoor⟩:=T.WK
 refine F.ok Oz (fun vs H Q E h=>?_) (fun iq A outer s H vs Q E hr h=>?_)
 ·obtain ⟨p,O,s,n,rfl,_⟩:=h
  rfl
 ·obtain ⟨p,O,st,n,rfl,hF,k⟩:=h
  refine ⟨_,aF (eE (tO (uU mS mS aW (pv 1) aW)) (aQ (bL (cP (ah (bX (v:=.int (-1)) (by rfl) hoor ⟨_,rfl⟩) aB)))) cU)
   (aF (fP (hZ (pv 0) T.cl m1 G hr b1 .nil cR (ah (pv 1) aB)))
   (aQ (bL (cP (ah aW aB))))),?_⟩
  refine pO (a:=2) (b:=(n:Int)) (c:=5) (fun _ h=>h) (fun _ h=>⟨_,rfl,h⟩) (fun _ h=>h) ?_
  refine gD (fun h1=>?_) fun h1=>?_
  ·have hn:n<2∨Si35.LANGS<n:=by
    have:¬ ((2:Int)≤n∧(n:Int)≤5):=fun ⟨a,b⟩=>by rw[decide_eq_true a,decide_eq_true b] at h1;cases h1
    show n<2∨5<n
    omega
   have e:bu st (.begins n)=(st,fI (-1)):=if_pos hn
   unfold cV at k
   rw[e] at k
   exact ⟨(by show 1≤aA;decide),fun r dQ=>finish hF k (aM.new dQ) dQ aw⟩
  ·have hn:2≤n∧n≤5:=by
    rw[kY,vt,bx,decide_eq_true_iff,decide_eq_true_iff] at h1
    omega
   have e:bu st (.begins n)=(⟨n,[],[],none⟩,fI 0):=if_neg (show ¬ (n<2∨5<n) by omega)
   unfold cV at k
   rw[e] at k
   obtain ⟨dx,c,wa,tt,hf,ho⟩:=hF
   refine ⟨_,rfl,p,dx,_,rfl,hf.ins,Ak _ _ _ _ _ (by decide +kernel) (by decide +kernel) (by decide +kernel) (by decide +kernel) (by decide +kernel),_,rfl,p,dx,_,n,rfl,hf.ins,.inr ⟨_,_,_,_,_,rfl⟩,hn.1,hn.2,fun H1 c1 w1 hf1 kp hc1 hw1=>?_⟩
   refine ⟨(by show 1≤aA;decide),fun r dQ=>?_⟩
   have s1:=aM.new (o:=.lst [V.int 0]) dQ
   have qD:H r=none:=by
    cases e:H r with
    | none=>rfl
    | some o =>
     by_cases z:r=p
     ·rw[z,hf1.ins] at dQ;cases dQ
     ·rw[kp r o e z] at dQ;cases dQ
   refine k _ (fun b=>b=p∨b=c1∨b=w1) r ⟨dx,c1,w1,.hC,hf1.same s1,fun b=>QF⟩ ⟨fun b o e no=>s1 _ _ (kp b o e fun z=>no ((ho b).mpr (.inl z))),fun b q=>?_⟩ qD (fun q=>?_) aw
   ·rcases q with rfl | rfl | rfl
    ·exact .inl ((ho b).mpr (.inl rfl))
    ·exact .inr hc1
    ·exact .inr hw1
   ·obtain ⟨kvs,ec,_⟩:=hf1.costs
    obtain ⟨qs,ew,_⟩:=hf1.words
    rcases q with rfl | rfl | rfl
    ·rw[hf1.ins] at dQ;cases dQ
    ·rw[ec] at dQ;cases dQ
    ·rw[ew] at dQ;cases dQ
theorem Vm:bW ["self","one","other","costs"] ["self","one","other","costs"] (bF MV):=⟨rfl,rfl,rfl,by decide +kernel,rfl,by decide +kernel,by decide +kernel⟩
theorem RO {f:aj}{fd:bI}(F:jt K "cost" "Family.cost" MV f fd)(T:nJ K mg C):cO P w K mg base fB 1 f fd ["self","one","other","costs"] (Nv C):=by
 obtain ⟨to,hoor⟩:=T.WK
 obtain ⟨tm,yk⟩:=T.J4
 obtain ⟨tc,qJ⟩:=T.XA
 refine F.ok Vm (fun vs H Q E h=>?_) (fun iq A outer s H vs Q E hr h=>?_)
 ·obtain ⟨p,O,s,a,b,c,rfl,_⟩:=h
  rfl
 ·obtain ⟨p,O,st,a,b,c,rfl,hF,k⟩:=h
  have hu:=wR hr
  refine ⟨_,aF (eE (tO (ph (uU mS mS aW (pv 1) aW) (ph (uU mS mS aW (pv 2) aW) (pB (bS mS (pv 3) aW (cj _))))).pt) (aQ (bL (cP (ah (bX (v:=.int (-1)) (by rfl) hoor ⟨_,rfl⟩) aB)))) cU)
   (aF (eE (bS gw (eU (pv 0) rfl) (bX (v:=.int 200) (by rfl) qJ ⟨_,rfl⟩) (cj _)) (aQ (bL (cP (ah (bX (v:=.int (-5)) (by rfl) yk ⟨_,rfl⟩) aB)))) cU)
   (aF (xY hu (eU (pv 0) rfl) (jj (ah (pv 1) (ah (pv 2) aB))) (pv 3) rfl)
   (aF (tP (pv 0) (dX eL (eU (pv 0) rfl) aW) rfl)
   (aQ (bL (cP (ah (eU (pv 0) rfl) aB))))))),?_⟩
  refine Es (b:=decide ((1:Int)≤a)&&decide ((a:Int)≤99)) (c:=(decide ((1:Int)≤b)&&decide ((b:Int)≤99))&&decide ((c:Int)≤1000)) (fun R h=>pO (a:=1) (b:=(a:Int)) (c:=99) (fun _ h=>h) (fun _ h=>⟨_,rfl,h⟩) (fun _ h=>h) h) (fun R h=>Es (b:=decide ((1:Int)≤b)&&decide ((b:Int)≤99)) (c:=decide ((c:Int)≤1000)) (fun R h=>pO (a:=1) (b:=(b:Int)) (c:=99) (fun _ h=>h) (fun _ h=>⟨_,rfl,h⟩) (fun _ h=>h) h) (fun R h=>⟨_,rfl,_,_,rfl,rfl,_,rfl,h⟩) h) ?_
  refine gD (fun h1=>?_) fun h1=>?_
  ·have hn:a<1∨mZ<a∨b<1∨mZ<b∨1000<c:=by
    have:¬ (((1:Int)≤a∧(a:Int)≤99)∧((1:Int)≤b∧(b:Int)≤99)∧(c:Int)≤1000):=fun ⟨⟨q1,q2⟩,⟨q3,q4⟩,q5⟩=>by rw[decide_eq_true q1,decide_eq_true q2,decide_eq_true q3,decide_eq_true q4,decide_eq_true q5] at h1;cases h1
    show a<1∨99<a∨b<1∨99<b∨1000<c
    omega
   have e:bu st (.cost a b c)=(st,fI (-1)):=if_pos hn
   unfold cV at k
   rw[e] at k
   exact ⟨(by show 1≤aA;decide),fun r dQ=>finish hF k (aM.new dQ) dQ aw⟩
  have hn:¬ (a<1∨mZ<a∨b<1∨mZ<b∨1000<c):=by
   rw[kY,vt,bx,bx,bx,bx,decide_eq_true_iff,decide_eq_true_iff,decide_eq_true_iff,decide_eq_true_iff,decide_eq_true_iff] at h1
   show ¬ (a<1∨99<a∨b<1∨99<b∨1000<c)
   omega
  obtain ⟨dx,d,wa,tt,hf,ho⟩:=id hF
  refine ⟨_,rfl,p,C,dx,_,_,rfl,hf.ins,T.cl,T.nt,Cg _ _ _ _ _,rfl,_,rfl,?_⟩
  refine gD (fun h2=>?_) fun h2=>?_
  ·have h2:st.costs.length=200:=by
    have:=pk.mp h2
    omega
   have e:bu st (.cost a b c)=(st,fI (-5)):=(if_neg hn).trans (if_pos (show 200≤st.costs.length by omega))
   unfold cV at k
   rw[e] at k
   exact ⟨(by show 1≤aA;decide),fun r dQ=>finish hF k (aM.new dQ) dQ aw⟩
  have jV:st.costs.length<200:=by
   have h3:¬ st.costs.length=200:=fun e=>h2 (pk.mpr (by omega))
   have:=hf.ok.cs
   omega
  have e:bu st (.cost a b c)=({st with costs:=(a,b,c)::st.costs},fI ((st.costs.length:Int)+1)):=(if_neg hn).trans (if_neg (show ¬ 200≤st.costs.length by omega))
  unfold cV at k
  rw[e] at k
  obtain ⟨kvs,ek,lk,vk⟩:=hf.costs
  refine ⟨_,rfl,_,rfl,p,C,dx,_,_,rfl,hf.ins,T.cl,T.nc,qV _ _ _ _ _,_,rfl,_,rfl,(by show 2≤aA;decide),fun t ht=>?_⟩
  have s1:=aM.new (o:=.tup [iv a,iv b]) ht
  have hf1:=hf.same s1
  refine ⟨d,_,rfl,z4.t (s1 _ _ ek) (WL aw) (aG (show kvs.length≤200 by omega) (by decide)),?_⟩
  have npd:p≠d:=ik hf1.ins (s1 _ _ ek) (by intro z;cases z)
  refine ⟨_,rfl,p,C,dx,_,_,rfl,(by rw[aT npd];exact hf1.ins),T.cl,T.nt,Cg _ _ _ _ _,_,_,rfl,rfl,_,rfl,p,C,dx,_,rfl,(by rw[aT npd];exact hf1.ins),T.cl,T.nt,(by show 5<1000;decide),?_⟩
  have fin:qL C (upd (upd (upd H t (.tup [iv a,iv b])) d (.dT (putK kvs (k2 a b) (iv c)))) p (.ins C dx (ir "told" (V.int ((st.costs.length:Int)+1)) (ff st.langs st.costs.length d wa tt)))) p dx d wa tt {st with costs:=(a,b,c)::st.costs}:=by
   obtain ⟨qs,ew,pw⟩:=hf1.words
   have cup:∀ (o1 o2:HO) (x:aj) (o:HO),(upd H t (.tup [iv a,iv b])) x=some o→(∀ zs,o≠.dT zs)→(∀ y z,o≠.ins C y z)→(upd (upd (upd H t (.tup [iv a,iv b])) d o1) p o2) x=some o:=fun o1 o2 x o hx h1 h2=>by
    rw[aT (ik hx hf1.ins (h2 _ _)),aT (ik hx (s1 _ _ ek) (h1 _))]
    exact hx
   refine ⟨?_,⟨_,(by rw[aT npd.symm];exact aw),?_,fun x y=>?_⟩,⟨qs,cup _ _ _ _ ew (by intro _ z;cases z) (by intro _ _ z;cases z),?_⟩,?_,⟨hf.ok.l2,hf.ok.l5,(by show st.costs.length+1≤200;omega),hf.ok.ws,hf.ok.wd,hf.ok.tr⟩⟩
   ·rw[aw]
    exact congrArg (fun z=>some (HO.ins C dx z)) (SI _ _ _ _ _ (st.costs.length+1))
   ·exact aD (OJ _ _ _) (ee lk)
   ·rw[Rb,cH]
    by_cases z:k2 x y=k2 a b
    ·obtain ⟨rfl,rfl⟩:=NU z
     rw[if_pos rfl]
     simp
    ·rw[if_neg z,vk]
     have:((a==x)&&(b==y))=false:=by
      rw[Bool.and_eq_false_iff]
      by_cases q:a=x
      ·right
       rw[beq_eq_false_iff_ne]
       intro q2
       exact z (by rw[q,q2])
      ·left
       rw[beq_eq_false_iff_ne]
       exact q
     rw[this]
   ·exact d7 (fun q wd ⟨rs,er,pr⟩=>⟨rs,cup _ _ _ _ er (by intro _ z;cases z) (by intro _ _ z;cases z),d7 (fun r c' ⟨z,d1,d2⟩=>⟨z,cup _ _ _ _ d1 (by intro _ z;cases z) (by intro _ _ z;cases z),cup _ _ _ _ d2 (by intro _ z;cases z) (by intro _ _ z;cases z)⟩) pr⟩) pw
   ·have ht:=hf1.tree
    show Am _ tt st.tree
    generalize st.tree=tr at ht
    cases tr with
    | none=>exact ht
    | some t' =>
     obtain ⟨x,e1,e2⟩:=ht
     exact ⟨x,e1,cup _ _ _ _ e2 (by intro _ z;cases z) (by intro _ _ z;cases z)⟩
  have fi:=fin.ins
  refine ⟨_,rfl,p,C,dx,_,_,rfl,fi,T.cl,T.nt,Cg _ _ _ _ _,(by show 1≤aA;decide),fun r dQ=>?_⟩
  have s2:=aM.new (o:=.lst [iv (st.costs.length+1)]) dQ
  have nrp:r≠p:=(dg aw dQ).symm
  have nrd:r≠d:=fun z=>by rw[z,aT npd.symm,aw] at dQ;cases dQ
  have qD:H r=none:=by
   rw[aT nrp,aT nrd] at dQ
   exact s1.free dQ
  refine k _ O r ⟨dx,d,wa,tt,fin.same s2,ho⟩ ⟨fun b o e no=>s2 _ _ ?_,fun b q=>.inl q⟩ qD (fun q=>?_) aw
  ·rw[aT (fun z=>no ((ho b).mpr (.inl z))),aT (fun z=>no ((ho b).mpr (.inr (.inl z))))]
   exact s1 _ _ e
  ·rcases (ho r).mp q with z | z | z
   ·exact nrp z
   ·exact nrd z
   ·obtain ⟨qs,ew,_⟩:=hf.words
    rw[z,ew] at qD
    cases qD
end
theorem Cd {K:ai}{a:aj}{xs ys:List V}{g:TG}{te:TE}{vs:List Nat}{σ:L2.St}{H1:Hp}{D:aj}{Qd:Hp→Prop}(hD:H1 D=none)(hl:cG K H1 a xs)(hz:ys.length<aA)(hxy:xs.length=ys.length)
  (he:∀ (i:Nat) x y,xs[i]?=some x→ys[i]?=some y→∀ H,aM H1 H→∀ R:V→Hp→Prop,(∀ H',aM H H'→R y H')→g x (wipe σ vs) H fun σ2 H2=>wipe σ2 vs=wipe σ vs∧te σ2 H2 R)
  (hd:∀ H',aM H1 H'→H' D=some (.lst ys)→Qd H') :
  ∃ W:Nat→Nat→Hp→Prop,(∃ m,W 0 m (upd H1 D (.lst [])))∧∀ i m H,W i m H →
   ((Ah K a).stop i H∧Qd H)∨((Ah K a).go i H∧∃ Nx:Hp→Prop,(∀ H',Nx H'→∃ m',m'<m∧W (i+1) m' H')∧∀ x H',(Ah K a).zS i H x H'→g x (wipe σ vs) H' fun σ2 H2=>wipe σ2 vs=wipe σ vs∧Mq σ2 H2 fun b H3 =>
    if b=true then te σ2 H3 fun y H4=>∃ acc,H4 D=some (.lst acc)∧acc.length<aA∧Nx (upd H4 D (.lst (acc++[y]))) else Nx H3):=by
 refine uM (fun i H=>aM H1 H∧H D=some (.lst (ys.take i))) ⟨aM.new hD,aw⟩ (fun i H _ h=>h.1.seq hl) (fun i x H hx h=>?_) (fun H h=>?_)
 ·obtain ⟨s1,e⟩:=h
  have hi:i<ys.length:=by
   rw[← hxy]
   exact (bT.mp hx).1
  have hy:ys[i]?=some ys[i]:=aE hi
  have q:=he i x _ hx hy H s1 (fun y H4=>∃ acc,H4 D=some (.lst acc)∧acc.length<aA∧(aM H1 (upd H4 D (.lst (acc++[y])))∧upd H4 D (.lst (acc++[y])) D=some (.lst (ys.take (i+1))))) fun H4 s4=>⟨_,s4 _ _ e,?_,(s1.trans s4).upd hD,?_⟩
  ·exact q
  ·rw[bM]
   exact aG (TU _ _) hz
  ·rw[aw,take_snoc hy]
 ·obtain ⟨s1,e⟩:=h
  rw[hxy,bE] at e
  exact hd H s1 e
theorem uL {K:ai}{a:aj}{xs ys:List V}{j:Nat}{te:TE}{vs:List Nat}{σ:L2.St}{H1:Hp}{D:aj}{Qd:Hp→Prop}(hD:H1 D=none)(hl:cG K H1 a xs)(hz:ys.length<aA)(hxy:xs.length=ys.length)
  (hw:∀ x,wipe ((wipe σ vs).set j (some x)) vs=wipe σ vs)
  (he:∀ (i:Nat) x y,xs[i]?=some x→ys[i]?=some y→∀ H,aM H1 H→∀ R:V→Hp→Prop,(∀ H',aM H H'→R y H')→te ((wipe σ vs).set j (some x)) H R)
  (hd:∀ H',aM H1 H'→H' D=some (.lst ys)→Qd H') :
  ∃ W:Nat→Nat→Hp→Prop,(∃ m,W 0 m (upd H1 D (.lst [])))∧∀ i m H,W i m H →
   ((Ah K a).stop i H∧Qd H)∨((Ah K a).go i H∧∃ Nx:Hp→Prop,(∀ H',Nx H'→∃ m',m'<m∧W (i+1) m' H')∧∀ x H',(Ah K a).zS i H x H'→oh j x (wipe σ vs) H' fun σ2 H2=>wipe σ2 vs=wipe σ vs∧Mq σ2 H2 fun b H3 =>
    if b=true then te σ2 H3 fun y H4=>∃ acc,H4 D=some (.lst acc)∧acc.length<aA∧Nx (upd H4 D (.lst (acc++[y]))) else Nx H3) :=
 Cd (g:=oh j) hD hl hz hxy (fun i x y hx hy H s R hR=>⟨hw x,he i x y hx hy H s R hR⟩) hd
theorem Sl {n:Nat}{ys:List V}{j:Nat}{te:TE}{vs:List Nat}{σ:L2.St}{H1:Hp}{D:aj}{Qd:Hp→Prop}(hD:H1 D=none)(hz:ys.length<aA)(hxy:n=ys.length)
  (hw:∀ x,wipe ((wipe σ vs).set j (some x)) vs=wipe σ vs)
  (he:∀ (i:Nat) y,ys[i]?=some y→∀ H,aM H1 H→∀ R:V→Hp→Prop,(∀ H',aM H H'→R y H')→te ((wipe σ vs).set j (some (iv i))) H R)
  (hd:∀ H',aM H1 H'→H' D=some (.lst ys)→Qd H') :
  ∃ W:Nat→Nat→Hp→Prop,(∃ m,W 0 m (upd H1 D (.lst [])))∧∀ i m H,W i m H →
   ((J2 0 n).stop i H∧Qd H)∨((J2 0 n).go i H∧∃ Nx:Hp→Prop,(∀ H',Nx H'→∃ m',m'<m∧W (i+1) m' H')∧∀ x H',(J2 0 n).zS i H x H'→oh j x (wipe σ vs) H' fun σ2 H2=>wipe σ2 vs=wipe σ vs∧Mq σ2 H2 fun b H3 =>
    if b=true then te σ2 H3 fun y H4=>∃ acc,H4 D=some (.lst acc)∧acc.length<aA∧Nx (upd H4 D (.lst (acc++[y]))) else Nx H3):=by
 refine Ec (fun i H=>aM H1 H∧H D=some (.lst (ys.take i))) ⟨aM.new hD,aw⟩ (fun i H hi h=>?_) (fun H h=>?_)
 ·obtain ⟨s1,e⟩:=h
  have hy:ys[i]?=some (ys[i]'(by omega)):=aE (by omega)
  have q:=he i _ hy H s1 (fun y H4=>∃ acc,H4 D=some (.lst acc)∧acc.length<aA∧(aM H1 (upd H4 D (.lst (acc++[y])))∧upd H4 D (.lst (acc++[y])) D=some (.lst (ys.take (i+1))))) fun H4 s4=>⟨_,s4 _ _ e,?_,(s1.trans s4).upd hD,?_⟩
  ·rw[show (0:Int)+(i:Int)=(i:Int) by omega]
   exact ⟨hw _,q⟩
  ·rw[bM]
   exact aG (TU _ _) hz
  ·rw[aw,take_snoc hy]
 ·obtain ⟨s1,e⟩:=h
  rw[hxy,bE] at e
  exact hd H s1 e
theorem IY {X:Cx}{K:ai}{e:Expr}{ta:TE}{f:cp}{pos:jK}(hK:X.K=K)(he:PE X e ta)(hb:iZ e f X.env (eval e X.env)=eval e X.env):PE X (.Attribute e f pos) (WX K ta f):=hK▸eU he hb
theorem Cf {α:Type}(m:Nat):∀ l:List (List α),(∀ x∈l,x.length≤m)→l.flatten.length≤m*l.length
 | [],_=>by simp
 | x::l,h=>by
  have:=Cf m l fun y hy=>h y (ao _ hy)
  have:=h x ax
  rw[j9,aK,aS,xE]
  omega
theorem By.flat {s:dz}(h:By s):s.words.flatten.length≤36:=by
 have:=Cf 6 s.words fun x hx=>(h.wd x hx).2.1
 have:=h.ws
 omega
theorem By.col {s:dz}(h:By s){c:bJ}(hc:c∈s.words.flatten):c.sounds.length=s.langs:=by
 obtain ⟨wd,h1,h2⟩:=QN.mp hc
 exact (h.wd wd h1).2.2 c h2
theorem By.pats {s:dz}(h:By s){c:bJ}(hc:c∈az s.words):c.sounds.length=s.langs:=h.col ((ia c _).mp hc)
theorem VB (t:cD):∃ x l,gT t=x::l:=by cases t<;>exact ⟨_,_,rfl⟩
theorem Od {H:Hp}{q w:aj}{wd:eF}{ws:List eF}{qs:List aj}(h:gE H q wd)(h1:1≤wd.length)(hw:H w=some (.lst (qs.map V.ref)))(pw:Paired (gE H) qs ws):q≠w:=by
 intro z
 obtain ⟨rs,e,p⟩:=h
 rw[z,hw] at e
 have e:qs.map V.ref=rs.map V.ref:=by
  injection e with e
  injection e
 cases p with
 | nil=>simp at h1
 | cons a t =>
  cases pw with
  | nil=>cases e
  | cons b u =>
   injection e with e1 _
   injection e1 with e1
   obtain ⟨_,a1,_⟩:=a
   obtain ⟨_,b1,_⟩:=b
   rw[← e1,b1] at a1
   cases a1
theorem Oi {H:Hp}{a w:aj}{t:cD}{qs:List aj}(h:H a=some (.lst (vI (gT t))))(hw:H w=some (.lst (qs.map V.ref))):a≠w:=by
 intro z
 rw[z,hw] at h
 obtain ⟨x,l,e⟩:=VB t
 rw[e] at h
 have h:qs.map V.ref=V.int x::vI l:=by
  injection h with h
  injection h
 cases qs with
 | nil=>cases h
 | cons b u =>
  injection h with h _
  cases h
theorem PD (r:QH):qK r=vI (Si35.ints (r.flatMap fun p=>[p.1,p.2])):=by
 unfold qK Si35.ints
 induction r with
 | nil=>rfl
 | cons p r ih =>
  rw[bN,bN,ih]
  rfl
theorem qL.push {C:aj}{H:Hp}{p dx c w q:aj}{tt:V}{s:dz}{wd:eF}{qs:List aj}(h:qL C H p dx c w tt s)(hw:H w=some (.lst (qs.map V.ref)))(pw:Paired (gE H) qs s.words)(hq:gE H q wd)(nq:q≠w)(ok:By {s with words:=s.words++[wd]}) :
  qL C (upd H w (.lst (qs.map V.ref++[V.ref q]))) p dx c w tt {s with words:=s.words++[wd]}:=by
 obtain ⟨kvs,ek,r⟩:=h.costs
 have up:∀ q' wd',gE H q' wd'→q'≠w→gE (upd H w (.lst (qs.map V.ref++[V.ref q]))) q' wd':=fun q' wd' ⟨rs,e,z⟩ n=>⟨rs,by rw[aT n];exact e,d7 (fun r c' ⟨d,d1,d2⟩=>⟨d,by rw[aT (ik d1 hw (by intro z;cases z))];exact d1,by rw[aT (ik d2 hw (by intro z;cases z))];exact d2⟩) z⟩
 refine ⟨by rw[aT (ik h.ins hw (by intro z;cases z))];exact h.ins,⟨kvs,by rw[aT (ik ek hw (by intro z;cases z))];exact ek,r⟩,⟨qs++[q],by rw[aw,aX];rfl,?_⟩,?_,ok⟩
 ·refine gz (fun _ _ h=>h) (up q wd hq nq) (kL (bz pw) fun i a b ha hb=>?_)
  obtain ⟨b',hb',hab⟩:=cX pw ha
  rw[hb'] at hb
  cases aJ hb
  exact up a b hab (Od hab (h.ok.wd b (aV hb')).1 hw pw)
 ·have ht:=h.tree
  show Am _ tt s.tree
  generalize s.tree=tr at ht
  cases tr with
  | none=>exact ht
  | some t' =>
   obtain ⟨x,e1,e2⟩:=ht
   exact ⟨x,e1,by rw[aT (Oi e2 hw)];exact e2⟩
def AG (K:ai)(C:aj):Sp:=fun vs H Q _=>∃ (p px py:aj) (O:aj→Prop) (s:dz) (x y:List Nat),vs=[.ref p,.ref px,.ref py]∧sS C H p O s∧cG K H px (eT x)∧cG K H py (eT y)∧x.length≤12∧y.length≤12∧eP C p O H s (cV s (.beside x y)) Q
def Nj (C:aj):Sp:=fun vs H Q _=>∃ (p q:aj) (O:aj→Prop) (s:dz) (wd:eF),vs=[.ref p,.ref q]∧sS C H p O s∧gE H q wd∧¬ O q∧wd.length≤12∧(∀ c∈wd,c.sounds.length≤12)∧eP C p O H (bu s (.word wd)).1 (cV s (.word wd)) Q
def IA (C:aj):Sp:=fun vs H Q _=>∃ (p q:aj) (O:aj→Prop) (s:dz) (t:cD),vs=[.ref p,.ref q]∧sS C H p O s∧H q=some (.lst (vI (gT t)))∧size t≤1000∧eP C p O H (bu s (.tree t)).1 (cV s (.tree t)) Q
section
variable {P:aY}{w:bO}{K:ai}{mg:cp→Option ag}{base:bU}{C:aj}
theorem AL:bW ["self","first","second","laid"] ["self","first","second"] (bF yJ):=⟨rfl,rfl,rfl,by decide +kernel,rfl,by decide +kernel,by decide +kernel⟩
theorem Hk {f f1 f2:aj}{fd jW mG:bI}(F:jt K "beside" "Family.beside" yJ f fd)(T:nJ K mg C)(TF:qi mg)
  (G1:cO P w K mg base fB 1 f1 jW ["row"] (Nr K))(m1:mg "is_row_of_sounds"=some (.ref f1))(k1:aP K (.ref f1)=true)(b1:Binds K jW ["row"] [])
  (G2:cO P w K mg base fB 4 f2 mG ["first","second","costs"] (Ui K))(m2:mg "lay_beside"=some (.ref f2))(k2:aP K (.ref f2)=true)(b2:Binds K mG ["first","second","costs"] []) :
  cO P w K mg base fB 5 f fd ["self","first","second"] (AG K C):=by
 obtain ⟨to,hoor⟩:=T.WK
 refine F.ok AL (fun vs H Q E h=>?_) (fun iq A outer s H vs Q E hr h=>?_)
 ·obtain ⟨p,px,py,O,s,x,y,rfl,_⟩:=h
  rfl
 ·obtain ⟨p,px,py,O,st,x,y,rfl,hF,hx,hy,lx,ly,k⟩:=h
  have nW:fO 1 _:=hr.mono (by decide)
  refine ⟨_,aF (eE (tO (ph (pj (bY G1 nW (by rfl) m1 k1 b1 .nil cR (ah (pv 1) aB))) (pB (pj (bY G1 nW (by rfl) m1 k1 b1 .nil cR (ah (pv 2) aB))))).pt) (aQ (bL (cP (ah (bX (v:=.int (-1)) (by rfl) hoor ⟨_,rfl⟩) aB)))) cU)
   (aF (cw (i:=3) AL.nd rfl (bj rfl) (bY G2 hr rfl m2 k2 b2 .nil cR (ah (pv 1) (ah (pv 2) (ah (eU (pv 0) rfl) aB)))))
   (aQ (bL (dX jk (cP (ah (cy dO (pv 3) aW (fun _ _=>rfl)) (ah (cy dO (pv 3) aW (fun _ _=>rfl)) (ah (dX Rz (bP bD (by rfl) TF.len bb (ah (cy dO (pv 3) aW (fun _ _=>rfl)) aB)) aW) aB)))) (cy dO (pv 3) aW (fun _ _=>rfl)))))),?_⟩
  refine ⟨_,rfl,px,x,rfl,hx,aD lx (by decide),fun H1 s1=>⟨_,rfl,?_⟩⟩
  have bad:(dA x&&dA y)=false→∀ H',aM H H'→∀ r,H' r=none→Q (.ref r) (upd H' r (.lst [V.int (-1)])):=fun e H' s' r dQ=>by
   have e2:bu st (.beside x y)=(st,fI (-1)):=by
    show (st,if (dA x&&dA y)=false then fI (-1) else _)=_
    rw[if_pos e]
   unfold cV at k
   rw[e2] at k
   exact finish hF k (s'.trans (aM.new dQ)) (s'.free dQ) aw
  have c2:(dA x&&dA y)=false∨(dA x=true∧dA y=true):=by
   cases dA x<;>cases dA y<;>simp
  refine gD (fun h1=>?_) fun h1=>?_
  ·refine ⟨_,rfl,py,y,rfl,s1.seq hy,aD ly (by decide),fun H2 s2=>⟨_,rfl,?_⟩⟩
   refine gD (fun h2=>?_) fun h2=>?_
   ·have e:(dA x&&dA y)=false:=by
     rw[h1,jy]
     simpa using h2
    exact ⟨(by show 1≤aA;decide),fun r dQ=>bad e H2 (s1.trans s2) r dQ⟩
   ·have h2:dA y=true:=by simpa using h2
    have e2:bu st (.beside x y)=(st,⟨((ft st.costs x y).cost:Int),Si35.ints ((ft st.costs x y).many::(ft st.costs x y).first.length::(ft st.costs x y).first.flatMap fun p=>[p.1,p.2])⟩):=by
     show (st,if (dA x&&dA y)=false then fI (-1) else _)=_
     rw[if_neg (by rw[h1,h2];decide)]
    unfold cV at k
    rw[e2] at k
    have lx6:x.length≤6:=by
     unfold dA at h1
     rw[bx] at h1
     exact of_decide_eq_true h1.1
    have ly6:y.length≤6:=by
     unfold dA at h2
     rw[bx] at h2
     exact of_decide_eq_true h2.1
    obtain ⟨dx,c,wa,tt,hf,ho⟩:=id hF
    have s12:=s1.trans s2
    refine ⟨_,rfl,_,rfl,_,rfl,p,C,dx,_,_,rfl,s12 _ _ hf.ins,T.cl,T.nc,qV _ _ _ _ _,px,py,c,x,y,st.costs,rfl,s12.seq hx,s12.seq hy,lx6,ly6,hf.costs.same s12,fun H3 q s3 hq=>?_⟩
    obtain ⟨b,e3,e4⟩:=hq
    have lp:=A8 (ft st.costs x y).first
    refine ⟨_,rfl,q,_,0,_,rfl,rfl,fN.of e3,rfl,_,rfl,q,_,1,_,rfl,rfl,fN.of e3,rfl,_,rfl,q,_,2,_,rfl,rfl,fN.of e3,rfl,b,_,rfl,.inl (cG.of e4),_,2,rfl,rfl,(show Xh _ 2 from ⟨by decide,by decide⟩),(by show 3≤aA;decide),fun r1 hr1'=>?_⟩
    have s4:=aM.new (o:=.lst [iv (ft st.costs x y).cost,iv (ft st.costs x y).many,V.int (((qK (ft st.costs x y).first).length:Int) / 2)]) hr1'
    refine ⟨_,rfl,q,_,2,_,rfl,rfl,fN.of (s4 _ _ e3),rfl,r1,b,_,_,rfl,rfl,aw,s4 _ _ e4,?_,fun r dQ=>?_⟩
    ·have l2:(ft st.costs x y).first.length≤12:=aD (zG _ _ _ _) (by omega)
     rw[lp]
     exact aD (show 3+2*_≤27 by omega) (by decide)
    ·refine finish hF k ((s12.trans s3).trans (s4.trans (aM.new dQ))) ((s12.trans s3).free (s4.free dQ)) ?_
     rw[aw]
     show some (HO.lst ([_,_,V.int (((qK (ft st.costs x y).first).length:Int) / 2)]++qK (ft st.costs x y).first))=_
     rw[lp,PD]
     have e5:(((2*(ft st.costs x y).first.length:Nat):Int) / 2)=((ft st.costs x y).first.length:Int):=by omega
     rw[e5]
     rfl
  ·have e:(dA x&&dA y)=false:=by
    rw[kY] at h1
    rw[h1,ip]
   exact ⟨(by show 1≤aA;decide),fun r dQ=>bad e H1 s1 r dQ⟩
theorem FO:bW ["self","places","place"] ["self","places"] (bF MI):=⟨rfl,rfl,rfl,by decide +kernel,rfl,by decide +kernel,by decide +kernel⟩
theorem RA {f f1:aj}{fd jW:bI}(F:jt K "word" "Family.word" MI f fd)(T:nJ K mg C)(TF:qi mg)
  (G1:cO P w K mg base fB 1 f1 jW ["place","languages"] IB)(m1:mg "is_place"=some (.ref f1))(k1:aP K (.ref f1)=true)(b1:Binds K jW ["place","languages"] []) :
  cO P w K mg base fB 2 f fd ["self","places"] (Nj C):=by
 obtain ⟨to,hoor⟩:=T.WK
 obtain ⟨tm,yk⟩:=T.J4
 obtain ⟨tc,qJ⟩:=T.Xz
 refine F.ok FO (fun vs H Q E h=>?_) (fun iq A outer s H vs Q E hr h=>?_)
 ·obtain ⟨p,q,O,s,wd,rfl,_⟩:=h
  rfl
 ·obtain ⟨p,q,O,st,wd,rfl,hF,hq,nO,h12,hs12,k⟩:=h
  have nW:fO 1 _:=hr.mono (by decide)
  refine ⟨_,aF (eE (Ih (tO (uU mS mS aW (bP bD (by rfl) TF.len bb (ah (pv 1) aB)) aW)) (BE (tO (pj (bP (Gu rfl) (by rfl) TF.all wz (ah (jc rfl FO.nd (d9 (pv 1)) (dS (own:=[("place",2)]) (by rfl)) (fun _ _ _ _ _=>cI (i:=2) FO.nd rfl (bj rfl)) (fun _ _ _ _ _=>gq) (fun _ _ _ _ _=>bY G1 hr (by rfl) m1 k1 b1 .nil cR (ah (pv 2) (ah (IY (K:=K) rfl (pv 0) rfl) aB)))) aB)))))).pt (aQ (bL (cP (ah (bX (v:=.int (-1)) (by rfl) hoor ⟨_,rfl⟩) aB)))) cU)
   (aF (eE (bS gw (bP bD (by rfl) TF.len bb (ah (eU (pv 0) rfl) aB)) (bX (v:=.int 6) (by rfl) qJ ⟨_,rfl⟩) (cj _)) (aQ (bL (cP (ah (bX (v:=.int (-5)) (by rfl) yk ⟨_,rfl⟩) aB)))) cU)
   (aF (fP (jL bK cC cB gB (eU (pv 0) rfl) (ah (pv 1) aB)))
   (aQ (bL (cP (ah (dX ND (bP bD (by rfl) TF.len bb (ah (eU (pv 0) rfl) aB)) aW) aB)))))),?_⟩
  obtain ⟨rs,eq,pr⟩:=id hq
  have lr:((rs.map V.ref).length:Int)=(wd.length:Int):=by rw[ae,bz pr]
  obtain ⟨dx,c,wa,tt,hf,ho⟩:=id hF
  obtain ⟨qs,ew,pw⟩:=id hf.words
  refine pO (a:=1) (b:=(wd.length:Int)) (c:=6) (fun _ h=>h) (fun R h=>⟨_,rfl,q,_,rfl,.inl (cG.of eq),by rw[lr];exact h⟩) (fun _ h=>h) ?_
  have bad:sY st.langs wd=false→∀ H',aM H H'→∀ r,H' r=none→Q (.ref r) (upd H' r (.lst [V.int (-1)])):=fun e H' s' r dQ=>by
   have e2:bu st (.word wd)=(st,fI (-1)):=if_pos e
   unfold cV at k
   rw[e2] at k
   exact finish hF k (s'.trans (aM.new dQ)) (s'.free dQ) aw
  refine gD (fun h1=>?_) fun h1=>?_
  ·refine o9 ⟨(by show 1≤aA;decide),fun r dQ=>bad ?_ H (aM.refl _) r dQ⟩
   have:¬ (1≤wd.length∧wd.length≤6):=fun ⟨a,b⟩=>by
    rw[decide_eq_true (show (1:Int)≤wd.length by omega),decide_eq_true (show (wd.length:Int)≤6 by omega)] at h1
    cases h1
   unfold sY
   by_cases a:1≤wd.length
   ·rw[decide_eq_false (show ¬ wd.length≤Si35.COLS from fun b=>this ⟨a,b⟩)]
    simp
   ·rw[decide_eq_false a]
    rfl
  have hn:1≤wd.length∧wd.length≤6:=by
   rw[kY,vt,bx,decide_eq_true_iff,decide_eq_true_iff] at h1
   omega
  have ewo:sY st.langs wd=wd.all (placeOk st.langs):=by
   unfold sY
   rw[decide_eq_true hn.1,decide_eq_true (show wd.length≤Si35.COLS from hn.2)]
   rfl
  refine ⟨_,rfl,q,rfl,⟨_,cG.of eq⟩,fun D hD=>uL (ys:=(wd.map (placeOk st.langs)).map V.bl) hD (cG.of eq) (by rw[ae,ae];exact aG h12 (by decide)) (by rw[ae,ae,ae,bz pr]) (fun x=>rfl) (fun i v y hv hy H1 s1 R hR=>?_) (fun H1 s1 e1=>?_)⟩
  ·obtain ⟨r,dQ,rfl⟩:=eZ hv
   obtain ⟨col,hc,hrc⟩:=cX pr dQ
   rw[aO,aO,hc] at hy
   cases aJ hy
   exact ⟨_,rfl,_,rfl,p,C,dx,_,_,rfl,s1 _ _ hf.ins,T.cl,T.nl,uO _ _ _ _ _,r,col,st.langs,rfl,hrc.same s1,aD (hs12 col (aV hc)) (by decide),fun H2 s2=>hR H2 s2⟩
  refine ⟨D,_,rfl,cG.of e1,_,rfl,?_⟩
  rw[Gw,← ewo]
  refine gD (fun h2=>?_) fun h2=>?_
  ·exact ⟨(by show 1≤aA;decide),fun r dQ=>bad (by simpa using h2) H1 s1 r dQ⟩
  have fj:sY st.langs wd=true:=by simpa using h2
  have lq:((qs.map V.ref).length:Int)=(st.words.length:Int):=by rw[ae,bz pw]
  refine ⟨_,rfl,p,C,dx,_,_,rfl,s1 _ _ hf.ins,T.cl,T.nw,gX _ _ _ _ _,wa,_,rfl,.inl (cG.of (s1 _ _ ew)),rfl,_,rfl,?_⟩
  refine gD (fun h3=>?_) fun h3=>?_
  ·have h3:st.words.length=6:=by
    have:=pk.mp h3
    omega
   have e:bu st (.word wd)=(st,fI (-5)):=(if_neg (by rw[fj];decide)).trans (if_pos (show 6≤st.words.length by omega))
   unfold cV at k
   rw[e] at k
   exact ⟨(by show 1≤aA;decide),fun r dQ=>finish hF k (s1.trans (aM.new dQ)) (s1.free dQ) aw⟩
  have jV:st.words.length<6:=by
   have h4:¬ st.words.length=6:=fun e=>h3 (pk.mpr (by omega))
   have:=hf.ok.ws
   omega
  have e:bu st (.word wd)=({st with words:=st.words++[wd]},fI (st.words.length:Int)):=(if_neg (by rw[fj];decide)).trans (if_neg (show ¬ 6≤st.words.length by omega))
  unfold cV at k
  rw[e] at k
  have nq:q≠wa:=fun z=>nO ((ho q).mpr (.inr (.inr z)))
  have hf1:=hf.same s1
  have sok:By {st with words:=st.words++[wd]}:=by
   refine ⟨hf.ok.l2,hf.ok.l5,hf.ok.cs,by show (st.words++[wd]).length≤6;rw[aK];simp;omega,fun x hx=>?_,hf.ok.tr⟩
   rcases bq.mp hx with hx | hx
   ·exact hf.ok.wd x hx
   ·rw[bB.mp hx]
    refine ⟨hn.1,hn.2,fun col hc=>?_⟩
    rw[ewo,dJ] at fj
    have:=fj col hc
    unfold placeOk at this
    rw[bx,bx] at this
    exact of_decide_eq_true this.2.1
  have fin:=hf1.push (s1 _ _ ew) (pG s1 pw) (hq.same s1) nq sok
  have hq6:(qs.map V.ref).length≤6:=by
   rw[ae,bz pw]
   omega
  refine ⟨_,rfl,p,C,dx,_,_,rfl,hf1.ins,T.cl,T.nw,gX _ _ _ _ _,.inl ⟨rfl,_,cG.of (s1 _ _ ew)⟩,_,rfl,wa,_,_,rfl,rfl,s1 _ _ ew,aG hq6 (by decide),?_⟩
  have l2:((qs.map V.ref++[V.ref q]).length:Int) - 1=(st.words.length:Int):=by
   rw[aK,ae,bz pw]
   simp
  refine ⟨_,rfl,p,C,dx,_,_,rfl,fin.ins,T.cl,T.nw,gX _ _ _ _ _,wa,_,rfl,.inl (cG.of aw),_,_,rfl,rfl,(by show 1≤aA;decide),fun r dQ=>?_⟩
  show Q (V.ref r) (upd (upd H1 wa (.lst (qs.map V.ref++[V.ref q]))) r (.lst [V.int (((qs.map V.ref++[V.ref q]).length:Int) - 1)]))
  rw[l2]
  have s2:=aM.new (o:=.lst [V.int (st.words.length:Int)]) dQ
  have nrw:r≠wa:=(dg aw dQ).symm
  have qD:H r=none:=by
   rw[aT nrw] at dQ
   exact s1.free dQ
  refine k _ O r ⟨dx,c,wa,tt,fin.same s2,ho⟩ ⟨fun b o e no=>s2 _ _ ?_,fun b q=>.inl q⟩ qD (fun z=>?_) aw
  ·rw[aT (fun z=>no ((ho b).mpr (.inr (.inr z))))]
   exact s1 _ _ e
  ·obtain ⟨_,z⟩:=hF.own z
   rw[z] at qD
   cases qD
theorem Ro:bW ["self","nodes"] ["self","nodes"] (bF FX):=⟨rfl,rfl,rfl,by decide +kernel,rfl,by decide +kernel,by decide +kernel⟩
theorem OR {f f1:aj}{fd jW:bI}(F:jt K "tree" "Family.tree" FX f fd)(T:nJ K mg C)
  (G1:cO P w K mg base fB 1 f1 jW ["tree","languages"] (Nu K))(m1:mg "has_each_once"=some (.ref f1))(k1:aP K (.ref f1)=true)(b1:Binds K jW ["tree","languages"] []) :
  cO P w K mg base fB 2 f fd ["self","nodes"] (IA C):=by
 obtain ⟨to,hoor⟩:=T.WK
 refine F.ok Ro (fun vs H Q E h=>?_) (fun iq A outer s H vs Q E hr h=>?_)
 ·obtain ⟨p,q,O,s,t,rfl,_⟩:=h
  rfl
 ·obtain ⟨p,q,O,st,t,rfl,hF,hq,hz,k⟩:=h
  refine ⟨_,aF (eE (tO (pj (bY G1 hr (by rfl) m1 k1 b1 .nil cR (ah (pv 1) (ah (eU (pv 0) rfl) aB))))) (aQ (bL (cP (ah (bX (v:=.int (-1)) (by rfl) hoor ⟨_,rfl⟩) aB)))) cU)
   (aF (tP (pv 0) (pv 1) rfl)
   (aQ (bL (cP (ah aW aB))))),?_⟩
  obtain ⟨dx,c,wa,tt,hf,ho⟩:=id hF
  refine ⟨_,rfl,_,rfl,p,C,dx,_,_,rfl,hf.ins,T.cl,T.nl,uO _ _ _ _ _,q,t,st.langs,rfl,cG.of hq,hz,aD hf.ok.l5 (by decide),fun H1 s1=>⟨_,rfl,?_⟩⟩
  refine gD (fun h1=>?_) fun h1=>?_
  ·have e:bu st (.tree t)=(st,fI (-1)):=if_pos (by simpa using h1)
   unfold cV at k
   rw[e] at k
   exact ⟨(by show 1≤aA;decide),fun r dQ=>finish hF k (s1.trans (aM.new dQ)) (s1.free dQ) aw⟩
  have fj:sZ st.langs t=true:=by simpa using h1
  have e:bu st (.tree t)=({st with tree:=some t},fI 0):=if_neg (by rw[fj];decide)
  unfold cV at k
  rw[e] at k
  have hf1:=hf.same s1
  refine ⟨_,rfl,_,rfl,p,C,dx,_,rfl,hf1.ins,T.cl,T.nr,(by show 5<1000;decide),(by show 1≤aA;decide),fun r dQ=>?_⟩
  rw[SJ] at dQ ⊢
  have up:∀ x o,H1 x=some o→(∀ y z,o≠.ins C y z)→upd H1 p (.ins C dx (ff st.langs st.costs.length c wa (.ref q))) x=some o:=fun x o hx n=>by
   rw[aT (ik hx hf1.ins (n _ _))]
   exact hx
  obtain ⟨kvs,ek,vk⟩:=hf1.costs
  obtain ⟨qs,ew,pw⟩:=hf1.words
  have fin:qL C (upd H1 p (.ins C dx (ff st.langs st.costs.length c wa (.ref q)))) p dx c wa (.ref q) {st with tree:=some t}:=by
   refine ⟨aw,⟨kvs,up _ _ ek (by intro _ _ z;cases z),vk⟩,⟨qs,up _ _ ew (by intro _ _ z;cases z),?_⟩,⟨q,rfl,up _ _ (s1 _ _ hq) (by intro _ _ z;cases z)⟩,⟨hf.ok.l2,hf.ok.l5,hf.ok.cs,hf.ok.ws,hf.ok.wd,fun t' ht'=>?_⟩⟩
   ·exact d7 (fun q wd ⟨rs,er,pr⟩=>⟨rs,up _ _ er (by intro _ _ z;cases z),d7 (fun r c' ⟨z,d1,d2⟩=>⟨z,up _ _ d1 (by intro _ _ z;cases z),up _ _ d2 (by intro _ _ z;cases z)⟩) pr⟩) pw
   ·cases aJ ht'
    exact fj
  have s2:=aM.new (o:=.lst [V.int 0]) dQ
  have nrp:r≠p:=(dg aw dQ).symm
  have qD:H r=none:=by
   rw[aT nrp] at dQ
   exact s1.free dQ
  refine k _ O r ⟨dx,c,wa,_,fin.same s2,ho⟩ ⟨fun b o e no=>s2 _ _ ?_,fun b q=>.inl q⟩ qD (fun z=>?_) aw
  ·rw[aT (fun z=>no ((ho b).mpr (.inl z)))]
   exact s1 _ _ e
  ·obtain ⟨_,z⟩:=hF.own z
   rw[z] at qD
   cases qD
end
theorem pL {s:dz}(h:8<(az s.words).length):Si35.named s=none:=if_pos h
theorem kx {s:dz}(h:¬ 8<(az s.words).length):Si35.named s=some (az s.words,bC (az s.words)):=if_neg h
theorem kN (l:List Nat):eT l=vI (Si35.ints l):=BJ l
theorem PZ (ws:List eF):(jA (gJ ws.flatten)).length=(az ws).length:=by
 unfold jA gJ az
 simp
theorem wo:∀ t:cD,size t+1=2*t.leaves.length
 | .leaf _=>rfl
 | .node a b=>by
  have h1:=wo a
  have h2:=wo b
  show (1+(size a+size b))+1=2*(a.leaves++b.leaves).length
  rw[aK]
  omega
theorem pJ {n:Nat}{t:cD}(h:sZ n t=true):(∀ k∈t.leaves,k<n)∧size t+1=2*n:=by
 unfold sZ at h
 rw[bx,beq_iff_eq,dJ] at h
 have p:=rh (l:=bp n) (m:=t.leaves) QM (fun x hx=>by simpa using h.2 x hx) (by rw[c4];exact h.1)
 refine ⟨fun k hk=>dH.mp (p.mem_iff.mp hk),?_⟩
 rw[wo,h.1]
theorem ub (l:Nat):∀ t u:cD,u∈j7 l t→∀ k∈u.leaves,k=l∨k∈t.leaves
 | .leaf i,u,h,k,hk=>by
  rw[bB.mp h] at hk
  rcases bq.mp hk with hk | hk
  ·exact .inr hk
  ·exact .inl (bB.mp hk)
 | .node a b,u,h,k,hk=>by
  rcases aI.mp h with h | h
  ·rw[h] at hk
   rcases bq.mp hk with hk | hk
   ·exact .inr hk
   ·exact .inl (bB.mp hk)
  ·rcases bq.mp h with h | h
   ·obtain ⟨x,hx,rfl⟩:=aU.mp h
    rcases bq.mp hk with hk | hk
    ·rcases ub l a x hx k hk with z | z
     ·exact .inl z
     ·exact .inr (bq.mpr (.inl z))
    ·exact .inr (bq.mpr (.inr hk))
   ·obtain ⟨x,hx,rfl⟩:=aU.mp h
    rcases bq.mp hk with hk | hk
    ·exact .inr (bq.mpr (.inl hk))
    ·rcases ub l b x hx k hk with z | z
     ·exact .inl z
     ·exact .inr (bq.mpr (.inr z))
theorem DD:∀ (n:Nat) (t:cD),t∈eN (n+1)→∀ k∈t.leaves,k<n+1
 | 0,t,h,k,hk=>by
  rw[bB.mp h] at hk
  rw[bB.mp hk]
  exact Nat.zero_lt_one
 | n+1,t,h,k,hk=>by
  obtain ⟨u,hu,h2⟩:=p8.mp h
  rcases ub _ _ _ h2 k hk with z | z
  ·omega
  ·have:=DD n u hu k z
   omega
def Q1 (s:dz)(i j:Nat):V:=match s.tree with
 | none=>.int (-4)
 | some _=>match qr s i j with
  | none=>.int (-6)
  | some _=>.hC
def ID (C:aj):Sp:=fun vs H Q _=>∃ (p:aj) (O:aj→Prop) (s:dz),vs=[.ref p]∧sS C H p O s∧eP C p O H s (cV s .olds) Q
def DJ (C:aj):Sp:=fun vs H Q _=>∃ (p:aj) (O:aj→Prop) (s:dz) (n:Nat),vs=[.ref p,iv n]∧n≤5000000000∧sS C H p O s∧eP C p O H s (cV s (.leave n)) Q
def vW (C:aj):Sp:=fun vs H Q _=>∃ (p:aj) (O:aj→Prop) (s:dz) (i j:Nat),vs=[.ref p,iv i,iv j]∧sS C H p O s∧Q (Q1 s i j) H
def Nl (C:aj):Sp:=fun vs H Q _=>∃ (p:aj) (O:aj→Prop) (s:dz) (i j:Nat),vs=[.ref p,iv i,iv j]∧sS C H p O s∧eP C p O H s (cV s (.root i j)) Q
def AE (C:aj):Sp:=fun vs H Q _=>∃ (p:aj) (O:aj→Prop) (s:dz) (i j:Nat),vs=[.ref p,iv i,iv j]∧sS C H p O s∧eP C p O H s (cV s (.states i j)) Q
def yB (C:aj):Sp:=fun vs H Q _=>∃ (p q:aj) (O:aj→Prop) (s:dz) (t:cD),vs=[.ref p,.ref q]∧sS C H p O s∧H q=some (.lst (vI (gT t)))∧size t≤1000∧(∀ k∈t.leaves,k<s.langs) ∧
 ∀ H' r,aM H H'→H r=none→H' r=some (.lst (eT (s.words.flatten.map (t.score s.costs))))→Q (.ref r) H'
def DG (C:aj):Sp:=fun vs H Q _=>∃ (p:aj) (O:aj→Prop) (s:dz),vs=[.ref p]∧sS C H p O s∧eP C p O H s (cV s .score) Q
section
variable {P:aY}{w:bO}{K:ai}{mg:cp→Option ag}{base:bU}{C:aj}
theorem BV:bW ["self","found","numbers"] ["self"] (bF F5):=⟨rfl,rfl,rfl,by decide +kernel,rfl,by decide +kernel,by decide +kernel⟩
theorem OX {f f1 f2:aj}{fd jW mG:bI}(F:jt K "olds" "Family.olds" F5 f fd)(T:nJ K mg C)(TF:qi mg)
  (G1:cO P w K mg base fB 1 f1 jW ["words"] pz)(m1:mg "count_places"=some (.ref f1))(k1:aP K (.ref f1)=true)(b1:Binds K jW ["words"] [])
  (G2:cO P w K mg base fB 12 f2 mG ["patterns"] FL)(m2:mg "give_old_sounds"=some (.ref f2))(k2:aP K (.ref f2)=true)(b2:Binds K mG ["patterns"] []) :
  cO P w K mg base fB 13 f fd ["self"] (ID C):=by
 obtain ⟨tm,yk⟩:=T.J4
 obtain ⟨tc,qJ⟩:=T.Ij
 refine F.ok BV (fun vs H Q E h=>?_) (fun iq A outer s H vs Q E hr h=>?_)
 ·obtain ⟨p,O,s,rfl,_⟩:=h
  rfl
 ·obtain ⟨p,O,st,rfl,hF,k⟩:=h
  have nW:fO 1 _:=hr.mono (by decide)
  refine ⟨_,aF (cw (i:=1) BV.nd rfl (bj rfl) (kl (pP rfl) (by rfl) TF.list sU (ah (bY G1 nW (by rfl) m1 k1 b1 .nil cR (ah (eU (pv 0) rfl) aB)) aB)))
   (aF (eE (bS Dg (bP bD (by rfl) TF.len bb (ah (pv 1) aB)) (bX (v:=.int 8) (by rfl) qJ ⟨_,rfl⟩) (cj _)) (aQ (bL (cP (ah (bX (v:=.int (-5)) (by rfl) yk ⟨_,rfl⟩) aB)))) cU)
   (aF (cw (i:=2) BV.nd rfl (bj rfl) (bY G2 hr rfl m2 k2 b2 .nil cR (ah (pv 1) aB)))
   (aQ (bL (dX jk (cP (ah (dX eL (xZ rfl (by rfl) TF.max (ah (pv 2) aB) (qG lW aW)) aW) aB)) (pv 2)))))),?_⟩
  obtain ⟨dx,c,wa,tt,hf,ho⟩:=id hF
  refine cn ⟨_,rfl,p,C,dx,_,_,rfl,hf.ins,T.cl,T.nw,gX _ _ _ _ _,wa,st.words,rfl,hf.words,aD hf.ok.flat (by decide),fun H1 t s1 _ e1=>⟨t,_,rfl,e1,fun qs q pq hq=>?_⟩⟩
  have hw:=sH hq pq
  have s2:=s1.trans (aM.new (o:=.lst (qs.map V.ref)) hq)
  generalize upd H1 q (.lst (qs.map V.ref))=H2 at hw s2
  obtain ⟨rs,e2,p2⟩:=id hw
  have lr:((rs.map V.ref).length:Int)=((az st.words).length:Int):=by rw[ae,bz p2]
  refine ⟨_,rfl,q,_,rfl,.inl (cG.of e2),_,_,rfl,rfl,_,rfl,?_⟩
  rw[lr]
  refine gD (fun h1=>?_) fun h1=>?_
  ·have h1:8<(az st.words).length:=by
    have:=of_decide_eq_true h1
    omega
   have e:bu st .olds=(st,fI (-5)):=by simp only[bu,pL h1]
   unfold cV at k
   rw[e] at k
   exact ⟨(by show 1≤aA;decide),fun r dQ=>finish hF k (s2.trans (aM.new dQ)) (s2.free dQ) aw⟩
  have h1:¬ 8<(az st.words).length:=fun z=>h1 (decide_eq_true (by omega))
  have e:bu st .olds=(st,⟨(aZ (bC (az st.words)):Int),Si35.ints (bC (az st.words))⟩):=by simp only[bu,kx h1]
  unfold cV at k
  rw[e] at k
  have lns:=zD (az st.words)
  refine ⟨_,rfl,q,az st.words,rfl,hw,by omega,fun H3 t' s3 e3=>?_⟩
  generalize bC (az st.words)=ns at k lns e3
  have hgi:eT ns=(ns.map fun n=>((n:Nat):Int)).map V.int:=by show eB iv ns=_;rw[br];rfl
  refine ⟨_,rfl,_,rfl,t',_,rfl,cG.of (hgi▸e3),_,1,sN ns,rfl,(by show 1≤aA;decide),fun r1 hr1'=>?_⟩
  have s4:=aM.new (o:=.lst [V.int ((aZ ns:Int) - 1+1)]) hr1'
  refine ⟨_,rfl,r1,t',_,_,rfl,rfl,aw,s4 _ _ e3,?_,fun r dQ=>?_⟩
  ·rw[ae,lns]
   exact aD (show 1+_≤9 by omega) (by decide)
  ·refine finish hF k ((s2.trans s3).trans (s4.trans (aM.new dQ))) ((s2.trans s3).free (s4.free dQ)) ?_
   rw[aw]
   show some (HO.lst ([V.int ((aZ ns:Int) - 1+1)]++eT ns))=_
   rw[kN,show (aZ ns:Int) - 1+1=(aZ ns:Int) by omega]
   rfl
theorem DQ:bW ["self","k","left_out"] ["self","k"] (bF B0):=⟨rfl,rfl,rfl,by decide +kernel,rfl,by decide +kernel,by decide +kernel⟩
theorem K9 (ws:List eF)(n:Nat):(k8 ws n).length≤ws.length:=by
 unfold k8
 cases e:(bp (ws.length+1)).findSome? fun m=>(lD m ws.length (bp ws.length)).find? fun o=>decide (aZ (bC (az (j5 ws o)))≤n) with
 | none=>exact aR _
 | some o =>
  obtain ⟨m,hm,h2⟩:=List.exists_of_findSome?_eq_some e
  have:=(pM m _ _ o (CN h2)).1
  have:=dH.mp hm
  show o.length≤_
  omega
theorem KO {f f1 f2:aj}{fd jW mG:bI}(F:jt K "leave" "Family.leave" B0 f fd)(T:nJ K mg C)(TF:qi mg)
  (G1:cO P w K mg base fB 1 f1 jW ["words"] pz)(m1:mg "count_places"=some (.ref f1))(k1:aP K (.ref f1)=true)(b1:Binds K jW ["words"] [])
  (G2:cO P w K mg base fB 13 f2 mG ["words","limit"] IE)(m2:mg "leave_out"=some (.ref f2))(k2:aP K (.ref f2)=true)(b2:Binds K mG ["words","limit"] []) :
  cO P w K mg base fB 14 f fd ["self","k"] (DJ C):=by
 obtain ⟨tm,yk⟩:=T.J4
 obtain ⟨tc,qJ⟩:=T.Ij
 refine F.ok DQ (fun vs H Q E h=>?_) (fun iq A outer s H vs Q E hr h=>?_)
 ·obtain ⟨p,O,s,n,rfl,_⟩:=h
  rfl
 ·obtain ⟨p,O,st,n,rfl,hn,hF,k⟩:=h
  have nW:fO 1 _:=hr.mono (by decide)
  refine ⟨_,aF (eE (bS Dg (bP Bc (by rfl) TF.len bb (ah (bY G1 nW (by rfl) m1 k1 b1 .nil cR (ah (eU (pv 0) rfl) aB)) aB)) (bX (v:=.int 8) (by rfl) qJ ⟨_,rfl⟩) (cj _)) (aQ (bL (cP (ah (bX (v:=.int (-5)) (by rfl) yk ⟨_,rfl⟩) aB)))) cU)
   (aF (cw (i:=2) DQ.nd rfl (bj rfl) (bY G2 hr rfl m2 k2 b2 .nil cR (ah (eU (pv 0) rfl) (ah (pv 1) aB))))
   (aQ (bL (dX jk (cP (ah (bP bD (by rfl) TF.len bb (ah (pv 2) aB)) aB)) (pv 2))))),?_⟩
  obtain ⟨dx,c,wa,tt,hf,ho⟩:=id hF
  refine ⟨_,rfl,p,C,dx,_,_,rfl,hf.ins,T.cl,T.nw,gX _ _ _ _ _,wa,st.words,rfl,hf.words,aD hf.ok.flat (by decide),fun H1 t s1 _ e1=>⟨t,_,rfl,e1,_,_,rfl,rfl,_,rfl,?_⟩⟩
  rw[PZ]
  refine gD (fun h1=>?_) fun h1=>?_
  ·have h1:8<(az st.words).length:=by
    have:=of_decide_eq_true h1
    omega
   have e:bu st (.leave n)=(st,fI (-5)):=by simp[bu,pL h1]
   unfold cV at k
   rw[e] at k
   exact ⟨(by show 1≤aA;decide),fun r dQ=>finish hF k (s1.trans (aM.new dQ)) (s1.free dQ) aw⟩
  have h1:¬ 8<(az st.words).length:=fun z=>h1 (decide_eq_true (by omega))
  have e:bu st (.leave n)=(st,⟨((k8 st.words n).length:Int),Si35.ints (k8 st.words n)⟩):=by simp[bu,kx h1]
  unfold cV at k
  rw[e] at k
  have hf1:=hf.same s1
  refine ⟨_,rfl,p,C,dx,_,_,rfl,hf1.ins,T.cl,T.nw,gX _ _ _ _ _,_,rfl,wa,st.words,n,rfl,hf1.words,hf.ok.ws,aD hf.ok.flat (by decide),by omega,hn,fun H3 t' s3 e3=>?_⟩
  have ll:=K9 st.words n
  have lw:=hf.ok.ws
  generalize k8 st.words n=ns at k e3 ll
  refine ⟨_,rfl,t',_,rfl,.inl (cG.of e3),(by show 1≤aA;decide),fun r1 hr1'=>?_⟩
  have s4:=aM.new (o:=.lst [V.int ((eT ns).length:Int)]) hr1'
  refine ⟨_,rfl,r1,t',_,_,rfl,rfl,aw,s4 _ _ e3,?_,fun r dQ=>?_⟩
  ·rw[ae]
   exact aD (show 1+_≤9 by omega) (by decide)
  ·refine finish hF k ((s1.trans s3).trans (s4.trans (aM.new dQ))) ((s1.trans s3).free (s4.free dQ)) ?_
   rw[aw]
   show some (HO.lst ([V.int ((eT ns).length:Int)]++eT ns))=_
   rw[ae,kN]
   rfl
theorem Q4 {v:V}(h:v≠.hC){a b:Prop}(q:a):if (!decide (v=.hC))=true then a else b:=by
 rw[if_pos (by simp[h])]
 exact q
theorem ZL {a b:Prop}(q:b):if (!decide (V.hC=.hC))=true then a else b:=by
 rw[if_neg (by simp)]
 exact q
theorem W7 {a b:Prop}(q:a):if decide (V.hC=.hC)=true then a else b:=by
 rw[if_pos (by simp)]
 exact q
theorem Uq {v:V}(h:v≠.hC){a b:Prop}(q:b):if decide (v=.hC)=true then a else b:=by
 rw[if_neg (by simp[h])]
 exact q
theorem jv {α β:Type}{R:α→β→Prop}:∀ {l:List α} {m:List β} {i:Nat} {b:β},Paired R l m→m[i]?=some b→∃ a,l[i]?=some a∧R a b
 | _,_,_,_,.nil,h=>by simp at h
 | _,_,0,_,.cons a _,h=>by
  cases aJ h
  exact ⟨_,rfl,a⟩
 | _,_,i+1,_,.cons _ t,h=>jv (i:=i) t h
theorem jO {rs:List aj}{i:Nat}{r:aj}(h:rs[i]?=some r):(rs.map V.ref)[i]?=some (V.ref r):=by rw[aO,h];rfl
theorem Kx:bW ["self","word","place"] ["self","word","place"] (bF yH):=⟨rfl,rfl,rfl,by decide +kernel,rfl,by decide +kernel,by decide +kernel⟩
theorem Hi {f:aj}{fd:bI}(F:jt K "refused_place" "Family.refused_place" yH f fd)(T:nJ K mg C)(TF:qi mg):cO P w K mg base fB 1 f fd ["self","word","place"] (vW C):=by
 obtain ⟨tm,hno⟩:=T.not
 obtain ⟨tc,hth⟩:=T.Gk
 refine F.ok Kx (fun vs H Q E h=>?_) (fun iq A outer s H vs Q E hr h=>?_)
 ·obtain ⟨p,O,s,i,j,rfl,_⟩:=h
  rfl
 ·obtain ⟨p,O,st,i,j,rfl,hF,k⟩:=h
  refine ⟨_,aF (eE (bS Gj (eU (pv 0) rfl) nM (cj _)) (aQ (bL (bX (v:=.int (-4)) (by rfl) hno ⟨_,rfl⟩))) cU)
   (aF (eE (Ih (bS Dh (pv 1) (bP bD (by rfl) TF.len bb (ah (eU (pv 0) rfl) aB)) (cj _)) (BE (bS Dh (pv 2) (bP bD (by rfl) TF.len bb (ah (cy cJ (eU (pv 0) rfl) (pv 1) (fun _ _=>rfl)) aB)) (cj _)))).pt (aQ (bL (bX (v:=.int (-6)) (by rfl) hth ⟨_,rfl⟩))) cU)
   (aQ (bL nM))),?_⟩
  obtain ⟨dx,c,wa,tt,hf,ho⟩:=id hF
  have ht:=hf.tree
  refine ⟨_,rfl,p,C,dx,_,_,rfl,hf.ins,T.cl,T.nr,uN _ _ _ _ _,rfl,_,rfl,?_⟩
  unfold Q1 at k
  cases e:st.tree with
  | none =>
   rw[e] at ht k
   have ht:tt=.hC:=ht
   subst ht
   exact W7 k
  | some t =>
   rw[e] at ht k
   obtain ⟨a,rfl,ea⟩:=ht
   refine Uq (by intro z;cases z) ?_
   obtain ⟨qs,ew,pw⟩:=id hf.words
   have lq:((qs.map V.ref).length:Int)=(st.words.length:Int):=by rw[ae,bz pw]
   refine ⟨_,rfl,_,rfl,p,C,dx,_,_,rfl,hf.ins,T.cl,T.nw,gX _ _ _ _ _,wa,_,rfl,.inl (cG.of ew),_,_,rfl,rfl,_,rfl,?_⟩
   rw[lq]
   unfold qr at k
   refine gD (fun h1=>?_) fun h1=>?_
   ·have h1:st.words.length≤i:=by
     have:=of_decide_eq_true h1
     omega
    rw[bG h1] at k
    exact o9 k
   have h1:i<st.words.length:=iz fun z=>h1 (decide_eq_true (by omega))
   obtain ⟨wd,hw⟩:∃ wd,st.words[i]?=some wd:=⟨_,aE h1⟩
   obtain ⟨q,hq,rs,er,pr⟩:=jv pw hw
   have lr:((rs.map V.ref).length:Int)=(wd.length:Int):=by rw[ae,bz pr]
   rw[hw] at k
   refine ⟨_,rfl,_,rfl,p,C,dx,_,_,rfl,hf.ins,T.cl,T.nw,gX _ _ _ _ _,_,rfl,wa,_,i,_,rfl,rfl,cG.of ew,cg (jO hq),q,_,rfl,.inl (cG.of er),_,_,rfl,rfl,_,rfl,?_⟩
   rw[lr]
   refine gD (fun h2=>?_) fun h2=>?_
   ·have h2:wd.length≤j:=by
     have:=of_decide_eq_true h2
     omega
    have k:Q (match wd[j]? with | none=>.int (-6) | some _=>.hC) H:=k
    rw[bG h2] at k
    exact k
   ·have h2:j<wd.length:=iz fun z=>h2 (decide_eq_true (by omega))
    have k:Q (match wd[j]? with | none=>.int (-6) | some _=>.hC) H:=k
    rw[aE h2] at k
    exact k
theorem N0 {H:Hp}{w:aj}{s:dz}{i j:Nat}{c:bJ}(h:lI H w s.words)(e:qr s i j=some c):∃ (qs:List aj) (q:aj) (rs:List aj) (r b:aj),H w=some (.lst (qs.map V.ref))∧qs[i]?=some q∧H q=some (.lst (rs.map V.ref))∧rs[j]?=some r∧H r=some (.tup [iv c.env,.ref b])∧H b=some (.tup (eT c.sounds))∧c∈s.words.flatten:=by
 obtain ⟨qs,ew,pw⟩:=h
 unfold qr at e
 obtain ⟨wd,hw,hc⟩:=o5.mp e
 obtain ⟨q,hq,rs,er,pr⟩:=jv pw hw
 obtain ⟨r,hr,b,e1,e2⟩:=jv pr hc
 exact ⟨qs,q,rs,r,b,ew,hq,er,hr,e1,e2,QN.mpr ⟨wd,aV hw,aV hc⟩⟩
theorem Kz (l:dq)(t:cD)(c:bJ):(t.roots l c).length≤c.sounds.length:=by
 unfold cD.roots
 exact aD (cY _ _) (nv c)
theorem FQ:bW ["self","word","place","refused","found"] ["self","word","place"] (bF MM):=⟨rfl,rfl,rfl,by decide +kernel,rfl,by decide +kernel,by decide +kernel⟩
theorem RF {f f1 f2:aj}{fd jW mG:bI}(F:jt K "root" "Family.root" MM f fd)(T:nJ K mg C)(TF:qi mg)
  (G1:cO P w K mg base fB 1 f1 jW ["self","word","place"] (vW C))(m1:ym K C "refused_place" f1)(b1:Binds K jW ["self","word","place"] [])
  (G2:cO P w K mg base fB 5 f2 mG ["tree","sounds","costs"] (BO K))(m2:mg "score_and_roots"=some (.ref f2))(k2:aP K (.ref f2)=true)(b2:Binds K mG ["tree","sounds","costs"] []) :
  cO P w K mg base fB 6 f fd ["self","word","place"] (Nl C):=by
 refine F.ok FQ (fun vs H Q E h=>?_) (fun iq A outer s H vs Q E hr h=>?_)
 ·obtain ⟨p,O,s,i,j,rfl,_⟩:=h
  rfl
 ·obtain ⟨p,O,st,i,j,rfl,hF,k⟩:=h
  have nW:fO 1 _:=hr.mono (by decide)
  refine ⟨_,aF (cw (i:=3) FQ.nd rfl (bj rfl) (hZ (pv 0) T.cl m1 G1 nW b1 .nil cR (ah (pv 1) (ah (pv 2) aB))))
   (aF (eE (bS x4 (pv 3) nM (cj _)) (aQ (bL (cP (ah (pv 3) aB)))) cU)
   (aF (cw (i:=4) FQ.nd rfl (bj rfl) (bY G2 hr rfl m2 k2 b2 .nil cR (ah (eU (pv 0) rfl) (ah (cy dO (cy cJ (cy cJ (eU (pv 0) rfl) (pv 1) (fun _ _=>rfl)) (pv 2) (fun _ _=>rfl)) aW (fun _ _=>rfl)) (ah (eU (pv 0) rfl) aB)))))
   (aQ (bL (dX jk (cP (ah (cy dO (pv 4) aW (fun _ _=>rfl)) (ah (bP bD (by rfl) TF.len bb (ah (cy dO (pv 4) aW (fun _ _=>rfl)) aB)) aB))) (cy dO (pv 4) aW (fun _ _=>rfl))))))),?_⟩
  obtain ⟨dx,c,wa,tt,hf,ho⟩:=id hF
  have ht:=hf.tree
  refine cn ⟨_,rfl,p,dx,_,rfl,hf.ins,Ak _ _ _ _ _ (by decide +kernel) (by decide +kernel) (by decide +kernel) (by decide +kernel) (by decide +kernel),_,rfl,_,rfl,p,O,st,i,j,rfl,hF,?_⟩
  unfold cV at k
  unfold Q1
  cases e:st.tree with
  | none =>
   rw[show bu st (.root i j)=(st,fI (-4)) by simp only[bu,e]] at k
   exact ⟨_,rfl,rfl,_,rfl,Q4 (by intro z;cases z) ⟨_,rfl,(by show 1≤aA;decide),fun r dQ=>finish hF k (aM.new dQ) dQ aw⟩⟩
  | some t =>
   rw[e] at ht
   obtain ⟨a,rfl,ea⟩:=ht
   cases ec:qr st i j with
   | none =>
    rw[show bu st (.root i j)=(st,fI (-6)) by simp only[bu,e,ec]] at k
    exact ⟨_,rfl,rfl,_,rfl,Q4 (by intro z;cases z) ⟨_,rfl,(by show 1≤aA;decide),fun r dQ=>finish hF k (aM.new dQ) dQ aw⟩⟩
   | some col =>
    rw[show bu st (.root i j)=(st,⟨(t.score st.costs col:Int),Si35.ints ((t.roots st.costs col).length::t.roots st.costs col)⟩) by simp only[bu,e,ec]] at k
    obtain ⟨qs,q,rs,r,b,ew,hq,er,dQ,e1,e2,hm⟩:=N0 hf.words ec
    have hl:=hf.ok.col hm
    obtain ⟨t1,t2⟩:=pJ (hf.ok.tr t e)
    have l5:=hf.ok.l5
    refine ⟨_,rfl,rfl,_,rfl,ZL ?_⟩
    refine ⟨_,rfl,p,C,dx,_,_,rfl,hf.ins,T.cl,T.nr,uN _ _ _ _ _,_,rfl,p,C,dx,_,_,rfl,hf.ins,T.cl,T.nw,gX _ _ _ _ _,_,rfl,wa,_,i,_,rfl,rfl,cG.of ew,cg (jO hq),_,rfl,q,_,j,_,rfl,rfl,cG.of er,cg (jO dQ),r,_,1,_,rfl,rfl,fN.of e1,(show Ia [iv col.env,V.ref b] 1=some (.ref b) from rfl),_,rfl,p,C,dx,_,_,rfl,hf.ins,T.cl,T.nc,qV _ _ _ _ _,a,b,c,t,col,st.costs,rfl,cG.of ea,fN.of e2,hf.costs,by omega,by omega,fun x hx=>by rw[hl];exact t1 x hx,fun H1 q2 r2 s1 hr2 e3 e4=>?_⟩
    have i1:Ia [iv (t.score st.costs col),V.ref r2] 1=some (.ref r2):=rfl
    refine ⟨_,rfl,q2,_,0,_,rfl,rfl,fN.of e3,rfl,_,rfl,q2,_,1,_,rfl,rfl,fN.of e3,i1,r2,_,rfl,.inl (cG.of e4),(by show 2≤aA;decide),fun r3 hr3=>?_⟩
    have s2:=aM.new (o:=.lst [iv (t.score st.costs col),V.int ((eT (t.roots st.costs col)).length:Int)]) hr3
    refine ⟨_,rfl,q2,_,1,_,rfl,rfl,fN.of (s2 _ _ e3),i1,r3,r2,_,_,rfl,rfl,aw,s2 _ _ e4,?_,fun r4 hr4=>?_⟩
    ·have:=Kz st.costs t col
     rw[ae]
     exact aD (show 2+_≤9 by omega) (by decide)
    ·refine finish hF k (s1.trans (s2.trans (aM.new hr4))) (s1.free (s2.free hr4)) ?_
     rw[aw]
     show some (HO.lst ([iv (t.score st.costs col),V.int ((eT (t.roots st.costs col)).length:Int)]++eT (t.roots st.costs col)))=_
     rw[ae,kN]
     rfl
theorem AJ:bW ["self","word","place","refused"] ["self","word","place"] (bF yG):=⟨rfl,rfl,rfl,by decide +kernel,rfl,by decide +kernel,by decide +kernel⟩
theorem Hh {f f1 f2:aj}{fd jW mG:bI}(F:jt K "states" "Family.states" yG f fd)(T:nJ K mg C)
  (G1:cO P w K mg base fB 1 f1 jW ["self","word","place"] (vW C))(m1:ym K C "refused_place" f1)(b1:Binds K jW ["self","word","place"] [])
  (G2:cO P w K mg base fB 5 f2 mG ["tree","sounds","costs"] (DF K))(m2:mg "states_on"=some (.ref f2))(k2:aP K (.ref f2)=true)(b2:Binds K mG ["tree","sounds","costs"] []) :
  cO P w K mg base fB 6 f fd ["self","word","place"] (AE C):=by
 refine F.ok AJ (fun vs H Q E h=>?_) (fun iq A outer s H vs Q E hr h=>?_)
 ·obtain ⟨p,O,s,i,j,rfl,_⟩:=h
  rfl
 ·obtain ⟨p,O,st,i,j,rfl,hF,k⟩:=h
  have nW:fO 1 _:=hr.mono (by decide)
  refine ⟨_,aF (cw (i:=3) AJ.nd rfl (bj rfl) (hZ (pv 0) T.cl m1 G1 nW b1 .nil cR (ah (pv 1) (ah (pv 2) aB))))
   (aF (eE (bS x4 (pv 3) nM (cj _)) (aQ (bL (cP (ah (pv 3) aB)))) cU)
   (aQ (bL (dX jk (cP (ah aW aB)) (bY G2 hr rfl m2 k2 b2 .nil cR (ah (eU (pv 0) rfl) (ah (cy dO (cy cJ (cy cJ (eU (pv 0) rfl) (pv 1) (fun _ _=>rfl)) (pv 2) (fun _ _=>rfl)) aW (fun _ _=>rfl)) (ah (eU (pv 0) rfl) aB)))))))),?_⟩
  obtain ⟨dx,c,wa,tt,hf,ho⟩:=id hF
  refine cn ⟨_,rfl,p,dx,_,rfl,hf.ins,Ak _ _ _ _ _ (by decide +kernel) (by decide +kernel) (by decide +kernel) (by decide +kernel) (by decide +kernel),_,rfl,_,rfl,p,O,st,i,j,rfl,hF,?_⟩
  unfold cV at k
  unfold Q1
  have ht:=hf.tree
  cases e:st.tree with
  | none =>
   rw[show bu st (.states i j)=(st,fI (-4)) by simp only[bu,e]] at k
   exact ⟨_,rfl,rfl,_,rfl,Q4 (by intro z;cases z) ⟨_,rfl,(by show 1≤aA;decide),fun r dQ=>finish hF k (aM.new dQ) dQ aw⟩⟩
  | some t =>
   rw[e] at ht
   obtain ⟨a,rfl,ea⟩:=ht
   cases ec:qr st i j with
   | none =>
    rw[show bu st (.states i j)=(st,fI (-6)) by simp only[bu,e,ec]] at k
    exact ⟨_,rfl,rfl,_,rfl,Q4 (by intro z;cases z) ⟨_,rfl,(by show 1≤aA;decide),fun r dQ=>finish hF k (aM.new dQ) dQ aw⟩⟩
   | some col =>
    rw[show bu st (.states i j)=(st,⟨0,Si35.ints (t.states st.costs col ((t.roots st.costs col).headD 0))⟩) by simp only[bu,e,ec]] at k
    obtain ⟨t1,t2⟩:=pJ (hf.ok.tr t e)
    have l5:=hf.ok.l5
    refine ⟨_,rfl,rfl,_,rfl,ZL ⟨(by show 1≤aA;decide),fun r0 qD=>?_⟩⟩
    have s0:=aM.new (o:=.lst [V.int 0]) qD
    have hf:=hf.same s0
    have ea:=s0 _ _ ea
    obtain ⟨qs,q,rs,r,b,ew,hq,er,dQ,e1,e2,hm⟩:=N0 hf.words ec
    have hl:=hf.ok.col hm
    refine ⟨_,rfl,p,C,dx,_,_,rfl,hf.ins,T.cl,T.nr,uN _ _ _ _ _,_,rfl,p,C,dx,_,_,rfl,hf.ins,T.cl,T.nw,gX _ _ _ _ _,_,rfl,wa,_,i,_,rfl,rfl,cG.of ew,cg (jO hq),_,rfl,q,_,j,_,rfl,rfl,cG.of er,cg (jO dQ),r,_,1,_,rfl,rfl,fN.of e1,(show Ia [iv col.env,V.ref b] 1=some (.ref b) from rfl),_,rfl,p,C,dx,_,_,rfl,hf.ins,T.cl,T.nc,qV _ _ _ _ _,a,b,c,t,col,st.costs,rfl,cG.of ea,fN.of e2,hf.costs,by omega,by omega,fun x hx=>by rw[hl];exact t1 x hx,fun H1 q2 s1 hq2 e3=>?_⟩
    have ls:=iw st.costs col t ((t.roots st.costs col).headD 0)
    generalize t.states st.costs col ((t.roots st.costs col).headD 0)=ss at k e3 ls
    refine ⟨r0,q2,_,_,rfl,rfl,s1 _ _ aw,e3,?_,fun r4 hr4=>?_⟩
    ·rw[ae,ls]
     exact aD (show 1+_≤11 by omega) (by decide)
    ·refine finish hF k ((s0.trans s1).trans (aM.new hr4)) (s0.free (s1.free hr4)) ?_
     rw[aw]
     show some (HO.lst ([V.int 0]++eT ss))=_
     rw[kN]
     rfl
theorem mv:bW ["self","tree","scores","places","place"] ["self","tree"] (bF vY):=⟨rfl,rfl,rfl,by decide +kernel,rfl,by decide +kernel,by decide +kernel⟩
theorem EK {f f2:aj}{fd mG:bI}(F:jt K "scores_on" "Family.scores_on" vY f fd)(T:nJ K mg C)
  (G2:cO P w K mg base fB 5 f2 mG ["tree","sounds","costs"] (BO K))(m2:mg "score_and_roots"=some (.ref f2))(k2:aP K (.ref f2)=true)(b2:Binds K mG ["tree","sounds","costs"] []) :
  cO P w K mg base fB 6 f fd ["self","tree"] (yB C):=by
 refine F.ok mv (fun vs H Q E h=>?_) (fun iq A outer s H vs Q E hr h=>?_)
 ·obtain ⟨p,q,O,s,t,rfl,_⟩:=h
  rfl
 ·obtain ⟨p,q,O,st,t,rfl,hF,hq,hz,hlv,k⟩:=h
  refine ⟨_,aF (cw (i:=2) mv.nd rfl (bj rfl) (cP aB))
   (aF (gp bH rfl (d9 (eU (pv 0) rfl)) (cI (i:=3) mv.nd rfl (bj rfl))
    (aQ (fP (jL bK fT fS lN (pv 2) (ah (jc rfl mv.nd (d9 (pv 3)) (dS (own:=[("place",4)]) (by rfl)) (fun _ _ _ _ _=>cI (i:=4) mv.nd rfl (bj rfl)) (fun _ _ _ _ _=>gq) (fun _ _ _ _ _=>cy (r:=C6 K) dO (bY G2 hr (by rfl) m2 k2 b2 .nil cR (ah (pv 1) (ah (cy (r:=C6 K) dO (pv 4) aW (fun _ _=>rfl)) (ah (IY (K:=K) rfl (pv 0) rfl) aB)))) aW (fun _ _=>rfl))) aB)))))
   (aQ (bL (pv 2)))),?_⟩
  obtain ⟨dx,c,wa,tt,hf,ho⟩:=id hF
  obtain ⟨qs,ew,pw⟩:=id hf.words
  have hfl:=hf.ok.flat
  have hl5:=hf.ok.l5
  refine cn ⟨aR _,fun g hg=>?_⟩
  have s0:aM H (upd H g (.lst [])):=aM.new hg
  refine ⟨_,rfl,p,C,dx,_,_,rfl,s0 _ _ hf.ins,T.cl,T.nw,gX _ _ _ _ _,wa,rfl,⟨_,cG.of (s0 _ _ ew)⟩,iC (K:=K) (a:=wa) (xs:=qs.map V.ref) (fun i σ H'=>∃ v3 v4:Option V,σ=[some (.ref p),some (.ref q),some (.ref g),v3,v4]∧aM H H'∧H' g=some (.lst (eT ((st.words.take i).flatten.map (t.score st.costs)))))
   ⟨none,none,rfl,s0,aw⟩ (fun i σ H' _ ⟨_,_,_,s1,_⟩=>cG.of (s1 _ _ ew)) ?_ ?_⟩
  ·rintro i y σ H1 hi ⟨v3,v4,rfl,s1,e1⟩
   obtain ⟨x,hx,rfl⟩:=eZ hi
   obtain ⟨wd,hw,rs,er,pr⟩:=cX pw hx
   have hwd:=hf.ok.wd wd (aV hw)
   refine ⟨_,rfl,.inl ⟨rfl,_,cG.of e1⟩,_,rfl,x,rfl,⟨_,cG.of (s1 _ _ er)⟩,fun D hD=>uL (ys:=eT (wd.map (t.score st.costs))) hD (cG.of (s1 _ _ er)) (by rw[ae,ae];exact aG hwd.2.1 (by decide)) (by rw[ae,ae,ae,bz pr]) (fun x=>rfl) (fun j v y hv hy H2 s2 R hR=>?_) (fun H2 s2 e2=>?_)⟩
   ·obtain ⟨r,dQ,rfl⟩:=eZ hv
    obtain ⟨col,hc,b,c1,c2⟩:=cX pr dQ
    rw[aO,aO,hc] at hy
    cases aJ hy
    have s12:=s1.trans s2
    have hlc:=hwd.2.2 col (aV hc)
    refine ⟨_,rfl,_,rfl,r,_,1,_,rfl,rfl,fN.of (s12 _ _ c1),(show Ia [iv col.env,V.ref b] 1=some (.ref b) from rfl),_,rfl,p,C,dx,_,_,rfl,s12 _ _ hf.ins,T.cl,T.nc,qV _ _ _ _ _,q,b,c,t,col,st.costs,rfl,cG.of (s12 _ _ hq),fN.of (s12 _ _ c2),hf.costs.same s12,hz,by omega,fun z hz'=>by rw[hlc];exact hlv z hz',fun H3 q2 r2 s3 _ e3 _=>?_⟩
    exact ⟨q2,_,0,_,rfl,rfl,fN.of e3,rfl,hR H3 s3⟩
   ·have eg:=s2 _ _ e1
    have l1:(st.words.take i).flatten.length≤36:=aD (qU (Qt i st.words)).length_le hfl
    refine ⟨g,D,_,_,rfl,rfl,eg,e2,?_,_,_,rfl,(s1.trans s2).upd hg,?_⟩
    ·have:=hwd.2.1
     simp only[ae]
     exact aD (show _≤42 by omega) (by decide)
    ·rw[aw,take_snoc hw,jh,aX]
     show some (HO.lst (_++_))=some (HO.lst (eB iv _))
     rw[aX]
     congr 3
     simp
  ·rintro σ H1 ⟨v3,v4,rfl,s1,e1⟩
   refine ⟨_,rfl,k H1 g s1 hg ?_⟩
   rw[ae,bz pw,bE] at e1
   exact e1
theorem DP:bW ["self","scores"] ["self"] (bF BX):=⟨rfl,rfl,rfl,by decide +kernel,rfl,by decide +kernel,by decide +kernel⟩
theorem KJ {f f2:aj}{fd mG:bI}(F:jt K "score" "Family.score" BX f fd)(T:nJ K mg C)(TF:qi mg)
  (G2:cO P w K mg base fB 6 f2 mG ["self","tree"] (yB C))(m2:ym K C "scores_on" f2)(b2:Binds K mG ["self","tree"] []) :
  cO P w K mg base fB 7 f fd ["self"] (DG C):=by
 obtain ⟨tm,hno⟩:=T.not
 refine F.ok DP (fun vs H Q E h=>?_) (fun iq A outer s H vs Q E hr h=>?_)
 ·obtain ⟨p,O,s,rfl,_⟩:=h
  rfl
 ·obtain ⟨p,O,st,rfl,hF,k⟩:=h
  refine ⟨_,aF (eE (bS Gj (eU (pv 0) rfl) nM (cj _)) (aQ (bL (cP (ah (bX (v:=.int (-4)) (by rfl) hno ⟨_,rfl⟩) aB)))) cU)
   (aF (cw (i:=1) DP.nd rfl (bj rfl) (hZ (pv 0) T.cl m2 G2 hr b2 .nil cR (ah (eU (pv 0) rfl) aB)))
   (aQ (bL (dX jk (cP (ah (bP (yA rfl) (by rfl) TF.sum wy (ah (pv 1) aB)) aB)) (pv 1))))),?_⟩
  obtain ⟨dx,c,wa,tt,hf,ho⟩:=id hF
  have ht:=hf.tree
  refine ⟨_,rfl,p,C,dx,_,_,rfl,hf.ins,T.cl,T.nr,uN _ _ _ _ _,rfl,_,rfl,?_⟩
  unfold cV at k
  cases e:st.tree with
  | none =>
   rw[show bu st .score=(st,fI (-4)) by simp only[bu,e]] at k
   rw[e] at ht
   have ht:tt=.hC:=ht
   subst ht
   exact W7 ⟨(by show 1≤aA;decide),fun r dQ=>finish hF k (aM.new dQ) dQ aw⟩
  | some t =>
   rw[show bu st .score=(st,⟨(t.all st.costs st.words:Int),Si35.ints (st.words.flatten.map (t.score st.costs))⟩) by simp only[bu,e]] at k
   rw[e] at ht
   obtain ⟨a,rfl,ea⟩:=ht
   refine Uq (by intro z;cases z) ?_
   obtain ⟨t1,t2⟩:=pJ (hf.ok.tr t e)
   have l5:=hf.ok.l5
   have hfl:=hf.ok.flat
   refine ⟨_,rfl,p,dx,_,rfl,hf.ins,Ak _ _ _ _ _ (by decide +kernel) (by decide +kernel) (by decide +kernel) (by decide +kernel) (by decide +kernel),_,rfl,p,C,dx,_,_,rfl,hf.ins,T.cl,T.nr,uN _ _ _ _ _,p,a,O,st,t,rfl,hF,ea,by omega,t1,fun H1 q s1 hq e1=>?_⟩
   have et:t.all st.costs st.words=(st.words.flatten.map (t.score st.costs)).sum:=Kl _
   rw[et] at k
   have ll:(st.words.flatten.map (t.score st.costs)).length≤36:=by rw[ae];exact hfl
   generalize st.words.flatten.map (t.score st.costs)=ns at k e1 ll
   have hgi:eT ns=(ns.map fun n=>((n:Nat):Int)).map V.int:=by show eB iv ns=_;rw[br];rfl
   refine ⟨_,rfl,q,_,rfl,cG.of (hgi▸e1),(by show 1≤aA;decide),fun r3 hr3=>?_⟩
   have s2:=aM.new (o:=.lst [V.int ((ns.map fun n=>((n:Nat):Int)).sum)]) hr3
   refine ⟨_,rfl,r3,q,_,_,rfl,rfl,aw,s2 _ _ e1,?_,fun r4 hr4=>?_⟩
   ·rw[ae]
    exact aD (show 1+_≤37 by omega) (by decide)
   ·refine finish hF k (s1.trans (s2.trans (aM.new hr4))) (s1.free (s2.free hr4)) ?_
    rw[aw]
    show some (HO.lst ([V.int ((ns.map fun n=>((n:Nat):Int)).sum)]++eT ns))=_
    rw[oq,kN]
    rfl
end
def W3 (K:ai):List V→Hp→VK→Prop:=fun xs H Q=>∃ p ys,xs=[.ref p]∧(cG K H p ys∨fN K H p ys)∧Q (.int ys.length) H
theorem Je:∀ a b:List Nat,HT.lexLt (Si35.ints b) (Si35.ints a)=false→Mf a b=true
 | [],_,_=>by cases ‹List Nat›<;>rfl
 | x::a,[],h=>by
  have h:HT.lexLt [] ((x:Int)::Si35.ints a)=false:=h
  rw[HT.mD] at h
  cases h
 | x::a,y::b,h=>by
  have h:HT.lexLt ((y:Int)::Si35.ints b) ((x:Int)::Si35.ints a)=false:=h
  rw[HT.hJ] at h
  show (decide (x<y)||(x==y&&Mf a b))=true
  by_cases e:(y:Int)=(x:Int)
  ·rw[if_pos e] at h
   have e:x=y:=by omega
   rw[Je a b h,e]
   simp
  ·rw[if_neg e] at h
   have h:=of_decide_eq_false h
   rw[decide_eq_true (show x<y by omega)]
   rfl
theorem zA {α β:Type}(f:α→List β)(m:Nat)(h:∀ a,(f a).length≤m):∀ l:List α,(l.flatMap f).length≤m*l.length
 | []=>by simp
 | a::l=>by
  have:=zA f m h l
  have:=h a
  rw[bN,aK,aS,xE]
  omega
theorem A6 (l:List bJ)(r:List Nat)(k:Nat):(group l r k).length≤l.length:=by
 unfold group
 rw[ae]
 refine aD (cY _ _) ?_
 rw[rL]
 omega
theorem zx {l:List bJ}{r:List Nat}{n k:Nat}(h:k<n):(groups l r n)[k]?=some (group l r k):=by
 unfold groups
 rw[aO,jg h]
 rfl
theorem PV (l:List bJ)(r:List Nat)(k:Nat):(oV l r k).length≤l.length:=by
 rw[Jr]
 refine aD (wb ((rb _).imp fun h=>ba h) fun x hx=>(pV _ x).mp hx) ?_
 rw[ae]
 exact A6 l r k
def DH (C:aj):Sp:=fun vs H Q _=>∃ (p:aj) (O:aj→Prop) (s:dz) (n:Nat),vs=[.ref p,iv n]∧sS C H p O s∧eP C p O H s (cV s (.reflex n)) Q
def y8 (C:aj):Sp:=fun vs H Q _=>∃ (p q:aj) (O:aj→Prop) (s:dz) (n:Nat) (l:List (Nat×Nat)),vs=[.ref p,iv n,.ref q]∧sS C H p O s∧JG H q l∧l.length≤12∧eP C p O H s (cV s (.expected n l)) Q
def Ny (C:aj):Sp:=fun vs H Q _=>∃ (p:aj) (O:aj→Prop) (s:dz),vs=[.ref p]∧sS C H p O s∧eP C p O H s (cV s .best) Q
section
variable {P:aY}{w:bO}{K:ai}{mg:cp→Option ag}{base:bU}{C:aj}
theorem jd:bW ["self","sound","found","groups","around","answer","surroundings","pattern","language"] ["self","sound"] (bF BY):=⟨rfl,rfl,rfl,by decide +kernel,rfl,by decide +kernel,by decide +kernel⟩
theorem KL {f f1 f2 f3:aj}{fd jW mG fd3:bI}(F:jt K "reflex" "Family.reflex" BY f fd)(T:nJ K mg C)(TF:qi mg)
  (G1:cO P w K mg base fB 1 f1 jW ["words"] pz)(m1:mg "count_places"=some (.ref f1))(k1:aP K (.ref f1)=true)(b1:Binds K jW ["words"] [])
  (G2:cO P w K mg base fB 13 f2 mG ["patterns"] US)(m2:mg "by_old_sound"=some (.ref f2))(k2:aP K (.ref f2)=true)(b2:Binds K mG ["patterns"] [])
  (G3:cO P w K mg base fB 1 f3 fd3 ["patterns","surroundings","language"] MD)(m3:mg "becomes"=some (.ref f3))(k3:aP K (.ref f3)=true)(b3:Binds K fd3 ["patterns","surroundings","language"] []) :
  cO P w K mg base fB 14 f fd ["self","sound"] (DH C):=by
 obtain ⟨tm,yk⟩:=T.J4
 obtain ⟨tc,qJ⟩:=T.Ij
 obtain ⟨th,hth⟩:=T.Gk
 refine F.ok jd (fun vs H Q E h=>?_) (fun iq A outer s H vs Q E hr h=>?_)
 ·obtain ⟨p,O,s,n,rfl,_⟩:=h
  rfl
 ·obtain ⟨p,O,st,n,rfl,hF,k⟩:=h
  have nW:fO 1 _:=hr.mono (by decide)
  refine ⟨_,aF (cw (i:=2) jd.nd rfl (bj rfl) (kl (pP rfl) (by rfl) TF.list sU (ah (bY G1 nW (by rfl) m1 k1 b1 .nil cR (ah (eU (pv 0) rfl) aB)) aB)))
   (aF (eE (bS Dg (bP bD (by rfl) TF.len bb (ah (pv 2) aB)) (bX (v:=.int 8) (by rfl) qJ ⟨_,rfl⟩) (cj _)) (aQ (bL (cP (ah (bX (v:=.int (-5)) (by rfl) yk ⟨_,rfl⟩) aB)))) cU)
   (aF (cw (i:=3) jd.nd rfl (p5 rfl) (bY G2 hr rfl m2 k2 b2 .nil cR (ah (pv 2) aB)))
   (aF (eE (bS Dh (pv 1) (bP bD (by rfl) TF.len bb (ah (pv 3) aB)) (cj _)) (aQ (bL (cP (ah (bX (v:=.int (-6)) (by rfl) hth ⟨_,rfl⟩) aB)))) cU)
   (aF (cw (i:=4) jd.nd rfl (bj rfl) (vd rfl (by rfl) TF.sorted (by rfl) TF.set (jc rfl jd.nd (d9 (cy cJ (pv 3) (pv 1) (fun _ _=>rfl))) (dS (own:=[("pattern",7)]) (by rfl)) (fun _ _ _ _ _=>cI (i:=7) jd.nd rfl (bj rfl)) (fun _ _ _ _ _=>gq) (fun _ _ _ _ _=>cy (r:=C6 K) dO (pv 7) aW (fun _ _=>rfl)))))
   (aF (cw (i:=5) jd.nd rfl (bj rfl) (cP (ah (bP bD (by rfl) TF.len bb (ah (pv 4) aB)) aB)))
   (aF (gp bH rfl (d9 (pv 4)) (cI (i:=6) jd.nd rfl (p5 rfl))
    (aF (fP (jL bK cC cB gB (pv 5) (ah (pv 6) aB)))
    (aQ (fP (jL bK fT fS lN (pv 5) (ah (jc rfl jd.nd (oO rfl TF.range (ah (eU (pv 0) rfl) aB)) (dS (own:=[("language",8)]) (by rfl)) (fun _ _ _ _ _=>cI (i:=8) jd.nd rfl (bj rfl)) (fun _ _ _ _ _=>gq) (fun _ _ _ _ _=>bY G3 nW (by rfl) m3 k3 b3 .nil cR (ah (cy (r:=J7 K) cJ (pv 3) (pv 1) (fun _ _=>rfl)) (ah (pv 6) (ah (pv 8) aB))))) aB))))))
   (aQ (bL (pv 5))))))))),?_⟩
  obtain ⟨dx,c,wa,tt,hf,ho⟩:=id hF
  refine cn ⟨_,rfl,p,C,dx,_,_,rfl,hf.ins,T.cl,T.nw,gX _ _ _ _ _,wa,st.words,rfl,hf.words,aD hf.ok.flat (by decide),fun H1 t s1 _ e1=>⟨t,_,rfl,e1,fun qs q pq hq=>?_⟩⟩
  have hw:=sH hq pq
  have s2:=s1.trans (aM.new (o:=.lst (qs.map V.ref)) hq)
  generalize upd H1 q (.lst (qs.map V.ref))=H2 at hw s2
  obtain ⟨rs,e2,p2⟩:=id hw
  have lr:((rs.map V.ref).length:Int)=((az st.words).length:Int):=by rw[ae,bz p2]
  refine ⟨_,rfl,q,_,rfl,.inl (cG.of e2),_,_,rfl,rfl,_,rfl,?_⟩
  rw[lr]
  refine gD (fun h1=>?_) fun h1=>?_
  ·have h1:8<(az st.words).length:=by
    have:=of_decide_eq_true h1
    omega
   have e:bu st (.reflex n)=(st,fI (-5)):=by simp only[bu,pL h1]
   unfold cV at k
   rw[e] at k
   exact ⟨(by show 1≤aA;decide),fun r dQ=>finish hF k (s2.trans (aM.new dQ)) (s2.free dQ) aw⟩
  have h1:¬ 8<(az st.words).length:=fun z=>h1 (decide_eq_true (by omega))
  refine ⟨_,rfl,q,az st.words,rfl,hw,by omega,fun H3 g s3 hg=>?_⟩
  obtain ⟨gs,eg,pg⟩:=hg
  have hpt:∀ c∈az st.words,c.sounds.length=st.langs:=fun c hc=>hf.ok.pats hc
  have s23:=s2.trans s3
  have lg:((gs.map V.ref).length:Int)=(aZ (bC (az st.words)):Int):=by
   rw[ae,bz pg]
   unfold groups
   rw[ae,c4]
  refine ⟨_,rfl,_,rfl,g,_,rfl,.inl (cG.of eg),_,_,rfl,rfl,_,rfl,?_⟩
  rw[lg]
  refine gD (fun h2=>?_) fun h2=>?_
  ·have h2:aZ (bC (az st.words))≤n:=by
    have:=of_decide_eq_true h2
    omega
   have e:bu st (.reflex n)=(st,fI (-6)):=by simp only[bu,kx h1,if_pos h2]
   unfold cV at k
   rw[e] at k
   exact ⟨(by show 1≤aA;decide),fun r dQ=>finish hF k (s23.trans (aM.new dQ)) (s23.free dQ) aw⟩
  have h2:¬ aZ (bC (az st.words))≤n:=fun z=>h2 (decide_eq_true (by omega))
  have e:bu st (.reflex n)=(st,⟨((oV (az st.words) (bC (az st.words)) n).length:Int),(oV (az st.words) (bC (az st.words)) n).flatMap fun v=>Si35.ints (v::jS (az st.words) (bC (az st.words)) st.langs n v)⟩):=by simp only[bu,kx h1,if_neg h2]
  unfold cV at k
  rw[e] at k
  have k:eP C p O H st (((oV (az st.words) (bC (az st.words)) n).length:Int)::(oV (az st.words) (bC (az st.words)) n).flatMap fun v=>Si35.ints (v::jS (az st.words) (bC (az st.words)) st.langs n v)) Q:=k
  have hfew:=PV (az st.words) (bC (az st.words)) n
  have hel:=Jr (az st.words) (bC (az st.words)) n
  have hrx:∀ v,jS (az st.words) (bC (az st.words)) st.langs n v=(bp st.langs).map fun i=>jR (group (az st.words) (bC (az st.words)) n) v i:=fun v=>AO _ _ _ _ _
  obtain ⟨x,hx,hxw⟩:=jv pg (zx (l:=az st.words) (r:=bC (az st.words)) (iz h2))
  have hgm:∀ c∈group (az st.words) (bC (az st.words)) n,c.sounds.length=st.langs:=fun c hc=>hpt c (A5 hc)
  have hgl:=A6 (az st.words) (bC (az st.words)) n
  generalize oV (az st.words) (bC (az st.words)) n=es at k hfew hel
  generalize hrf:jS (az st.words) (bC (az st.words)) st.langs n=rf at k hrx
  generalize group (az st.words) (bC (az st.words)) n=gr at hel hrx hxw hgm hgl
  obtain ⟨rs',er,pr⟩:=id hxw
  have l5:=hf.ok.l5
  refine ⟨_,rfl,_,rfl,g,_,n,_,rfl,rfl,cG.of eg,cg (jO hx),x,rfl,⟨_,cG.of er⟩,fun D hD=>uL (ys:=eT (gr.map (·.env))) hD (cG.of er) (by rw[ae,ae];exact aG (show gr.length≤8 by omega) (by decide)) (by rw[ae,ae,ae,bz pr]) (fun x=>rfl) (fun j v y hv hy H4 s4 R hR=>?_) (fun H4 s4 e4=>?_)⟩
  ·obtain ⟨r,dQ,rfl⟩:=eZ hv
   obtain ⟨col,hc,b,c1,c2⟩:=cX pr dQ
   rw[aO,aO,hc] at hy
   cases aJ hy
   exact ⟨_,rfl,r,_,0,_,rfl,rfl,fN.of (s4 _ _ c1),rfl,hR H4 (aM.refl _)⟩
  have hgi:eT (gr.map (·.env))=((gr.map (·.env)).map fun (n:Nat)=>(n:Int)).map V.int:=by show eB iv _=_;rw[br (g:=V.int)];rfl
  refine ⟨D,_,rfl,cG.of (hgi▸e4),?_,fun ms a jV hm ha=>?_⟩
  ·rw[ae,ae]
   exact aD (show gr.length≤8 by omega) (by decide)
  obtain ⟨l,el⟩:=uW ms fun x hx=>by
   obtain ⟨m,_,e⟩:=aU.mp ((hm x).mp hx)
   omega
  subst el
  have hl:l=es:=by
   rw[hel]
   refine nR ?_ (rb _) fun x=>?_
   ·rw[gi] at jV
    exact jV.imp fun q=>by omega
   ·rw[pV]
    have:=hm (x:Int)
    rw[x6,x6] at this
    exact this
  subst hl
  have hli:(l.map fun (n:Nat)=>(n:Int)).map V.int=eT l:=by rw[br];rfl
  have s5:=aM.new (o:=.lst ((l.map fun (n:Nat)=>(n:Int)).map V.int)) ha
  have ea:upd H4 a (.lst ((l.map fun (n:Nat)=>(n:Int)).map V.int)) a=some (.lst (eT l)):=by rw[aw,hli]
  generalize upd H4 a (.lst ((l.map fun (n:Nat)=>(n:Int)).map V.int))=H5 at s5 ea
  have s35:=s4.trans s5
  have s05:=s23.trans s35
  refine ⟨_,rfl,a,_,rfl,.inl (cG.of ea),(by show 1≤aA;decide),fun r0 qD=>?_⟩
  have s6:=aM.new (o:=.lst [V.int ((eT l).length:Int)]) qD
  refine ⟨_,rfl,a,rfl,⟨_,cG.of (s6 _ _ ea)⟩,iC (K:=K) (a:=a) (xs:=eT l) (fun i σ H'=>∃ v6 v7 v8:Option V,σ=[some (.ref p),some (iv n),some (.ref q),some (.ref g),some (.ref a),some (.ref r0),v6,v7,v8]∧aM H5 H'∧H' r0=some (.lst (vI ((l.length:Int)::(l.take i).flatMap fun v=>Si35.ints (v::rf v)))))
   ⟨_,_,_,rfl,s6,?_⟩ (fun i σ H' _ ⟨_,_,_,_,s7,_⟩=>cG.of (s7 _ _ ea)) ?_ ?_⟩
  ·rw[aw]
   show some (HO.lst [V.int ((eT l).length:Int)])=_
   rw[ae]
   rfl
  ·rintro i y σ H6 hi ⟨v6,v7,v8,rfl,s7,e7⟩
   obtain ⟨v,hv,rfl⟩:=qP hi
   have hll:((l.take i).flatMap fun v=>Si35.ints (v::rf v)).length≤48:=by
    refine aD (zA _ 6 (fun a=>?_) _) ?_
    ·unfold Si35.ints
     rw[ae,aS,hrx,ae,c4]
     omega
    ·rw[bM]
     omega
   refine ⟨_,rfl,.inl ⟨rfl,_,cG.of e7⟩,_,rfl,r0,_,_,rfl,rfl,e7,?_,?_⟩
   ·rw[ae,aS]
    exact aG (show _≤49 by omega) (by decide)
   have s8:aM H5 (upd H6 r0 (.lst (vI ((l.length:Int)::(l.take i).flatMap fun v=>Si35.ints (v::rf v))++[iv v]))):=s7.upd qD
   have e8:upd H6 r0 (.lst (vI ((l.length:Int)::(l.take i).flatMap fun v=>Si35.ints (v::rf v))++[iv v])) r0=some (.lst (vI ((l.length:Int)::(l.take i).flatMap fun v=>Si35.ints (v::rf v))++[iv v])):=aw
   generalize upd H6 r0 (.lst (vI ((l.length:Int)::(l.take i).flatMap fun v=>Si35.ints (v::rf v))++[iv v]))=H7 at s8 e8
   have s38:=s35.trans s8
   refine ⟨_,rfl,.inl ⟨rfl,_,cG.of e8⟩,_,rfl,p,C,dx,_,_,rfl,(s05.trans s8) _ _ hf.ins,T.cl,T.nl,uO _ _ _ _ _,(st.langs:Int),rfl,by omega,by omega,fun D2 hD2=>?_⟩
   rw[bR]
   refine Sl (ys:=eT (rf v)) hD2 (by rw[ae,hrx,ae,c4];exact aG l5 (by decide)) (by rw[ae,hrx,ae,c4]) (fun x=>rfl) (fun j y hy H8 s9 R hR=>?_) (fun H8 s9 e9=>?_)
   ·rw[aO,hrx,aO] at hy
    have hj:j<st.langs:=by
     refine iz fun z=>?_
     rw[bG (by rw[c4];exact z)] at hy
     cases hy
    rw[jg hj] at hy
    cases aJ hy
    exact ⟨_,rfl,_,rfl,g,_,n,_,rfl,rfl,cG.of ((s38.trans s9) _ _ eg),cg (jO hx),_,rfl,_,rfl,x,gr,v,j,rfl,hxw.same (s38.trans s9),fun c hc=>by rw[hgm c hc];exact hj,fun H9 s10=>hR H9 s10⟩
   ·refine ⟨r0,D2,_,_,rfl,rfl,s9 _ _ e8,e9,?_,_,_,_,rfl,(s8.trans s9).upd qD,?_⟩
    ·rw[aK,ae,aS,ae,hrx,ae,c4]
     exact aD (show _≤60 by rw[gP];omega) (by decide)
    ·rw[aw,take_snoc hv,gA,bN,kX,bV,kN]
     simp[Si35.ints,vI]
  ·rintro σ H6 ⟨v6,v7,v8,rfl,s7,e7⟩
   rw[ae,bE] at e7
   exact ⟨_,rfl,finish hF k (s05.trans s7) (s05.free qD) e7⟩
end
theorem He (l:List bJ)(r:List Nat){n k e i:Nat}(h:i<n):(jS l r n k e).getD i 0=jR (group l r k) e i:=by
 rw[AO,gN,aO,jg h]
 rfl
section
variable {P:aY}{w:bO}{K:ai}{mg:cp→Option ag}{base:bU}{C:aj}
theorem jo:bW ["self","language","asked","found","groups","sound","surroundings"] ["self","language","asked"] (bF v9):=⟨rfl,rfl,rfl,by decide +kernel,rfl,by decide +kernel,by decide +kernel⟩
theorem EM {f f1 f2 f3:aj}{fd jW mG fd3:bI}(F:jt K "expected" "Family.expected" v9 f fd)(T:nJ K mg C)(TF:qi mg)
  (G1:cO P w K mg base fB 1 f1 jW ["words"] pz)(m1:mg "count_places"=some (.ref f1))(k1:aP K (.ref f1)=true)(b1:Binds K jW ["words"] [])
  (G2:cO P w K mg base fB 13 f2 mG ["patterns"] US)(m2:mg "by_old_sound"=some (.ref f2))(k2:aP K (.ref f2)=true)(b2:Binds K mG ["patterns"] [])
  (G3:cO P w K mg base fB 1 f3 fd3 ["patterns","surroundings","language"] MD)(m3:mg "becomes"=some (.ref f3))(k3:aP K (.ref f3)=true)(b3:Binds K fd3 ["patterns","surroundings","language"] []) :
  cO P w K mg base fB 14 f fd ["self","language","asked"] (y8 C):=by
 obtain ⟨tm,yk⟩:=T.J4
 obtain ⟨tc,qJ⟩:=T.Ij
 obtain ⟨th,hth⟩:=T.Gk
 refine F.ok jo (fun vs H Q E h=>?_) (fun iq A outer s H vs Q E hr h=>?_)
 ·obtain ⟨p,q,O,s,n,l,rfl,_⟩:=h
  rfl
 ·obtain ⟨p,aq,O,st,n,l,rfl,hF,haq,hl12,k⟩:=h
  have nW:fO 1 _:=hr.mono (by decide)
  refine ⟨_,aF (cw (i:=3) jo.nd rfl (bj rfl) (kl (pP rfl) (by rfl) TF.list sU (ah (bY G1 nW (by rfl) m1 k1 b1 .nil cR (ah (eU (pv 0) rfl) aB)) aB)))
   (aF (eE (bS Dg (bP bD (by rfl) TF.len bb (ah (pv 3) aB)) (bX (v:=.int 8) (by rfl) qJ ⟨_,rfl⟩) (cj _)) (aQ (bL (cP (ah (bX (v:=.int (-5)) (by rfl) yk ⟨_,rfl⟩) aB)))) cU)
   (aF (cw (i:=4) jo.nd rfl (p5 rfl) (bY G2 hr rfl m2 k2 b2 .nil cR (ah (pv 3) aB)))
   (aF (eE (Ih (bS Dh (pv 1) (eU (pv 0) rfl) (cj _)) (BE (pj (bP (Wa rfl) (by rfl) TF.any LK (ah (jc rfl jo.nd (d9 (pv 2)) (dS (own:=[("sound",5),("surroundings",6)]) (by rfl)) (fun _ _ _ _ _=>vA (K:=K) (i:=5) (j:=6) rfl rfl jo.nd rfl (bj rfl) rfl (bj rfl)) (fun _ _ _ _ _=>gq) (fun _ _ _ _ _=>pE Dh (pv 5) (bP (r:=W3 K) bD (by rfl) TF.len bb (ah (pv 4) aB)) (cj _))) aB))))).pt (aQ (bL (cP (ah (bX (v:=.int (-6)) (by rfl) hth ⟨_,rfl⟩) aB)))) cU)
   (aQ (bL (dX jk (cP (ah aW aB)) (jc rfl jo.nd (d9 (pv 2)) (dS (own:=[("sound",5),("surroundings",6)]) (by rfl)) (fun _ _ _ _ _=>vA (K:=K) (i:=5) (j:=6) rfl rfl jo.nd rfl (bj rfl) rfl (bj rfl)) (fun _ _ _ _ _=>gq) (fun _ _ _ _ _=>bY G3 nW (by rfl) m3 k3 b3 .nil cR (ah (cy (r:=J7 K) cJ (pv 4) (pv 5) (fun _ _=>rfl)) (ah (pv 6) (ah (pv 1) aB)))))))))))
   ,?_⟩
  obtain ⟨dx,c,wa,tt,hf,ho⟩:=id hF
  refine cn ⟨_,rfl,p,C,dx,_,_,rfl,hf.ins,T.cl,T.nw,gX _ _ _ _ _,wa,st.words,rfl,hf.words,aD hf.ok.flat (by decide),fun H1 t s1 _ e1=>⟨t,_,rfl,e1,fun qs q pq hq=>?_⟩⟩
  have hw:=sH hq pq
  have s2:=s1.trans (aM.new (o:=.lst (qs.map V.ref)) hq)
  generalize upd H1 q (.lst (qs.map V.ref))=H2 at hw s2
  obtain ⟨rs,e2,p2⟩:=id hw
  have lr:((rs.map V.ref).length:Int)=((az st.words).length:Int):=by rw[ae,bz p2]
  refine ⟨_,rfl,q,_,rfl,.inl (cG.of e2),_,_,rfl,rfl,_,rfl,?_⟩
  rw[lr]
  refine gD (fun h1=>?_) fun h1=>?_
  ·have h1:8<(az st.words).length:=by
    have:=of_decide_eq_true h1
    omega
   have e:bu st (.expected n l)=(st,fI (-5)):=by simp only[bu,pL h1]
   unfold cV at k
   rw[e] at k
   exact ⟨(by show 1≤aA;decide),fun r dQ=>finish hF k (s2.trans (aM.new dQ)) (s2.free dQ) aw⟩
  have h1:¬ 8<(az st.words).length:=fun z=>h1 (decide_eq_true (by omega))
  refine ⟨_,rfl,q,az st.words,rfl,hw,by omega,fun H3 g s3 hg=>?_⟩
  obtain ⟨gs,eg,pg⟩:=hg
  have hpt:∀ c∈az st.words,c.sounds.length=st.langs:=fun c hc=>hf.ok.pats hc
  have s23:=s2.trans s3
  have lg:((gs.map V.ref).length:Int)=(aZ (bC (az st.words)):Int):=by
   rw[ae,bz pg]
   unfold groups
   rw[ae,c4]
  obtain ⟨as,eas,pas⟩:=haq
  have bad:(st.langs≤n∨(l.any fun q=>decide (aZ (bC (az st.words))≤q.1))=true)→∀ H',aM H H'→∀ r,H' r=none→Q (.ref r) (upd H' r (.lst [V.int (-6)])):=fun z H' s' r dQ=>by
   have e:bu st (.expected n l)=(st,fI (-6)):=by simp only[bu,kx h1,if_pos z]
   unfold cV at k
   rw[e] at k
   exact finish hF k (s'.trans (aM.new dQ)) (s'.free dQ) aw
  refine ⟨_,rfl,_,rfl,p,C,dx,_,_,rfl,s23 _ _ hf.ins,T.cl,T.nl,uO _ _ _ _ _,_,_,rfl,rfl,_,rfl,?_⟩
  refine gD (fun h2=>?_) fun h2=>?_
  ·have h2:st.langs≤n:=by
    have:=of_decide_eq_true h2
    omega
   exact o9 ⟨(by show 1≤aA;decide),fun r dQ=>bad (.inl h2) H3 s23 r dQ⟩
  have h2:¬ st.langs≤n:=fun z=>h2 (decide_eq_true (by omega))
  have ea3:=s23 _ _ eas
  refine ⟨_,rfl,aq,rfl,⟨_,cG.of ea3⟩,fun D hD=>Cd (ys:=(l.map fun q=>decide (aZ (bC (az st.words))≤q.1)).map V.bl) hD (cG.of ea3) (by rw[ae,ae];exact aG hl12 (by decide)) (by rw[ae,ae,ae,bz pas]) (fun j v y hv hy H4 s4 R hR=>?_) (fun H4 s4 e4=>?_)⟩
  ·obtain ⟨r,dQ,rfl⟩:=eZ hv
   obtain ⟨⟨a,b⟩,hc,c1⟩:=cX pas dQ
   rw[aO,aO,hc] at hy
   cases aJ hy
   refine ⟨r,_,rfl,fN.of ((s23.trans s4) _ _ c1),rfl,_,_,rfl,_,_,rfl,rfl,rfl,_,rfl,_,rfl,g,_,rfl,.inl (cG.of (s4 _ _ eg)),_,_,rfl,rfl,?_⟩
   have q:=hR H4 (aM.refl _)
   rw[lg]
   show R (V.bl (decide ((aZ (bC (az st.words)):Int)≤(a:Int)))) H4
   rw[show decide ((aZ (bC (az st.words)):Int)≤(a:Int))=decide (aZ (bC (az st.words))≤a) from decide_eq_decide.mpr (by omega)]
   exact q
  refine ⟨D,_,rfl,cG.of e4,_,rfl,?_⟩
  rw[Wo]
  have s24:=s23.trans s4
  refine gD (fun h3=>?_) fun h3=>?_
  ·exact ⟨(by show 1≤aA;decide),fun r dQ=>bad (.inr h3) H4 s24 r dQ⟩
  have e:bu st (.expected n l)=(st,⟨0,Si35.ints (l.map fun q=>(jS (az st.words) (bC (az st.words)) st.langs q.1 q.2).getD n 0)⟩):=by simp only[bu,kx h1,if_neg (show ¬ (st.langs≤n∨(l.any fun q=>decide (aZ (bC (az st.words))≤q.1))=true) from fun z=>z.elim h2 h3)]
  unfold cV at k
  rw[e] at k
  have hin:∀ q∈l,q.1<aZ (bC (az st.words)):=fun q hq=>iz fun z=>h3 (qc.mpr ⟨q,hq,decide_eq_true z⟩)
  refine ⟨(by show 1≤aA;decide),fun r0 qD=>?_⟩
  have s5:=aM.new (o:=.lst [V.int 0]) qD
  have e0:upd H4 r0 (.lst [V.int 0]) r0=some (.lst [V.int 0]):=aw
  generalize upd H4 r0 (.lst [V.int 0])=H5 at s5 e0
  have s25:=s24.trans s5
  have s35:=s4.trans s5
  refine ⟨_,rfl,aq,rfl,⟨_,cG.of (s25 _ _ eas)⟩,fun D2 hD2=>Cd (ys:=eT (l.map fun q=>(jS (az st.words) (bC (az st.words)) st.langs q.1 q.2).getD n 0)) hD2 (cG.of (s25 _ _ eas)) (by rw[ae,ae];exact aG hl12 (by decide)) (by rw[ae,ae,ae,bz pas]) (fun j v y hv hy H6 s6 R hR=>?_) (fun H6 s6 e6=>?_)⟩
  ·obtain ⟨r,dQ,rfl⟩:=eZ hv
   obtain ⟨⟨a,b⟩,hc,c1⟩:=cX pas dQ
   rw[aO,aO,hc] at hy
   cases aJ hy
   obtain ⟨x,hx,hxw⟩:=jv pg (zx (l:=az st.words) (r:=bC (az st.words)) (hin _ (aV hc)))
   refine ⟨r,_,rfl,fN.of ((s25.trans s6) _ _ c1),rfl,_,_,rfl,_,_,rfl,rfl,rfl,_,rfl,_,rfl,g,_,a,_,rfl,rfl,cG.of ((s35.trans s6) _ _ eg),cg (jO hx),_,rfl,_,rfl,x,_,b,n,rfl,hxw.same (s35.trans s6),fun c hc=>by rw[hpt c (A5 hc)];exact iz h2,fun H7 s7=>?_⟩
   have q:R (iv ((jS (az st.words) (bC (az st.words)) st.langs a b).getD n 0)) H7:=hR H7 s7
   rw[He _ _ (iz h2)] at q
   exact q
  ·refine ⟨r0,D2,_,_,rfl,rfl,s6 _ _ e0,e6,?_,fun r dQ=>?_⟩
   ·rw[ae,ae]
    exact aD (show 1+_≤13 by omega) (by decide)
   ·refine finish hF k ((s25.trans s6).trans (aM.new dQ)) ((s25.trans s6).free dQ) ?_
    rw[aw,kN]
    rfl
theorem BM (l:List Nat):(Si35.ints l).map jX=l:=by
 unfold Si35.ints
 rw[br]
 exact (dm fun x _=>bR x).trans (qt l)
theorem B7:∀ t:cD,t.out.length≤2*size t
 | .leaf _=>aL _
 | .node a b=>by
  have:=B7 a
  have:=B7 b
  show (1::(a.out++b.out)).length≤2*(1+(size a+size b))
  rw[aS,aK]
  omega
theorem nL:bW ["self","trees","totals","least","written","answer","row","tree","total"] ["self"] (bF MX):=⟨rfl,rfl,rfl,by decide +kernel,rfl,by decide +kernel,by decide +kernel⟩
theorem RQ {f f1 f2 f3:aj}{fd jW mG fd3:bI}(F:jt K "best" "Family.best" MX f fd)(T:nJ K mg C)(TF:qi mg)
  (G1:cO P w K mg base fB 3 f1 jW ["languages"] Nz)(m1:mg "all_trees"=some (.ref f1))(k1:aP K (.ref f1)=true)(b1:Binds K jW ["languages"] [])
  (G2:cO P w K mg base fB 6 f2 mG ["self","tree"] (yB C))(m2:ym K C "scores_on" f2)(b2:Binds K mG ["self","tree"] [])
  (G3:cO P w K mg base fB 1 f3 fd3 ["tree"] (Iy K))(m3:mg "write_tree"=some (.ref f3))(k3:aP K (.ref f3)=true)(b3:Binds K fd3 ["tree"] []) :
  cO P w K mg base fB 7 f fd ["self"] (Ny C):=by
 refine F.ok nL (fun vs H Q E h=>?_) (fun iq A outer s H vs Q E hr h=>?_)
 ·obtain ⟨p,O,s,rfl,_⟩:=h
  rfl
 ·obtain ⟨p,O,st,rfl,hF,k⟩:=h
  have nW:fO 1 _:=hr.mono (by decide)
  have hr3:fO 3 _:=hr.mono (by decide)
  refine ⟨_,aF (cw (i:=1) nL.nd rfl (bj rfl) (bY G1 hr3 rfl m1 k1 b1 .nil cR (ah (eU (pv 0) rfl) aB)))
   (aF (qT (i:=2) rfl nL.nd rfl rfl (uF rfl rfl rfl rfl) (d9 (pv 1)) (dS (own:=[("tree",7)]) (by rfl)) (fun _ _ _ _ _=>cI (i:=7) nL.nd rfl (bj rfl)) (fun _ _ _ _ _=>gq) (fun _ _ _ _ _=>bP (r:=W2 K) (yA rfl) (by rfl) TF.sum wy (ah (hZ (pv 0) T.cl m2 G2 hr b2 .nil cR (ah (pv 7) aB)) aB)))
   (aF (cw (i:=3) nL.nd rfl (p5 rfl) (bP (NZ rfl) (by rfl) TF.min FD (ah (pv 2) aB)))
   (aF (cw (i:=4) nL.nd rfl (bj rfl) (bP (HH (wR hr)) (by rfl) TF.sorted Ra (ah (jc rfl nL.nd (Gg rfl TF.zip (ah (pv 1) (ah (pv 2) aB))) (dS (own:=[("tree",7),("total",8)]) (by rfl)) (fun _ _ _ _ _=>vA (K:=K) (i:=7) (j:=8) rfl rfl nL.nd rfl (bj rfl) rfl (bj rfl)) (fun _ _ _ _ _=>pC (bS gw (pv 8) (pv 3) (cj _))) (fun _ _ _ _ _=>bY G3 nW (by rfl) m3 k3 b3 .nil cR (ah (pv 7) aB))) aB)))
   (aF (cw (i:=5) nL.nd rfl (bj rfl) (cP (ah (pv 3) (ah (bP bD (by rfl) TF.len bb (ah (pv 4) aB)) aB))))
   (aF (gp bH rfl (d9 (pv 4)) (cI (i:=6) nL.nd rfl (bj rfl))
    (aQ (fP (jL bK fT fS lN (pv 5) (ah (pv 6) aB)))))
   (aQ (bL (pv 5)))))))),?_⟩
  obtain ⟨dx,c,wa,tt,hf,ho⟩:=id hF
  have l2:=hf.ok.l2
  have l5:=hf.ok.l5
  refine cn ⟨_,rfl,p,C,dx,_,_,rfl,hf.ins,T.cl,T.nl,uO _ _ _ _ _,st.langs,rfl,by omega,l5,fun H1 tr s1 htr=>?_⟩
  obtain ⟨ts,et,pt⟩:=htr
  obtain ⟨n',hn'⟩:∃ n',st.langs=n'+1:=⟨st.langs - 1,by omega⟩
  have hsz:∀ t∈eN st.langs,size t≤9:=fun t ht=>by
   rw[hn'] at ht
   rw[pI n' t ht]
   omega
  have hlv:∀ t∈eN st.langs,∀ x∈t.leaves,x<st.langs:=fun t ht x hx=>by
   rw[hn'] at ht ⊢
   exact DD n' t ht x hx
  have hfew:=Az st.langs l5
  have hne:eN st.langs≠[]:=by
   rw[hn']
   exact DC n'
  have lts:=bz pt
  refine cn ⟨_,rfl,tr,rfl,⟨_,cG.of et⟩,fun D hD=>uL (ys:=eT ((eN st.langs).map fun t=>t.all st.costs st.words)) hD (cG.of et) (by rw[ae,ae];exact aG hfew (by decide)) (by rw[ae,ae,ae,lts]) (fun x=>rfl) (fun i v y hv hy H2 s2 R hR=>?_) (fun H2 s2 e2=>?_)⟩
  ·obtain ⟨x,hx,rfl⟩:=eZ hv
   obtain ⟨t,ht,hxt⟩:=cX pt hx
   rw[aO,aO,ht] at hy
   cases aJ hy
   have mt:=aV ht
   have s12:=s1.trans s2
   refine ⟨_,rfl,p,dx,_,rfl,s12 _ _ hf.ins,Ak _ _ _ _ _ (by decide +kernel) (by decide +kernel) (by decide +kernel) (by decide +kernel) (by decide +kernel),_,rfl,p,x,O,st,t,rfl,hF.same s12,s2 _ _ hxt,aD (hsz t mt) (by decide),hlv t mt,fun H3 r s3 _ e3=>?_⟩
   have hgi:eT (st.words.flatten.map (t.score st.costs))=((st.words.flatten.map (t.score st.costs)).map fun n=>((n:Nat):Int)).map V.int:=by show eB iv _=_;rw[br (g:=V.int)];rfl
   refine ⟨r,_,rfl,cG.of (hgi▸e3),?_⟩
   rw[oq]
   exact hR H3 s3
  have s12:=s1.trans s2
  have hgi:eT ((eN st.langs).map fun t=>t.all st.costs st.words)=(((eN st.langs).map fun t=>t.all st.costs st.words).map fun n=>((n:Nat):Int)).map V.int:=by show eB iv _=_;rw[br (g:=V.int)];rfl
  refine cn ⟨_,rfl,D,_,rfl,cG.of (hgi▸e2),?_,fun m0 h1 h2=>?_⟩
  ·rw[ae,ae]
   exact L8.mpr hne
  obtain ⟨m,hm1,rfl⟩:=aU.mp h1
  have hm2:∀ t∈eN st.langs,m≤t.all st.costs st.words:=fun t ht=>by
   have:=h2 ((t.all st.costs st.words:Nat):Int) (aU.mpr ⟨_,aU.mpr ⟨t,ht,rfl⟩,rfl⟩)
   omega
  have hb1:=HL st.costs st.langs st.words hm1 hm2
  let fil:List cD→List (List Int):=fun l=>(l.filter fun t=>decide (t.all st.costs st.words=m)).map fun t=>Si35.ints t.out
  refine cn ⟨_,rfl,_,rfl,tr,D,_,_,rfl,cG.of (s2 _ _ et),cG.of e2,fun D2 hD2=>VN (K:=K) (a:=tr) (b:=D) (xs:=ts.map V.ref) (ys:=eT ((eN st.langs).map fun t=>t.all st.costs st.words)) (fun i H'=>aM H2 H'∧∃ rs:List aj,H' D2=some (.lst (rs.map V.ref))∧Paired (fun r row=>r≠D2∧H' r=some (.lst (vI row))) rs (fil ((eN st.langs).take i))) ⟨aM.new hD2,[],aw,.nil⟩ (fun i H' h=>⟨cG.of (h.1 _ _ (s2 _ _ et)),cG.of (h.1 _ _ e2)⟩) ?_ ?_⟩
  ·rintro i x y H3 T1 hx hy ⟨s3,rs,er,pr⟩ hT
   obtain ⟨a,ha,rfl⟩:=eZ hx
   obtain ⟨t,ht,hat⟩:=cX pt ha
   rw[aO,aO,ht] at hy
   cases aJ hy
   have mt:=aV ht
   have s4:=aM.new (o:=.tup [V.ref a,iv (t.all st.costs st.words)]) hT
   have s34:=s3.trans s4
   refine ⟨T1,_,rfl,fN.of aw,rfl,_,_,rfl,_,_,rfl,rfl,rfl,_,rfl,_,rfl,rfl,_,rfl,?_⟩
   have ed:decide (iv (t.all st.costs st.words)=V.int (m:Int))=decide (t.all st.costs st.words=m):=XF
   rw[ed]
   have efil:fil ((eN st.langs).take (i+1))=fil ((eN st.langs).take i)++(if decide (t.all st.costs st.words=m)=true then [Si35.ints t.out] else []):=by
    show eB _ (oW _ _)=_
    rw[fW _ ht,aX]
    by_cases z:t.all st.costs st.words=m
    ·rw[if_pos (decide_eq_true z),if_pos (decide_eq_true z)]
     rfl
    ·rw[if_neg (fun q=>z (of_decide_eq_true q)),if_neg (fun q=>z (of_decide_eq_true q))]
     rfl
   refine gD (fun h3=>?_) fun h3=>?_
   ·refine ⟨_,rfl,a,t,rfl,cG.of (s34 _ _ (s2 _ _ hat)),aD (hsz t mt) (by decide),fun H4 r s5 dQ e5=>?_⟩
    have nr:r≠D2:=fun z=>by rw[z,s4 _ _ er] at dQ;cases dQ
    refine ⟨_,s5 _ _ (s4 _ _ er),?_,((s34.trans s5)).upd hD2,rs++[r],by rw[aw,aX];rfl,?_⟩
    ·rw[ae,bz pr,ae]
     exact aG (aD (gS _ _ _) hfew) (by decide)
    ·rw[efil,if_pos h3]
     refine gz (fun r' row h=>⟨h.1,by rw[aT h.1];exact s5 _ _ (s4 _ _ h.2)⟩) ⟨nr,by rw[aT nr,e5,kN]⟩ pr
   ·refine ⟨s34,rs,s4 _ _ er,?_⟩
    rw[efil,if_neg h3,bV]
    exact d7 (fun r' row h=>⟨h.1,s4 _ _ h.2⟩) pr
  ·rintro H3 ⟨s3,rs,er,pr⟩
   have lmin:min (ts.map V.ref).length (eT ((eN st.langs).map fun t=>t.all st.costs st.words)).length=(eN st.langs).length:=by
    rw[ae,ae,ae,lts]
    exact Nat.min_self _
   rw[lmin,bE] at pr
   refine ⟨D2,rs,_,rfl,cG.of er,d7 (fun _ _ h=>h.2) pr,fun qs out a hperm hpair hsort ha=>?_⟩
   have hmem:∀ x∈out,∃ t∈eN st.langs,x=Si35.ints t.out:=fun x hx=>by
    obtain ⟨t,ht,e⟩:=aU.mp (hperm.mem_iff.mp hx)
    exact ⟨t,(fH.mp ht).1,e.symm⟩
   let rowsN:List (List Nat):=out.map fun x=>x.map jX
   have eout:out=rowsN.map Si35.ints:=by
    show out=(out.map fun x=>x.map jX).map Si35.ints
    rw[br]
    conv=>lhs;rw[← qt out]
    refine dm fun x hx=>?_
    obtain ⟨t,_,e⟩:=hmem x hx
    show x=Si35.ints (x.map jX)
    rw[e,BM]
   have hp2:rowsN.Perm ((((eN st.langs).filter fun t=>decide (t.all st.costs st.words=(tV st.costs st.langs st.words).1)).map mP)):=by
    rw[hb1]
    have:=hperm.map fun x=>x.map jX
    rw[br] at this
    have e:((fun x:List Int=>x.map jX)∘fun t:cD=>Si35.ints t.out)=mP:=funext fun t=>BM t.out
    rw[e] at this
    exact this
   have hs2:rowsN.Pairwise fun a b=>Mf a b=true:=by
    rw[eout,gi] at hsort
    exact hsort.imp fun h=>Je _ _ h
   have hbr:=LL st.costs st.langs st.words hp2 hs2
   have lrow:∀ r∈rowsN,r.length≤18:=fun r dQ=>by
    obtain ⟨x,hx,rfl⟩:=aU.mp dQ
    obtain ⟨t,ht,e⟩:=hmem x hx
    rw[e,BM]
    have:=B7 t
    have:=hsz t ht
    omega
   have lrows:rowsN.length≤105:=by
    rw[hp2.length_eq,ae]
    exact aD (cY _ _) hfew
   rw[eout] at hpair
   clear_value rowsN
   have e:bu st .best=(st,⟨((tV st.costs st.langs st.words).1:Int),Si35.ints ((tV st.costs st.langs st.words).2.length::(tV st.costs st.langs st.words).2.flatMap mP)⟩):=rfl
   have e2':(tV st.costs st.langs st.words).2.flatMap mP=rowsN.flatten:=by rw[← hbr,List.flatMap_def]
   have e3':(tV st.costs st.langs st.words).2.length=rowsN.length:=by rw[← hbr,ae]
   unfold cV at k
   rw[e,hb1,e2',e3'] at k
   have k:eP C p O H st ((m:Int)::Si35.ints (rowsN.length::rowsN.flatten)) Q:=k
   have lqs:=bz hpair
   rw[ae] at lqs
   have s4:=aM.new (o:=.lst (qs.map V.ref)) ha
   have ea:upd H3 a (.lst (qs.map V.ref)) a=some (.lst (qs.map V.ref)):=aw
   have hq4:Paired (fun r row=>upd H3 a (.lst (qs.map V.ref)) r=some (.lst (eB V.int row))) qs (rowsN.map Si35.ints):=d7 (fun _ _ h=>s4 _ _ h) hpair
   generalize upd H3 a (.lst (qs.map V.ref))=H4 at s4 ea hq4
   have s04:=(s12.trans s3).trans s4
   refine ⟨_,rfl,_,rfl,a,_,rfl,.inl (cG.of ea),(by show 2≤aA;decide),fun r0 qD=>?_⟩
   have s5:=aM.new (o:=.lst [V.int (m:Int),V.int ((qs.map V.ref).length:Int)]) qD
   refine ⟨_,rfl,a,rfl,⟨_,cG.of (s5 _ _ ea)⟩,iC (K:=K) (a:=a) (xs:=qs.map V.ref) (fun i σ H'=>∃ v6 v7 v8:Option V,σ=[some (.ref p),some (.ref tr),some (.ref D),some (.int (m:Int)),some (.ref a),some (.ref r0),v6,v7,v8]∧aM H4 H'∧H' r0=some (.lst (vI ((m:Int)::Si35.ints (rowsN.length::(rowsN.take i).flatten)))))
    ⟨_,_,_,rfl,s5,?_⟩ (fun i σ H' _ ⟨_,_,_,_,s7,_⟩=>cG.of (s7 _ _ ea)) ?_ ?_⟩
   ·rw[aw,ae,lqs]
    rfl
   ·rintro i y σ H6 hi ⟨v6,v7,v8,rfl,s7,e7⟩
    obtain ⟨x,hx,rfl⟩:=eZ hi
    obtain ⟨row,hrow,hxr⟩:=cX hq4 hx
    rw[aO] at hrow
    obtain ⟨rowN,hrn,rfl⟩:∃ rn,rowsN[i]?=some rn∧Si35.ints rn=row:=by
     cases z:rowsN[i]? with
     | none=>rw[z] at hrow;cases hrow
     | some rn=>rw[z] at hrow;exact ⟨rn,rfl,aJ hrow⟩
    have lf:(rowsN.take i).flatten.length≤18*105:=aD (Cf 18 _ fun r dQ=>lrow r (lE dQ)) (by rw[bM];exact Nat.mul_le_mul_left _ (by omega))
    have lr:=lrow rowN (aV hrn)
    refine ⟨_,rfl,.inl ⟨rfl,_,cG.of e7⟩,_,rfl,r0,x,_,_,rfl,rfl,e7,s7 _ _ hxr,?_,_,_,_,rfl,s7.upd qD,?_⟩
    ·unfold Si35.ints
     rw[ae,aS,ae,aS,ae,ae]
     exact aD (show _≤2000 by omega) (by decide)
    ·rw[aw,take_snoc hrn,jh]
     simp[Si35.ints,vI]
   ·rintro σ H6 ⟨v6,v7,v8,rfl,s7,e7⟩
    rw[ae,lqs,bE] at e7
    exact ⟨_,rfl,finish hF k (s04.trans s7) (s04.free qD) e7⟩
end
end Sk
namespace L2
open PySem PySem.Spec PyProof.Rows
section
variable {prog:aY}{w:bO}{A:cA}{E:ag→au→Prop}{s:au}
theorem CC (d:aj)(lo:(d==eV)=false):MeetsIn prog w (Builtin.«dict.items» ⟨[.ref d],[]⟩) (fun _ R s=>s.TypeIs (.ref d) "dict"∧R (.ok (.ret (.ref s.heap.objs.size))) {s with heap:=s.heap.push {cls:=.type "dict_items",data:=.fields #[.ref d]}}) :=
 .of_wp fun A R s ⟨ty,q⟩=>by
  unfold Builtin.«dict.items»;refine aa ?_
  unfold Builtin.Dict.noArgs;refine aa (vh ty ?_)
  show wpAny _ _ (pure d) _ _ s;refine ak ?_
  show wpAny _ _ (jG d >>= _) _ _ s;unfold jG
  rw[if_neg (by rw[lo];exact bg)];refine aa (ak ?_)
  refine aa (cv (ak ⟨_,rfl,q⟩))
theorem Hv {v d:aj}{od:fA}{es:Array fq}{ep:Nat}{Q:ag→au→Prop}(vw:s.heap.IsItemsView v d)(hod:s.heap.get? d=some od)(hdd:od.data=.dict es ep)
  (q:Q (.ref s.heap.objs.size) {s with heap:=s.heap.push {cls:=.type "dict_itemiterator",data:=.fields #[.none,.bool false,.ref d,.int 0 0,.int es.size 0,.int ep 0,.none,.none]}}):wpAny (model prog w) A (pyIter (.ref v)) Q E s:=by
 obtain ⟨vo,e1,e2,e3⟩:=id vw
 refine qu vw.typeIs Ma (c5 Ma vw.typeIs F.entry_dict_items_iter ?_ (F.args_dict_items_iter_1 _));unfold Builtin.«dict_items.__iter__»
 refine aa (ak ?_);refine aa ?_;unfold QU
 refine aa (eW e1 e3 (x:=.ref d) rfl (ak ?_));refine aa ?_;unfold QT
 refine aa (ij hod hdd ?_);refine aa (j6 hod hdd ?_)
 have own:fG "dict_itemiterator"=true:=by decide
 simp only[own,if_true];refine cv (ak ⟨_,rfl,"dict_itemiterator",_,⟨_,aH _ rfl,rfl⟩,gj.lookup,?_⟩) (by simp only[sizeOk,nV,bA,aK,aS,eG,kK];omega)
 simpa [gm,nV] using q
theorem K0 {it d:aj}{i n ep:Nat}{od:fA}{es:Array fq}{en:fq}{a0 b0:ag}{Q:Option ag→au→Prop}(hit:ki s.heap it d i n ep a0 b0)(hod:s.heap.get? d=some od)(hdd:od.data=.dict es ep)(hsz:es.size=n)(hx:es[i]?=some en)
  (hQ:∀ h',Ke h' it d (i+1) n ep en.key en.val s.heap.objs.size→h'.get? s.heap.objs.size=some {cls:=.type "tuple",data:=.seq #[en.key,en.val]}→(∀ b o,b≠it→s.heap.get? b=some o→h'.get? b=some o)→Q (some (.ref s.heap.objs.size)) {s with heap:=h'}):wpAny (model prog w) A (pyNext (.ref it)) Q E s:=by
 obtain ⟨hp,g,dr,tk,os⟩:=s
 have ty:Bm ⟨hp,g,dr,tk,os⟩ (.ref it) "dict_itemiterator":=⟨_,hit,rfl⟩
 unfold pyNext;refine aa (iy (c9 (name:=dG "__next__") ty gj (c5 gj ty Ac ?_ (zV _))))
 refine aa (ak ?_);refine aa ?_;refine aa ?_
 first | refine aa (iK ty (ak ?_)) | refine aa (jJ ty (ak ?_))
 refine aa (k7 hit rfl ?_)
 have own:fG "dict_itemiterator"=true:=by decide
 simp only[own,if_true];show wpAny _ _ (if (ag.ref d==ag.none)=true then _ else _) _ _ _
 rw[if_neg (show ¬ ((ag.ref d==ag.none)=true) from bg)];refine aa (ak ?_);refine aa (ij hod hdd ?_)
 rw[if_neg (by rw[hsz];simp)];refine aa (ak ?_);refine aa (j6 hod hdd ?_)
 rw[if_neg (by simp)];refine ak ?_
 obtain ⟨lt,hen⟩:=Af.mp hx
 simp only[show ¬ ((i:Int)<0) from by omega,if_false,bR,cx lt];refine aa ?_
 first | refine aa (iK ty (ak ?_)) | refine aa (jJ ty (ak ?_))
 rw[hen];refine aa (uu ty ?_);show wpAny _ _ (setField (.ref it) 3 (gm ((i:Int)+1)) >>= _) _ _ ⟨hp,g,dr,tk,os⟩
 refine aa (eM hit (by simp) fun h1 e1 q1=>?_);replace q1:eC it hp h1:=q1
 replace e1:ki h1 it d (i+1) n ep a0 b0:=by
  have e:((i+1:Nat):Int)=(i:Int)+1:=by omega
  unfold ki;rw[e];simpa [gm] using e1
 have ty1:Bm ⟨h1,g,dr,tk,os⟩ (.ref it) "dict_itemiterator":=⟨_,e1,rfl⟩
 refine aa (dj ?_);refine aa (uu ty1 ?_);refine aa (uu ty1 ?_)
 show wpAny _ _ (o7 (.ref it) 6 en.key en.val) _ _ ⟨h1,g,dr,tk,os⟩;unfold o7;refine aa (wG ?_)
 have e2:ki (h1.push {cls:=.type "tuple",data:=.seq #[en.key,en.val]}) it d (i+1) n ep a0 b0:=ay _ e1
 generalize h2e:h1.push {cls:=.type "tuple",data:=.seq #[en.key,en.val]}=h2 at e2
 have z1:h1.objs.size=hp.objs.size:=q1.1
 have lti:it<hp.objs.size:=aN hit
 have t2:h2.get? hp.objs.size=some {cls:=.type "tuple",data:=.seq #[en.key,en.val]}:=by rw[← h2e,← z1];exact aH _ rfl
 have k2:∀ b o,b≠it→hp.get? b=some o→h2.get? b=some o:=fun b o hb e=>by rw[← h2e];exact ay _ (q1.extBut b o hb e)
 show wpAny _ _ (nU (.ref it) >>= _) _ _ ⟨h2,g,dr,tk,os⟩;rw[z1]
 clear h2e e1 q1 ty1 z1 h1
 refine aa ?_;unfold nU;refine aa (eW e2 rfl (x:=.none) rfl (ak ?_));simp only[if_true]
 refine aa (eW e2 rfl (x:=a0) rfl ?_);refine aa (eW e2 rfl (x:=b0) rfl ?_)
 refine aa (eM e2 (by simp) fun h3 e3 q3=>?_);replace q3:eC it h2 h3:=q3
 replace e3:ki h3 it d (i+1) n ep en.key b0:=e3
 refine aa (eM e3 (by simp) fun h4 e4 q4=>?_);replace q4:eC it h3 h4:=q4
 replace e4:ki h4 it d (i+1) n ep en.key en.val:=e4
 refine aa (eM e4 (by simp) fun h5 e5 q5=>?_);replace q5:eC it h4 h5:=q5
 replace e5:Ke h5 it d (i+1) n ep en.key en.val hp.objs.size:=e5
 refine aa (eM e5 (by simp) fun h6 e6 q6=>?_);replace q6:eC it h5 h6:=q6
 replace e6:Ke h6 it d (i+1) n ep en.key en.val hp.objs.size:=e6
 have ni:=fY lti
 refine aa (gu (ak (ak ⟨_,rfl,ak (hQ h6 e6 ?_ ?_)⟩)))
 ·exact q6.extBut _ _ ni (q5.extBut _ _ ni (q4.extBut _ _ ni (q3.extBut _ _ ni t2)))
 ·exact fun b o hb e=>q6.extBut b o hb (q5.extBut b o hb (q4.extBut b o hb (q3.extBut b o hb (k2 b o hb e))))
theorem PX {it d:aj}{i n ep:Nat}{od:fA}{es:Array fq}{a0 b0:ag}{Q:Option ag→au→Prop}(hh:A.handled=none)(hit:ki s.heap it d i n ep a0 b0)(hod:s.heap.get? d=some od)(hdd:od.data=.dict es ep)(hsz:es.size=n)(hge:n≤i)
  (hQ:∀ h',oX it s.heap h'→Q none {s with heap:=h'}):wpAny (model prog w) A (pyNext (.ref it)) Q E s:=by
 have ty:s.TypeIs (.ref it) "dict_itemiterator":=⟨_,hit,rfl⟩
 unfold pyNext;refine aa (iy (c9 (name:=dG "__next__") ty gj (c5 gj ty Ac ?_ (zV _))))
 refine aa (ak ?_);refine aa ?_;refine aa ?_
 first | refine aa (iK ty (ak ?_)) | refine aa (jJ ty (ak ?_))
 refine aa (k7 hit rfl ?_)
 have own:fG "dict_itemiterator"=true:=by decide
 simp only[own,if_true];show wpAny _ _ (if (ag.ref d==ag.none)=true then _ else _) _ _ _
 rw[if_neg (show ¬ ((ag.ref d==ag.none)=true) from bg)];refine aa (ak ?_);refine aa (ij hod hdd ?_)
 rw[if_neg (by rw[hsz];simp)];refine aa (ak ?_);refine aa (j6 hod hdd ?_)
 rw[if_neg (by simp)];refine ak ?_
 have ge:es.size≤i:=by rw[hsz];exact hge
 simp only[show ¬ ((i:Int)<0) from by omega,if_false,bR,iF ge];refine aa ?_
 first | refine aa (iK ty (ak ?_)) | refine aa (jJ ty (ak ?_))
 show wpAny _ _ (setField (.ref it) 2 .none >>= _) _ _ s;refine aa (fK hit rfl (by simp) ?_)
 show wpAny _ _ (newExc (.type "StopIteration") [] >>= _) _ _ _;refine aa ?_;simp only[newExc,newTuple]
 refine aa (cv ?_ (by size_fits));refine aa (m:=firstArgMember _ _) (jn (a:=ag.none) (by first | rfl | (simp only[firstArgMember];rfl)) ?_)
 refine cv ?_ (by size_fits);simp only[raiseNew];refine aa (qX ?_)
 rw[show A.in1.handled=none from hh];refine aa (ak (vQ ?_))
 refine aa (iJ (T:="StopIteration") (b:=true) ⟨_,aH _ rfl,rfl⟩ pQ ?_);exact ak (hQ _ (((c6 ..).extBut.push _).push _))
end
section
variable {X:Cx}{pins:List (aj×fA)}{σ:L2.St}{H:Hp}{s:au}{d:aj}{o:fA}
theorem Inv.U1 {kvs:List (List eD×V)}(I:Inv X pins σ H s)(h:H d=some (.lG o (.dT kvs))) :
  (d==eV)=false∧s.heap.get? d=some o∧o.ExactDict∧∃ (es:Array fq) (ep:Nat),o.data=.dict es ep∧es.size=kvs.length ∧
   ∀ (i:Nat) (k:List eD) (v:V),kvs[i]?=some (k,v)→∃ (en:fq) (q:aj),es[i]?=some en∧en.key=.ref q∧RelV v en.val∧kZ H q k:=by
 obtain ⟨hd,z,hs,xs,pr,o',es,ep,ho,hx,hdt,he,_⟩:=I.fj d _ h
 rw[hd] at ho
 cases ho
 refine ⟨hs,hd,hx,es,ep,hdt,?_,fun i k v e=>?_⟩
 ·have l1:es.size=xs.length:=size_of_entries he
  have l2:kvs.length=xs.length:=Paired.length pr
  omega
 ·obtain ⟨b,hb,e1,e2,e3⟩:=zk pr e
  have q:=entry_at he i
  rw[hb] at q
  exact ⟨_,b.2.1,q,rfl,e3,e2⟩
end
def My (d:aj)(o:fA)(kvs:List (List eD×V)):It :=
 ⟨fun i H=>H d=some (.lG o (.dT kvs))∧i<kvs.length,fun i H x H'=>∃ T k v q,kvs[i]?=some (k,v)∧x=.ref T∧H T=none∧kZ H q k∧H'=upd H T (.tup [.ref q,v]),fun i H=>H d=some (.lG o (.dT kvs))∧kvs.length≤i⟩
theorem EH {P:aY}{w:bO}{K:ai}{d:aj}{o:fA}{es:Array fq}{ep:Nat}{kvs:List (List eD×V)}{elts:List Expr}{kk:Nat}{lU:jK}(it:aj)(hod:o.data=.dict es ep) :
  Turn P w K (.Tuple elts kk lU) (My d o kvs) [it] it (fun i h=>∃ a0 b0,ki h it d i kvs.length ep a0 b0) where
 mem:=by simp
 obj:=fun i h st b hb=>by
  have e:b=it:=by simpa using hb
  subst e
  obtain ⟨_,_,e⟩:=st
  exact ⟨_,e,fun v z=>nomatch z⟩
 keep:=fun i h h' st k=>let ⟨a0,b0,e⟩:=st;⟨a0,b0,k it (by simp) _ e⟩
 item:=by
  intro X hP hw hK hc i pins s σ H E I hf st hg
  subst hP hw hK
  obtain ⟨hd,hi⟩:=hg
  obtain ⟨hs,hgd,hx,es',ep',hdt,hsz,ent⟩:=I.U1 hd
  obtain ⟨rfl,rfl⟩:=ya hod hdt
  obtain ⟨⟨k,v⟩,hkv⟩:∃ p,kvs[i]?=some p:=⟨kvs[i],aE hi⟩
  obtain ⟨en,q,hen,hkey,hrv,hq⟩:=ent i k v hkv
  obtain ⟨a0,b0,he⟩:=st
  have jV:it<s.heap.objs.size:=aN he
  refine K0 he hgd hdt hsz hen fun h' ho hT hk=>?_
  refine ⟨_,rfl,Fq (s:={s with heap:=h'}) ho fun h'' he' sb=>?_⟩
  have hT2:h''.get? s.heap.objs.size=some {cls:=.type "tuple",data:=.seq #[en.key,en.val]}:=(sb.2 _ (fY jV)).trans hT
  have new:fM X.prog X.w (upd H s.heap.objs.size (.tup [.ref q,v])) h'' s.heap.objs.size (.tup [.ref q,v]) :=
   ⟨by show 2≤aA;decide,[en.key,en.val],.cons hkey (.cons hrv .nil),⟨_,hT2,rfl,_,rfl⟩⟩
  have I1:Inv X pins σ (upd H s.heap.objs.size (.tup [.ref q,v])) {s with heap:=h''} :=
   I.oM (t':=s.toks) (ch:=[it]) (fun b ob hb e=>(sb.2 b (by simpa using hb)).trans (hk b ob (by simpa using hb) e)) hf (aL _) new
  refine ⟨.ref s.heap.objs.size,_,I1,rfl,⟨_,k,v,q,hkv,rfl,I.fj.fresh (aL _),hq,rfl⟩,⟨_,_,he'⟩,fun b hb=>?_⟩
  have e:b=it:=by simpa using hb
  rw[e,aT (ba jV)]
  exact (hf it (by simp)).1
 done:=by
  intro X hP hw hK hc i pins s σ H E I hf st hg
  subst hP hw hK
  obtain ⟨hd,hi⟩:=hg
  obtain ⟨f0,f1,f2,f3,f4,f5⟩:=hf it (by simp)
  obtain ⟨hs,hgd,hx,es',ep',hdt,hsz,ent⟩:=I.U1 hd
  obtain ⟨rfl,rfl⟩:=ya hod hdt
  obtain ⟨a0,b0,he⟩:=st
  exact PX (I.ok.hd hc) he hgd hdt hsz hi fun h' eb=>⟨rfl,I.turned (t':=s.toks) (fun b ob hb e=>eb b ob hb e) f0 f1 f3 f4 f5⟩
 self:=fun A i s Q E st h=>let ⟨_,_,e⟩:=st;L3 e h
def SG (td:TE):TI:=fun σ H R=>td σ H fun x H1=>∃ d o kvs,x=.ref d∧H1 d=some (.lG o (.dT kvs))∧R (My d o kvs) H1
theorem KC {X:Cx}{e:Expr}{td:TE}{apos jB:jK}{elts:List Expr}{kk:Nat}{lU:jK}(he:PE X e td)(hbase:iZ e "items" X.env (eval e X.env)=eval e X.env:=by rfl)(hline:(apos.endLine==jB.line)=true:=by rfl) :
  PI X (.Tuple elts kk lU) (.Call (.Attribute e "items" apos) [] [] jB) (SG td):=by
 intro pins s σ H R I h
 refine qv (T:="dict") (id:="dict.items") hbase rfl hline zP qd UH (gI (he pins s σ H _ I h) fun u s1 ⟨x,H1,I1,rx,d,o,kvs,ex,hd,q⟩=>?_)
 subst ex
 obtain rfl:u=ag.ref d:=rx
 obtain ⟨hs,hgd,hx,es,ep,hdt,hsz,ent⟩:=I1.U1 hd
 have ty:s1.TypeIs (.ref d) "dict":=⟨o,hgd,hx.1⟩
 refine ⟨ty,fun a e=>by cases e;exact ⟨o,hgd,hx.2.1⟩,?_⟩
 have I2:Inv X pins σ H1 {s1 with heap:=s1.heap.push {cls:=.type "dict_items",data:=.fields #[.ref d]}}:=I1.kept (t':=s1.toks) fun b ob q=>ay _ q
 have fin:wpAny (model X.prog X.w) X.A (pyIter (.ref s1.heap.objs.size)) (WR X pins σ (.Tuple elts kk lU) R) X.xe {s1 with heap:=s1.heap.push {cls:=.type "dict_items",data:=.fields #[.ref d]}}:=by
  refine Hv (d:=d) ⟨_,aH _ rfl,rfl,rfl⟩ (ay _ hgd) hdt (Gh (tk:=s1.toks) I2 _ (EH _ hdt) ⟨.none,.none,?_⟩ q)
  rw[hsz]
  exact aH _ rfl
 show wpAny _ _ (FC jB (.builtin "dict.items") [.ref d] [] []) _ X.xe s1
 exact GN qd T4 rfl (uv ⟨rfl,ty,QR _,_,CC d hs,ty,fin⟩)
end L2
namespace Sk
open PySem PySem.Spec PyProof.Rows L2
theorem Hz {d:aj}{o:fA}{kvs:List (List eD×V)}{g:TG}{tb:TS}{D:Ends}{σ:L2.St}{H:Hp}(Pv:Nat→L2.St→Hp→Prop)(h0:Pv 0 σ H)(hl:∀ i σ H,Pv i σ H→H d=some (.lG o (.dT kvs)))
  (hs:∀ i k v q T σ H,kvs[i]?=some (k,v)→Pv i σ H→H T=none→kZ H q k→g (.ref T) σ (upd H T (.tup [.ref q,v])) fun σ' H'=>tb {D with nx:=Pv (i+1),ct:=Pv (i+1),bk:=D.nx} σ' H')(hd:∀ σ H,Pv kvs.length σ H→D.nx σ H) :
  ∃ W:Nat→Nat→L2.St→Hp→Prop,(∃ m,W 0 m σ H)∧∀ i m σ H,W i m σ H →
   ((My d o kvs).stop i H∧D.nx σ H)∨((My d o kvs).go i H∧∃ Nx:L2.St→Hp→Prop,(∀ σ' H',Nx σ' H'→∃ m',m'<m∧W (i+1) m' σ' H')∧∀ x H',(My d o kvs).zS i H x H'→g x σ H' fun σ' H''=>tb {D with nx:=Nx,ct:=Nx,bk:=D.nx} σ' H''):=by
 refine ⟨fun i m σ H=>m=kvs.length - i∧i≤kvs.length∧Pv i σ H,⟨_,rfl,aR _,h0⟩,?_⟩
 rintro i m σ H ⟨rfl,hi,p⟩
 have q:=hl i σ H p
 by_cases lt:i<kvs.length
 ·refine .inr ⟨⟨q,lt⟩,Pv (i+1),fun σ' H' p'=>⟨_,by omega,rfl,by omega,p'⟩,?_⟩
  rintro x H' ⟨T,k,v,q,hkv,rfl,hT,hq,rfl⟩
  exact hs i k v q T σ H hkv p hT hq
 ·have e:i=kvs.length:=by omega
  exact .inl ⟨⟨q,by omega⟩,hd σ H (e▸p)⟩
def y6 (C:aj):Sp:=fun vs H Q _=>∃ (p:aj) (O:aj→Prop) (s:dz),vs=[.ref p]∧sS C H p O s∧eP C p O H s (cV s .patterns) Q
def chunk (kv:bJ×Nat):List Int:=Si35.ints (kv.2::kv.1.env::kv.1.sounds)
theorem Wb (l:List bJ):(gJ l).flatMap chunk=l.eraseDups.flatMap fun c=>Si35.ints ((l.filter fun x=>x==c).length::c.env::c.sounds):=by
 unfold gJ
 rw[QP]
 rfl
section
variable {P:aY}{w:bO}{K:ai}{mg:cp→Option ag}{base:bU}{C:aj}
theorem my:bW ["self","counts","answer","pattern","how_many"] ["self"] (bF vZ):=⟨rfl,rfl,rfl,by decide +kernel,rfl,by decide +kernel,by decide +kernel⟩
theorem EL {f f1:aj}{fd jW:bI}(F:jt K "patterns" "Family.patterns" vZ f fd)(T:nJ K mg C)(TF:qi mg)
  (G1:cO P w K mg base fB 1 f1 jW ["words"] pz)(m1:mg "count_places"=some (.ref f1))(k1:aP K (.ref f1)=true)(b1:Binds K jW ["words"] []) :
  cO P w K mg base fB 2 f fd ["self"] (y6 C):=by
 refine F.ok my (fun vs H Q E h=>?_) (fun iq A outer s H vs Q E hr h=>?_)
 ·obtain ⟨p,O,s,rfl,_⟩:=h
  rfl
 ·obtain ⟨p,O,st,rfl,hF,k⟩:=h
  refine ⟨_,aF (cw (i:=1) my.nd rfl (bj rfl) (bY G1 hr (by rfl) m1 k1 b1 .nil cR (ah (eU (pv 0) rfl) aB)))
   (aF (cw (i:=2) my.nd rfl (bj rfl) (cP (ah (bP Bc (by rfl) TF.len bb (ah (pv 1) aB)) aB)))
   (aF (Rv (gp bH rfl (KC (pv 1)) (yz rfl (je (cI (i:=3) my.nd rfl (bj rfl)) (je (cI (i:=4) my.nd rfl (bj rfl)) uI)))
    (aQ (fP (jL bK fT fS lN (pv 2) (ah (dX jk (cP (ah (pv 4) (ah (cy dO (pv 3) aW (fun _ _=>rfl)) aB))) (kl CI (by rfl) TF.list sU (ah (cy dO (pv 3) aW (fun _ _=>rfl)) aB))) aB))))))
   (aQ (bL (pv 2))))),?_⟩
  obtain ⟨dx,c,wa,tt,hf,ho⟩:=id hF
  have hfl:=hf.ok.flat
  have l5:=hf.ok.l5
  refine cn ⟨_,rfl,p,C,dx,_,_,rfl,hf.ins,T.cl,T.nw,gX _ _ _ _ _,wa,st.words,rfl,hf.words,aD hfl (by decide),fun H1 t s1 ht e1=>?_⟩
  have hcol:∀ kv∈gJ st.words.flatten,kv.1.sounds.length≤5:=fun kv hkv=>by
   have:kv.1∈(gJ st.words.flatten).map (·.1):=aU.mpr ⟨kv,hkv,rfl⟩
   rw[y4] at this
   rw[hf.ok.col ((ia _ _).mp this)]
   exact l5
  have ltl:(gJ st.words.flatten).length≤36:=by
   have:=AA st.words.flatten
   unfold jA at this
   rw[ae] at this
   omega
  have e:cV st .patterns=((gJ st.words.flatten).length:Int)::(gJ st.words.flatten).flatMap chunk:=by
   rw[Wb]
   show ((az st.words).length:Int)::_=_
   have:(gJ st.words.flatten).length=(az st.words).length:=by
    unfold gJ az
    rw[ae]
   rw[this]
   rfl
  rw[e] at k
  generalize gJ st.words.flatten=tl at k e1 hcol ltl
  refine cn ⟨_,rfl,t,_,rfl,e1,(by show 1≤aA;decide),fun r0 qD=>?_⟩
  have s2:=aM.new (o:=.lst [V.int ((jA tl).length:Int)]) qD
  have er:upd H1 r0 (.lst [V.int ((jA tl).length:Int)]) r0=some (.lst [V.int ((jA tl).length:Int)]):=aw
  have e2:=s2 _ _ e1
  generalize upd H1 r0 (.lst [V.int ((jA tl).length:Int)])=H2 at s2 er e2
  have nrt:r0≠t:=ik er e2 (by intro z;cases z)
  refine ⟨t,_,e2,trivial,fun od=>⟨_,rfl,t,od,_,rfl,aw,Hz (d:=t) (o:=od) (kvs:=jA tl) (fun i σ H'=>∃ v3 v4:Option V,σ=[some (.ref p),some (.ref t),some (.ref r0),v3,v4]∧aM (upd H1 t (.lG od (.dT (jA tl)))) H'∧H' r0=some (.lst (vI ((tl.length:Int)::(tl.take i).flatMap chunk))))
   ⟨none,none,rfl,?_,?_⟩ (fun i σ H' ⟨_,_,_,s3,_⟩=>s3 _ _ aw) ?_ ?_⟩⟩
  ·intro b o hb
   by_cases z:b=t
   ·rw[z,aw] at hb ⊢
    exact hb
   ·rw[aT z] at hb ⊢
    exact s2 _ _ hb
  ·rw[aT nrt,er]
   unfold jA
   rw[ae]
   rfl
  ·rintro i kk v q T1 σ H3 hkv ⟨v3,v4,rfl,s3,e3⟩ hT hq
   obtain ⟨kv,hkv2,e4⟩:∃ kv,tl[i]?=some kv∧(kc kv.1,iv kv.2)=(kk,v):=by
    unfold jA at hkv
    rw[aO] at hkv
    cases z:tl[i]? with
    | none=>rw[z] at hkv;cases hkv
    | some kv=>rw[z] at hkv;exact ⟨kv,rfl,aJ hkv⟩
   cases e4
   have s4:=aM.new (o:=.tup [V.ref q,iv kv.2]) hT
   obtain ⟨b,q1,q2⟩:=(ju.NG hq).same s4
   have hlc:=hcol kv (aV hkv2)
   have i1:Ia [iv kv.1.env,V.ref b] 1=some (.ref b):=rfl
   have hll:((tl.take i).flatMap chunk).length≤7*36:=by
    have:∀ l:List (bJ×Nat),(∀ kv∈l,kv.1.sounds.length≤5)→(l.flatMap chunk).length≤7*l.length:=by
     intro l
     induction l with
     | nil=>intro _;exact aR _
     | cons a l ih =>
      intro h
      have h1:=ih fun kv hk=>h kv (ao _ hk)
      have h2:=h a ax
      rw[bN,aK,aS,xE]
      have:(chunk a).length=a.1.sounds.length+2:=by
       unfold chunk Si35.ints
       rw[ae]
       rfl
      omega
    refine aD (this _ fun kv hk=>hcol kv (lE hk)) ?_
    rw[bM]
    omega
   refine ⟨T1,_,rfl,fN.of aw,rfl,_,_,rfl,_,_,rfl,rfl,?_⟩
   refine ⟨_,rfl,.inl ⟨rfl,_,cG.of (s4 _ _ e3)⟩,_,rfl,_,rfl,q,_,0,_,rfl,rfl,fN.of q1,rfl,(by show 2≤aA;decide),fun a ha=>?_⟩
   have s5:=aM.new (o:=.lst [iv kv.2,iv kv.1.env]) ha
   refine ⟨_,rfl,q,_,1,_,rfl,rfl,fN.of (s5 _ _ q1),i1,b,_,rfl,.inr (fN.of (s5 _ _ q2)),fun a2 ha2=>?_⟩
   have s6:=aM.new (o:=.lst (eT kv.1.sounds)) ha2
   refine ⟨a,a2,_,_,rfl,rfl,s6 _ _ aw,aw,?_,fun a3 ha3=>?_⟩
   ·rw[ae]
    exact aD (show 2+_≤7 by omega) (by decide)
   have s7:=aM.new (o:=.lst ([iv kv.2,iv kv.1.env]++eT kv.1.sounds)) ha3
   have s47:=((s4.trans s5).trans s6).trans s7
   refine ⟨r0,a3,_,_,rfl,rfl,s47 _ _ e3,aw,?_,_,_,rfl,(s3.trans s47).upd ?_,?_⟩
   ·rw[ae,aS,aK,ae]
    exact aD (show _+1+(2+_)≤300 by omega) (by decide)
   ·rw[aT nrt]
    exact qD
   ·rw[aw,take_snoc hkv2,gA,bN,kX,bV]
    simp[chunk,Si35.ints,vI]
  ·rintro σ H3 ⟨v3,v4,rfl,s3,e3⟩
   have el:(jA tl).length=tl.length:=by unfold jA;rw[ae]
   rw[el,bE] at e3
   refine ⟨s3 _ _ aw,_,rfl,?_⟩
   have s4:aM H1 (upd H3 t (.dT (jA tl))):=aM.unlock e1 s3
   exact finish hF k (s1.trans s4) (s1.free qD) (by rw[aT nrt];exact e3)
end
def Ib (P:aY)(w:bO)(K:ai)(mg:cp→Option ag)(base:bU)(C:aj)(k:Nat)(m:cp)(ps:List cp)(sp:Sp):Prop:=∃ f fd,cO P w K mg base fB k f fd ps sp∧ym K C m f∧Binds K fd ps []
def WU (P:aY)(w:bO)(K:ai)(mg:cp→Option ag)(base:bU)(k:Nat)(m:cp)(ps:List cp)(sp:Sp):Prop:=∃ f fd,cO P w K mg base fB k f fd ps sp∧mg m=some (.ref f)∧aP K (.ref f)=true∧Binds K fd ps []
theorem eP.later {C p:aj}{O:aj→Prop}{H H1:Hp}{s:dz}{a:List Int}{Q:VK}(k:eP C p O H s a Q)(e:aM H H1):eP C p O H1 s a Q :=
 fun H' O' r f st hr no er=>k H' O' r f ((Dd.of_same e).trans st) (e.free hr) no er
theorem sS.x5 {C:aj}{H:Hp}{p:aj}{O:aj→Prop}{s:dz}(h:sS C H p O s){b:aj}(e:H b=none):¬ O b:=fun q=>by
 obtain ⟨_,z⟩:=h.own q
 rw[z] at e
 cases e
theorem eqT {i:Int}{a b:Prop}(q:a):if decide (V.int i=V.int i)=true then a else b:=by
 rw[if_pos (by simp)]
 exact q
theorem HZ {i j:Int}(h:i≠j){a b:Prop}(q:b):if decide (V.int i=V.int j)=true then a else b:=by
 rw[if_neg (fun z=>h (pk.mp z))]
 exact q
theorem tY:∀ t:cD,size t+1≤2 ^ depth t
 | .leaf _=>aL _
 | .node a b=>by
  have h1:=tY a
  have h2:=tY b
  have h3:2 ^ depth a≤2 ^ max (depth a) (depth b):=lK (by decide) (Nat.le_max_left _ _)
  have h4:2 ^ depth b≤2 ^ max (depth a) (depth b):=lK (by decide) (Nat.le_max_right _ _)
  show 1+(size a+size b)+1≤2 ^ (max (depth a) (depth b)+1)
  rw[Nat.pow_succ]
  omega
theorem uE {x:List Int}(h:∀ z∈x,0≤z):vI x=eT (nats x):=by rw[BJ,RX x h]
theorem lX {z:Int}(h:0≤z):∃ n:Nat,z=(n:Int):=⟨z.toNat,by omega⟩
structure Xd (mg:cp→Option ag):Prop where
 n0:∃ t,mg "BEGINS"=some (.int 0 t)
 n1:∃ t,mg "COST"=some (.int 1 t)
 n2:∃ t,mg "BESIDE"=some (.int 2 t)
 n3:∃ t,mg "WORD"=some (.int 3 t)
 n4:∃ t,mg "PATTERNS"=some (.int 4 t)
 n5:∃ t,mg "OLDS"=some (.int 5 t)
 n6:∃ t,mg "REFLEX"=some (.int 6 t)
 n7:∃ t,mg "EXPECTED"=some (.int 7 t)
 n8:∃ t,mg "LEAVE"=some (.int 8 t)
 n9:∃ t,mg "TREE"=some (.int 9 t)
 YU:∃ t,mg "SCORE"=some (.int 10 t)
 YT:∃ t,mg "ROOT"=some (.int 11 t)
 YS:∃ t,mg "STATES"=some (.int 12 t)
def Nw (C:aj):Sp:=fun vs H Q _=>∃ (p pn pr:aj) (O:aj→Prop) (s:dz) (a:Int) (nums:List Int) (xs:List (List Int)) (q:Si35.Call),vs=[.ref p,.int a,.ref pn,.ref pr]∧sS C H p O s∧H pn=some (.lst (vI nums))∧Im H pr xs ∧
 g4 a=some (nums.length,xs.length)∧gO ((a::nums)::xs)=some q∧(∀ z∈nums,0≤z∧z<4294967296)∧(∀ x∈xs,∀ z∈x,0≤z)∧eP C p O H (bu s q).1 (cV s q) Q
theorem Gc {H:Hp}{pr:aj}{x:List Int}(h:Im H pr [x]):∃ r,H pr=some (.lst [V.ref r])∧H r=some (.lst (vI x)):=by
 obtain ⟨rs,e,p⟩:=h
 cases p with
 | cons a t =>
  cases t
  exact ⟨_,e,a⟩
theorem Vo {H:Hp}{pr:aj}{x y:List Int}(h:Im H pr [x,y]):∃ r u,H pr=some (.lst [V.ref r,V.ref u])∧H r=some (.lst (vI x))∧H u=some (.lst (vI y)):=by
 obtain ⟨rs,e,p⟩:=h
 cases p with
 | cons a t =>
  cases t with
  | cons b u =>
   cases u
   exact ⟨_,_,e,a,b⟩
section
variable {P:aY}{w:bO}{K:ai}{mg:cp→Option ag}{base:bU}{C:aj}
theorem Vn:bW ["family","call","numbers","rows"] ["family","call","numbers","rows"] (bF MW):=⟨rfl,rfl,rfl,by decide +kernel,rfl,by decide +kernel,by decide +kernel⟩
theorem RP {f:aj}{fd:bI}(F:jt K "answer_call" "answer_call" MW f fd)(T:nJ K mg C)(TN:Xd mg)
  (M0:Ib P w K mg base C 2 "begins" ["self","languages"] (DM C))(M1:Ib P w K mg base C 1 "cost" ["self","one","other","costs"] (Nv C))(M2:Ib P w K mg base C 5 "beside" ["self","first","second"] (AG K C))
  (M3:Ib P w K mg base C 2 "word" ["self","places"] (Nj C))(M4:Ib P w K mg base C 2 "patterns" ["self"] (y6 C))(M5:Ib P w K mg base C 13 "olds" ["self"] (ID C))(M6:Ib P w K mg base C 14 "reflex" ["self","sound"] (DH C))
  (M7:Ib P w K mg base C 14 "expected" ["self","language","asked"] (y8 C))(M8:Ib P w K mg base C 14 "leave" ["self","k"] (DJ C))(M9:Ib P w K mg base C 2 "tree" ["self","nodes"] (IA C))(M10:Ib P w K mg base C 7 "score" ["self"] (DG C))
  (M11:Ib P w K mg base C 6 "root" ["self","word","place"] (Nl C))(M12:Ib P w K mg base C 6 "states" ["self","word","place"] (AE C))(M13:Ib P w K mg base C 7 "best" ["self"] (Ny C))
  (R3:WU P w K mg base 1 "read_places" ["row"] (DI K))(R7:WU P w K mg base 1 "read_pairs" ["row"] (IC K))(R9:WU P w K mg base 1 "read_tree" ["row"] (Nm K)) :
  cO P w K mg base fB 15 f fd ["family","call","numbers","rows"] (Nw C):=by
 obtain ⟨t0,h0⟩:=TN.n0
 obtain ⟨t1,h1⟩:=TN.n1
 obtain ⟨t2,h2⟩:=TN.n2
 obtain ⟨t3,h3⟩:=TN.n3
 obtain ⟨t4,h4⟩:=TN.n4
 obtain ⟨t5,h5⟩:=TN.n5
 obtain ⟨t6,h6⟩:=TN.n6
 obtain ⟨t7,h7⟩:=TN.n7
 obtain ⟨t8,h8⟩:=TN.n8
 obtain ⟨t9,h9⟩:=TN.n9
 obtain ⟨t10,h10⟩:=TN.YU
 obtain ⟨t11,h11⟩:=TN.YT
 obtain ⟨t12,h12⟩:=TN.YS
 obtain ⟨f0,fd0,G0,m0,b0⟩:=M0
 obtain ⟨f1,jW,G1,m1,b1⟩:=M1
 obtain ⟨f2,mG,G2,m2,b2⟩:=M2
 obtain ⟨f3,fd3,G3,m3,b3⟩:=M3
 obtain ⟨f4,fd4,G4,m4,b4⟩:=M4
 obtain ⟨f5,fd5,G5,m5,b5⟩:=M5
 obtain ⟨f6,fd6,G6,m6,b6⟩:=M6
 obtain ⟨f7,fd7,G7,m7,b7⟩:=M7
 obtain ⟨f8,fd8,G8,m8,b8⟩:=M8
 obtain ⟨f9,fd9,G9,m9,b9⟩:=M9
 obtain ⟨f10,fd10,G10,m10,b10⟩:=M10
 obtain ⟨f11,fd11,G11,m11,b11⟩:=M11
 obtain ⟨f12,fd12,G12,m12,b12⟩:=M12
 obtain ⟨f13,fd13,G13,m13,b13⟩:=M13
 obtain ⟨g3,gd3,GR3,mr3,kr3,br3⟩:=R3
 obtain ⟨g7,gd7,GR7,mr7,kr7,br7⟩:=R7
 obtain ⟨g9,gd9,GR9,mr9,kr9,br9⟩:=R9
 refine F.ok Vn (fun vs H Q E h=>?_) (fun iq A outer s H vs Q E hr h=>?_)
 ·obtain ⟨p,pn,pr,O,s,a,nums,xs,q,rfl,_⟩:=h
  rfl
 ·obtain ⟨p,pn,pr,O,st,a,nums,xs,q,rfl,hF,hn,hrw,hsh,hq,hnn,hxx,k⟩:=h
  have r1:fO 1 _:=hr.mono (by decide)
  have r2:fO 2 _:=hr.mono (by decide)
  have r5:fO 5 _:=hr.mono (by decide)
  have r6:fO 6 _:=hr.mono (by decide)
  have r7:fO 7 _:=hr.mono (by decide)
  have r13:fO 13 _:=hr.mono (by decide)
  have r14:fO 14 _:=hr.mono (by decide)
  refine ⟨_,aF (eE (bS gw (pv 1) (bX (v:=.int 0) (by rfl) h0 ⟨_,rfl⟩) (cj _)) (aQ (bL (hZ (pv 0) T.cl m0 G0 r2 b0 .nil cR (ah (cy cJ (pv 2) aW (fun _ _=>rfl)) aB)))) cU)
   (aF (eE (bS gw (pv 1) (bX (v:=.int 1) (by rfl) h1 ⟨_,rfl⟩) (cj _)) (aQ (bL (hZ (pv 0) T.cl m1 G1 r1 b1 .nil cR (ah (cy cJ (pv 2) aW (fun _ _=>rfl)) (ah (cy cJ (pv 2) aW (fun _ _=>rfl)) (ah (cy cJ (pv 2) aW (fun _ _=>rfl)) aB)))))) cU)
   (aF (eE (bS gw (pv 1) (bX (v:=.int 2) (by rfl) h2 ⟨_,rfl⟩) (cj _)) (aQ (bL (hZ (pv 0) T.cl m2 G2 r5 b2 .nil cR (ah (cy cJ (pv 3) aW (fun _ _=>rfl)) (ah (cy cJ (pv 3) aW (fun _ _=>rfl)) aB))))) cU)
   (aF (eE (bS gw (pv 1) (bX (v:=.int 3) (by rfl) h3 ⟨_,rfl⟩) (cj _)) (aQ (bL (hZ (pv 0) T.cl m3 G3 r2 b3 .nil cR (ah (bY GR3 r1 (by rfl) mr3 kr3 br3 .nil cR (ah (cy cJ (pv 3) aW (fun _ _=>rfl)) aB)) aB)))) cU)
   (aF (eE (bS gw (pv 1) (bX (v:=.int 4) (by rfl) h4 ⟨_,rfl⟩) (cj _)) (aQ (bL (uV (pv 0) T.cl m4 G4 r2 b4 .nil cR))) cU)
   (aF (eE (bS gw (pv 1) (bX (v:=.int 5) (by rfl) h5 ⟨_,rfl⟩) (cj _)) (aQ (bL (uV (pv 0) T.cl m5 G5 r13 b5 .nil cR))) cU)
   (aF (eE (bS gw (pv 1) (bX (v:=.int 6) (by rfl) h6 ⟨_,rfl⟩) (cj _)) (aQ (bL (hZ (pv 0) T.cl m6 G6 r14 b6 .nil cR (ah (cy cJ (pv 2) aW (fun _ _=>rfl)) aB)))) cU)
   (aF (eE (bS gw (pv 1) (bX (v:=.int 7) (by rfl) h7 ⟨_,rfl⟩) (cj _)) (aQ (bL (hZ (pv 0) T.cl m7 G7 r14 b7 .nil cR (ah (cy cJ (pv 2) aW (fun _ _=>rfl)) (ah (bY GR7 r1 (by rfl) mr7 kr7 br7 .nil cR (ah (cy cJ (pv 3) aW (fun _ _=>rfl)) aB)) aB))))) cU)
   (aF (eE (bS gw (pv 1) (bX (v:=.int 8) (by rfl) h8 ⟨_,rfl⟩) (cj _)) (aQ (bL (hZ (pv 0) T.cl m8 G8 r14 b8 .nil cR (ah (cy cJ (pv 2) aW (fun _ _=>rfl)) aB)))) cU)
   (aF (eE (bS gw (pv 1) (bX (v:=.int 9) (by rfl) h9 ⟨_,rfl⟩) (cj _)) (aQ (bL (hZ (pv 0) T.cl m9 G9 r2 b9 .nil cR (ah (bY GR9 r1 (by rfl) mr9 kr9 br9 .nil cR (ah (cy cJ (pv 3) aW (fun _ _=>rfl)) aB)) aB)))) cU)
   (aF (eE (bS gw (pv 1) (bX (v:=.int 10) (by rfl) h10 ⟨_,rfl⟩) (cj _)) (aQ (bL (uV (pv 0) T.cl m10 G10 r7 b10 .nil cR))) cU)
   (aF (eE (bS gw (pv 1) (bX (v:=.int 11) (by rfl) h11 ⟨_,rfl⟩) (cj _)) (aQ (bL (hZ (pv 0) T.cl m11 G11 r6 b11 .nil cR (ah (cy cJ (pv 2) aW (fun _ _=>rfl)) (ah (cy cJ (pv 2) aW (fun _ _=>rfl)) aB))))) cU)
   (aF (eE (bS gw (pv 1) (bX (v:=.int 12) (by rfl) h12 ⟨_,rfl⟩) (cj _)) (aQ (bL (hZ (pv 0) T.cl m12 G12 r6 b12 .nil cR (ah (cy cJ (pv 2) aW (fun _ _=>rfl)) (ah (cy cJ (pv 2) aW (fun _ _=>rfl)) aB))))) cU)
   (aQ (bL (uV (pv 0) T.cl m13 G13 r7 b13 .nil cR))))))))))))))),?_⟩
  obtain ⟨dx,c,wa,tt,hf,ho⟩:=id hF
  have hno:∀ m:cp,¬ m="languages"→¬ m="told"→¬ m="costs"→¬ m="words"→¬ m="told_tree"→(ff st.langs st.costs.length c wa tt).lookup m=none:=fun m a1 a2 a3 a4 a5=>Ak _ _ _ _ _ a1 a2 a3 a4 a5
  rcases rg hsh with z | z | z | z | z | z | z | z | z | z | z | z | z | z<;>obtain ⟨rfl,z1,z2⟩:=z
  ·
   match nums,xs,z1,z2 with
   | [x],[],_,_ =>
    obtain ⟨n,rfl⟩:=lX (hnn x ax).1
    cases aJ ((Ll _).symm.trans hq)
    refine ⟨_,rfl,rfl,_,rfl,eqT ?_⟩
    exact ⟨_,rfl,p,dx,_,rfl,hf.ins,hno _ (by decide +kernel) (by decide +kernel) (by decide +kernel) (by decide +kernel) (by decide +kernel),_,rfl,pn,_,0,_,rfl,rfl,cG.of hn,rfl,p,O,st,n,rfl,hF,k⟩
  ·
   match nums,xs,z1,z2 with
   | [x,y,z],[],_,_ =>
    obtain ⟨n,rfl⟩:=lX (hnn x (by simp)).1
    obtain ⟨n2,rfl⟩:=lX (hnn y (by simp)).1
    obtain ⟨n3,rfl⟩:=lX (hnn z (by simp)).1
    cases aJ ((SD _ _ _).symm.trans hq)
    refine ⟨_,rfl,rfl,_,rfl,HZ (by decide) ?_⟩
    refine ⟨_,rfl,rfl,_,rfl,eqT ?_⟩
    exact ⟨_,rfl,p,dx,_,rfl,hf.ins,hno _ (by decide +kernel) (by decide +kernel) (by decide +kernel) (by decide +kernel) (by decide +kernel),_,rfl,pn,_,0,_,rfl,rfl,cG.of hn,rfl,_,rfl,pn,_,1,V.int (n2:Int),rfl,rfl,cG.of hn,rfl,_,rfl,pn,_,2,V.int (n3:Int),rfl,rfl,cG.of hn,rfl,p,O,st,n,n2,n3,rfl,hF,k⟩
  ·
   match nums,xs,z1,z2 with
   | [],[x,y],_,_ =>
    obtain ⟨e,l1,l2⟩:=Lk x y (by rw[show gO [[2],x,y]=some q from hq];rfl)
    cases aJ (e.symm.trans hq)
    obtain ⟨r,u,e1,e2,e3⟩:=Vo hrw
    rw[uE (hxx x (by simp))] at e2
    rw[uE (hxx y (by simp))] at e3
    refine ⟨_,rfl,rfl,_,rfl,HZ (by decide) ?_⟩
    refine ⟨_,rfl,rfl,_,rfl,HZ (by decide) ?_⟩
    refine ⟨_,rfl,rfl,_,rfl,eqT ?_⟩
    exact ⟨_,rfl,p,dx,_,rfl,hf.ins,hno _ (by decide +kernel) (by decide +kernel) (by decide +kernel) (by decide +kernel) (by decide +kernel),_,rfl,pr,_,0,_,rfl,rfl,cG.of e1,rfl,_,rfl,pr,_,1,V.ref u,rfl,rfl,cG.of e1,rfl,p,r,u,O,st,_,_,rfl,hF,cG.of e2,cG.of e3,by unfold nats;rw[ae];exact l1,by unfold nats;rw[ae];exact l2,k⟩
  ·
   match nums,xs,z1,z2 with
   | [],[x],_,_ =>
    obtain ⟨wd,hwd,hq2⟩:=fz.mp ((Sx x).symm.trans hq)
    subst hq2
    obtain ⟨q1,q2,q3⟩:=Ba hwd
    obtain ⟨r,e1,e2⟩:=Gc hrw
    rw[uE (hxx x (by simp)),q1] at e2
    iterate 3 refine ⟨_,rfl,rfl,_,rfl,HZ (by decide) ?_⟩
    refine ⟨_,rfl,rfl,_,rfl,eqT ?_⟩
    exact ⟨_,rfl,p,dx,_,rfl,hf.ins,hno _ (by decide +kernel) (by decide +kernel) (by decide +kernel) (by decide +kernel) (by decide +kernel),_,rfl,pr,_,0,_,rfl,rfl,cG.of e1,rfl,r,wd,rfl,cG.of e2,q2,q3,fun H1 qa s1 hqa hw=>⟨p,qa,O,st,wd,rfl,hF.same s1,hw,hF.x5 hqa,q2,q3,k.later s1⟩⟩
  ·
   match nums,xs,z1,z2 with
   | [],[],_,_ =>
    cases aJ (EW.symm.trans hq)
    iterate 4 refine ⟨_,rfl,rfl,_,rfl,HZ (by decide) ?_⟩
    refine ⟨_,rfl,rfl,_,rfl,eqT ?_⟩
    exact ⟨_,rfl,p,dx,_,rfl,hf.ins,hno _ (by decide +kernel) (by decide +kernel) (by decide +kernel) (by decide +kernel) (by decide +kernel),p,O,st,rfl,hF,k⟩
  ·
   match nums,xs,z1,z2 with
   | [],[],_,_ =>
    cases aJ (SA.symm.trans hq)
    iterate 5 refine ⟨_,rfl,rfl,_,rfl,HZ (by decide) ?_⟩
    refine ⟨_,rfl,rfl,_,rfl,eqT ?_⟩
    exact ⟨_,rfl,p,dx,_,rfl,hf.ins,hno _ (by decide +kernel) (by decide +kernel) (by decide +kernel) (by decide +kernel) (by decide +kernel),p,O,st,rfl,hF,k⟩
  ·
   match nums,xs,z1,z2 with
   | [x],[],_,_ =>
    obtain ⟨n,rfl⟩:=lX (hnn x ax).1
    cases aJ ((Lj _).symm.trans hq)
    iterate 6 refine ⟨_,rfl,rfl,_,rfl,HZ (by decide) ?_⟩
    refine ⟨_,rfl,rfl,_,rfl,eqT ?_⟩
    exact ⟨_,rfl,p,dx,_,rfl,hf.ins,hno _ (by decide +kernel) (by decide +kernel) (by decide +kernel) (by decide +kernel) (by decide +kernel),_,rfl,pn,_,0,_,rfl,rfl,cG.of hn,rfl,p,O,st,n,rfl,hF,k⟩
  ·
   match nums,xs,z1,z2 with
   | [i],[x],_,_ =>
    obtain ⟨n,rfl⟩:=lX (hnn i ax).1
    obtain ⟨l,hl,hq2⟩:=fz.mp ((EX _ x).symm.trans hq)
    subst hq2
    obtain ⟨q1,q2⟩:=zj hl
    obtain ⟨r,e1,e2⟩:=Gc hrw
    rw[uE (hxx x (by simp)),q1] at e2
    iterate 7 refine ⟨_,rfl,rfl,_,rfl,HZ (by decide) ?_⟩
    refine ⟨_,rfl,rfl,_,rfl,eqT ?_⟩
    exact ⟨_,rfl,p,dx,_,rfl,hf.ins,hno _ (by decide +kernel) (by decide +kernel) (by decide +kernel) (by decide +kernel) (by decide +kernel),_,rfl,pn,_,0,_,rfl,rfl,cG.of hn,rfl,_,rfl,pr,_,0,_,rfl,rfl,cG.of e1,rfl,r,l,rfl,cG.of e2,q2,fun H1 qa s1 hqa hw=>⟨p,qa,O,st,n,l,rfl,hF.same s1,hw,q2,k.later s1⟩⟩
  ·
   match nums,xs,z1,z2 with
   | [x],[],_,_ =>
    have hb:=(hnn x ax).2
    obtain ⟨n,rfl⟩:=lX (hnn x ax).1
    cases aJ ((Pu _).symm.trans hq)
    iterate 8 refine ⟨_,rfl,rfl,_,rfl,HZ (by decide) ?_⟩
    refine ⟨_,rfl,rfl,_,rfl,eqT ?_⟩
    exact ⟨_,rfl,p,dx,_,rfl,hf.ins,hno _ (by decide +kernel) (by decide +kernel) (by decide +kernel) (by decide +kernel) (by decide +kernel),_,rfl,pn,_,0,_,rfl,rfl,cG.of hn,rfl,p,O,st,n,rfl,by omega,hF,k⟩
  ·
   match nums,xs,z1,z2 with
   | [],[x],_,_ =>
    have hq1:(i5 8 (nats x)).bind (fun t=>match t.2 with | []=>some (Si35.Call.tree t.1) | _=>none)=some q:=(Sy x).symm.trans hq
    obtain ⟨⟨t,u⟩,ht,hq2⟩:=o5.mp hq1
    cases u with
    | cons a u=>cases hq2
    | nil =>
     cases aJ hq2
     obtain ⟨q1,q2⟩:=vU ht
     rw[bV] at q1
     obtain ⟨r,e1,e2⟩:=Gc hrw
     rw[uE (hxx x (by simp)),q1] at e2
     have hz:size t≤1000:=by
      have:=tY t
      have:=lK (n:=2) (by decide) q2
      omega
     iterate 9 refine ⟨_,rfl,rfl,_,rfl,HZ (by decide) ?_⟩
     refine ⟨_,rfl,rfl,_,rfl,eqT ?_⟩
     exact ⟨_,rfl,p,dx,_,rfl,hf.ins,hno _ (by decide +kernel) (by decide +kernel) (by decide +kernel) (by decide +kernel) (by decide +kernel),_,rfl,pr,_,0,_,rfl,rfl,cG.of e1,rfl,r,t,rfl,cG.of e2,hz,fun H1 qa s1 hqa hw=>⟨p,qa,O,st,t,rfl,hF.same s1,hw,hz,k.later s1⟩⟩
  ·
   match nums,xs,z1,z2 with
   | [],[],_,_ =>
    cases aJ (Pt.symm.trans hq)
    iterate 10 refine ⟨_,rfl,rfl,_,rfl,HZ (by decide) ?_⟩
    refine ⟨_,rfl,rfl,_,rfl,eqT ?_⟩
    exact ⟨_,rfl,p,dx,_,rfl,hf.ins,hno _ (by decide +kernel) (by decide +kernel) (by decide +kernel) (by decide +kernel) (by decide +kernel),p,O,st,rfl,hF,k⟩
  ·
   match nums,xs,z1,z2 with
   | [x,y],[],_,_ =>
    obtain ⟨n,rfl⟩:=lX (hnn x (by simp)).1
    obtain ⟨n2,rfl⟩:=lX (hnn y (by simp)).1
    cases aJ ((Sz _ _).symm.trans hq)
    iterate 11 refine ⟨_,rfl,rfl,_,rfl,HZ (by decide) ?_⟩
    refine ⟨_,rfl,rfl,_,rfl,eqT ?_⟩
    exact ⟨_,rfl,p,dx,_,rfl,hf.ins,hno _ (by decide +kernel) (by decide +kernel) (by decide +kernel) (by decide +kernel) (by decide +kernel),_,rfl,pn,_,0,_,rfl,rfl,cG.of hn,rfl,_,rfl,pn,_,1,V.int (n2:Int),rfl,rfl,cG.of hn,rfl,p,O,st,n,n2,rfl,hF,k⟩
  ·
   match nums,xs,z1,z2 with
   | [x,y],[],_,_ =>
    obtain ⟨n,rfl⟩:=lX (hnn x (by simp)).1
    obtain ⟨n2,rfl⟩:=lX (hnn y (by simp)).1
    cases aJ ((Li _ _).symm.trans hq)
    iterate 12 refine ⟨_,rfl,rfl,_,rfl,HZ (by decide) ?_⟩
    refine ⟨_,rfl,rfl,_,rfl,eqT ?_⟩
    exact ⟨_,rfl,p,dx,_,rfl,hf.ins,hno _ (by decide +kernel) (by decide +kernel) (by decide +kernel) (by decide +kernel) (by decide +kernel),_,rfl,pn,_,0,_,rfl,rfl,cG.of hn,rfl,_,rfl,pn,_,1,V.int (n2:Int),rfl,rfl,cG.of hn,rfl,p,O,st,n,n2,rfl,hF,k⟩
  ·
   match nums,xs,z1,z2 with
   | [],[],_,_ =>
    cases aJ (SE.symm.trans hq)
    iterate 13 refine ⟨_,rfl,rfl,_,rfl,HZ (by decide) ?_⟩
    exact ⟨_,rfl,p,dx,_,rfl,hf.ins,hno _ (by decide +kernel) (by decide +kernel) (by decide +kernel) (by decide +kernel) (by decide +kernel),p,O,st,rfl,hF,k⟩
end
theorem Hl {z:Int}(h:Bp z 32=true):0≤z∧z<4294967296:=by
 unfold Bp at h
 rw[bx,decide_eq_true_iff,decide_eq_true_iff] at h
 exact h
theorem LR {c:List (List Int)}(h:i7 (cF c)=true):(gO c).isSome=true∧∀ z∈(cF c).headD [],0≤z∧z<4294967296:=by
 unfold i7 at h
 rw[bx,bx,dJ] at h
 exact ⟨h.2.2,fun z hz=>Hl (h.2.1 z hz)⟩
theorem len0 {α:Type}{l:List α}(h:l.length=0):l=[]:=cW.mp h
theorem C7 {α:Type}{l:List α}(h:l.length=1):∃ a,l=[a]:=List.length_eq_one_iff.mp h
theorem Q3 {α:Type}{l:List α}(h:l.length=2):∃ a b,l=[a,b]:=by
 cases l with
 | nil=>cases h
 | cons a l =>
  obtain ⟨b,rfl⟩:=C7 (show l.length=1 by simpa using h)
  exact ⟨a,b,rfl⟩
theorem Zi {α:Type}{l:List α}(h:l.length=3):∃ a b c,l=[a,b,c]:=by
 cases l with
 | nil=>cases h
 | cons a l =>
  obtain ⟨b,c,rfl⟩:=Q3 (show l.length=2 by simpa using h)
  exact ⟨a,b,c,rfl⟩
theorem Z1 (x:Int):(cF [[0,x]]).headD []=[0,x]:=rfl
theorem Z0 (x y z:Int):(cF [[1,x,y,z]]).headD []=[1,x,y,z]:=rfl
theorem ZZ (x y:List Int):(cF [[2],x,y]).headD []=[2]++[(x.length:Int)]++x++y:=rfl
theorem ZY (x:List Int):(cF [[3],x]).headD []=[3]++x:=rfl
theorem ZX (x:Int):(cF [[6,x]]).headD []=[6,x]:=rfl
theorem ZW (i:Int)(x:List Int):(cF [[7,i],x]).headD []=[7]++[i]++x:=rfl
theorem ZV (x:Int):(cF [[8,x]]).headD []=[8,x]:=rfl
theorem ZU (x:List Int):(cF [[9],x]).headD []=[9]++x:=rfl
theorem Y0 (x y:Int):(cF [[11,x,y]]).headD []=[11,x,y]:=rfl
theorem YZ (x y:Int):(cF [[12,x,y]]).headD []=[12,x,y]:=rfl
theorem Oe {p:Int}{nums:List Int}{xs:List (List Int)}(hs:g4 p=some (nums.length,xs.length))(h:i7 (cF ((p::nums)::xs))=true) :
  (gO ((p::nums)::xs)).isSome=true∧(∀ z∈nums,0≤z∧z<4294967296)∧(∀ x∈xs,∀ z∈x,0≤z)∧xs.length≤2:=by
 obtain ⟨h1,h2⟩:=LR h
 clear h
 refine ⟨h1,?_⟩
 clear h1
 rcases rg hs with z | z | z | z | z | z | z | z | z | z | z | z | z | z<;>obtain ⟨rfl,z1,z2⟩:=z<;>clear hs
 ·cases len0 z2
  obtain ⟨x,rfl⟩:=C7 z1
  rw[Z1] at h2
  exact ⟨fun z hz=>h2 z (ao _ hz),fun x hx=>(by cases hx),aR _⟩
 ·cases len0 z2
  obtain ⟨x,y,u,rfl⟩:=Zi z1
  rw[Z0] at h2
  exact ⟨fun z hz=>h2 z (ao _ hz),fun x hx=>(by cases hx),aR _⟩
 ·cases len0 z1
  obtain ⟨x,y,rfl⟩:=Q3 z2
  rw[ZZ] at h2
  refine ⟨fun z hz=>(by cases hz),fun a ha z hz=>(h2 z ?_).1,aL _⟩
  rcases aI.mp ha with rfl | ha
  ·exact bq.mpr (.inl (bq.mpr (.inr hz)))
  ·rw[bB.mp ha] at hz
   exact bq.mpr (.inr hz)
 ·cases len0 z1
  obtain ⟨x,rfl⟩:=C7 z2
  rw[ZY] at h2
  exact ⟨fun z hz=>(by cases hz),fun a ha z hz=>(h2 z (bq.mpr (.inr (bB.mp ha▸hz)))).1,hW 1⟩
 ·cases len0 z1
  cases len0 z2
  exact ⟨fun z hz=>(by cases hz),fun x hx=>(by cases hx),aR _⟩
 ·cases len0 z1
  cases len0 z2
  exact ⟨fun z hz=>(by cases hz),fun x hx=>(by cases hx),aR _⟩
 ·cases len0 z2
  obtain ⟨x,rfl⟩:=C7 z1
  rw[ZX] at h2
  exact ⟨fun z hz=>h2 z (ao _ hz),fun x hx=>(by cases hx),aR _⟩
 ·obtain ⟨i,rfl⟩:=C7 z1
  obtain ⟨x,rfl⟩:=C7 z2
  rw[ZW] at h2
  exact ⟨fun z hz=>h2 z (bq.mpr (.inl (bq.mpr (.inr hz)))),fun a ha z hz=>(h2 z (bq.mpr (.inr (bB.mp ha▸hz)))).1,hW 1⟩
 ·cases len0 z2
  obtain ⟨x,rfl⟩:=C7 z1
  rw[ZV] at h2
  exact ⟨fun z hz=>h2 z (ao _ hz),fun x hx=>(by cases hx),aR _⟩
 ·cases len0 z1
  obtain ⟨x,rfl⟩:=C7 z2
  rw[ZU] at h2
  exact ⟨fun z hz=>(by cases hz),fun a ha z hz=>(h2 z (bq.mpr (.inr (bB.mp ha▸hz)))).1,hW 1⟩
 ·cases len0 z1
  cases len0 z2
  exact ⟨fun z hz=>(by cases hz),fun x hx=>(by cases hx),aR _⟩
 ·cases len0 z2
  obtain ⟨x,y,rfl⟩:=Q3 z1
  rw[Y0] at h2
  exact ⟨fun z hz=>h2 z (ao _ hz),fun x hx=>(by cases hx),aR _⟩
 ·cases len0 z2
  obtain ⟨x,y,rfl⟩:=Q3 z1
  rw[YZ] at h2
  exact ⟨fun z hz=>h2 z (ao _ hz),fun x hx=>(by cases hx),aR _⟩
 ·cases len0 z1
  cases len0 z2
  exact ⟨fun z hz=>(by cases hz),fun x hx=>(by cases hx),aR _⟩
theorem Qc {cs:List Int}(h:sQ cs=true):∃ css,Left cs css∧mI cs=xC (Bn hU CW (css.map cF))∧css.length≤60∧(∀ c∈css,i7 (cF c)=true)∧lQ CW 999999 (css.map cF)=true:=by
 unfold sQ UB at h
 cases e:p7 g4 cs.length cs with
 | none=>rw[e] at h;cases h
 | some css =>
  rw[e] at h
  have h:(TQ 60 (css.map cF)&&CY (css.map cF))=true:=h
  rw[bx] at h
  obtain ⟨a1,a2⟩:=h
  unfold TQ at a1
  have a1:=of_decide_eq_true a1
  rw[ae] at a1
  unfold CY at a2
  rw[bx,bx,bx,bx,dJ] at a2
  refine ⟨css,⟨_,e⟩,?_,a1,fun c hc=>a2.1 _ (aU.mpr ⟨c,hc,rfl⟩),a2.2.2.2.2⟩
  unfold mI UB
  rw[e]
theorem sS.off {C:aj}{H:Hp}{p z:aj}{O:aj→Prop}{s:dz}{acc:List Int}{o:HO}(h:sS C H p O s)(hz:H z=some (.lst (vI acc)))(nz:¬ O z)(ha:acc=[]∨∃ x t,acc=x::t∧0≤x):sS C (upd H z o) p O s:=by
 obtain ⟨dx,c,w,tt,f,ho⟩:=h
 refine ⟨dx,c,w,tt,?_,ho⟩
 obtain ⟨kvs,ek,r⟩:=f.costs
 obtain ⟨qs,ew,pw⟩:=f.words
 have nw:w≠z:=fun e=>nz ((ho z).mpr (.inr (.inr e.symm)))
 refine ⟨by rw[aT (ik f.ins hz (by intro z;cases z))];exact f.ins,⟨kvs,by rw[aT (ik ek hz (by intro z;cases z))];exact ek,r⟩,⟨qs,by rw[aT nw];exact ew,?_⟩,?_,f.ok⟩
 ·refine kL (bz pw) fun i a b ha hb=>?_
  obtain ⟨b',hb',rs,er,pr⟩:=cX pw ha
  rw[hb'] at hb
  cases aJ hb
  have l1:=(f.ok.wd b (aV hb')).1
  have na:a≠z:=fun e=>by
   rw[e,hz] at er
   have er:vI acc=rs.map V.ref:=by
    injection er with er
    injection er
   cases pr with
   | nil=>simp at l1
   | cons u v =>
    cases acc with
    | nil=>cases er
    | cons x t =>
     injection er with e1 _
     cases e1
  exact ⟨rs,by rw[aT na];exact er,d7 (fun r c' ⟨d,d1,d2⟩=>⟨d,by rw[aT (ik d1 hz (by intro z;cases z))];exact d1,by rw[aT (ik d2 hz (by intro z;cases z))];exact d2⟩) pr⟩
 ·have ht:=f.tree
  have l2:=f.ok.l2
  cases e:s.tree with
  | none=>rw[e] at ht;exact ht
  | some t =>
   rw[e] at ht
   obtain ⟨x,e1,e2⟩:=ht
   have tl:=(pJ (f.ok.tr t e)).2
   refine ⟨x,e1,?_⟩
   have nx:x≠z:=fun q=>by
    rw[q,hz] at e2
    have e2:vI acc=vI (gT t):=by
     injection e2 with e2
     injection e2
    cases t with
    | leaf l =>
     have:size (.leaf l)=1:=rfl
     omega
    | node a b =>
     rcases ha with rfl | ⟨y,u,rfl,hy⟩
     ·cases e2
     ·injection e2 with e3 _
      injection e3 with e3
      omega
   rw[aT nx]
   exact e2
structure U4 (K:ai)(mg:cp→Option ag):Prop where
 at_:∃ (S:aj) (qs:List aj),mg "SHAPES"=some (.ref S)∧(∀ H,fN K H S (qs.map V.ref))∧∀ p n k,g4 p=some (n,k)→∃ a,Ia (qs.map V.ref) p=some (.ref a)∧∀ H,fN K H a [iv n,iv k]
def ME (K:ai):Sp:=fun vs H Q _=>∃ (pc:aj) (cs:List Int),vs=[.ref pc]∧cG K H pc (vI cs)∧sQ cs=true∧∀ H' r,H' r=some (.lst (vI (mI cs)))→Q (.ref r) H'
theorem OB (xs:List (List Int)):(og xs).length=(xs.map fun x=>1+x.length).sum:=by
 induction xs with
 | nil=>rfl
 | cons x xs ih =>
  unfold og at ih ⊢
  rw[bN,aK,ih,bo,CU]
  show (x.length+1)+_=_
  omega
section
variable {P:aY}{w:bO}{K:ai}{mg:cp→Option ag}{base:bU}{C:aj}
theorem qF:bW ["calls","family","answered","at","shape","rows_at","rows","answer","row"] ["calls"] (bF Bw):=⟨rfl,rfl,rfl,by decide +kernel,rfl,by decide +kernel,by decide +kernel⟩
theorem Vy {f f0:aj}{fd fd0:bI}(F:jt K "answers" "answers" Bw f fd)(T:nJ K mg C)(TF:qi mg)(TS:U4 K mg)(M:Mk K C f0)(G0:cO P w K mg base fB 2 f0 fd0 ["self"] (Nq C))(b0:Binds K fd0 ["self"] [])
  (RR:WU P w K mg base 1 "read_rows" ["calls","at","how_many"] (Nk K))(RC:WU P w K mg base 15 "answer_call" ["family","call","numbers","rows"] (Nw C)) :
  cO P w K mg base fB 16 f fd ["calls"] (ME K):=by
 obtain ⟨f1,jW,G1,m1,k1,b1⟩:=RR
 obtain ⟨f2,mG,G2,m2,k2,b2⟩:=RC
 obtain ⟨S,qs,hS,hSq,hel⟩:=TS.at_
 refine F.ok qF (fun vs H Q E h=>?_) (fun iq A outer s H vs Q E hr h=>?_)
 ·obtain ⟨pc,cs,rfl,_⟩:=h
  rfl
 ·obtain ⟨pc,cs,rfl,hcs,hask,k⟩:=h
  have r1:fO 1 _:=hr.mono (by decide)
  have r3:fO 3 _:=hr.mono (by decide)
  refine ⟨_,aF (cw (i:=1) qF.nd rfl (bj rfl) (OM M G0 r3 rfl T.mgC b0 .nil cR))
   (aF (cw (i:=2) qF.nd rfl (bj rfl) (cP aB))
   (aF (cw (i:=3) qF.nd rfl (bj rfl) aW)
   (aF (mn bH (bS wO (pv 3) (bP bD (by rfl) TF.len bb (ah (pv 0) aB)) (cj _))
    (aF (cw (i:=4) qF.nd rfl (bj rfl) (cy dO (bX (v:=.ref S) (by rfl) hS rfl) (cy cJ (pv 0) (pv 3) (fun _ _=>rfl)) (fun _ _=>rfl)))
    (aF (cw (i:=5) qF.nd rfl (bj rfl) (dX eL (dX eL (pv 3) aW) (cy dO (pv 4) aW (fun _ _=>rfl))))
    (aF (cw (i:=6) qF.nd rfl (bj rfl) (bY G1 r1 rfl m1 k1 b1 .nil cR (ah (pv 0) (ah (pv 5) (ah (cy dO (pv 4) aW (fun _ _=>rfl)) aB)))))
    (aF (cw (i:=7) qF.nd rfl (bj rfl) (bY G2 hr rfl m2 k2 b2 .nil cR (ah (pv 1) (ah (cy cJ (pv 0) (pv 3) (fun _ _=>rfl)) (ah (oC rT (pv 0) (kJ (dX eL (pv 3) aW)) (kJ (pv 5))) (ah (pv 6) aB))))))
    (aF (fP (jL bK cC cB gB (pv 2) (ah (bP bD (by rfl) TF.len bb (ah (pv 7) aB)) aB)))
    (aF (fP (jL bK fT fS lN (pv 2) (ah (pv 7) aB)))
    (aQ (cw (i:=3) qF.nd rfl (bj rfl) (dX eL (pv 5) (bP (yA rfl) (by rfl) TF.sum wy (ah (jc rfl qF.nd (d9 (pv 6)) (dS (own:=[("row",8)]) (by rfl)) (fun _ _ _ _ _=>cI (i:=8) qF.nd rfl (bj rfl)) (fun _ _ _ _ _=>gq) (fun _ _ _ _ _=>dX eL aW (bP (r:=W3 K) bD (by rfl) TF.len bb (ah (pv 8) aB)))) aB))))))))))))
   (aQ (bL (pv 2)))))),?_⟩
  refine cn fun p dx hp hdx ndx=>?_
  have sn:aM H (upd (upd H dx (.own p)) p (.ins C dx [])):=(aM.new hdx).trans (aM.new (by rw[aT ndx.symm];exact hp))
  refine ⟨p,dx,rfl,aw,fun H1 c1 w1 hf1 kp hc1 hw1=>⟨rfl,?_⟩⟩
  have s1:aM H H1:=fun b o e=>kp b o (sn b o e) fun z=>by rw[z,hp] at e;cases e
  let O1:aj→Prop:=fun b=>b=p∨b=c1∨b=w1
  have hF1:sS C H1 p O1 QG:=⟨dx,c1,w1,.hC,hf1,fun b=>QF⟩
  have hO1:∀ b,O1 b→H b=none:=fun b q=>by
   rcases q with rfl | rfl | rfl
   ·exact hp
   ·exact sn.free hc1
   ·exact sn.free hw1
  refine cn ⟨aR _,fun an han=>cn ?_⟩
  have s2:=aM.new (o:=.lst []) han
  have n1:¬ O1 an:=hF1.x5 han
  obtain ⟨css0,hleft,hans,h60,hask1,hshort⟩:=Qc hask
  let Iv:Nat→L2.St→Hp→Prop:=fun m σ H'=>∃ (a:Nat) (st:dz) (O:aj→Prop) (css:List (List (List Int))) (acc:List Int) (bud:Nat) (v4 v5 v6 v7 v8:Option V),σ=[some (.ref pc),some (.ref p),some (.ref an),some (iv a),v4,v5,v6,v7,v8]∧m=css.length∧Left (cs.drop a) css∧sS C H' p O st∧(∀ b,O b→H b=none)∧¬ O an∧aM H H'∧H' an=some (.lst (vI acc))∧(acc=[]∨∃ x t,acc=x::t∧0≤x)∧acc++xC (Bn hU st (css.map cF))=mI cs∧(∀ c∈css,i7 (cF c)=true)∧lQ st bud (css.map cF)=true∧acc.length+bud+css.length≤1000100
  refine iL (fun σ H'=>∃ v3 v4 v5 v6 v7 v8:Option V,σ=[some (.ref pc),some (.ref p),some (.ref an),v3,v4,v5,v6,v7,v8]∧H' an=some (.lst (vI (mI cs)))) (fun go=>?_) ?_
  ·refine ⟨Iv,⟨css0.length,0,QG,O1,css0,[],999999,none,none,none,none,none,rfl,rfl,hleft,hF1.same s2,hO1,n1,s1.trans s2,aw,.inl rfl,hans.symm,hask1,hshort,by simp;omega⟩,?_⟩
   rintro m σ H2 ⟨a,st,O,css,acc,bud,v4,v5,v6,v7,v8,rfl,hm,hl,hF,hO,nO,s3,ea,hacc,hto,hal,hsh,hbud⟩
   have ll:((vI cs).length:Int)=(cs.length:Int):=by rw[ae]
   refine ⟨_,rfl,_,rfl,pc,_,rfl,.inl (s3.seq hcs),_,_,rfl,rfl,_,rfl,?_⟩
   show if decide ((a:Int)<((vI cs).length:Int))=true then _ else _
   rw[ll]
   by_cases ha:a<cs.length
   ·rw[decide_eq_true (by omega)]
    refine o9 ⟨fun σ' H'=>∃ m',m'<m∧Iv m' σ' H',fun σ' H' h=>h,?_⟩
    obtain ⟨p0,r',hdr⟩:∃ p0 r',cs.drop a=p0::r':=⟨cs[a],cs.drop (a+1),dt ha⟩
    rw[hdr] at hl
    obtain ⟨n,kk,nums,xs,t,css',hshp,hn1,hk1,dQ,hcss,hl'⟩:=K8 hl
    subst hcss
    subst hn1
    subst hk1
    obtain ⟨hsome,hnn,hxx,hx2⟩:=Oe hshp (hal _ ax)
    obtain ⟨q,hq⟩:=nZ.mp hsome
    obtain ⟨ad,had,hadT⟩:=hel p0 _ _ hshp
    have g0:(vI cs)[a]?=some (V.int p0):=by
     have:cs[a]?=some p0:=by
      have:=congrArg (fun l=>l[0]?) hdr
      simp only[nD] at this
      exact this
     exact tR this
    have hd1:cs.drop (a+1+nums.length)=og xs++t:=by
     have:=congrArg (ja (1+nums.length)) hdr
     rw[fD,dQ,mO 1,mF,il] at this
     rw[pS,mO 1]
     exact this
    have lcs:a+1+nums.length≤cs.length:=by
     have:=congrArg dF hdr
     rw[cq,aS,dQ,aK] at this
     omega
    have i1:Ia [iv nums.length,iv xs.length] 1=some (iv xs.length):=rfl
    refine cn ⟨_,rfl,_,rfl,pc,_,a,_,rfl,rfl,s3.seq hcs,cg g0,S,_,p0,_,rfl,rfl,hSq H2,had,?_⟩
    refine cn ⟨_,rfl,_,_,rfl,rfl,_,rfl,ad,_,0,_,rfl,rfl,hadT H2,rfl,_,_,rfl,rfl,?_⟩
    refine cn ⟨_,rfl,_,rfl,_,rfl,ad,_,1,_,rfl,rfl,hadT H2,i1,pc,cs,a+1+nums.length,xs.length,xs,t,rfl,s3.seq hcs,hd1,rfl,aD hx2 (by decide),fun H3 pr s4 hpr hrows=>?_⟩
    obtain ⟨rs,erw,prw⟩:=hrows
    have s34:=s3.trans s4
    refine cn ⟨_,rfl,_,rfl,_,rfl,pc,_,a,_,rfl,rfl,s34.seq hcs,cg g0,_,rfl,_,rfl,_,_,rfl,rfl,((a+1:Nat):Int),rfl,_,rfl,((a+1+nums.length:Nat):Int),rfl,pc,_,rfl,s34.seq hcs,fun pn hpn=>?_⟩
    rw[yb cs (by omega) lcs]
    have ecut:(cs.drop (a+1)).take (a+1+nums.length - (a+1))=nums:=by
     have:=congrArg (ja 1) hdr
     rw[fD] at this
     rw[this,dQ,gk]
     show List.take nums.length (nums++_)=nums
     rw[nA]
    rw[ecut]
    have s5:=aM.new (o:=.lst (vI nums)) hpn
    have epn:upd H3 pn (.lst (vI nums)) pn=some (.lst (vI nums)):=aw
    generalize upd H3 pn (.lst (vI nums))=H4 at s5 epn
    have s45:=s4.trans s5
    have hF4:=hF.same s45
    have hrI:Im H4 pr xs:=⟨rs,s5 _ _ erw,d7 (fun _ _ h=>s5 _ _ h.2) prw⟩
    have eann:(bu st q).1=(bu st q).1:=rfl
    have hst:=Rj (s:=st) hq
    refine ⟨_,rfl,p,pn,pr,O,st,p0,nums,xs,q,rfl,hF4,epn,hrI,hshp,hq,hnn,hxx,fun H5 O5 r hF5 hstay hr5 nO5 er5=>?_⟩
    have ea4:=s45 _ _ ea
    have ea5:=hstay.1 _ _ ea4 nO
    have nO5':¬ O5 an:=fun z=>by
     rcases hstay.2 an z with z | z
     ·exact nO z
     ·rw[ea4] at z;cases z
    have hO5:∀ b,O5 b→H b=none:=fun b z=>by
     rcases hstay.2 b z with z | z
     ·exact hO b z
     ·exact (s3.trans s45).free z
    have s05:aM H H5:=fun b o e=>hstay.1 b o ((s3.trans s45) b o e) fun z=>by rw[hO b z] at e;cases e
    have nra:r≠an:=fun z=>by rw[z,ea4] at hr5;cases hr5
    have npr:¬ O pr:=hF.x5 hpr
    have npra:pr≠an:=fun z=>by rw[z,ea] at hpr;cases hpr
    have hpr5:=hstay.1 _ _ (s5 _ _ erw) npr
    have prw5:Paired (fun r x=>r≠an∧H5 r=some (.lst (vI x))) rs xs:=d7 (fun b x h=>⟨fun z=>(by have:=h.1;rw[z,ea] at this;cases this),hstay.1 _ _ (s5 _ _ h.2) (hF.x5 h.1)⟩) prw
    have lans:(cV st q).length≤bud∧lQ (bu st q).1 (bud - (cV st q).length) (css'.map cF)=true:=by
     rw[bo] at hsh
     unfold lQ at hsh
     rw[hst,bx,decide_eq_true_iff] at hsh
     exact hsh
    rw[aS] at hbud
    have la:(vI acc).length=acc.length:=ae ..
    have lv:((vI (cV st q)).length:Int)=((cV st q).length:Int):=by rw[ae]
    refine ⟨_,rfl,.inl ⟨rfl,_,cG.of ea5⟩,_,rfl,r,_,rfl,.inl (cG.of er5),an,_,_,rfl,rfl,ea5,?_,?_⟩
    ·rw[la]
     exact aG (show acc.length≤1000100 by omega) (by decide)
    have e6:upd H5 an (.lst (vI acc++[V.int ((vI (cV st q)).length:Int)])) an=some (.lst (vI (acc++[((cV st q).length:Int)]))):=by
     rw[aw,lv]
     show _=some (HO.lst (eB V.int (acc++[_])))
     rw[aX]
     rfl
    have hF6:sS C (upd H5 an (.lst (vI acc++[V.int ((vI (cV st q)).length:Int)]))) p O5 (bu st q).1:=hF5.off ea5 nO5' hacc
    have s06:aM H (upd H5 an (.lst (vI acc++[V.int ((vI (cV st q)).length:Int)]))):=s05.upd (s1.free han)
    have er6:upd H5 an (.lst (vI acc++[V.int ((vI (cV st q)).length:Int)])) r=some (.lst (vI (cV st q))):=by rw[aT nra];exact er5
    have pr6:upd H5 an (.lst (vI acc++[V.int ((vI (cV st q)).length:Int)])) pr=some (.lst (rs.map V.ref)):=by rw[aT npra];exact hpr5
    have prw6:Paired (fun b x=>b≠an∧upd H5 an (.lst (vI acc++[V.int ((vI (cV st q)).length:Int)])) b=some (.lst (vI x))) rs xs:=d7 (fun b x h=>⟨h.1,by rw[aT h.1];exact h.2⟩) prw5
    generalize upd H5 an (.lst (vI acc++[V.int ((vI (cV st q)).length:Int)]))=H6 at e6 hF6 s06 er6 pr6 prw6
    refine ⟨_,rfl,.inl ⟨rfl,_,cG.of e6⟩,_,rfl,an,r,_,_,rfl,rfl,e6,er6,?_,?_⟩
    ·rw[ae,aK,ae]
     exact aD (show _≤1000200 by simp;omega) (by decide)
    have hacc2:∃ x t,acc++((cV st q).length:Int)::cV st q=x::t∧0≤x:=by
     rcases hacc with rfl | ⟨x,t,rfl,hx⟩
     ·exact ⟨_,_,rfl,by omega⟩
     ·exact ⟨x,_,rfl,hx⟩
    have e7:upd H6 an (.lst (vI (acc++[((cV st q).length:Int)])++vI (cV st q))) an=some (.lst (vI (acc++((cV st q).length:Int)::cV st q))):=by
     rw[aw]
     show some (HO.lst (eB V.int _++eB V.int _))=some (HO.lst (eB V.int _))
     rw[← aX,dB]
     rfl
    have hF7:sS C (upd H6 an (.lst (vI (acc++[((cV st q).length:Int)])++vI (cV st q)))) p O5 (bu st q).1:=hF6.off e6 nO5' (.inr (by
     rcases hacc with rfl | ⟨x,t,rfl,hx⟩
     ·exact ⟨_,_,rfl,by omega⟩
     ·exact ⟨x,_,rfl,hx⟩))
    have s07:aM H (upd H6 an (.lst (vI (acc++[((cV st q).length:Int)])++vI (cV st q)))):=s06.upd (s1.free han)
    have pr7:upd H6 an (.lst (vI (acc++[((cV st q).length:Int)])++vI (cV st q))) pr=some (.lst (rs.map V.ref)):=by rw[aT npra];exact pr6
    have prw7:Paired (fun b x=>upd H6 an (.lst (vI (acc++[((cV st q).length:Int)])++vI (cV st q))) b=some (.lst (vI x))) rs xs:=d7 (fun b x h=>by rw[aT h.1];exact h.2) prw6
    generalize upd H6 an (.lst (vI (acc++[((cV st q).length:Int)])++vI (cV st q)))=H7 at e7 hF7 s07 pr7 prw7
    refine ⟨_,rfl,_,rfl,pr,rfl,⟨_,cG.of pr7⟩,fun D hD=>uL (ys:=eT (xs.map fun x=>1+x.length)) hD (cG.of pr7) (by rw[ae,ae];exact aG hx2 (by decide)) (by rw[ae,ae,ae,bz prw7]) (fun x=>rfl) (fun j v y hv hy H8 s8 R hR=>?_) (fun H8 s8 e8=>?_)⟩
    ·obtain ⟨b,hb,rfl⟩:=eZ hv
     obtain ⟨x,hx,hbx⟩:=cX prw7 hb
     rw[aO,aO,hx] at hy
     cases aJ hy
     refine ⟨_,rfl,b,_,rfl,.inl (cG.of (s8 _ _ hbx)),1,_,rfl,rfl,?_⟩
     have q:=hR H8 (aM.refl _)
     rw[ae]
     exact q
    have hgi:eT (xs.map fun x=>1+x.length)=((xs.map fun x=>1+x.length).map fun n=>((n:Nat):Int)).map V.int:=by show eB iv _=_;rw[br (g:=V.int)];rfl
    refine ⟨D,_,rfl,cG.of (hgi▸e8),_,_,rfl,rfl,?_⟩
    rw[oq,← OB]
    refine ⟨css'.length,by rw[hm,aS];omega,a+1+nums.length+(og xs).length,(bu st q).1,O5,css',acc++((cV st q).length:Int)::cV st q,bud - (cV st q).length,_,_,_,_,_,rfl,rfl,?_,hF7.same s8,hO5,nO5',s07.trans s8,s8 _ _ e7,.inr hacc2,?_,fun c hc=>hal c (ao _ hc),lans.2,?_⟩
    ·have:=congrArg (ja (og xs).length) hd1
     rw[fD,il] at this
     rw[this]
     exact hl'
    ·rw[← hto,bo]
     show _=acc++xC ((hU st (cF ((p0::nums)::xs))).2::Bn hU (hU st (cF ((p0::nums)::xs))).1 (css'.map cF))
     rw[hst]
     unfold xC
     rw[bN,dB]
    ·rw[aK,aS]
     omega
   ·rw[decide_eq_false (by omega)]
    refine nI (go _ _ ⟨_,_,_,_,_,_,rfl,?_⟩)
    rw[qC (by omega)] at hl
    have:=Ph hl
    subst this
    rw[← hto]
    show _=some (HO.lst (vI (acc++[])))
    rw[bV]
    exact ea
  ·rintro σ H2 ⟨v3,v4,v5,v6,v7,v8,rfl,e⟩
   exact ⟨_,rfl,k H2 an e⟩
end
end Sk
namespace L2
open PySem PySem.Spec PyProof.Rows
open PySem.W (WData Codec OpenSpec Well WellAll ReadsW ReadsAllW)
mutual
inductive Dw (K:ai)(H:Hp):V→i9→Prop
 | hC:Dw K H .hC .none
 | bl (b:Bool):Dw K H (.bl b) (.bool b)
 | int (i:Int):Dw K H (.int i) (.int i)
 | str (x:cp):Dw K H (.str x) (.str x)
 | Fk (b:Array UInt8):Dw K H (.Fk b) (.bytes b.toList)
 | lst {a:aj} {xs:List V} {ds:List i9}:cG K H a xs→pY K H xs ds→Dw K H (.ref a) (.list ds)
 | tup {a:aj} {xs:List V} {ds:List i9}:fN K H a xs→pY K H xs ds→Dw K H (.ref a) (.tuple ds)
inductive pY (K:ai)(H:Hp):List V→List i9→Prop
 | nil:pY K H [] []
 | cons {v:V} {vs:List V} {d:i9} {ds:List i9}:Dw K H v d→pY K H vs ds→pY K H (v::vs) (d::ds)
end
theorem Js {K:ai}{H:Hp}:∀ ns:List Int,pY K H (ns.map V.int) (ns.map i9.int)
 | []=>.nil
 | n::r=>.cons (.int n) (Js r)
theorem Jm {K:ai}{H:Hp}:∀ (ns:List Int) (xs:List V),pY K H xs (ns.map i9.int)→xs=ns.map V.int
 | [],xs,h=>by
  cases h
  rfl
 | n::r,xs,h=>by
  cases h with
  | cons h1 h2 =>
   cases h1
   rw[Jm r _ h2]<;>rfl
section
variable {P:aY}{w:bO}{K:ai}{H:Hp}{h:bU}{R:L5}{cl:cp→Option aj}
theorem Vh {a:aj}{xs:List V}(fj:qf P w H h)(KX:K.In h)(q:cG K H a xs):∃ (its:List ag) (o:fA) (n:Nat),df xs its∧h.get? a=some o∧o.cls=.type "list"∧o.data=.seq its.toArray n:=by
 rcases q with q | ⟨o,its,n,e,hc,_,hd,_,hv⟩
 ·obtain ⟨_,its,n,hv,e⟩:=(show fM P w H h a (.lst xs) from q.ok fj)
  exact ⟨its,_,n,hv,e,rfl,rfl⟩
 ·exact ⟨its.toList,o,n,hv,KX _ _ e,hc,by simp[hd]⟩
theorem Vg {a:aj}{xs:List V}(fj:qf P w H h)(KX:K.In h)(q:fN K H a xs):∃ (its:List ag) (o:fA) (n:Nat),df xs its∧h.get? a=some o∧o.cls=.type "tuple"∧o.data=.seq its.toArray n:=by
 rcases q with q | ⟨o,its,n,e,hc,hd,_,hv⟩
 ·obtain ⟨_,its,hv,o,e,hc,n,hd⟩:=(show fM P w H h a (.tup xs) from q.ok fj)
  exact ⟨its,o,n,hv,e,hc,hd⟩
 ·exact ⟨its.toList,o,n,hv,KX _ _ e,hc,by simp[hd]⟩
mutual
theorem Dw.reads (fj:qf P w H h)(KX:K.In h):∀ (d:i9) (v:V) (u:ag),Dw K H v d→RelV v u→∃ as,ReadsW R cl h u d as
 | .none,_,_,x,r=>by
  cases x
  cases r
  exact ⟨_,ReadsW.none⟩
 | .bool b,_,_,x,r=>by
  cases x
  cases r
  exact ⟨_,ReadsW.bool b⟩
 | .int i,_,_,x,r=>by
  cases x
  obtain ⟨t,rfl⟩:=r
  exact ⟨_,ReadsW.int i t⟩
 | .str s,_,_,x,r=>by
  cases x
  obtain ⟨t,rfl⟩:=r
  exact ⟨_,ReadsW.str s t⟩
 | .bytes b,_,_,x,r=>by
  cases x
  obtain ⟨t,rfl⟩:=r
  exact ⟨_,ReadsW.bytes _ t⟩
 | .list ds,_,_,x,r=>by
  cases x with
  | lst hs ha =>
   cases r
   obtain ⟨its,o,n,rv,ho,hc,hd⟩:=Vh fj KX hs
   obtain ⟨as,hr⟩:=Dw.readsAll fj KX ds _ its ha rv
   exact ⟨_,ReadsW.list ho hc hd hr⟩
 | .tuple ds,_,_,x,r=>by
  cases x with
  | tup hs ha =>
   cases r
   obtain ⟨its,o,n,rv,ho,hc,hd⟩:=Vg fj KX hs
   obtain ⟨as,hr⟩:=Dw.readsAll fj KX ds _ its ha rv
   exact ⟨_,ReadsW.tuple ho hc hd hr⟩
 | .float _,_,_,x,_=>by cases x
 | .dict _,_,_,x,_=>by cases x
 | .bytearray _,_,_,x,_=>by cases x
 | .set _,_,_,x,_=>by cases x
 | .frozenset _,_,_,x,_=>by cases x
 | .obj _ _,_,_,x,_=>by cases x
theorem Dw.readsAll (fj:qf P w H h)(KX:K.In h):∀ (ds:List i9) (vs:List V) (us:List ag),pY K H vs ds→df vs us→∃ as,ReadsAllW R cl h us ds as
 | [],_,_,x,r=>by
  cases x
  cases r
  exact ⟨_,ReadsAllW.nil⟩
 | d::ds,_,_,x,r=>by
  cases x with
  | cons h1 h2 =>
   cases r with
   | cons r1 r2 =>
    obtain ⟨as,q1⟩:=Dw.reads fj KX d _ _ h1 r1
    obtain ⟨bs,q2⟩:=Dw.readsAll fj KX ds _ _ h2 r2
    exact ⟨_,ReadsAllW.cons q1 q2⟩
end
end
mutual
def HX:i9→Bool
 | .none=>true
 | .bool _=>true
 | .int _=>true
 | .str _=>true
 | .bytes _=>true
 | .list xs=>xx xs
 | .tuple xs=>xx xs
 | _=>false
def xx:List i9→Bool
 | []=>true
 | x::r=>HX x&&xx r
end
theorem DU {α:Type}{f:α→i9}(h:∀ a,HX (f a)=true):∀ l:List α,xx (l.map f)=true
 | []=>rfl
 | x::r=>by
  show (HX (f x)&&xx (r.map f))=true
  rw[h x,DU h r]<;>rfl
theorem qO:∀ (c:Codec) (a:c.denote),HX (c.enc a)=true
 | .unit,_=>rfl
 | .bool,_=>rfl
 | .int _ _,_=>rfl
 | .nat _ _,_=>rfl
 | .u8,_=>rfl
 | .bytes _ _,_=>rfl
 | .text _ _ _ _,_=>rfl
 | .list _ _ c,a=>DU (fun x=>qO c x) a
 | .pair c d,a=>by
  show (HX (c.enc a.1)&&(HX (d.enc a.2)&&true))=true
  rw[qO c a.1,qO d a.2]<;>rfl
 | .triple c d e,a=>by
  show (HX (c.enc a.1)&&(HX (d.enc a.2.1)&&(HX (e.enc a.2.2)&&true)))=true
  rw[qO c a.1,qO d a.2.1,qO e a.2.2]<;>rfl
 | .option c,none=>rfl
 | .option c,some x=>qO c x
theorem AQ:∀ (cs:List Codec) (a:qz cs),xx (mB cs a)=true
 | [],_=>rfl
 | c::cs,a=>by
  show (HX (c.enc a.1)&&xx (mB cs a.2))=true
  rw[qO c a.1,AQ cs a.2]<;>rfl
theorem tW:∀ {xs:List i9} {d:i9},d∈xs→d.weight≤qw xs
 | [],d,h=>absurd h (by simp)
 | x::r,d,h=>by
  show d.weight≤x.weight+1+qw r
  rcases aI.mp h with e | m
  ·rw[e]
   omega
  ·have z:=tW m
   omega
def toV:ag→V
 | .none=>.hC
 | .bool b=>.bl b
 | .int i _=>.int i
 | .str x _=>.str x
 | .bytes b _=>.Fk b
 | .ref a=>.ref a
 | _=>.hC
def J1 (A:List aj):ag→Prop
 | .none=>True
 | .bool _=>True
 | .int _ _=>True
 | .str _ _=>True
 | .bytes _ _=>True
 | .ref a=>a∈A
 | _=>False
theorem J1.mono {A B:List aj}(h:∀ a∈A,a∈B):∀ {u:ag},J1 A u→J1 B u:=fun {u} x=>by
 cases u with
 | ref a=>exact h a x
 | none=>trivial
 | bool b=>trivial
 | int i t=>trivial
 | str s t=>trivial
 | bytes b t=>trivial
 | _=>exact fg x
theorem OF {A:List aj}{u:ag}(x:J1 A u):RelV (toV u) u:=by
 cases u with
 | ref a=>rfl
 | none=>rfl
 | bool b=>rfl
 | int i t=>exact ⟨t,rfl⟩
 | str s t=>exact ⟨t,rfl⟩
 | bytes b t=>exact ⟨t,rfl⟩
 | _=>exact fg x
theorem om {A:List aj}:∀ {vs:List ag},(∀ u∈vs,J1 A u)→df (vs.map toV) vs
 | [],_=>.nil
 | u::r,h=>.cons (OF (h u (ax ..))) (om fun x hx=>h x (ao _ hx))
def pZ (h:bU)(A:List aj)(a:aj):Prop:=∃ vs:List ag,vs.length≤aA∧(∀ u∈vs,J1 A u) ∧
 (h.get? a=some {cls:=.type "list",data:=.seq vs.toArray}∨h.get? a=some {cls:=.type "tuple",data:=.seq vs.toArray})
theorem pZ.mono {h:bU}{A B:List aj}{a:aj}(k:∀ a∈A,a∈B)(x:pZ h A a):pZ h B a:=by
 obtain ⟨vs,h1,h2,h3⟩:=x
 exact ⟨vs,h1,fun u hu=>(h2 u hu).mono k,h3⟩
theorem nh {P:yp}{h:bU}:∀ {vs:List ag} {ds:List i9},tN P h vs ds→vs.length=ds.length
 | _,_,.nil=>rfl
 | _,_,.cons _ b=>by
  show _+1=_+1
  rw[nh b]
theorem Au {P:yp}{h:bU}{v:ag}{ds:List i9}(x:Well P h v (.list ds)):∃ (a:aj) (vs:List ag),v=.ref a∧h.get? a=some {cls:=.type "list",data:=.seq vs.toArray}∧tN P h vs ds:=by
 cases x with
 | list ho qg=>exact ⟨_,_,rfl,ho,qg⟩
theorem y2 {P:yp}{h:bU}{v:ag}{ds:List i9}(x:Well P h v (.tuple ds)):∃ (a:aj) (vs:List ag),v=.ref a∧h.get? a=some {cls:=.type "tuple",data:=.seq vs.toArray}∧tN P h vs ds:=by
 cases x with
 | tuple ho qg=>exact ⟨_,_,rfl,ho,qg⟩
theorem Av {P:yp}{h:bU}{us:List ag}{d:i9}{ds:List i9}(x:tN P h us (d::ds)):∃ (v:ag) (vs:List ag),us=v::vs∧Well P h v d∧tN P h vs ds:=by
 cases x with
 | cons a b=>exact ⟨_,_,rfl,a,b⟩
theorem Jd {n:Nat}(h:n≤1048576):n≤aA:=aD h (by decide)
section
variable {P:yp}{h:bU}
mutual
theorem Qe:∀ (d:i9) (v:ag),Well P h v d→HX d=true→d.weight≤1048576→∃ A:List aj,J1 A v∧∀ a∈A,pZ h A a
 | .none,_,x,_,_=>by
  cases x
  exact ⟨[],trivial,fun a m=>absurd m (by simp)⟩
 | .bool b,_,x,_,_=>by
  cases x
  exact ⟨[],trivial,fun a m=>absurd m (by simp)⟩
 | .int i,_,x,_,_=>by
  cases x
  exact ⟨[],trivial,fun a m=>absurd m (by simp)⟩
 | .str s,_,x,_,_=>by
  cases x
  exact ⟨[],trivial,fun a m=>absurd m (by simp)⟩
 | .bytes b,_,x,_,_=>by
  cases x
  exact ⟨[],trivial,fun a m=>absurd m (by simp)⟩
 | .list ds,_,x,p,z=>by
  obtain ⟨a,vs,rfl,ho,qg⟩:=Au x
  have z2:qw ds≤1048576:=z
  obtain ⟨A,h1,h2⟩:=vb ds _ qg p fun d hd=>aD (tW hd) z2
  have k:∀ b∈A,b∈a::A:=fun b hb=>ao _ hb
  refine ⟨a::A,ax ..,fun b hb=>?_⟩
  rcases aI.mp hb with e | m
  ·rw[e]
   exact ⟨vs,Jd (by rw[nh qg];exact aD (xN ds) z2),fun u hu=>(h1 u hu).mono k,.inl ho⟩
  ·exact (h2 b m).mono k
 | .tuple ds,_,x,p,z=>by
  obtain ⟨a,vs,rfl,ho,qg⟩:=y2 x
  have z2:qw ds≤1048576:=z
  obtain ⟨A,h1,h2⟩:=vb ds _ qg p fun d hd=>aD (tW hd) z2
  have k:∀ b∈A,b∈a::A:=fun b hb=>ao _ hb
  refine ⟨a::A,ax ..,fun b hb=>?_⟩
  rcases aI.mp hb with e | m
  ·rw[e]
   exact ⟨vs,Jd (by rw[nh qg];exact aD (xN ds) z2),fun u hu=>(h1 u hu).mono k,.inr ho⟩
  ·exact (h2 b m).mono k
 | .float _,_,_,p,_=>dM (show false=true from p)
 | .dict _,_,_,p,_=>dM (show false=true from p)
 | .bytearray _,_,_,p,_=>dM (show false=true from p)
 | .set _,_,_,p,_=>dM (show false=true from p)
 | .frozenset _,_,_,p,_=>dM (show false=true from p)
 | .obj _ _,_,_,p,_=>dM (show false=true from p)
theorem vb:∀ (ds:List i9) (vs:List ag),tN P h vs ds→xx ds=true→(∀ d∈ds,d.weight≤1048576)→∃ A:List aj,(∀ u∈vs,J1 A u)∧∀ a∈A,pZ h A a
 | [],_,x,_,_=>by
  cases x
  exact ⟨[],fun u m=>absurd m (by simp),fun a m=>absurd m (by simp)⟩
 | d::ds,_,x,p,z=>by
  obtain ⟨v,vs,rfl,x1,x2⟩:=Av x
  have q:HX d=true∧xx ds=true:=JY.mp p
  obtain ⟨A,a1,a2⟩:=Qe d v x1 q.1 (z d (ax ..))
  obtain ⟨B,b1,b2⟩:=vb ds vs x2 q.2 fun e he=>z e (ao _ he)
  have kA:∀ b∈A,b∈A++B:=fun b hb=>bq.mpr (.inl hb)
  have kB:∀ b∈B,b∈A++B:=fun b hb=>bq.mpr (.inr hb)
  refine ⟨A++B,fun u hu=>?_,fun b hb=>?_⟩
  ·rcases aI.mp hu with e | m
   ·rw[e]
    exact a1.mono kA
   ·exact (b1 u m).mono kB
  ·rcases bq.mp hb with m | m
   ·exact (a2 b m).mono kA
   ·exact (b2 b m).mono kB
end
end
def Q5 (o:fA):Option HO:=match o.data with
 | .seq vs _=>if (o.cls==ag.type "list")=true then some (.lG o (.lst (vs.toList.map toV))) else some (.lG o (.tup (vs.toList.map toV)))
 | _=>none
def pd (K:ai)(h:bU)(A:List aj):Hp:=fun b=>if b∈A then (if (K.lookup b).isNone=true then (h.get? b).bind Q5 else none) else none
def Dm (H:Hp):Prop:=∀ b,H b=none∨∃ o u,H b=some (.lG o u)
theorem Ek (vs:List ag):Q5 {cls:=.type "list",data:=.seq vs.toArray}=some (.lG {cls:=.type "list",data:=.seq vs.toArray} (.lst (vs.map toV))):=by
 show (if (ag.type "list"==ag.type "list")=true then some (HO.lG {cls:=.type "list",data:=.seq vs.toArray} (.lst (vs.toArray.toList.map toV))) else some (HO.lG {cls:=.type "list",data:=.seq vs.toArray} (.tup (vs.toArray.toList.map toV))))=_
 rw[if_pos (beq_self_eq_true _)]
theorem Ej (vs:List ag):Q5 {cls:=.type "tuple",data:=.seq vs.toArray}=some (.lG {cls:=.type "tuple",data:=.seq vs.toArray} (.tup (vs.map toV))):=by
 show (if (ag.type "tuple"==ag.type "list")=true then some (HO.lG {cls:=.type "tuple",data:=.seq vs.toArray} (.lst (vs.toArray.toList.map toV))) else some (HO.lG {cls:=.type "tuple",data:=.seq vs.toArray} (.tup (vs.toArray.toList.map toV))))=_
 rw[if_neg (by decide)]
section
variable {P:aY}{w:bO}{K:ai}{h:bU}{A:List aj}
theorem yg {b:aj}{o:fA}(hb:b∈A)(hk:K.lookup b=none)(e:h.get? b=some o):pd K h A b=Q5 o:=by
 unfold pd
 rw[if_pos hb,hk,if_pos (show (none:Option fA).isNone=true from rfl),e]<;>rfl
theorem RV {b:aj}{u:HO}(q:pd K h A b=some u):b∈A∧K.lookup b=none:=by
 unfold pd at q
 by_cases hb:b∈A
 ·rw[if_pos hb] at q
  cases hk:K.lookup b with
  | none=>exact ⟨hb,rfl⟩
  | some o =>
   rw[hk,if_neg (by simp)] at q
   cases q
 ·rw[if_neg hb] at q
  cases q
theorem yf (ar:∀ a∈A,pZ h A a){b:aj}{u:HO}(q:pd K h A b=some u):K.lookup b=none∧∃ vs:List ag,vs.length≤aA∧(∀ u∈vs,J1 A u) ∧
  ((h.get? b=some {cls:=.type "list",data:=.seq vs.toArray}∧u=.lG {cls:=.type "list",data:=.seq vs.toArray} (.lst (vs.map toV))) ∨
   (h.get? b=some {cls:=.type "tuple",data:=.seq vs.toArray}∧u=.lG {cls:=.type "tuple",data:=.seq vs.toArray} (.tup (vs.map toV)))):=by
 obtain ⟨hb,hk⟩:=RV q
 obtain ⟨vs,h1,h2,h3⟩:=ar b hb
 refine ⟨hk,vs,h1,h2,?_⟩
 rcases h3 with e | e
 ·rw[yg hb hk e,Ek] at q
  exact .inl ⟨e,(aJ q).symm⟩
 ·rw[yg hb hk e,Ej] at q
  exact .inr ⟨e,(aJ q).symm⟩
theorem LV (ar:∀ a∈A,pZ h A a):Dm (pd K h A):=fun b=>by
 cases q:pd K h A b with
 | none=>exact .inl rfl
 | some u =>
  obtain ⟨_,vs,_,_,⟨_,e⟩ | ⟨_,e⟩⟩:=yf ar q
  ·exact .inr ⟨_,_,by rw[e]⟩
  ·exact .inr ⟨_,_,by rw[e]⟩
theorem Ti (ar:∀ a∈A,pZ h A a):qf P w (pd K h A) h:=fun b u q=>by
 obtain ⟨_,vs,h1,h2,⟨e,rfl⟩ | ⟨e,rfl⟩⟩:=yf ar q
 ·exact ⟨e,by rw[ae];exact h1,vs,_,om h2,e⟩
 ·exact ⟨e,by rw[ae];exact h1,vs,om h2,_,e,rfl,_,rfl⟩
theorem xT {c c':ag}{vs us:List ag}(e:(some {cls:=c,data:=.seq vs.toArray}:Option fA)=some {cls:=c',data:=.seq us.toArray}):c=c'∧vs=us:=by
 have e1:=aJ e
 have e2:c=c':=congrArg fA.cls e1
 have e3:Data.seq vs.toArray=Data.seq us.toArray:=congrArg fA.data e1
 injection e3 with e4
 refine ⟨e2,?_⟩
 have e5:=congrArg EE e4
 simpa using e5
theorem Zp (KX:K.In h)(ar:∀ a∈A,pZ h A a){a:aj}{vs:List ag}(ha:a∈A)(e:h.get? a=some {cls:=.type "list",data:=.seq vs.toArray}):(∀ u∈vs,J1 A u)∧cG K (pd K h A) a (vs.map toV):=by
 obtain ⟨us,h1,h2,h3⟩:=ar a ha
 have hu:us=vs:=by
  rcases h3 with q | q
  ·rw[e] at q
   exact (xT q).2.symm
  ·rw[e] at q
   exact absurd (ag.type.inj (xT q).1) (by decide)
 subst hu
 refine ⟨h2,?_⟩
 cases hk:K.lookup a with
 | none=>exact .inl (.inr ⟨_,by rw[yg ha hk e,Ek]⟩)
 | some o =>
  have e2:=KX a o hk
  rw[e] at e2
  obtain rfl:=aJ e2
  exact .inr ⟨_,us.toArray,_,hk,rfl,rfl,rfl,by rw[bA];exact h1,by simpa using om h2⟩
theorem Zo (KX:K.In h)(ar:∀ a∈A,pZ h A a){a:aj}{vs:List ag}(ha:a∈A)(e:h.get? a=some {cls:=.type "tuple",data:=.seq vs.toArray}):(∀ u∈vs,J1 A u)∧fN K (pd K h A) a (vs.map toV):=by
 obtain ⟨us,h1,h2,h3⟩:=ar a ha
 have hu:us=vs:=by
  rcases h3 with q | q
  ·rw[e] at q
   exact absurd (ag.type.inj (xT q).1) (by decide)
  ·rw[e] at q
   exact (xT q).2.symm
 subst hu
 refine ⟨h2,?_⟩
 cases hk:K.lookup a with
 | none=>exact .inl (.inr ⟨_,by rw[yg ha hk e,Ej]⟩)
 | some o =>
  have e2:=KX a o hk
  rw[e] at e2
  obtain rfl:=aJ e2
  exact .inr ⟨_,us.toArray,_,hk,rfl,rfl,by rw[bA];exact h1,by simpa using om h2⟩
mutual
theorem V6 {Pm:yp}(KX:K.In h)(ar:∀ a∈A,pZ h A a):∀ (d:i9) (v:ag),Well Pm h v d→HX d=true→J1 A v→Dw K (pd K h A) (toV v) d
 | .none,_,x,_,_=>by
  cases x
  exact .hC
 | .bool b,_,x,_,_=>by
  cases x
  exact .bl b
 | .int i,_,x,_,_=>by
  cases x
  exact .int i
 | .str s,_,x,_,_=>by
  cases x
  exact .str s
 | .bytes b,_,x,_,_=>by
  cases x
  have z:=Dw.Fk (K:=K) (H:=pd K h A) b.toArray
  exact z
 | .list ds,_,x,p,hu=>by
  obtain ⟨a,vs,rfl,ho,qg⟩:=Au x
  obtain ⟨h2,hs⟩:=Zp KX ar hu ho
  exact .lst hs (BK KX ar ds _ qg p h2)
 | .tuple ds,_,x,p,hu=>by
  obtain ⟨a,vs,rfl,ho,qg⟩:=y2 x
  obtain ⟨h2,hs⟩:=Zo KX ar hu ho
  exact .tup hs (BK KX ar ds _ qg p h2)
 | .float _,_,_,p,_=>dM (show false=true from p)
 | .dict _,_,_,p,_=>dM (show false=true from p)
 | .bytearray _,_,_,p,_=>dM (show false=true from p)
 | .set _,_,_,p,_=>dM (show false=true from p)
 | .frozenset _,_,_,p,_=>dM (show false=true from p)
 | .obj _ _,_,_,p,_=>dM (show false=true from p)
theorem BK {Pm:yp}(KX:K.In h)(ar:∀ a∈A,pZ h A a):∀ (ds:List i9) (vs:List ag),tN Pm h vs ds→xx ds=true→(∀ u∈vs,J1 A u)→pY K (pd K h A) (vs.map toV) ds
 | [],_,x,_,_=>by
  cases x
  exact .nil
 | d::ds,_,x,p,hu=>by
  obtain ⟨v,vs,rfl,x1,x2⟩:=Av x
  have q:HX d=true∧xx ds=true:=JY.mp p
  exact .cons (V6 KX ar d v x1 q.1 (hu _ (ax ..))) (BK KX ar ds vs x2 q.2 fun u m=>hu u (ao _ m))
end
end
theorem Kp {P:aY}{w:bO}{K:ai}{mg mb:cp→Option ag}{CX:Md}{k:Nat}{fa:aj}{fd:bI}{ps:List cp}{sp:Sp}{s₁:au}{vals:List ag}{ds:List i9}{R:L5}{cl:cp→Option aj}{d0:i9}
  (KX:K.In s₁.heap)(hns:s₁.heap.Ns dZ mg)(hb:s₁.heap.Ns builtinsNs mb)(hbb:∀ x:cp,x≠"__name__"→mb x=bootBuiltins x)(hlim:s₁.heap.NoLimit)(hg:s₁.gens=#[])
  (hwl:tN w.params s₁.heap vals ds)(hpl:xx ds=true)(hwt:∀ d∈ds,d.weight≤1048576)(hr:fO k callerA)
  (F:∀ base:bU,K.In base→base.Ns dZ mg→cO P w K mg base CX k fa fd ps sp)(hbind:∀ (s:au) (us:List ag),us.length=ps.length→Fl s fd ⟨us,[]⟩ (ps.zip us))(hlen:ds.length=ps.length)
  (hsp:∀ (H:Hp) (xs:List V),Dm H→pY K H xs ds→sp xs H (fun v H'=>Dw K H' v d0) fun _ _ _=>False)
  (hCX:∀ H e s',CX [] H s₁ (fun _ _ _=>False) e s'→False) :
  codeAny (model P w) callerA (.call (.ref fa) ⟨vals,[]⟩) (fun r s'=>∃ u as,r=.ok (.ret u)∧ReadsW R cl s'.heap u d0 as∧OldK s₁.heap s'.heap∧s'.os=s₁.os∧z5 s'.gens) s₁:=by
 obtain ⟨A,ho,ar⟩:=vb ds vals hwl hpl hwt
 have hO:Dm (pd K s₁.heap A):=LV ar
 have fj:qf P w (pd K s₁.heap A) s₁.heap:=Ti ar
 have hS:=BK KX ar ds vals hwl hpl ho
 have hV:=om ho
 have hK:∀ b u,pd K s₁.heap A b=some u→K.lookup b=none:=fun b u q=>(yf ar q).1
 have noA:∀ {b:aj} {o:fA} {es:Array fq} {ep:Nat},s₁.heap.get? b=some o→o.data=.dict es ep→pd K s₁.heap A b=none:=fun {b o es ep} e d=>by
  cases q:pd K s₁.heap A b with
  | none=>rfl
  | some u =>
   obtain ⟨_,vs,_,_,⟨e2,_⟩ | ⟨e2,_⟩⟩:=yf ar q
   ·rw[e2] at e
    cases e
    have d':Data.seq vs.toArray _=Data.dict es ep:=d
    cases d'
   ·rw[e2] at e
    cases e
    have d':Data.seq vs.toArray _=Data.dict es ep:=d
    cases d'
 generalize pd K s₁.heap A=H at hO fj hS hK noA
 have base_of:∀ {b:aj} {o:fA},s₁.heap.get? b=some o→H b=none→(Bx s₁.heap H).get? b=some o:=fun e n=>Px e n
 have nsK:∀ {b:aj} {m:cp→Option ag},s₁.heap.Ns b m→(Bx s₁.heap H).Ns b m:=fun {b m} ⟨o,es,ep,e,d,r⟩=>⟨o,es,ep,base_of e (noA e d),d,r⟩
 have nK:∀ b o,K.lookup b=some o→H b=none:=fun b o e=>by
  cases q:H b with
  | none=>rfl
  | some u =>
   rw[hK b u q] at e
   cases e
 have hKb:K.In (Bx s₁.heap H):=fun b o e=>base_of (KX b o e) (nK b o e)
 have hM:Mod K mg (Bx s₁.heap H):=⟨hKb,nsK hns,⟨mb,nsK hb,hbb⟩,let ⟨mc,h1,h2⟩:=hlim;⟨mc,nsK h1,h2⟩⟩
 have e0:FA P w K mg (Bx s₁.heap H) callerA [] s₁ H:=⟨rfl,hM,fun b o e=>RU e,mN (Lm _ _),trivial,fun b hb=>absurd (show b∈([]:List aj) from hb) (by simp),fj,.of_eq hg⟩
 have hl:vals.length=ps.length:=by rw[nh hwl];exact hlen
 refine jD ((F _ hKb (nsK hns)).run callerA [] s₁ H ⟨vals,[]⟩ vals (vals.map toV) _ _ hr e0 (hbind s₁ vals hl) hV (hsp H _ hO hS)) fun r s' x=>?_
 cases r with
 | error e=>exact (hCX H e s' x).elim
 | ok fl =>
  cases fl with
  | next=>exact fg x
  | brk=>exact fg x
  | cont=>exact fg x
  | ret u =>
   obtain ⟨v,H',os,bare,un,hok',r',q⟩:=x
   have kept:∀ b o,s₁.heap.get? b=some o→s'.heap.get? b=some o:=fun b o e=>by
    cases q2:H b with
    | none=>exact un.keep b o e q2 (by intro z;exact absurd (show b∈([]:List aj) from z) (by simp)) (by simp)
    | some u2 =>
     rcases hO b with z | ⟨ob,u3,z⟩
     ·rw[q2] at z
      cases z
     ·have z2:=un.yl b ob _ z
      obtain ⟨e1,_⟩:=fj b _ z
      obtain ⟨e2,_⟩:=hok' b _ z2
      rw[e] at e1
      cases e1
      exact e2
   have KX':K.In s'.heap:=fun b o e=>kept b o (KX b o e)
   obtain ⟨as,hrd⟩:=Dw.reads (R:=R) (cl:=cl) hok' KX' d0 v u q r'
   exact ⟨u,as,rfl,hrd,OldK.of_keep kept,os,bare⟩
theorem zR {ds:List i9}(h:i9.layableAll ds=true):∀ d∈ds,d.weight≤1048576:=fun d hd =>
 (PySem.W.layableW_iff.mp (dJ.mp h d hd)).2.2
theorem zE:∀ (cs:List Codec) (a:qz cs),(mB cs a).length=cs.length
 | [],_=>rfl
 | c::cs,a=>by
  show (mB cs a.2).length+1=cs.length+1
  rw[zE cs a.2]
theorem Kh {r:OpenSpec}{k:Nat}{q:aY}{loose:List cp}{XP:(cp→Option ag)→bU→Prop}{YP:bO→bU→Prop}{d:DefRec}{K:yp→ai}{CX:bO→Md}{ps:List cp}{sp:bO→Sp}
  (hwell:r.wellSaid=true)(hdf:d.params.defaults=[])(hlen:r.args.length=ps.length)(hr:fO k callerA)
  (hY:∀ (w:bO) (h:bU),YP w h→(K w.params).In h)
  (F:∀ (w:bO) (mg:cp→Option ag) (fa:aj) (h:bU),YP w h→(K w.params).In h→h.Ns dZ mg→mg d.name=some (.ref fa) →
   ∃ fd:bI,(∀ (s:au) (us:List ag),us.length=ps.length→Fl s fd ⟨us,[]⟩ (ps.zip us)) ∧
    ∀ base:bU,(K w.params).In base→base.Ns dZ mg→cO r.prog w (K w.params) mg base (CX w) k fa fd ps (sp w))
  (hsp:∀ (w:bO) (H:Hp) (xs:List V) (a:qz r.args),Dm H→QS r.args a=true→xB r.args r.asked a=true→pY (K w.params) H xs (mB r.args a) →
   sp w xs H (fun v H'=>Dw (K w.params) H' v (r.ret.enc (xB r.args r.f a))) fun _ _ _=>False)
  (hCX:∀ (w:bO) (H:Hp) (s:au) (e:ag) (s':au),CX w [] H s (fun _ _ _=>False) e s'→False) :
  Qq q loose XP YP r d [] (fun f vs=>PySem.call f vs):=by
 intro w s_0 s₁ mg mb G Y fa o pm cd doc dV kV ho hd hcd hD hmg hg args vals as hpre hlay hrd hwl hlo
 obtain ⟨a,e1,e2⟩:=PySem.W.os_pre_some hpre
 obtain ⟨e3,hwi⟩:=Codec.encAll_of_decAll r.args args a e1
 subst e3
 have KX:=hY w _ Y
 obtain ⟨fd,hb,hF⟩:=F w mg fa _ Y KX G.T.g hmg
 refine PySem.W.enter_call (jD (Kp (R:=[]) (cl:=classAt s_0.heap) (d0:=r.ret.enc (xB r.args r.f a)) KX G.T.g G.T.b G.T.builtins G.T.nolimit hg hwl (AQ _ _) (zR hlay) hr hF hb (by rw[zE];exact hlen)
  (fun H xs hO hS=>hsp w H xs a hO hwi e2 hS) fun H e s'=>hCX w H s₁ e s') fun r' s' hq=>?_)
 obtain ⟨u,as',rfl,h1,h2,h3,h4⟩:=hq
 exact ⟨.inl ⟨u,_,as',rfl,fun _=>rfl,h1,(OpenSpec.post_iff hwell hwi _ _).mpr rfl,fun z=>dM (show false=true from z)⟩,h2,h3,h4⟩
theorem GQ {r:OpenSpec}{k:Nat}{q:aY}{loose:List cp}{XP:(cp→Option ag)→bU→Prop}{YP:bO→bU→Prop}{d:DefRec}{K:yp→ai}{CX:Md}{ps:List cp}{sp:ai→Sp}
  (hwell:r.wellSaid=true)(hdf:d.params.defaults=[])(hlen:r.args.length=ps.length)(hr:fO k callerA)
  (hY:∀ (w:bO) (h:bU),YP w h→(K w.params).In h)
  (F:∀ (w:bO) (mg:cp→Option ag) (fa:aj) (h:bU),YP w h→(K w.params).In h→h.Ns dZ mg→mg d.name=some (.ref fa) →
   ∃ fd:bI,(∀ (s:au) (us:List ag),us.length=ps.length→Fl s fd ⟨us,[]⟩ (ps.zip us)) ∧
    ∀ base:bU,(K w.params).In base→base.Ns dZ mg→cO r.prog w (K w.params) mg base CX k fa fd ps (sp (K w.params)))
  (hsp:∀ (K:ai) (H:Hp) (xs:List V) (a:qz r.args),Dm H→QS r.args a=true→xB r.args r.asked a=true→pY K H xs (mB r.args a) →
   sp K xs H (fun v H'=>Dw K H' v (r.ret.enc (xB r.args r.f a))) fun _ _ _=>False)
  (hCX:∀ (H:Hp) (s:au) (e:ag) (s':au),CX [] H s (fun _ _ _=>False) e s'→False) :
  Qq q loose XP YP r d [] (fun f vs=>PySem.call f vs) :=
 Kh (K:=K) (CX:=fun _=>CX) (sp:=fun w=>sp (K w.params)) hwell hdf hlen hr hY F (fun w H xs a h1 h2 h3 h4=>hsp (K w.params) H xs a h1 h2 h3 h4) fun _ H s e s'=>hCX H s e s'
end L2
namespace Sk
open PySem PySem.Spec PyProof.Rows L2
def FF (K:ai)(mg:cp→Option ag)(x:cp)(st:d5):Prop:=∃ f fd,mg x=some (.ref f)∧aP K (.ref f)=true∧jt K x x st f fd
theorem FF.mk {K:ai}{h:bU}{mg:cp→Option ag}{x:cp}{st:d5}{f:aj}{od an:Option aj}{sl:Array (Option ag)}{oc kV dc pm cd ct:ag}(X:K.In h)(G:h.Ns dZ mg)(a:pR K dZ x=some (some (.ref f)))
  (l:K.lookup f=some ⟨oc,od,.func (gY x x (mW st) (lH st) (bF st) .none kV dc pm an cd ct),sl⟩)(c:jU K cd x=true)(k:aP K (.ref f)=true):FF K mg x st:=⟨f,_,nQ X G a,k,Gr l c k⟩
def MF (K:ai)(C:aj)(m q:cp)(st:d5):Prop:=∃ f fd,ym K C m f∧jt K m q st f fd
theorem MF.mk {K:ai}{C:aj}{m q:cp}{st:d5}{f:aj}{od an:Option aj}{sl:Array (Option ag)}{oc kV dc pm cd ct:ag}(a:du K (.ref C) m=some (some (.ref f)))(i:vc K (.ref f)=true)
  (l:K.lookup f=some ⟨oc,od,.func (gY m q (mW st) (lH st) (bF st) .none kV dc pm an cd ct),sl⟩)(c:jU K cd q=true)(k:aP K (.ref f)=true):MF K C m q st:=⟨f,_,⟨a,i,k⟩,Gr l c k⟩
def NN (mg:cp→Option ag)(x:cp)(v:Int):Prop:=∃ t,mg x=some (.int v t)
theorem NN.mk {K:ai}{h:bU}{mg:cp→Option ag}{x:cp}{v:Int}{t:Nat}(X:K.In h)(G:h.Ns dZ mg)(a:pR K dZ x=some (some (.int v t))):NN mg x v:=⟨t,nQ X G a⟩
theorem Ni {K:ai}{a:aj}{od:Option aj}{its:Array ag}{n:Nat}{sl:Array (Option ag)}{xs:List V}(l:K.lookup a=some ⟨.type "tuple",od,.seq its n,sl⟩)(z:its.size≤aA)(v:df xs its.toList)(H:Hp):fN K H a xs:=.inr ⟨_,its,n,l,rfl,rfl,z,v⟩
theorem HW {K:ai}{a:aj}{od:Option aj}{n:Nat}{sl:Array (Option ag)}{i j:Int}{t u:Nat}(l:K.lookup a=some ⟨.type "tuple",od,.seq #[.int i t,.int j u] n,sl⟩)(H:Hp):fN K H a [V.int i,V.int j] :=
 Ni (xs:=[V.int i,V.int j]) l (by show 2≤aA;decide) (show df [V.int i,V.int j] [.int i t,.int j u] from .cons (show RelV (.int i) (.int i t) from ⟨t,rfl⟩) (.cons (show RelV (.int j) (.int j u) from ⟨u,rfl⟩) .nil)) H
theorem Kw {K:ai}{h:bU}{mg:cp→Option ag}{S q0 q1 q2 q3 q4 q5 q6 q7 q8 q9 q10 q11 q12 q13:aj}{od od0 od1 od2 od3 od4 od5 od6 od7 od8 od9 od10 od11 od12 od13:Option aj}{n n0 n1 n2 n3 n4 n5 n6 n7 n8 n9 YU YT YS n13:Nat}{sl sl0 sl1 sl2 sl3 sl4 sl5 sl6 sl7 sl8 sl9 sl10 sl11 sl12 sl13:Array (Option ag)}{t0 u0 t1 u1 t2 u2 t3 u3 t4 u4 t5 u5 t6 u6 t7 u7 t8 u8 t9 u9 t10 u10 t11 u11 t12 u12 t13 u13:Nat}(X:K.In h)(G:h.Ns dZ mg)(a:pR K dZ "SHAPES"=some (some (.ref S)))
  (l:K.lookup S=some ⟨.type "tuple",od,.seq #[.ref q0,.ref q1,.ref q2,.ref q3,.ref q4,.ref q5,.ref q6,.ref q7,.ref q8,.ref q9,.ref q10,.ref q11,.ref q12,.ref q13] n,sl⟩)
  (l0:K.lookup q0=some ⟨.type "tuple",od0,.seq #[.int 1 t0,.int 0 u0] n0,sl0⟩)
  (l1:K.lookup q1=some ⟨.type "tuple",od1,.seq #[.int 3 t1,.int 0 u1] n1,sl1⟩)
  (l2:K.lookup q2=some ⟨.type "tuple",od2,.seq #[.int 0 t2,.int 2 u2] n2,sl2⟩)
  (l3:K.lookup q3=some ⟨.type "tuple",od3,.seq #[.int 0 t3,.int 1 u3] n3,sl3⟩)
  (l4:K.lookup q4=some ⟨.type "tuple",od4,.seq #[.int 0 t4,.int 0 u4] n4,sl4⟩)
  (l5:K.lookup q5=some ⟨.type "tuple",od5,.seq #[.int 0 t5,.int 0 u5] n5,sl5⟩)
  (l6:K.lookup q6=some ⟨.type "tuple",od6,.seq #[.int 1 t6,.int 0 u6] n6,sl6⟩)
  (l7:K.lookup q7=some ⟨.type "tuple",od7,.seq #[.int 1 t7,.int 1 u7] n7,sl7⟩)
  (l8:K.lookup q8=some ⟨.type "tuple",od8,.seq #[.int 1 t8,.int 0 u8] n8,sl8⟩)
  (l9:K.lookup q9=some ⟨.type "tuple",od9,.seq #[.int 0 t9,.int 1 u9] n9,sl9⟩)
  (l10:K.lookup q10=some ⟨.type "tuple",od10,.seq #[.int 0 t10,.int 0 u10] YU,sl10⟩)
  (l11:K.lookup q11=some ⟨.type "tuple",od11,.seq #[.int 2 t11,.int 0 u11] YT,sl11⟩)
  (l12:K.lookup q12=some ⟨.type "tuple",od12,.seq #[.int 2 t12,.int 0 u12] YS,sl12⟩)
  (l13:K.lookup q13=some ⟨.type "tuple",od13,.seq #[.int 0 t13,.int 0 u13] n13,sl13⟩):U4 K mg:=by
 refine ⟨S,[q0,q1,q2,q3,q4,q5,q6,q7,q8,q9,q10,q11,q12,q13],nQ X G a,Ni l (by show 14≤aA;decide) ((.cons rfl (.cons rfl (.cons rfl (.cons rfl (.cons rfl (.cons rfl (.cons rfl (.cons rfl (.cons rfl (.cons rfl (.cons rfl (.cons rfl (.cons rfl (.cons rfl .nil))))))))))))))),fun p n k hs=>?_⟩
 rcases rg hs with z | z | z | z | z | z | z | z | z | z | z | z | z | z<;>obtain ⟨rfl,rfl,rfl⟩:=z
 ·exact ⟨q0,rfl,HW l0⟩
 ·exact ⟨q1,rfl,HW l1⟩
 ·exact ⟨q2,rfl,HW l2⟩
 ·exact ⟨q3,rfl,HW l3⟩
 ·exact ⟨q4,rfl,HW l4⟩
 ·exact ⟨q5,rfl,HW l5⟩
 ·exact ⟨q6,rfl,HW l6⟩
 ·exact ⟨q7,rfl,HW l7⟩
 ·exact ⟨q8,rfl,HW l8⟩
 ·exact ⟨q9,rfl,HW l9⟩
 ·exact ⟨q10,rfl,HW l10⟩
 ·exact ⟨q11,rfl,HW l11⟩
 ·exact ⟨q12,rfl,HW l12⟩
 ·exact ⟨q13,rfl,HW l13⟩
theorem all_mk {P:aY}{w:bO}{K:ai}{h:bU}{mg:cp→Option ag}{fa C f3:aj}(X:K.In h)(G:h.Ns dZ mg)(hfa:mg "answers"=some (.ref fa))
  {od3 an3:Option aj}{sl3:Array (Option ag)}{oc3 kV3 dc3 pm3 cd3 ct3:ag}(aC:pR K dZ "Family"=some (some (.ref C)))
  (a3:pR K dZ "answers"=some (some (.ref f3)))(l3:K.lookup f3=some ⟨oc3,od3,.func (gY "answers" "answers" (mW Bw) (lH Bw) (bF Bw) .none kV3 dc3 pm3 an3 cd3 ct3),sl3⟩)(c3:jU K cd3 "answers"=true)(k3:aP K (.ref f3)=true)
  (pg:kG K C cp.empty=true)(hd:nB K C=true)(po:vi K C=true)(sa:du K (.ref C) "__setattr__"=some (some (.builtin "object.__setattr__")))(mk:xH K C=true)(kc:aP K (.ref C)=true)
  (rA:du K (.ref C) "languages"=some none)
  (Gm:du K (.ref C) "told"=some none)
  (B9:du K (.ref C) "costs"=some none)
  (B8:du K (.ref C) "words"=some none)
  (rm:du K (.ref C) "told_tree"=some none)
  (GF:MF K C "__init__" "Family.__init__" MQ)
  (Cp:MF K C "start_over" "Family.start_over" FY)
  (y1:MF K C "begins" "Family.begins" B5)
  (GG:MF K C "cost" "Family.cost" MV)
  (wF:MF K C "beside" "Family.beside" yJ)
  (GC:MF K C "word" "Family.word" MI)
  (uo:MF K C "patterns" "Family.patterns" vZ)
  (Cq:MF K C "olds" "Family.olds" F5)
  (yY:MF K C "reflex" "Family.reflex" BY)
  (uq:MF K C "expected" "Family.expected" v9)
  (yZ:MF K C "leave" "Family.leave" B0)
  (Co:MF K C "tree" "Family.tree" FX)
  (um:MF K C "scores_on" "Family.scores_on" vY)
  (yX:MF K C "score" "Family.score" BX)
  (wD:MF K C "refused_place" "Family.refused_place" yH)
  (GD:MF K C "root" "Family.root" MM)
  (wC:MF K C "states" "Family.states" yG)
  (GH:MF K C "best" "Family.best" MX)
  (oK:FF K mg "change_cost" B4)
  (vE:FF K mg "read_tree" MN)
  (sk:FF K mg "write_tree" FV)
  (vM:FF K mg "has_each_once" MU)
  (vL:FF K mg "end_of" UX)
  (sx:FF K mg "parts_of" F1)
  (sr:FF K mg "with_language" FW)
  (vO:FF K mg "all_trees" MY)
  (oI:FF K mg "choices_of" B2)
  (vC:FF K mg "cheapest_step" MK)
  (vG:FF K mg "language_may_be" MP)
  (sD:FF K mg "joint_may_be" F8)
  (sA:FF K mg "nodes_may_be" F6)
  (oJ:FF K mg "cheapest_sounds" B3)
  (su:FF K mg "score_and_roots" FZ)
  (oF:FF K mg "states_on" BW)
  (sq:FF K mg "with_pair" MJ)
  (lO:FF K mg "choices_at" yI)
  (sF:FF K mg "cheapest" Ga)
  (Ap:FF K mg "lay_beside" UW)
  (sE:FF K mg "count_places" F9)
  (Ao:FF K mg "may_be_one" UU)
  (vK:FF K mg "fits" MT)
  (An:FF K mg "first_way" UT)
  (vH:FF K mg "give_old_sounds" MR)
  (Aq:FF K mg "by_old_sound" YM)
  (Ar:FF K mg "becomes" UY)
  (vF:FF K mg "with_one_more" MO)
  (oH:FF K mg "are_enough" B1)
  (sC:FF K mg "leave_out" F7)
  (vJ:FF K mg "is_row_of_sounds" MS)
  (sv:FF K mg "is_place" F0)
  (oG:FF K mg "read_places" BZ)
  (sy:FF K mg "read_pairs" F4)
  (vD:FF K mg "read_rows" ML)
  (vN:FF K mg "answer_call" MW)
  (sP:NN mg "UNKNOWN" 0)
  (uj:NN mg "NO_SOUND" 1)
  (nS:NN mg "COST_UNTOLD" 10)
  (yi:NN mg "JOINT" (-1))
  (js:NN mg "WRITTEN_LANGUAGE" 0)
  (k9:NN mg "WRITTEN_JOINT" 1)
  (mE:NN mg "OUT_OF_RANGE" (-1))
  (wB:NN mg "NO_TREE" (-4))
  (uh:NN mg "TOO_MANY" (-5))
  (rH:NN mg "NOT_THERE" (-6))
  (iU:NN mg "LANGUAGES_AT_FIRST" 2)
  (pX:NN mg "MOST_COSTS" 200)
  (pW:NN mg "MOST_WORDS" 6)
  (lh:NN mg "MOST_PATTERNS" 8)
  (yW:NN mg "BEGINS" 0)
  (GB:NN mg "COST" 1)
  (yV:NN mg "BESIDE" 2)
  (Gx:NN mg "WORD" 3)
  (ui:NN mg "PATTERNS" 4)
  (GA:NN mg "OLDS" 5)
  (yU:NN mg "REFLEX" 6)
  (uk:NN mg "EXPECTED" 7)
  (Cn:NN mg "LEAVE" 8)
  (Gy:NN mg "TREE" 9)
  (Cm:NN mg "SCORE" 10)
  (Gz:NN mg "ROOT" 11)
  (yT:NN mg "STATES" 12)
  (uD:mg "len"=none)
  (Nf:mg "all"=none)
  (Nd:mg "any"=none)
  (Dr:mg "sum"=none)
  (qW:mg "sorted"=none)
  (Io:mg "set"=none)
  (vP:mg "list"=none)
  (Ct:mg "tuple"=none)
  (As:mg "min"=none)
  (Ds:mg "max"=none)
  (mY:mg "range"=none)
  (Dq:mg "zip"=none)
  (rJ:mg "enumerate"=none)
  (GI:mg "dict"=none)
  (TS:U4 K mg) :
  ∃ fd:bI,(∀ (s:au) (us:List ag),us.length=(["calls"]:List cp).length→Fl s fd ⟨us,[]⟩ ((["calls"]:List cp).zip us))∧∀ base:bU,K.In base→base.Ns dZ mg→cO P w K mg base fB 16 fa fd ["calls"] (ME K):=by
 have e:=hfa.symm.trans (nQ X G a3)
 cases e
 have T:nJ K mg C:=⟨⟨pg,hd,po,sa⟩,rA,Gm,B9,B8,rm,nQ X G aC,mE,wB,uh,rH,iU,pX,pW,lh⟩
 have TF:qi mg:=⟨uD,Nf,Nd,Dr,qW,Io,vP,Ct,As,Ds,mY,Dq⟩
 have TB:U5 K mg:=⟨uj,nS⟩
 have TO:Mw K mg:=⟨sP,Dq,uD⟩
 have TO2:Dl mg:=⟨Ds,mY,Dq,uD,vP,rJ⟩
 have TT:C9 mg:=⟨yi,js,k9,uD,mY,vP,qW⟩
 have TA:Dc mg:=⟨sP,yi,uD,mY,vP,qW,Io,As,Dr,GI⟩
 have TN:Xd mg:=⟨yW,GB,yV,Gx,ui,GA,yU,uk,Cn,Gy,Cm,Gz,yT⟩
 obtain ⟨YH,X6,Jc,JM⟩:=GF
 have S6:=JM.binds (ps:=["self"]) fun _ _ _ _ _ _ us hl=>match us,hl with | [_],_=>rfl
 obtain ⟨Yc,WD,D7,Ez⟩:=Cp
 have Eo:=Ez.binds (ps:=["self","languages"]) fun _ _ _ _ _ _ us hl=>match us,hl with | [_,_],_=>rfl
 obtain ⟨Lx,HD,K5,Bl⟩:=y1
 have LP:=Bl.binds (ps:=["self","languages"]) fun _ _ _ _ _ _ us hl=>match us,hl with | [_,_],_=>rfl
 obtain ⟨SS,PK,Se,JN⟩:=GG
 have S7:=JN.binds (ps:=["self","one","other","costs"]) fun _ _ _ _ _ _ us hl=>match us,hl with | [_,_,_,_],_=>rfl
 obtain ⟨HF,EZ,Hr,zN⟩:=wF
 have HN:=zN.binds (ps:=["self","first","second"]) fun _ _ _ _ _ _ us hl=>match us,hl with | [_,_,_],_=>rfl
 obtain ⟨SQ,PH,Sb,JK⟩:=GC
 have S4:=JK.binds (ps:=["self","places"]) fun _ _ _ _ _ _ us hl=>match us,hl with | [_,_],_=>rfl
 obtain ⟨E1,CD,ES,xq⟩:=uo
 have Fb:=xq.binds (ps:=["self"]) fun _ _ _ _ _ _ us hl=>match us,hl with | [_],_=>rfl
 obtain ⟨PQ,Ls,Pd,EA⟩:=Cq
 have P9:=EA.binds (ps:=["self"]) fun _ _ _ _ _ _ us hl=>match us,hl with | [_],_=>rfl
 obtain ⟨Lv,HB,K3,Bj⟩:=yY
 have LN:=Bj.binds (ps:=["self","sound"]) fun _ _ _ _ _ _ us hl=>match us,hl with | [_,_],_=>rfl
 obtain ⟨E2,CF,ET,xr⟩:=uq
 have Fc:=xr.binds (ps:=["self","language","asked"]) fun _ _ _ _ _ _ us hl=>match us,hl with | [_,_,_],_=>rfl
 obtain ⟨Lw,HC,K4,Bk⟩:=yZ
 have LO:=Bk.binds (ps:=["self","k"]) fun _ _ _ _ _ _ us hl=>match us,hl with | [_,_],_=>rfl
 obtain ⟨PN,Lr,Pc,Ey⟩:=Co
 have P8:=Ey.binds (ps:=["self","nodes"]) fun _ _ _ _ _ _ us hl=>match us,hl with | [_,_],_=>rfl
 obtain ⟨UL,T5,xg,xp⟩:=um
 have xn:=xp.binds (ps:=["self","tree"]) fun _ _ _ _ _ _ us hl=>match us,hl with | [_,_],_=>rfl
 obtain ⟨Lu,HA,K2,Bi⟩:=yX
 have LM:=Bi.binds (ps:=["self"]) fun _ _ _ _ _ _ us hl=>match us,hl with | [_],_=>rfl
 obtain ⟨WA,UK,zq,zM⟩:=wD
 have zJ:=zM.binds (ps:=["self","word","place"]) fun _ _ _ _ _ _ us hl=>match us,hl with | [_,_,_],_=>rfl
 obtain ⟨SR,PJ,Sd,JL⟩:=GD
 have S5:=JL.binds (ps:=["self","word","place"]) fun _ _ _ _ _ _ us hl=>match us,hl with | [_,_,_],_=>rfl
 obtain ⟨HE,EY,Hq,zL⟩:=wC
 have HM:=zL.binds (ps:=["self","word","place"]) fun _ _ _ _ _ _ us hl=>match us,hl with | [_,_,_],_=>rfl
 obtain ⟨SU,PL,Sf,JO⟩:=GH
 have S8:=JO.binds (ps:=["self"]) fun _ _ _ _ _ _ us hl=>match us,hl with | [_],_=>rfl
 obtain ⟨Yg,WI,D9,Eg,oK⟩:=oK
 have Er:=oK.binds (ps:=["costs","one","other"]) fun _ _ _ _ _ _ us hl=>match us,hl with | [_,_,_],_=>rfl
 obtain ⟨V3,SM,VD,VR,vE⟩:=vE
 have Wf:=vE.binds (ps:=["row"]) fun _ _ _ _ _ _ us hl=>match us,hl with | [_],_=>rfl
 obtain ⟨YA,XZ,R4,Sn,sk⟩:=sk
 have SW:=sk.binds (ps:=["tree"]) fun _ _ _ _ _ _ us hl=>match us,hl with | [_],_=>rfl
 obtain ⟨ZF,Yy,VI,VW,vM⟩:=vM
 have Wk:=vM.binds (ps:=["tree","languages"]) fun _ _ _ _ _ _ us hl=>match us,hl with | [_,_],_=>rfl
 obtain ⟨ZE,Yx,NK,NT,vL⟩:=vL
 have N6:=vL.binds (ps:=["tree","at"]) fun _ _ _ _ _ _ us hl=>match us,hl with | [_,_],_=>rfl
 obtain ⟨YF,X4,Ja,Jj,sx⟩:=sx
 have JD:=sx.binds (ps:=["tree","at"]) fun _ _ _ _ _ _ us hl=>match us,hl with | [_,_],_=>rfl
 obtain ⟨YC,X1,R6,Sq,sr⟩:=sr
 have SY:=sr.binds (ps:=["trees","language"]) fun _ _ _ _ _ _ us hl=>match us,hl with | [_,_],_=>rfl
 obtain ⟨ZG,Yz,VL,VY,vO⟩:=vO
 have Wm:=vO.binds (ps:=["languages"]) fun _ _ _ _ _ _ us hl=>match us,hl with | [_],_=>rfl
 obtain ⟨Ye,WG,Pf,Pq,oI⟩:=oI
 have Qb:=oI.binds (ps:=["sounds"]) fun _ _ _ _ _ _ us hl=>match us,hl with | [_],_=>rfl
 obtain ⟨Zx,Yr,NI,NR,vC⟩:=vC
 have N4:=vC.binds (ps:=["sound","below","costs"]) fun _ _ _ _ _ _ us hl=>match us,hl with | [_,_,_],_=>rfl
 obtain ⟨Zz,Yt,VF,VT,vG⟩:=vG
 have Wh:=vG.binds (ps:=["own","choices"]) fun _ _ _ _ _ _ us hl=>match us,hl with | [_,_],_=>rfl
 obtain ⟨YJ,X8,Sh,Sv,sD⟩:=sD
 have Ta:=sD.binds (ps:=["choices","parts","costs"]) fun _ _ _ _ _ _ us hl=>match us,hl with | [_,_,_],_=>rfl
 obtain ⟨YG,X5,Jb,Jk,sA⟩:=sA
 have JE:=sA.binds (ps:=["tree","sounds","costs"]) fun _ _ _ _ _ _ us hl=>match us,hl with | [_,_,_],_=>rfl
 obtain ⟨Yf,WH,D8,Ef,oJ⟩:=oJ
 have Ep:=oJ.binds (ps:=["may_be"]) fun _ _ _ _ _ _ us hl=>match us,hl with | [_],_=>rfl
 obtain ⟨YD,X2,IZ,Ji,su⟩:=su
 have JC:=su.binds (ps:=["tree","sounds","costs"]) fun _ _ _ _ _ _ us hl=>match us,hl with | [_,_,_],_=>rfl
 obtain ⟨Yb,WC,Pa,Pn,oF⟩:=oF
 have P6:=oF.binds (ps:=["tree","sounds","costs"]) fun _ _ _ _ _ _ us hl=>match us,hl with | [_,_,_],_=>rfl
 obtain ⟨YB,X0,R5,So,sq⟩:=sq
 have SX:=sq.binds (ps:=["one","other","rest","costs"]) fun _ _ _ _ _ _ us hl=>match us,hl with | [_,_,_,_],_=>rfl
 obtain ⟨WJ,Wz,K6,Le,lO⟩:=lO
 have LQ:=lO.binds (ps:=["first","second","i","j","known","costs"]) fun _ _ _ _ _ _ us hl=>match us,hl with | [_,_,_,_,_,_],_=>rfl
 obtain ⟨YL,Ya,Si,Sw,sF⟩:=sF
 have Tf:=sF.binds (ps:=["choices"]) fun _ _ _ _ _ _ us hl=>match us,hl with | [_],_=>rfl
 obtain ⟨ZR,Zu,XC,XE,Ap⟩:=Ap
 have XW:=Ap.binds (ps:=["first","second","costs"]) fun _ _ _ _ _ _ us hl=>match us,hl with | [_,_,_],_=>rfl
 obtain ⟨YK,X9,rY,rZ,sE⟩:=sE
 have r9:=sE.binds (ps:=["words"]) fun _ _ _ _ _ _ us hl=>match us,hl with | [_],_=>rfl
 obtain ⟨ZQ,Zt,XB,XD,Ao⟩:=Ao
 have XU:=Ao.binds (ps:=["pattern","other"]) fun _ _ _ _ _ _ us hl=>match us,hl with | [_,_],_=>rfl
 obtain ⟨ZD,Yw,VH,VV,vK⟩:=vK
 have Wj:=vK.binds (ps:=["patterns","given","number"]) fun _ _ _ _ _ _ us hl=>match us,hl with | [_,_,_],_=>rfl
 obtain ⟨ZP,Zs,MZ,Na,An⟩:=An
 have Nc:=An.binds (ps:=["patterns","limit","given"]) fun _ _ _ _ _ _ us hl=>match us,hl with | [_,_,_],_=>rfl
 obtain ⟨ZA,Yu,NJ,NS,vH⟩:=vH
 have N5:=vH.binds (ps:=["patterns"]) fun _ _ _ _ _ _ us hl=>match us,hl with | [_],_=>rfl
 obtain ⟨ZS,Zv,Ul,Uo,Aq⟩:=Aq
 have Ut:=Aq.binds (ps:=["patterns"]) fun _ _ _ _ _ _ us hl=>match us,hl with | [_],_=>rfl
 obtain ⟨ZT,Zw,Um,Up,Ar⟩:=Ar
 have Uu:=Ar.binds (ps:=["patterns","surroundings","language"]) fun _ _ _ _ _ _ us hl=>match us,hl with | [_,_,_],_=>rfl
 obtain ⟨Zy,Ys,VE,VS,vF⟩:=vF
 have Wg:=vF.binds (ps:=["choices","how_many"]) fun _ _ _ _ _ _ us hl=>match us,hl with | [_,_],_=>rfl
 obtain ⟨Yd,WE,Pe,Pp,oH⟩:=oH
 have Qa:=oH.binds (ps:=["words","limit"]) fun _ _ _ _ _ _ us hl=>match us,hl with | [_,_],_=>rfl
 obtain ⟨YI,X7,Sg,Su,sC⟩:=sC
 have S9:=sC.binds (ps:=["words","limit"]) fun _ _ _ _ _ _ us hl=>match us,hl with | [_,_],_=>rfl
 obtain ⟨ZC,Yv,VG,VU,vJ⟩:=vJ
 have Wi:=vJ.binds (ps:=["row"]) fun _ _ _ _ _ _ us hl=>match us,hl with | [_],_=>rfl
 obtain ⟨YE,X3,R8,Sr,sv⟩:=sv
 have S0:=sv.binds (ps:=["place","languages"]) fun _ _ _ _ _ _ us hl=>match us,hl with | [_,_],_=>rfl
 obtain ⟨PM,Lq,Pb,Po,oG⟩:=oG
 have P7:=oG.binds (ps:=["row"]) fun _ _ _ _ _ _ us hl=>match us,hl with | [_],_=>rfl
 obtain ⟨SO,PF,Sa,Ss,sy⟩:=sy
 have S1:=sy.binds (ps:=["row"]) fun _ _ _ _ _ _ us hl=>match us,hl with | [_],_=>rfl
 obtain ⟨V2,SK,VC,VQ,vD⟩:=vD
 have We:=vD.binds (ps:=["calls","at","how_many"]) fun _ _ _ _ _ _ us hl=>match us,hl with | [_,_,_],_=>rfl
 obtain ⟨V4,SN,VJ,VX,vN⟩:=vN
 have Wl:=vN.binds (ps:=["family","call","numbers","rows"]) fun _ _ _ _ _ _ us hl=>match us,hl with | [_,_,_,_],_=>rfl
 have F3:=Gr (st:=Bw) l3 c3 k3
 refine ⟨gY "answers" "answers" (mW Bw) (lH Bw) (bF Bw) .none kV3 dc3 pm3 an3 cd3 ct3,fun s us hu=>match us,hu with | [_],_=>.of_eq rfl,fun base _ _=>?_⟩
 have Ex:=KS (P:=P) (w:=w) (mg:=mg) (base:=base) oK TB
 have Tq:=RB (P:=P) (w:=w) (mg:=mg) (base:=base) sq Ex D9 Eg Er
 have L0:=Hj (P:=P) (w:=w) (mg:=mg) (base:=base) lO TB uD Tq R5 So SX
 have TJ:=O4 (P:=P) (w:=w) (mg:=mg) (base:=base) sF As Dr
 have XY:=Vv (P:=P) (w:=w) (mg:=mg) (base:=base) Ap uD mY L0 K6 Le LQ TJ Si Sw Tf
 have sj:=O3 (P:=P) (w:=w) (mg:=mg) (base:=base) sE
 have XX:=Vu (P:=P) (w:=w) (mg:=mg) (base:=base) Ao TO
 have Wu:=RM (P:=P) (w:=w) (mg:=mg) (base:=base) vK TO XX XB XD XU
 have Uw:=NF (P:=P) (w:=w) (mg:=mg) (base:=base) An TO As Ds mY Wu VH VV Wj MZ Na Nc 9
 have N8:=RK (P:=P) (w:=w) (mg:=mg) (base:=base) vH Uw MZ Na Nc
 have Uy:=Vx (P:=P) (w:=w) (mg:=mg) (base:=base) Ar TO
 have Ux:=Xy (P:=P) (w:=w) (mg:=mg) (base:=base) Aq TO2 N8 NJ NS N5
 have Wr:=RH (P:=P) (w:=w) (mg:=mg) (base:=base) vF TO2
 have Ql:=KP (P:=P) (w:=w) (mg:=mg) (base:=base) oH TO2 sj rY rZ r9 Uw MZ Na Nc
 have TC:=OZ (P:=P) (w:=w) (mg:=mg) (base:=base) sC TO2 Ql Pe Pp Qa Wr VE VS Wg
 have Wq:=RG (P:=P) (w:=w) (mg:=mg) (base:=base) vE TT
 have Tp:=OP (P:=P) (w:=w) (mg:=mg) (base:=base) sk TT
 have N9:=Vw (P:=P) (w:=w) (mg:=mg) (base:=base) vL TT
 have JI:=OV (P:=P) (w:=w) (mg:=mg) (base:=base) sx TT N9 NK NT N6
 have Wv:=RN (P:=P) (w:=w) (mg:=mg) (base:=base) vM TT
 have Tr:=OQ (P:=P) (w:=w) (mg:=mg) (base:=base) sr TT N9 NK NT N6
 have Wx:=RT (P:=P) (w:=w) (mg:=mg) (base:=base) vO TT Tr R6 Sq SY
 have Qm:=KQ (P:=P) (w:=w) (mg:=mg) (base:=base) oI TA
 have N7:=RD (P:=P) (w:=w) (mg:=mg) (base:=base) vC TA Ex D9 Eg Er
 have Ws:=RI (P:=P) (w:=w) (mg:=mg) (base:=base) vG TA
 have TH:=O0 (P:=P) (w:=w) (mg:=mg) (base:=base) sD TA N7 NI NR N4
 have JJ:=OY (P:=P) (w:=w) (mg:=mg) (base:=base) sA TA Qm Pf Pq Qb JI Ja Jj JD TH Sh Sv Ta Ws VF VT Wh
 have Ew:=KR (P:=P) (w:=w) (mg:=mg) (base:=base) oJ TA
 have JH:=OT (P:=P) (w:=w) (mg:=mg) (base:=base) su JJ Jb Jk JE Ew D8 Ef Ep
 have Qh:=KI (P:=P) (w:=w) (mg:=mg) (base:=base) oF TA JJ Jb Jk JE Ew D8 Ef Ep JI Ja Jj JD N7 NI NR N4
 have Wt:=RL (P:=P) (w:=w) (mg:=mg) (base:=base) vJ TF
 have Ts:=OU (P:=P) (w:=w) (mg:=mg) (base:=base) sv TF
 have Qi:=KN (P:=P) (w:=w) (mg:=mg) (base:=base) oG TF
 have Tt:=OW (P:=P) (w:=w) (mg:=mg) (base:=base) sy TF
 have Wp:=RE (P:=P) (w:=w) (mg:=mg) (base:=base) vD TF
 have Eu:=OS (P:=P) (w:=w) (mg:=mg) (base:=base) Ez T
 have Tw:=RJ (P:=P) (w:=w) (mg:=mg) (base:=base) JM T Eu D7 Eo
 have LZ:=KU (P:=P) (w:=w) (mg:=mg) (base:=base) Bl T Eu D7 Eo
 have Tx:=RO (P:=P) (w:=w) (mg:=mg) (base:=base) JN T
 have HQ:=Hk (P:=P) (w:=w) (mg:=mg) (base:=base) zN T TF Wt VG VU Wi XY XC XE XW
 have Tu:=RA (P:=P) (w:=w) (mg:=mg) (base:=base) JK T TF Ts R8 Sr S0
 have Fe:=EL (P:=P) (w:=w) (mg:=mg) (base:=base) xq T TF sj rY rZ r9
 have Qk:=OX (P:=P) (w:=w) (mg:=mg) (base:=base) EA T TF sj rY rZ r9 N8 NJ NS N5
 have LX:=KL (P:=P) (w:=w) (mg:=mg) (base:=base) Bj T TF sj rY rZ r9 Ux Ul Uo Ut Uy Um Up Uu
 have Ff:=EM (P:=P) (w:=w) (mg:=mg) (base:=base) xr T TF sj rY rZ r9 Ux Ul Uo Ut Uy Um Up Uu
 have LY:=KO (P:=P) (w:=w) (mg:=mg) (base:=base) Bk T TF sj rY rZ r9 TC Sg Su S9
 have Qj:=OR (P:=P) (w:=w) (mg:=mg) (base:=base) Ey T Wv VI VW Wk
 have xo:=EK (P:=P) (w:=w) (mg:=mg) (base:=base) xp T JH IZ Ji JC
 have LW:=KJ (P:=P) (w:=w) (mg:=mg) (base:=base) Bi T TF xo xg xn
 have zK:=Hi (P:=P) (w:=w) (mg:=mg) (base:=base) zM T TF
 have Tv:=RF (P:=P) (w:=w) (mg:=mg) (base:=base) JL T TF zK zq zJ JH IZ Ji JC
 have HP:=Hh (P:=P) (w:=w) (mg:=mg) (base:=base) zL T zK zq zJ Qh Pa Pn P6
 have Tz:=RQ (P:=P) (w:=w) (mg:=mg) (base:=base) JO T TF Wx VL VY Wm xo xg xn Tp R4 Sn SW
 have Ww:=RP (P:=P) (w:=w) (mg:=mg) (base:=base) vN T TN ⟨Lx,HD,LZ,K5,LP⟩ ⟨SS,PK,Tx,Se,S7⟩ ⟨HF,EZ,HQ,Hr,HN⟩ ⟨SQ,PH,Tu,Sb,S4⟩ ⟨E1,CD,Fe,ES,Fb⟩ ⟨PQ,Ls,Qk,Pd,P9⟩ ⟨Lv,HB,LX,K3,LN⟩ ⟨E2,CF,Ff,ET,Fc⟩ ⟨Lw,HC,LY,K4,LO⟩ ⟨PN,Lr,Qj,Pc,P8⟩ ⟨Lu,HA,LW,K2,LM⟩ ⟨SR,PJ,Tv,Sd,S5⟩ ⟨HE,EY,HP,Hq,HM⟩ ⟨SU,PL,Tz,Sf,S8⟩ ⟨PM,Lq,Qi,Pb,Po,P7⟩ ⟨SO,PF,Tt,Sa,Ss,S1⟩ ⟨V3,SM,Wq,VD,VR,Wf⟩
 exact Vy F3 T TF TS ⟨mk,Jc.1,Jc.2,kc⟩ Tw S6 ⟨V2,SK,Wp,VC,VQ,We⟩ ⟨V4,SN,Ww,VJ,VX,Wl⟩
end Sk
open PySem PySem.W PyProof.Rows
set_option maxRecDepth 100000 in
set_option maxHeartbeats 0 in
theorem PySem.Challenge.cw_soundkin_s01_answers_holds : PySem.Challenge.rw_soundkin_s01_answers.Holds := by
 w_on;k_headS;(case hw=>exact ⟨[.list [.int 0,.int 2]],by decide +kernel,by decide +kernel⟩)
 k_fillS
 refine L2.GQ (r:=PySem.Challenge.rw_soundkin_s01_answers) (k:=16) (CX:=L2.fB) (ps:=["calls"]) (sp:=Sk.ME) (by decide +kernel) rfl rfl ⟨rfl,by decide,by decide⟩ (fun w h Y=>PySem.W.kIn_of Y) ?F ?S (fun _ _ _ _ z=>z)
 case F =>
  intro w mg fa h Y KX G hmg
  refine' Sk.all_mk KX G hmg ?aC ?a3 ?l3 ?c3 ?k3 ?pg ?hd ?po ?sa ?mk ?kc ?rA ?Gm ?B9 ?B8 ?rm ?GF ?Cp ?y1 ?GG ?wF ?GC ?uo ?Cq ?yY ?uq ?yZ ?Co ?um ?yX ?wD ?GD ?wC ?GH ?oK ?vE ?sk ?vM ?vL ?sx ?sr ?vO ?oI ?vC ?vG ?sD ?sA ?oJ ?su ?oF ?sq ?lO ?sF ?Ap ?sE ?Ao ?vK ?An ?vH ?Aq ?Ar ?vF ?oH ?sC ?vJ ?sv ?oG ?sy ?vD ?vN ?sP ?uj ?nS ?yi ?js ?k9 ?mE ?wB ?uh ?rH ?iU ?pX ?pW ?lh ?yW ?GB ?yV ?Gx ?ui ?GA ?yU ?uk ?Cn ?Gy ?Cm ?Gz ?yT ?uD ?Nf ?Nd ?Dr ?qW ?Io ?vP ?Ct ?As ?Ds ?mY ?Dq ?rJ ?GI ?TS
  (case aC=>k_is)
  (case a3=>k_is)
  (case l3=>k_is)
  (case c3=>k_is)
  (case k3=>k_is)
  (case pg=>k_is)
  (case hd=>k_is)
  (case po=>k_is)
  (case sa=>k_is)
  (case mk=>k_is)
  (case kc=>k_is)
  (case rA=>k_is)
  (case Gm=>k_is)
  (case B9=>k_is)
  (case B8=>k_is)
  (case rm=>k_is)
  case GF=>exact Sk.MF.mk (by k_is) (by k_is) (by k_is) (by k_is) (by k_is)
  case Cp=>exact Sk.MF.mk (by k_is) (by k_is) (by k_is) (by k_is) (by k_is)
  case y1=>exact Sk.MF.mk (by k_is) (by k_is) (by k_is) (by k_is) (by k_is)
  case GG=>exact Sk.MF.mk (by k_is) (by k_is) (by k_is) (by k_is) (by k_is)
  case wF=>exact Sk.MF.mk (by k_is) (by k_is) (by k_is) (by k_is) (by k_is)
  case GC=>exact Sk.MF.mk (by k_is) (by k_is) (by k_is) (by k_is) (by k_is)
  case uo=>exact Sk.MF.mk (by k_is) (by k_is) (by k_is) (by k_is) (by k_is)
  case Cq=>exact Sk.MF.mk (by k_is) (by k_is) (by k_is) (by k_is) (by k_is)
  case yY=>exact Sk.MF.mk (by k_is) (by k_is) (by k_is) (by k_is) (by k_is)
  case uq=>exact Sk.MF.mk (by k_is) (by k_is) (by k_is) (by k_is) (by k_is)
  case yZ=>exact Sk.MF.mk (by k_is) (by k_is) (by k_is) (by k_is) (by k_is)
  case Co=>exact Sk.MF.mk (by k_is) (by k_is) (by k_is) (by k_is) (by k_is)
  case um=>exact Sk.MF.mk (by k_is) (by k_is) (by k_is) (by k_is) (by k_is)
  case yX=>exact Sk.MF.mk (by k_is) (by k_is) (by k_is) (by k_is) (by k_is)
  case wD=>exact Sk.MF.mk (by k_is) (by k_is) (by k_is) (by k_is) (by k_is)
  case GD=>exact Sk.MF.mk (by k_is) (by k_is) (by k_is) (by k_is) (by k_is)
  case wC=>exact Sk.MF.mk (by k_is) (by k_is) (by k_is) (by k_is) (by k_is)
  case GH=>exact Sk.MF.mk (by k_is) (by k_is) (by k_is) (by k_is) (by k_is)
  case oK=>exact Sk.FF.mk KX G (by k_is) (by k_is) (by k_is) (by k_is)
  case vE=>exact Sk.FF.mk KX G (by k_is) (by k_is) (by k_is) (by k_is)
  case sk=>exact Sk.FF.mk KX G (by k_is) (by k_is) (by k_is) (by k_is)
  case vM=>exact Sk.FF.mk KX G (by k_is) (by k_is) (by k_is) (by k_is)
  case vL=>exact Sk.FF.mk KX G (by k_is) (by k_is) (by k_is) (by k_is)
  case sx=>exact Sk.FF.mk KX G (by k_is) (by k_is) (by k_is) (by k_is)
  case sr=>exact Sk.FF.mk KX G (by k_is) (by k_is) (by k_is) (by k_is)
  case vO=>exact Sk.FF.mk KX G (by k_is) (by k_is) (by k_is) (by k_is)
  case oI=>exact Sk.FF.mk KX G (by k_is) (by k_is) (by k_is) (by k_is)
  case vC=>exact Sk.FF.mk KX G (by k_is) (by k_is) (by k_is) (by k_is)
  case vG=>exact Sk.FF.mk KX G (by k_is) (by k_is) (by k_is) (by k_is)
  case sD=>exact Sk.FF.mk KX G (by k_is) (by k_is) (by k_is) (by k_is)
  case sA=>exact Sk.FF.mk KX G (by k_is) (by k_is) (by k_is) (by k_is)
  case oJ=>exact Sk.FF.mk KX G (by k_is) (by k_is) (by k_is) (by k_is)
  case su=>exact Sk.FF.mk KX G (by k_is) (by k_is) (by k_is) (by k_is)
  case oF=>exact Sk.FF.mk KX G (by k_is) (by k_is) (by k_is) (by k_is)
  case sq=>exact Sk.FF.mk KX G (by k_is) (by k_is) (by k_is) (by k_is)
  case lO=>exact Sk.FF.mk KX G (by k_is) (by k_is) (by k_is) (by k_is)
  case sF=>exact Sk.FF.mk KX G (by k_is) (by k_is) (by k_is) (by k_is)
  case Ap=>exact Sk.FF.mk KX G (by k_is) (by k_is) (by k_is) (by k_is)
  case sE=>exact Sk.FF.mk KX G (by k_is) (by k_is) (by k_is) (by k_is)
  case Ao=>exact Sk.FF.mk KX G (by k_is) (by k_is) (by k_is) (by k_is)
  case vK=>exact Sk.FF.mk KX G (by k_is) (by k_is) (by k_is) (by k_is)
  case An=>exact Sk.FF.mk KX G (by k_is) (by k_is) (by k_is) (by k_is)
  case vH=>exact Sk.FF.mk KX G (by k_is) (by k_is) (by k_is) (by k_is)
  case Aq=>exact Sk.FF.mk KX G (by k_is) (by k_is) (by k_is) (by k_is)
  case Ar=>exact Sk.FF.mk KX G (by k_is) (by k_is) (by k_is) (by k_is)
  case vF=>exact Sk.FF.mk KX G (by k_is) (by k_is) (by k_is) (by k_is)
  case oH=>exact Sk.FF.mk KX G (by k_is) (by k_is) (by k_is) (by k_is)
  case sC=>exact Sk.FF.mk KX G (by k_is) (by k_is) (by k_is) (by k_is)
  case vJ=>exact Sk.FF.mk KX G (by k_is) (by k_is) (by k_is) (by k_is)
  case sv=>exact Sk.FF.mk KX G (by k_is) (by k_is) (by k_is) (by k_is)
  case oG=>exact Sk.FF.mk KX G (by k_is) (by k_is) (by k_is) (by k_is)
  case sy=>exact Sk.FF.mk KX G (by k_is) (by k_is) (by k_is) (by k_is)
  case vD=>exact Sk.FF.mk KX G (by k_is) (by k_is) (by k_is) (by k_is)
  case vN=>exact Sk.FF.mk KX G (by k_is) (by k_is) (by k_is) (by k_is)
  case sP=>exact Sk.NN.mk KX G (by k_is)
  case uj=>exact Sk.NN.mk KX G (by k_is)
  case nS=>exact Sk.NN.mk KX G (by k_is)
  case yi=>exact Sk.NN.mk KX G (by k_is)
  case js=>exact Sk.NN.mk KX G (by k_is)
  case k9=>exact Sk.NN.mk KX G (by k_is)
  case mE=>exact Sk.NN.mk KX G (by k_is)
  case wB=>exact Sk.NN.mk KX G (by k_is)
  case uh=>exact Sk.NN.mk KX G (by k_is)
  case rH=>exact Sk.NN.mk KX G (by k_is)
  case iU=>exact Sk.NN.mk KX G (by k_is)
  case pX=>exact Sk.NN.mk KX G (by k_is)
  case pW=>exact Sk.NN.mk KX G (by k_is)
  case lh=>exact Sk.NN.mk KX G (by k_is)
  case yW=>exact Sk.NN.mk KX G (by k_is)
  case GB=>exact Sk.NN.mk KX G (by k_is)
  case yV=>exact Sk.NN.mk KX G (by k_is)
  case Gx=>exact Sk.NN.mk KX G (by k_is)
  case ui=>exact Sk.NN.mk KX G (by k_is)
  case GA=>exact Sk.NN.mk KX G (by k_is)
  case yU=>exact Sk.NN.mk KX G (by k_is)
  case uk=>exact Sk.NN.mk KX G (by k_is)
  case Cn=>exact Sk.NN.mk KX G (by k_is)
  case Gy=>exact Sk.NN.mk KX G (by k_is)
  case Cm=>exact Sk.NN.mk KX G (by k_is)
  case Gz=>exact Sk.NN.mk KX G (by k_is)
  case yT=>exact Sk.NN.mk KX G (by k_is)
  case uD=>exact c8 KX G (by k_is)
  case Nf=>exact c8 KX G (by k_is)
  case Nd=>exact c8 KX G (by k_is)
  case Dr=>exact c8 KX G (by k_is)
  case qW=>exact c8 KX G (by k_is)
  case Io=>exact c8 KX G (by k_is)
  case vP=>exact c8 KX G (by k_is)
  case Ct=>exact c8 KX G (by k_is)
  case As=>exact c8 KX G (by k_is)
  case Ds=>exact c8 KX G (by k_is)
  case mY=>exact c8 KX G (by k_is)
  case Dq=>exact c8 KX G (by k_is)
  case rJ=>exact c8 KX G (by k_is)
  case GI=>exact c8 KX G (by k_is)
  case TS =>
   refine' Sk.Kw KX G ?a ?l ?l0 ?l1 ?l2 ?l3 ?l4 ?l5 ?l6 ?l7 ?l8 ?l9 ?l10 ?l11 ?l12 ?l13
   (case a=>k_is);(case l=>k_is);(case l0=>k_is);(case l1=>k_is);(case l2=>k_is);(case l3=>k_is);(case l4=>k_is);(case l5=>k_is);(case l6=>k_is);(case l7=>k_is);(case l8=>k_is);(case l9=>k_is);(case l10=>k_is);(case l11=>k_is);(case l12=>k_is);(case l13=>k_is)
 case S =>
  intro K H xs a hO hwi hask hx
  cases hx with
  | cons h1 h2 =>
   cases h2
   cases h1 with
   | lst hs ha =>
    have e:=L2.Jm a.1 _ ha
    subst e
    exact ⟨_,a.1,rfl,hs,hask,fun H' p hp=>.lst (L2.cG.of hp) (L2.Js _)⟩
#print axioms PySem.Challenge.cw_soundkin_s01_answers_holds
