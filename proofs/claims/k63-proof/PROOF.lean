import PyProof.Rows.All
import Wide.All
import OpenK.AllK
import Wide.FinOn
import Lean
import PyProof.EqAt
import PyProof.EqKinds
import PyProof.TupleCall
import KE.KNest
import PyProof.NeKinds
import PyProof.IsiSeqPairs
import PyProof.IsiNone
import KE.KSortTup
import KE.KRevSl
import PyProof.Rows.SortRuns
import KE.KLam
import PyProof.Conv_int_bool
import PySem.Challenge.RW_roofpost_k63_few_stretches_told
set_option Elab.async false
set_option linter.all false
open Array (toList)
open List (forIn_nil length map sum tail_cons take_zero)
open List.Pairwise (of_map)
open List.Perm (append_right)
open Option (getD_none map_some)
open PyProof.Rows.SortSt (mk')
open PySem.Builtin.Frozenset (newClass slot0 updateFrom)
open PySem.Builtin.List (listLengthHint listTouch)
open PySem.Builtin.Range (rangeSize)
open PySem.Builtin.Slice (sliceApplied)
open PySem.Builtin.SmallTypes (stopIteration)
open PySem.Data (fields seq)
open PySem.IsiPair (bool_bool bool_int bool_list bool_str int_bool int_list int_str int_tuple str_bool str_int str_list str_str str_tuple)
open PySem.Obj (putSet)
open PySem.Paired (snoc)
open PySem.SeqAt (ne_of_list_tuple)
open PySem.Value (type)
open PySem.W (codeIn kla_fn methodObj noTabs nsIn)
open PySem.Walks (dictKeys)
set_option maxRecDepth 100000
open PySem renaming wpAny_bind→a_,Value→b_,Shared→d_,wpAny_pure→e_,starEach→f_,Addr→h_,model→n_,wpAny→w_,sizeLine→x_,Program→z_,World→I_,wpAny_holding→Kz,Heap→KM,Expr→KQ,eval→KR,wpAny_newObj_type→KY,plainId_quiet→KZ,backTo→K0,wpAny_updateSeq→K2,wpAny_callSpecial?_slot→K8,wpAny_call_entry→K_,codeAny_builtin→La,sizeLine_eq→Lb,mainGlobals→Lj,wpAny_mono→Lk,wpAny_seqItems→Ln,wpAny_letGo→Lp,NameKind→Ly,wpAny_field→LF,wpAny_of_eq→LH,SetTable→LJ,wpAny_rule→LM,wpAny_Call_Name_kw→LW,wpAny_tryCatch→L6,wpAny_truthy_bool→L7,foldedSetIterable→L8,Stmt→L9,assignEach→L_,bootBuiltins→Mb,Around→Mc,rawInt→Md,Builtin→Me,wpAny_attempt→Mg,compareOp→Mh,codeAny→Ml,pyNext→Mn,swapsWith→Mo,sysModules→My,behindInMarks→Mz,IsPair→MB,binaryOp→MH,cLine→MN,wpAny_setField_rec→MP,bindArgs→MU,builtinLookup_eq_fast→MZ,wpAny_setState_of→M0,codeAny_mono→M4,wpAny_isInstance→M5,updateSeq→M9,wpAny_newList→Ng,wpAny_passesOwn→Nk,sliceBounds→No,Scope→Nu,holding→Nw,wpAny_pyIter_list→Nx,wpAny_setField→Ny,wpAny_newTuple→NA,builtinsNs→NK,hashInt→NQ,attributeBase→NR,FuncData→NW,assign→N9,letOwnedTupleGo→N_,typeLookup_type→Of,wpAny_setEntries_of→Oi,codeAmong→Os,seqItems?→Ov,isSubtype_stop→OC,wpAny_pyIter_dict→OS,swapsWithSole→OX,swappedStores→OY,wpAny_comprehension_free→O0,noFill_tuple_add→O4,wpAny_pyIter_zip→O_,pickOrder→Pa,wpAny_askSetting→Pb,checkBuiltinCall→Pc,intKind→Pl,wpAny_typeOf→Pp,closureFor→Pv,wpAny_execs_nil→PL,IsZip→PP,wpAny_specialOf→PQ,wpAny_isTrue_Compare1→PR,recursionLimit→P3,wpAny_newFunctionEnv→P6,firstArgMember→P7,wpAny_updateSeq_pair→P8,richCompare→P9,codeAny_call_builtin→Qh,tupleKind→Ql,TriplesOk→Qm,callerA→Qo,wpAny_standAt→QE,seq_tuple_add→QF,pyIter→QH,wpAny_call→QI,IsPart→QM,tupleKind_room_in1→QP,wpAny_pyIter_tuple→QQ,argsOk→QV,wpAny_assign_Name→Q6,again→Q7,rule→Q8,BindsTo→Q9,concat_meets→Q_,slot_list_getitem→Ra,Keyword→Rb,valueAt→Re,wpAny_pyIter_enum→Ri,wpAny_pyIter_slot→Rq,wpAny_storeSet_of→Rv,Result→Ry,seqIndex_of→RE,keywordEach→RF,unsupported→RK,getItem→RN,collect→RP,isTrue→RQ,wpAny_Name→RR,Walks→RS,bindL→RV,bindC→RW,typeLookup→RY,call_meets→RZ,atKey→R0,ZipApart→R5,checkCount→R9,entryFor→Sc,defaultsOf→Se,standAt→Sg,setItem→Si,typeOf→Sj,setNext→Sn
open PySem.Heap renaming get?_push_of_some→c_,get?_push_size→t_,get?_update_other→C_,lt_size→F_,get?_update_self→KL,size_push→LY,size_update→Qb
open List renaming mem_cons_self→g_,getElem?_eq_getElem→i_,mem_cons_of_mem→j_,size_toArray→l_,mem_cons→m_,getD_eq_getElem?_getD→q_,length_map→y_,mem_singleton→A_,getElem?_eq_some_iff→D_,getElem?_map→E_,pairwise_cons→G_,map_cons→KB,drop_eq_getElem_cons→KC,length_append→KJ,length_replicate→KP,mem_append_right→KW,take_of_length_le→K3,length_take→K7,length_cons→Lc,getElem?_set_ne→Lf,mem_append→Lg,replicate→Lh,take_append_drop→Li,mem_of_mem_take→Lo,mem_of_mem_drop→Lv,exists_cons_of_length_eq_add_one→Lw,getElem?_append_right→Lx,length_reverse→LA,mem_of_getElem?→LB,append_assoc→LC,append_nil→LD,getElem_mem→LG,all_eq_true→LI,drop_eq_nil_of_le→LN,not_mem_nil→LR,mem_map→LS,getElem?_eq_none→LU,length_eq_zero_iff→LX,getElem?_append_left→L0,length_drop→L3,Pairwise→Mf,perm_append_comm→Mi,foldl_cons→Mk,range→Mm,getElem?_set_self→Mr,drop_of_length_le→Mv,pairwise_iff_getElem→Mx,length_set→MA,map_append→MD,getElem?_replicate→MJ,getElem?_cons_succ→MK,drop_append_of_le_length→MO,take_add_one→MR,map_map→MS,mem_append_left→MT,nodup_cons→M1,drop_succ_cons→M2,mem_range→M3,take_take→M',flatMap_cons→M_,extract_eq_take_drop→Na,getElem?_drop→Nd,sum_cons→Nj,pairwise_mergeSort→Np,pairwise_singleton→Nr,filter_eq_nil_iff→NG,zip_cons_cons→NS,drop_length→NX,getElem_map→N0,getElem_toArray→N2,take_length→N6,take_eq_nil_iff→N7,filter_cons→N8,mem_iff_getElem→Ob,pairwise_append→Og,mergeSort_perm→Oh,reverse_cons→Oj,length_range→Ol,foldl_append→Oq,drop_drop→Ot,drop_take→Ou,filterMap_cons→Ow,mem_filterMap→Oy,find?_cons→OA,append_of_mem→OD,map_drop→OG,map_congr_left→OH,filter_eq_self→OI,getElem?_zip_eq_some→OJ,ext_getElem→OO,getElem_take→OR,reverse_perm→OT,map_reverse→OU,getLast_cons→OV,nodup_append→OW,getElem_range→OZ,length_erase_of_mem→O3,drop_zero→O7,lookup_cons→O8,zipIdx_cons→O',drop_append→Pg,cons_append→Ph,mem_filter→Pn,take_sublist→Po,forIn_cons→Pu,nil_append→Pw,range_succ_eq_map→Px,pairwise_map→PD,pairwise_lt_range→PF,getElem_drop→PH,sum_append→PK,length_singleton→PU,getElem?_reverse→PX,pairwise_reverse→PY,drop_eq_nil_iff→P_,take_append→Qg,map_take→Qi,drop_one→Qj,reverse_reverse→Qk,take_succ_cons→Qr,getElem_of_mem→Qt,getD_cons_succ→Qx,flatMap_append→Qy,filter_sublist→Qz,length_pos_iff→QA,map_eq_nil_iff→QC,getElem?_take→QY,map_mergeSort→Q5,any_cons→Rc,drop_sublist→Rt,set_set→RO,of_mem_zip→RX,all_cons→R4,length_zip→R6,Nodup→Sa
open PyProof.Rows renaming wpS_bind→k_,Keyed→o_,arrOf→p_,pendingOf→r_,wpS_pure→s_,SortSt→H_,callWith_type1→KF,seqObj→K9,wpS_forRange→Ll,wpS_mono→Lr,oneType'→LO,IntsAre→LZ,get?_update_seq→Mp,listUpdate_at→MC,slot_tuple_getitem→ME,wpS_modify→MQ,elem'→Nh,K→NF,callWith_builtin1→NL,reverseSlice'→NV,failedOf→NY,seqEpoch_at→NZ,entry_list_sort→Oc,slot_list_sort→Om,wpS_get→Op,envOfC→Oz,gallopOf→OE,AllBare→OL,wpS_lift→Pe,subscriptTail_builtinR→Pq,listItems_at→PB,mirror→PJ,pairsOf→Qq,getElem?_mirror_all→Qs,Keyed→QG,setPending→QX,plain_sorted→Rk,entry_sorted→Rl,mergeAt'→Ru,boot_list→RA,sortRuns'→RB,kind_sorted→RH,boot_sorted→RI,Call_→RT,boot_range→RU,keyKind'→R8,setArr→Sd,IsTup→Sf
open Array renaming getElem?_eq_getElem→u_,length_toList→Ky,getElem?_toList→K4,getElem?_eq_some_iff→K5,perm_iff_toList_perm→Ld,toList_append→Lz,getD_eq_getD_getElem?→LV,getElem?_extract→M6,getElem?_eq_none→M7,mem_iff_getElem?→M8,mem_of_getElem?→NJ,toArray_toList→N1,toList_push→N3,toList_extract→N4,toList_reverse→N5,size_push→Oe,size_extract→Oo,toList_setIfInBounds→OF,getElem_mem→ON,Perm→Pz,getElem_toList→Qa,getElem_of_mem→Qc,getElem?_push→Qv,forIn_toList→QZ,ext→RC,getD→Sr
open Bool renaming false_ne_true→v_,false_eq_true→LK,and_eq_true→LQ,not_eq_true'→Mw,not_eq_false'→O2,false_and→P0,eq_false_iff→Rx
open Nat renaming le_refl→B_,lt_of_lt_of_le→J_,ne_of_lt→KI,le_add_right→K6,zero_le→K',le_trans→LL,min_eq_left→L5,lt_irrefl→MG,zero_add→MV,lt_or_ge→MW,lt_succ_of_lt→MX,ne_of_gt→Nb,add_sub_of_le→Ni,lt_of_le_of_lt→Nm,add_sub_cancel_left→Nq,le_of_lt→Nv,succ_ne_self→NN,lt_succ_self→NO,le_of_not_lt→O6,min_eq_right→Pf,succ_ne_zero→Pj,lt_of_succ_lt_succ→Pt,le_of_ble_eq_true→PZ,not_lt_zero→Qd,le_succ→Qp,eq_zero_or_pos→QW,lt_trans→Rg,le_of_eq→Rh,lt_trichotomy→Rm,sub_self→Ro,le_of_lt_succ→Rp,le_total→Rw,succ_pos→R_,mod_lt→Sm,not_lt→So
open Ne renaming symm→Kx
open Option.some renaming inj→KH
open Int renaming le_refl→KN,toNat_natCast→Nf,emod_lt_of_pos→ND,emod_nonneg→OP,le_of_lt→Py,sub_add_cancel→Q0
open Sum renaming inl→KU,inr→Pk
open PySem.SetTable renaming insertAt→Lq,runEnd→MY,below→NI,bits→Qu,leap→RM,turns→Su
open PySem.F renaming plain_max_loop→Ls,slot_zip_next→Ma,plain_extend_loop→MF,plain_min_loop→MM,called_set→Nn,args_zip_next_1→NB,entry_zip_next→NM,entry_max_loop→NP,slot_tuple_iterator_next→OB,args_tuple_add_2→O5,entry_tuple_add→PM,plainAttrs_list→PN,slot_enumerate_next→PV,slot_tuple_add→P4,entry_extend_loop→Qw,plain_list_iadd→Rr
open PySem.Around renaming under_plainId→Lu
open PySem.W renaming mg_none_of→LP,tabIn→Nt,keepIn→Oa,fnOf→QJ,kas_rev→Rj,kas_sort→R7,kat_lt_int→R',OpenLaw→Sk,WShape→Sl,Looks→Ss
open PySem.Obj renaming mapSeq→L4,data_mapFields→Nz,isFreed_of_fields→NH,cls_mapFields→OM
open PySem.Calls renaming spliced_cons→Mj,spliced_nil→Ms,Name_function_global→Ox,call_function_entry→OK,callWith_builtin→Pr
open Option renaming map_eq_some_iff→Mq,isSome_iff_exists→Nc,isSome_map→Rf
open PySem.Str renaming ofString→Mu
open PyProof.Rows.F renaming plain_set_update_loop→ML,entry_set_update_loop→Pi
open ForInStep renaming yield→Nl
open Nat.succ renaming inj→NC
open List.Perm renaming refl→NE,append_left→OQ
open PySem.SetTable.layClean renaming free→NU
open Classical renaming byContradiction→Od
open PySem.AutoSeq1 renaming wpAny_loadPart'→O1
open PySem.Builtin.SmallTypes renaming ownedTupleIsFree→O9,nextOf→QT
open True renaming intro→Ps
open PySem.Builtin.Slice renaming slicePlaces→P5,sliceAdjust→RD
open PySem.Builtin.List renaming listExtendWith→Qe,listTooLong→RG,listSameRef→RJ
open PySem.Data renaming cell→Qn
open PySem.Builtin.Tuple renaming tupleExact→QN
open PySem.SeqAt renaming RcNeAt→Rz,EqAt→Sq
open PySem.PassesOwn renaming never→RL
open List.Pairwise renaming imp_of_mem→Sb
open False renaming elim→Sh
local macro_rules|`(tactic|omega)=>`(tactic|first|with_reducible decide|with_reducible assumption|with_reducible (refine Nat.le_trans (m:=?x) ?p ?q;(case p=>assumption);(case q=>decide))|with_reducible (refine Int.le_trans (b:=?x) ?p ?q;(case p=>assumption);(case q=>decide))|with_reducible (refine Int.lt_of_lt_of_le (b:=?x) ?p ?q;(case p=>assumption);(case q=>decide))|with_reducible (refine Nat.lt_of_le_of_lt (m:=?x) ?p ?q;(case p=>assumption);(case q=>decide))|lia|omega (config:={}))
noncomputable section
variable{us vs af its' fT:List PySem.Value}{h base h':PySem.Heap}{g':Array PySem.GenState}{t' j n tk m x1 ep kn e1 ia ib ac bc na nb at_ jc ar kk:Nat}{d':PySem.Drawn}{ch fp:List PySem.Addr}{e tg iter ie:PySem.Expr}{fN aa:List (PySem.Addr×PySem.Obj)}{N l ns hs ms kz cs:List Int}{A:PySem.Around}{s' s2 aw:PySem.Shared}{pos aA p1 bf aH p2 py dZ tp p' bq:PySem.Pos}{op:PySem.CmpOp}{y qual:PySem.Str}{f aG l1 l2 fa S kS P':PySem.Addr}{hi:Option Int}{mg:PySem.Str->Option PySem.Value}{fd:PySem.FuncData}{ps cA:List PySem.Str}{scope:PySem.Scope}{cd pm ct oc vl vu cv:PySem.Value}{params:PySem.Arguments}{an od:Option PySem.Addr}{c8:Array (Option PySem.Value)}{items cells ao:Array PySem.Value}{T ss:List (Int×Int)}{args:List PySem.W.WData}{q:PySem.Program}{ic bp bB:List PySem.Expr}{env:PySem.Env}{C:Int->Int->Bool}{neg left:Bool}{aV:Array QG}{la lb L L':List QG}{kw:List (PySem.Str×PySem.Value)}{eB:List (PySem.Str×PySem.Addr)}
namespace L2
open PySem PySem.Spec PyProof.Rows
abbrev Key:=Sum Int Str
noncomputable def keyIs:Key->b_->Bool
 | .inl k,v=>b_.isInt k v
 | .inr x,v=>b_.isStrOf x v
noncomputable def keyH(w:I_):Key->Int
 | .inl k=>NQ k
 | .inr x=>hashStr w x
theorem qu:∀{k:Key}{v:b_},keyIs k v=true->(∃i t,k=KU i/\v=b_.int i t)\/(∃x t,k=Pk x/\v=b_.str x t)
 | .inl i,v,h=>by
  obtain⟨t,e⟩:=b_.isInt_shape (k:=i) (v:=v) h;exact .inl ⟨i,t,rfl,e⟩
 | .inr x,v,h=>by
  obtain⟨t,e⟩:=b_.isStrOf_shape (x:=x) (v:=v) h;exact .inr ⟨x,t,rfl,e⟩
theorem Hl(i:Int)(t:Tok):keyIs (.inl i) (.int i t)=true:=by simp[keyIs,b_.isInt]
theorem Ge(x:Str)(t:Tok):keyIs (.inr x) (.str x t)=true:=by simp[keyIs,b_.isStrOf]
theorem Hk(a b:Int):decide ((KU a:Key)=KU b)=(a == b):=by
 by_cases e:a=b
 ·subst e;simp
 ·have h:¬(KU a:Key)=KU b:=λq=>e (KU.inj q)
  rw[decide_eq_false h];exact(beq_eq_false_iff_ne.mpr e).symm
theorem HA(a b:Str):decide ((Pk a:Key)=Pk b)=decide (a=b):=by
 by_cases e:a=b
 ·subst e;simp
 ·have h:¬(Pk a:Key)=Pk b:=λq=>e (Pk.inj q)
  rw[decide_eq_false h,decide_eq_false e]
theorem Fy(a:Int)(b:Str):decide ((KU a:Key)=Pk b)=false:=decide_eq_false (λq=>nomatch q)
theorem FZ(a:Str)(b:Int):decide ((Pk a:Key)=KU b)=false:=decide_eq_false (λq=>nomatch q)
noncomputable def mixKind(prog:z_)(w:I_):PySem.KeyKind prog w Key where
 is:=keyIs
 hash:=keyH w
 inj:=λv a b ha hb=>by
  rcases qu ha with⟨i,t,rfl,rfl⟩ | ⟨x,t,rfl,rfl⟩
  ·rcases qu hb with⟨j,u,rfl,e⟩ | ⟨y,u,rfl,e⟩
   ·injection e with e1 _;rw[e1]
   ·exact nomatch e
  ·rcases qu hb with⟨j,u,rfl,e⟩ | ⟨y,u,rfl,e⟩
   ·exact nomatch e
   ·injection e with e1 _;rw[e1]
 byValue:=λk v h=>by
  rcases qu h with⟨i,t,rfl,rfl⟩ | ⟨x,t,rfl,rfl⟩<;>rfl
 pyHash:=λhv h=>by
  rcases qu hv with⟨i,t,rfl,rfl⟩ | ⟨x,t,rfl,rfl⟩
  ·exact wpAny_pyHash_int h
  ·exact wpAny_pyHash_str h
 eqBool:=λhu hv h=>by
  rcases qu hu with⟨i,t,rfl,rfl⟩ | ⟨x,t,rfl,rfl⟩
  ·rcases qu hv with⟨j,u,rfl,rfl⟩ | ⟨y,u,rfl,rfl⟩
   ·rw[Hk] at h;exact wpAny_eqBool_int h
   ·rw[Fy] at h;exact SeqAt.EqAt.int_str i t y u _ _ _ _ h
  ·rcases qu hv with⟨j,u,rfl,rfl⟩ | ⟨y,u,rfl,rfl⟩
   ·rw[FZ] at h;exact SeqAt.EqAt.str_int x t j u _ _ _ _ h
   ·rw[HA] at h;exact wpAny_eqBool_str h
 «strs»:=λk x t v h=>by
  rcases qu h with⟨i,u,rfl,e⟩ | ⟨y,u,rfl,e⟩
  ·exact nomatch e
  ·injection e with e1 _
   subst e1;cases v<;>rfl
theorem CG(prog:z_)(w:I_)(i:Int)(t:Tok):(mixKind prog w).is (.inl i) (.int i t)=true:=Hl i t
theorem CP(prog:z_)(w:I_)(x:Str)(t:Tok):(mixKind prog w).is (.inr x) (.str x t)=true:=Ge x t
inductive V where
 | non | bl (b:Bool) | int (i:Int) | str (x:Str) | byt (b:Array UInt8) | flt (b:UInt64) | ref (a:h_) | ty (n:String)
 deriving DecidableEq
def RelV:V->b_->Prop
 | .non,u=>u=b_.none
 | .bl b,u=>u=b_.bool b
 | .int i,u=>∃t,u=b_.int i t
 | .str x,u=>∃t,u=b_.str x t
 | .byt b,u=>∃t,u=b_.bytes b t
 | .flt b,u=>∃t,u=b_.float b t
 | .ref a,u=>u=b_.ref a
 | .ty n,u=>u=type n
abbrev Vals:List V->List b_->Prop:=Paired RelV
theorem Vals.length{xs:List V}(r:Vals xs us):xs.length=us.length:=Paired.length r
theorem Vals.get:∀{xs:List V}{us:List b_}{i:Nat}{x:V},Vals xs us->xs[i]?=some x->∃u,us[i]?=some u/\RelV x u
 | _,_,_,_,.nil,e=>by simp at e
 | _,_,0,_,.cons r _,e=>by simp at e;subst e;exact⟨_,rfl,r⟩
 | _,_,i+1,x,.cons _ t,e=>by
  obtain⟨u,h1,h2⟩:=Vals.get (i:=i) (x:=x) t (by simpa using e);exact⟨u,by simpa using h1,h2⟩
theorem Vals.set{x:V}{u:b_}(r:RelV x u):∀{xs:List V}{us:List b_} (i:Nat),Vals xs us->Vals (xs.set i x) (us.set i u)
 | _,_,_,.nil=>.nil
 | _,_,0,.cons _ t=>.cons r t
 | _,_,i+1,.cons q t=>.cons q (Vals.set r i t)
theorem Vals.append:∀{xs ys:List V}{us ws:List b_},Vals xs us->Vals ys ws->Vals (xs++ys) (us++ws)
 | _,_,_,_,.nil,s=>s
 | _,_,_,_,.cons r t,s=>.cons r (Vals.append t s)
theorem Vals.take:∀{xs:List V}{us:List b_} (n:Nat),Vals xs us->Vals (xs.take n) (us.take n)
 | _,_,0,_=>.nil
 | _,_,_+1,.nil=>.nil
 | _,_,n+1,.cons r t=>.cons r (Vals.take n t)
theorem Vals.drop:∀{xs:List V}{us:List b_} (n:Nat),Vals xs us->Vals (xs.drop n) (us.drop n)
 | _,_,0,r=>r
 | _,_,_+1,.nil=>.nil
 | _,_,n+1,.cons _ t=>Vals.drop n t
def RelO:Option V->Option b_->Prop
 | some v,some u=>RelV v u
 | none,none=>True
 | _,_=>False
def KV{κ:Type}:List (κ×V)->List (κ×b_)->Prop:=Paired λ(p:κ×V) (q:κ×b_)=>p.1=q.1/\RelV p.2 q.2
noncomputable def kV:Key->V
 | .inl i=>.int i
 | .inr x=>.str x
inductive HO where
 | lst (xs:List V)
 | tup (xs:List V)
 | dK (aj:List (Key×V)) | dT (aj:List (List Key×V))
 | set (S:Int->Bool) (n:Nat)
 | ins (C dx:h_) (fs:List (Str×V))
 | own (x:h_)
 | xd (fs:List (Str×V))
 | met (f x:h_)
 | rng (lo hi:Int)
 | frz (o:Obj) (u:HO)
 | tbl (q:Str)
 | ext (φ:KM->Prop)
abbrev Hp:=h_->Option HO
noncomputable def upd(H:Hp)(a:h_)(o:HO):Hp:=λb=>if b=a then some o else H b
theorem pA{H:Hp}{a:h_}{o:HO}:upd H a o a=some o:=by unfold upd;rw[if_pos rfl]
theorem po{H:Hp}{a b:h_}{o:HO}(h:b≠a):upd H a o b=H b:=by unfold upd;rw[if_neg h]
theorem BX{H:Hp}{a b:h_}{o u:HO}(h:H a=some o)(h':H b=some u)(d:o≠u):a≠b:=by
 intro e;subst e;rw[h] at h';exact d (KH h')
theorem qi{H:Hp}{a b:h_}{o:HO}(h:H a=some o)(h':H b=none):a≠b:=by
 intro e;subst e;rw[h] at h';cases h'
section
variable (P:z_)(w:I_)
def ObjOk(H:Hp)(h:KM)(a:h_):HO->Prop
 | .lst xs=>xs.length<=x_/\∃(af:List b_) (n:Nat),Vals xs af/\h.get? a=some { cls:=.type "list", data:=.seq af.toArray n }
 | .tup xs=>xs.length<=x_/\∃af:List b_,Vals xs af/\Sf h a af.toArray
 | .dK aj=>aj.length<=x_/\(a == My)=false/\∃vs,KV aj vs/\h.DictOf (mixKind P w) a vs
 | .dT aj=>aj.length<=x_/\(a == My)=false/\∃xs:List (List Key×h_×b_),
   Paired (λ(p:List Key×V) (q:List Key×h_×b_)=>p.1=q.1/\H q.2.1=some (.tup (p.1.map kV))/\RelV p.2 q.2.2) aj xs ∧
   ∃o es ep,h.get? a=some o/\o.ExactDict/\o.data=.dict es ep/\es.toList=xs.map (entryOfKey (Ql (mixKind P w)))/\(xs.map (·.1)).Nodup
 | .set S n=>h.SetOf (Pl P w) a S n
 | .ins C dx fs=>H dx=some (.own a)/\fs.length<=1000/\dx≠a/\h.get? a=some (PySem.W.instObj C dx) ∧
   ∃mA,h.Ns1 dx mA/\(∀f,RelO (fs.lookup f) (mA f))/\PySem.Within mA (fs.map (·.1))
 | .own _=>∃o,h.get? a=some o
 | .xd fs=>∃mA,h.Ns1 a mA/\∀f,RelO (fs.lookup f) (mA f)
 | .rng lo hi=>∃t u v,h.get? a=some { cls:=.type "range", data:=.fields #[.int lo t,.int hi u,.int 1 v] }
 | .frz o u=>h.get? a=some o/\ObjOk H h a u
 | .tbl q=>∃ps:Array b_,h.get? a=some { cls:=.none,data:=.fields ps }/\Qm ps.toList/\∀pos cv,Os pos ps.toList=some cv->∃c oc vs t,cv=.ref c/\H c=some (.frz oc (.own a))/\oc.data=.fields vs/\vs[1]?=some (.str q t)
 | .met f x=>h.get? a=some (methodObj (.ref f) (.ref x))
 | .ext φ=>φ h/\(∃o,h.get? a=some o)/\∀h1 h2:KM,φ h1->(∀o,h1.get? a=some o->h2.get? a=some o)->φ h2
def HOk(H:Hp)(h:KM):Prop:=∀a o,H a=some o->ObjOk P w H h a o
end
section
variable{P:z_}{w:I_}{H H':Hp}{a:h_}{o:HO}
theorem ObjOk.lt(x:ObjOk P w H h a o):a < h.objs.size:=by
 cases o with
 | lst xs=>obtain⟨_,_,_,_,e⟩:=x;exact F_ e
 | tup xs=>obtain⟨_,_,_,p⟩:=x;exact p.lt
 | dK aj=>obtain⟨_,_,_,_,o,_,_,e,_⟩:=x;exact F_ e
 | dT aj=>obtain⟨_,_,_,_,o,_,_,e,_⟩:=x;exact F_ e
 | set S n=>obtain⟨o,_,_,_,e,_⟩:=x;exact F_ e
 | ins C dx fs=>obtain⟨_,_,_,e,_⟩:=x;exact F_ e
 | own y=>obtain⟨_,e⟩:=x;exact F_ e
 | xd fs=>obtain⟨_,⟨_,_,_,e,_⟩,_⟩:=x;exact F_ e
 | rng lo hi=>obtain⟨_,_,_,e⟩:=x;exact F_ e
 | frz ob u=>obtain⟨e,_⟩:=x;exact F_ e
 | tbl q=>obtain⟨_,e,_⟩:=x;exact F_ e
 | met f y=>exact F_ (show h.get? a=some _ from x)
 | ext φ=>obtain⟨_,⟨_,e⟩,_⟩:=x;exact F_ e
theorem Paired.mapP{α β:Type}{F G:α->β->Prop}:∀{l₁:List α}{l₂:List β},Paired F l₁ l₂->(∀a b,F a b->G a b)->Paired G l₁ l₂
 | _,_,.nil,_=>.nil
 | _,_,.cons r t,f=>.cons (f _ _ r) (Paired.mapP t f)
theorem ObjOk.stay(x:ObjOk P w H h a o)(k:∀b u,(b=a\/H b=some (.own a))->h.get? b=some u->h'.get? b=some u)(ho:∀b,H b=some (.own a)->H' b=some (.own a))(ht:∀b xs,H b=some (.tup xs)->H' b=some (.tup xs))(hz:∀b o u,H b=some (.frz o u)->H' b=some (.frz o u)):ObjOk P w H' h' a o:=by
 induction o with
 | lst xs=>obtain⟨z,af,n,r,e⟩:=x;exact⟨z,af,n,r,k _ _ (.inl rfl) e⟩
 | tup xs=>obtain⟨z,af,r,ob,e,c⟩:=x;exact⟨z,af,r,ob,k _ _ (.inl rfl) e,c⟩
 | dK aj=>obtain⟨z,y,vs,r,ob,es,ep,e,c⟩:=x;exact⟨z,y,vs,r,ob,es,ep,k _ _ (.inl rfl) e,c⟩
 | dT aj =>
  obtain⟨z,y,xs,r,ob,es,ep,e,c⟩:=x;exact⟨z,y,xs,Paired.mapP r λp q z=>⟨z.1,ht _ _ z.2.1,z.2.2⟩,ob,es,ep,k _ _ (.inl rfl) e,c⟩
 | set S n=>obtain⟨ob,es,ep,t,e,c⟩:=x;exact⟨ob,es,ep,t,k _ _ (.inl rfl) e,c⟩
 | ins C dx fs =>
  obtain⟨d,z,ne,e,mA,⟨od,es,ep,e2,c⟩,r⟩:=x;exact⟨ho _ d,z,ne,k _ _ (.inl rfl) e,mA,⟨od,es,ep,k _ _ (.inr d) e2,c⟩,r⟩
 | own y=>obtain⟨ob,e⟩:=x;exact⟨ob,k _ _ (.inl rfl) e⟩
 | xd fs=>obtain⟨mA,⟨od,es,ep,e,c⟩,r⟩:=x;exact⟨mA,⟨od,es,ep,k _ _ (.inl rfl) e,c⟩,r⟩
 | rng lo hi=>obtain⟨t,u,v,e⟩:=x;exact⟨t,u,v,k _ _ (.inl rfl) e⟩
 | frz ob u ih=>obtain⟨e,q⟩:=x;exact⟨k _ _ (.inl rfl) e,ih q⟩
 | tbl q =>
  obtain⟨ps,e,t,c⟩:=x;refine⟨ps,k _ _ (.inl rfl) e,t,λpos cv h=>?_⟩;obtain⟨c,oc,vs,t,e1,e2,e3⟩:=c pos cv h;exact⟨c,oc,vs,t,e1,hz _ _ _ e2,e3⟩
 | met f y =>
  have e:h.get? a=some (methodObj (.ref f) (.ref y)):=x;show h'.get? a=some (methodObj (.ref f) (.ref y));exact k a _ (.inl rfl) e
 | ext φ=>obtain⟨p,⟨o,e⟩,st⟩:=x;exact⟨st _ _ p λo q=>k _ _ (.inl rfl) q,⟨o,k _ _ (.inl rfl) e⟩,st⟩
theorem HOk.lt(x:HOk P w H h)(e:H a=some o):a < h.objs.size:=(x a o e).lt
theorem HOk.fresh(x:HOk P w H h)(e:h.objs.size<=a):H a=none:=by
 cases q:H a with
 | none=>rfl
 | some u=>exact absurd (J_ (x.lt q) e) (MG _)
theorem HOk.kept(x:HOk P w H h)(k:∀b u,h.get? b=some u->h'.get? b=some u):HOk P w H h':=λa o e =>
 (x a o e).stay (λb u _ q=>k b u q) (λ_ q=>q) (λ_ _ q=>q) λ_ _ _ q=>q
theorem HOk.laid(x:HOk P w H h)(k:∀b u,h.get? b=some u->h'.get? b=some u)(hp:h.objs.size<=a)(new:ObjOk P w (upd H a o) h' a o):HOk P w (upd H a o) h':=λb u e=>by
 have hn:=x.fresh hp;by_cases hb:b=a
 ·subst hb;rw[pA] at e;cases e;exact new
 ·rw[po hb] at e;exact(x b u e).stay (λc v _ q=>k c v q) (λc q=>by rw[po (qi q hn)];exact q) (λc xs q=>by rw[po (qi q hn)];exact q) λc o u q=>by rw[po (qi q hn)];exact q
end
def Rd(H:Hp)(a:h_)(u:HO):Prop:=H a=some u\/∃o,H a=some (.frz o u)
theorem Rd.ok{P:z_}{w:I_}{H:Hp}{a:h_}{u:HO}(r:Rd H a u)(x:HOk P w H h):ObjOk P w H h a u:=by
 rcases r with r | ⟨o,r⟩
 ·exact x a u r
 ·obtain⟨_,q⟩:=x a _ r;exact q
def Mut:Option HO->Prop
 | some (.lst _)=>True
 | some (.dK _)=>True
 | some (.dT _)=>True
 | some (.set _ _)=>True
 | some (.ins _ _ _)=>True
 | some (.ext _)=>True
 | _=>False
section
variable{P:z_}{w:I_}{H:Hp}{x e:h_}{o':HO}
theorem HOk.write(ok:HOk P w H h)(mu:Mut (H x))(he:e=x\/H e=some (.own x))(k:∀b u,b≠e->h.get? b=some u->h'.get? b=some u)(fu:∃u,h'.get? e=some u)(new:ObjOk P w (upd H x o') h' x o'):HOk P w (upd H x o') h':=λb u q=>by
 have i6:∀c y,H c=some (.own y)->c≠x:=λc y r z=>by subst z;rw[r] at mu;exact mu
 have ki:∀c xs,H c=some (.tup xs)->c≠x:=λc xs r z=>by subst z;rw[r] at mu;exact mu
 by_cases hb:b=x
 ·subst hb;rw[pA] at q;cases q;exact new
 ·rw[po hb] at q;by_cases hbe:b=e
  ·have q':H b=some (.own x):=by
    rcases he with z | z
    ·exact absurd (hbe.trans z) hb
    ·rw[hbe];exact z
   rw[q] at q';cases q';obtain⟨v,hv⟩:=fu;exact⟨v,by rw[hbe];exact hv⟩
  ·refine(ok b u q).stay (λc v hc r=>k c v ?_ r) (λc r=>by rw[po (i6 c b r)];exact r) (λc xs r=>by rw[po (ki c xs r)];exact r) λc o u r=>by rw[po (λz=>by subst z;rw[r] at mu;exact mu)];exact r
   rcases hc with rfl | hc
   ·exact hbe
   ·rintro rfl
    rcases he with z | z
    ·exact i6 c b hc z
    ·rw[hc] at z;cases z;exact hb rfl
end
structure Un(fs ex:List h_)(H H':Hp)(h h':KM):Prop where
 keep:∀b o,h.get? b=some o->H b=none->b∉fs->b∉ex->h'.get? b=some o
 slot:∀b o,h.get? b=some o->H b=none->b∈fs->b∉ex->∃sl,h'.get? b=some { o with slots:=sl }
 free:∀b o,h.get? b=some o->H b=none->b∉ex->H' b=none
 there:∀b o,h.get? b=some o->b∉ex->∃o',h'.get? b=some o'
 tups:∀b xs,H b=some (.tup xs)->H' b=some (.tup xs)
 frzs:∀b o u,H b=some (.frz o u)->H' b=some (.frz o u)
 tbls:∀b q,H b=some (.tbl q)->H' b=some (.tbl q)
section
variable{fs mO ex jk:List h_}{H H1 H2:Hp}{h1 h2:KM}{a x e:h_}{o:HO}
theorem Un.any(u:Un fs ex H H1 h h1){b:h_}{ob:Obj}(q:h.get? b=some ob)(n:H b=none)(hx:b∉ex):∃sl,h1.get? b=some { ob with slots:=sl }:=by
 by_cases hb:b∈fs
 ·exact u.slot b ob q n hb hx
 ·exact⟨ob.slots,u.keep b ob q n hb hx⟩
theorem Un.kept(k:∀b u,h.get? b=some u->h'.get? b=some u):Un fs ex H H h h':=
 ⟨λb ob q _ _ _=>k b ob q,λb ob q _ _ _=>⟨ob.slots,k b ob q⟩,λ_ _ _ n _=>n,λb ob q _=>⟨ob,k b ob q⟩,λ_ _ q=>q,λ_ _ _ q=>q,λ_ _ q=>q⟩
theorem Un.refl:Un fs ex H H h h:=Un.kept λ_ _ q=>q
theorem Un.laid(k:∀b u,h.get? b=some u->h'.get? b=some u)(hp:h.objs.size<=a)(hn:H a=none):Un fs ex H (upd H a o) h h' where
 keep:=λb u q _ _ _=>k b u q
 slot:=λb u q _ _ _=>⟨u.slots,k b u q⟩
 free:=λb u q n _=>by rw[po (KI (J_ (F_ q) hp))];exact n
 there:=λb u q _=>⟨u,k b u q⟩
 tups:=λb xs q=>by rw[po (qi q hn)];exact q
 frzs:=λb u xs q=>by rw[po (qi q hn)];exact q
 tbls:=λb xs q=>by rw[po (qi q hn)];exact q
theorem Un.write(mu:Mut (H x))(he:e=x\/H e=some (.own x))(k:∀b u,b≠e->h.get? b=some u->h'.get? b=some u)(fu:∃u,h'.get? e=some u):Un fs ex H (upd H x o) h h':=by
 have hx:∀b,H b=none->b≠x:=λb n z=>by subst z;rw[n] at mu;exact mu
 have hb:∀b,H b=none->b≠e:=λb n z=>by
  subst z
  rcases he with r | r
  ·exact hx b n r
  ·rw[n] at r;cases r
 have hm:∀b u,H b=some u->¬Mut (some u)->b≠x:=λb u q nm z=>by subst z;rw[q] at mu;exact nm mu
 refine⟨λb u q n _ _=>k b u (hb b n) q,λb u q n _ _=>⟨u.slots,k b u (hb b n) q⟩,λb u q n _=>by rw[po (hx b n)];exact n,λb u q _=>?_,
  λb xs q=>by rw[po (hm b _ q λz=>z)];exact q,λb u xs q=>by rw[po (hm b _ q λz=>z)];exact q,λb xs q=>by rw[po (hm b _ q λz=>z)];exact q⟩
 by_cases hbe:b=e
 ·subst hbe;exact fu
 ·exact⟨u,k b u hbe q⟩
end
noncomputable def trk(h:KM)(H:Hp):List h_:=(Mm h.objs.size).filter λa=>(H a).isSome
noncomputable def hidT(h:KM)(H:Hp):KM:=PySem.W.hideAll h (trk h H)
theorem HN(h:KM)(H:Hp):(hidT h H).objs.size=h.objs.size:=PySem.W.hideAll_size _ _
theorem DZ{H:Hp}{b:h_}{o:Obj}(e:h.get? b=some o)(n:H b=none):(hidT h H).get? b=some o:=
 PySem.W.hideAll_get _ e λhm=>by
  have q:(H b).isSome=true:=(Pn.mp hm).2;rw[n] at q;simp at q
theorem Gv{H:Hp}{b:h_}{o:Obj}(e:(hidT h H).get? b=some o):h.get? b=some o/\H b=none:=by
 have e':h.get? b=some o:=PySem.W.of_hideAll (trk h H) e;refine⟨e',?_⟩;cases q:H b with
 | none=>rfl
 | some x =>
  have hm:b∈trk h H:=Pn.mpr ⟨M3.mpr (F_ e'),by simp[q]⟩;have z:(hidT h H).get? b=none:=PySem.W.hideAll_none (trk h H) hm;rw[z] at e;cases e
def TabsOk(K:PySem.W.Frag)(H:Hp):Prop:=∀c P,Nt K "few_of"=some (c,P)->H P=some (.tbl "few_of.<locals>.<lambda>")
structure Mod(K:PySem.W.Frag)(mg:Str->Option b_)(base:KM):Prop where
 kin:K.In base
 glob:base.Ns Lj mg
 blt:∃mb,base.Ns NK mb/\∀x:Str,x ≠ "__name__"->mb x=Mb x
 nolimit:base.NoLimit
 bm:∃bm ob,mg "__builtins__"=some (.ref bm)/\bm≠NK/\base.get? bm=some ob/\ob.cls=.type "module"/\ob.dict=some NK/\ob.data=.plain
 cod:∀c P,Nt K "few_of"=some (c,P)->PySem.W.CodeHd base c P
structure Cx where
 prog:z_
 w:I_
 K:PySem.W.Frag
 mg:Str->Option b_
 base:KM
 A:Mc
 N:List Str
 s₀:d_
 H₀:Hp
 env:Env
 outer:List Env
 stack:List Env
 ex:List h_
 fn:Str->Bool
 calm:Bool
 pn:List (h_×Obj)
 xe:b_->d_->Prop
noncomputable def frs(l:List Env):List h_:=l.filterMap (·.frame)
noncomputable abbrev Cx.fs(X:Cx):List h_:=frs X.outer
def Vis(sc:Nu)(x:Str):Prop:=sc.names.lookup x=some .local\/sc.names.lookup x=some .cell\/sc.names.lookup x=some .free
def Loc(sc:Nu)(x:Str):Prop:=sc.names.lookup x=some .local\/sc.names.lookup x=some .cell
noncomputable def visB(s:Nu)(x:Str):Bool:=match s.names.lookup x with|some .local=>true|some .cell=>true|some .free=>true|_=>false
noncomputable def locB(s:Nu)(x:Str):Bool:=match s.names.lookup x with|some .local=>true|some .cell=>true|_=>false
noncomputable def fnB(X:Cx)(x:Str):Bool:=X.fn x||match X.env.scope.names.lookup x with|some .local=>true|_=>false
theorem visI{s:Nu}{x:Str}(h:visB s x=true):Vis s x:=by
 unfold visB at h;unfold Vis;split at h<;>simp_all
theorem locI{s:Nu}{x:Str}(h:locB s x=true):Loc s x:=by
 unfold locB at h;unfold Loc;split at h<;>simp_all
theorem fnI{X:Cx}{x:Str}(h:fnB X x=true):X.fn x=true\/X.env.scope.names.lookup x=some .local:=by
 unfold fnB at h;cases e:X.fn x with
 | true=>exact .inl rfl
 | false=>rw[e,Bool.false_or] at h;split at h<;>simp_all
def Look(env:Env)(h:KM)(m:Str->Option b_)(x:Str)(u:b_):Prop:=
 (env.kindOf x=some .local/\m x=some u)\/((env.kindOf x=some .cell\/env.kindOf x=some .free)/\∃c,env.cells.lookup x=some c/\h.IsCell c (some u))
structure Cx.Ok(X:Cx):Prop where
 mod:Mod X.K X.mg X.base
 kind:X.env.scope.kind=.function
 glob:X.env.globals=Lj
 blt:X.env.builtins=NK
 above:X.s₀.heap.objs.size<=X.env.locals
 inj:∀x y c,X.env.cells.lookup x=some c->X.env.cells.lookup y=some c->x=y
 has:∀x,(X.env.kindOf x=some .cell\/X.env.kindOf x=some .free)->∃c,X.env.cells.lookup x=some c
 cab:∀x c,X.fn x=true->X.env.cells.lookup x=some c->X.s₀.heap.objs.size<=c
 hd:X.calm=true->X.A.handled=none
 frames:X.A.frames=some X.stack
 stk:X.stack=X.outer\/(X.stack=X.env::X.outer/\X.env.frame=some X.env.locals)
 exf:∀b∈X.ex,b≠X.env.locals/\∀x c,X.env.cells.lookup x=some c->c≠b
 bs:∀b o,X.base.get? b=some o->X.s₀.heap.get? b=some o/\X.H₀ b=none
 bsz:X.base.objs.size<=X.s₀.heap.objs.size
 noex:∀b o,X.base.get? b=some o->b∉X.ex
 exfs:∀b∈X.ex,b∉X.fs
 funs:X.s₀.heap.FunFrames X.base X.outer
 frf:∀b∈X.fs,X.H₀ b=none
 tb:TabsOk X.K X.H₀
structure Inv(X:Cx)(aa:List (h_×Obj))(U:List (Option V))(H:Hp)(s:d_):Prop where
 ok:X.Ok
 os:s.os=X.s₀.os
 bare:OL s.gens
 base:Un X.fs X.ex X.H₀ H X.s₀.heap s.heap
 loc:∃m,s.heap.Ns X.env.locals m/\∀(i:Nat) (x:Str) (v:V),X.N[i]?=some x->U[i]?=some (some v)->Vis X.env.scope x->∃u,RelV v u/\Look X.env s.heap m x u
 cell:∀x c,X.env.cells.lookup x=some c->∃v,s.heap.IsCell c v
 free:H X.env.locals=none
 freeC:∀x c,X.env.cells.lookup x=some c->H c=none
 pin:∀p∈X.pn++aa,s.heap.get? p.1=some p.2/\H p.1=none/\p.1≠X.env.locals/\p.1∉X.fs/\∀v,p.2.data≠.cell v
 hok:HOk X.prog X.w H s.heap
 len:U.length=X.N.length
section
variable{X:Cx}{U:List (Option V)}{H H':Hp}{s:d_}
theorem Cx.Ok.nofr(ok:X.Ok){b:h_}{o:Obj}(e:X.base.get? b=some o):b∉X.fs:=λhb=>by
 have:=(ok.funs.mem hb).1;rw[e] at this;cases this
theorem Inv.bs(I:Inv X aa U H s):∀b o,X.base.get? b=some o->s.heap.get? b=some o/\H b=none:=λb o e =>
 ⟨I.base.keep b o (I.ok.bs b o e).1 (I.ok.bs b o e).2 (I.ok.nofr e) (I.ok.noex b o e),I.base.free b o (I.ok.bs b o e).1 (I.ok.bs b o e).2 (I.ok.noex b o e)⟩
theorem Inv.bk(I:Inv X aa U H s):∀b o,X.base.get? b=some o->s.heap.get? b=some o:=λb o e=>(I.bs b o e).1
theorem Inv.mod(I:Inv X aa U H s):Mod X.K X.mg X.base:=I.ok.mod
theorem Inv.kIn(I:Inv X aa U H s):X.K.In s.heap:=I.ok.mod.kin.keeps I.bk
theorem Inv.nolimit(I:Inv X aa U H s):s.heap.NoLimit:=I.ok.mod.nolimit.keeps I.bk
theorem Inv.lt(I:Inv X aa U H s):X.env.locals < s.heap.objs.size:=let ⟨_,hn,_⟩:=I.loc;hn.lt
theorem Inv.sz(I:Inv X aa U H s):X.s₀.heap.objs.size<=s.heap.objs.size:=LL I.ok.above (Nv I.lt)
theorem Inv.nofs(I:Inv X aa U H s){a:h_}(h:s.heap.objs.size<=a):a∉X.fs:=λhb=>by
 obtain⟨_,o,ho,_⟩:=I.ok.funs.mem hb;exact absurd (J_ (F_ ho) (LL I.sz h)) (MG _)
theorem Inv.cne(I:Inv X aa U H s):∀x c,X.env.cells.lookup x=some c->c≠X.env.locals:=λx c e z=>by
 obtain⟨v,o,ho,hd⟩:=I.cell x c e;obtain⟨m,⟨o',es,ep,bL,br,_⟩,_⟩:=I.loc;rw[z,bL] at ho;cases ho;rw[br] at hd;cases hd
theorem Inv.funs(I:Inv X aa U H s):s.heap.FunFrames X.base X.outer:=by
 have all:∀(l:List Env),(∀b∈frs l,b∈X.fs)->X.s₀.heap.FunFrames X.base l->s.heap.FunFrames X.base l:=by
  intro l
  induction l with
  | nil=>intro _ _;trivial
  | cons env r ih =>
   intro hs hl;obtain⟨hk,⟨L,o,hf,hn,ho,hd⟩,hr⟩:=hl;have hL:L∈X.fs:=hs L (by unfold frs;rw[Ow,hf];exact g_);obtain⟨sl,e⟩:=I.base.slot L o ho (I.ok.frf L hL) hL λz=>I.ok.exfs L z hL
   exact⟨hk,⟨L,_,hf,hn,e,hd⟩,ih (λb hb=>hs b (by unfold frs;rw[Ow,hf];exact j_ _ hb)) hr⟩
 exact all X.outer (λ_ hb=>hb) I.ok.funs
theorem Inv.stack(I:Inv X aa U H s):s.heap.FunFrames X.base X.stack:=by
 rcases I.ok.stk with e | ⟨e,hf⟩
 ·rw[e];exact I.funs
 ·rw[e];obtain⟨m,hn,_⟩:=I.loc;refine .cons (by rw[I.ok.kind];decide) hf hn ?_ I.funs;exact KM.get?_none_of_le (LL I.ok.bsz I.ok.above)
theorem Inv.stkSub(I:Inv X aa U H s):∀b∈frs X.stack,b∈X.env.locals::X.fs:=λb hb=>by
 rcases I.ok.stk with e | ⟨e,hf⟩
 ·rw[e] at hb;exact j_ _ hb
 ·rw[e] at hb;unfold frs at hb;rw[Ow,hf] at hb;exact hb
theorem Inv.stkFree(I:Inv X aa U H s):∀b∈frs X.stack,H b=none:=λb hb=>by
 rcases m_.mp (I.stkSub b hb) with e | hb
 ·rw[e];exact I.free
 ·obtain⟨_,o,ho,_⟩:=I.ok.funs.mem hb;exact I.base.free b o ho (I.ok.frf b hb) λz=>I.ok.exfs b z hb
theorem Inv.step(I:Inv X aa U H s)(bx:∀b∈ch,(b∈X.ex\/X.s₀.heap.objs.size<=b)/\b≠X.env.locals/\(∀x c,X.env.cells.lookup x=some c->c≠b)/\∀p∈X.pn++aa,p.1≠b)(keep:∀b o,b≠X.env.locals->b∉X.fs->b∉ch->s.heap.get? b=some o->H b=none->h'.get? b=some o)(slot:∀b o,b≠X.env.locals->b∈X.fs->b∉ch->s.heap.get? b=some o->H b=none->∃sl,h'.get? b=some { o with slots:=sl })(free:∀b o,b∉ch->s.heap.get? b=some o->H b=none->H' b=none)(there:∀b o,b∉ch->s.heap.get? b=some o->∃o',h'.get? b=some o')(tups:∀b xs,H b=some (.tup xs)->H' b=some (.tup xs))(frzs:∀b o u,H b=some (.frz o u)->H' b=some (.frz o u))(tbls:∀b q,H b=some (.tbl q)->H' b=some (.tbl q))(ns:∀m,s.heap.Ns X.env.locals m->h'.Ns X.env.locals m)(hok:HOk X.prog X.w H' h')(hg:OL g'):
  Inv X aa U H' { s with heap:=h',gens:=g',drawn:=d',toks:=t' }:=by
 have fv:∀b o,X.s₀.heap.get? b=some o->b≠X.env.locals:=λb o e=>KI (J_ (F_ e) I.ok.above)
 have fx:∀b o,X.s₀.heap.get? b=some o->b∉X.ex->b∉ch:=λb o e hx hb=>by
  rcases(bx b hb).1 with z | z
  ·exact hx z
  ·exact absurd (J_ (F_ e) z) (MG _)
 have fM:∀x c,X.env.cells.lookup x=some c->∀v,s.heap.IsCell c v->h'.IsCell c v:=λx c e v ⟨o,ho,hd⟩=>by
  have cW:c∉ch:=λz=>(bx c z).2.2.1 x c e rfl
  by_cases hc:c∈X.fs
  ·obtain⟨sl,q⟩:=slot c o (I.cne x c e) hc cW ho (I.freeC x c e);exact⟨_,q,hd⟩
  ·exact⟨o,keep c o (I.cne x c e) hc cW ho (I.freeC x c e),hd⟩
 refine⟨I.ok,I.os,hg,⟨λb o e n hb hx=>?_,λb o e n hb hx=>?_,λb o e n hx=>?_,λb o e hx=>?_,λb xs e=>tups b xs (I.base.tups b xs e),λb o xs e=>frzs b o xs (I.base.frzs b o xs e),λb ps e=>?_⟩,?_,λx c e=>?_,?_,λx c e=>?_,λp hp=>?_,hok,I.len⟩
 ·exact keep b o (fv b o e) hb (fx b o e hx) (I.base.keep b o e n hb hx) (I.base.free b o e n hx)
 ·obtain⟨sl,e1⟩:=I.base.slot b o e n hb hx;obtain⟨mP,e2⟩:=slot b _ (fv b o e) hb (fx b o e hx) e1 (I.base.free b o e n hx);exact⟨mP,e2⟩
 ·obtain⟨o',e1⟩:=I.base.there b o e hx;exact free b o' (fx b o e hx) e1 (I.base.free b o e n hx)
 ·obtain⟨o',e1⟩:=I.base.there b o e hx;exact there b o' (fx b o e hx) e1
 ·exact tbls b ps (I.base.tbls b ps e)
 ·obtain⟨m,hn,hl⟩:=I.loc;refine⟨m,ns m hn,λi x v e1 e2 e3=>?_⟩;obtain⟨u,r,l⟩:=hl i x v e1 e2 e3;refine⟨u,r,?_⟩
  rcases l with l | ⟨k,c,e,z⟩
  ·exact .inl l
  ·exact .inr ⟨k,c,e,fM x c e _ z⟩
 ·obtain⟨v,z⟩:=I.cell x c e;exact⟨v,fM x c e v z⟩
 ·obtain⟨m,⟨o,_,_,ho,_⟩,_⟩:=I.loc;exact free _ o (λz=>(bx _ z).2.1 rfl) ho I.free
 ·obtain⟨v,o,ho,hd⟩:=I.cell x c e;exact free c o (λz=>(bx c z).2.2.1 x c e rfl) ho (I.freeC x c e)
 ·obtain⟨e,n,ne,nf,d⟩:=I.pin p hp;have cW:p.1∉ch:=λz=>(bx p.1 z).2.2.2 p hp rfl
  exact⟨keep p.1 p.2 ne nf cW e n,free p.1 p.2 cW e n,ne,nf,d⟩
theorem Inv.un(I:Inv X aa U H s)(u:Un X.fs [] H H' s.heap h')(hok:HOk X.prog X.w H' h'):Inv X aa U H' { s with heap:=h',toks:=t' }:=by
 obtain⟨m,⟨o,es,ep,ho,r⟩,_⟩:=id I.loc;obtain⟨sl,hL⟩:=u.any ho I.free (by simp)
 exact I.step (g':=s.gens) (d':=s.drawn) (ch:=[]) (λ_ z=>nomatch z) (λb o _ hb _ e n=>u.keep b o e n hb (by simp)) (λb o _ hb _ e n=>u.slot b o e n hb (by simp)) (λb o _ e n=>u.free b o e n (by simp)) (λb o _ e=>u.there b o e (by simp)) u.tups u.frzs u.tbls (λm' hm=>by
  obtain⟨o',es',gY,bL,r'⟩:=hm;rw[ho] at bL;cases bL
  exact⟨_,es',gY,hL,r'⟩) hok I.bare
theorem Inv.call(I:Inv X aa U H s)(u:Un (frs X.stack) ch H H' s.heap h')(hok:HOk X.prog X.w H' h')(hg:OL g')(bx:∀b∈ch,(b∈X.ex\/X.s₀.heap.objs.size<=b)/\b≠X.env.locals/\(∀x c,X.env.cells.lookup x=some c->c≠b)/\∀p∈X.pn++aa,p.1≠b):
  Inv X aa U H' { s with heap:=h',gens:=g',drawn:=d',toks:=t' }:=by
 obtain⟨m,⟨o,es,ep,ho,r⟩,_⟩:=id I.loc;obtain⟨sl,hL⟩:=u.any ho I.free λz=>(bx _ z).2.1 rfl
 exact I.step (ch:=ch) bx (λb o hL hb hc e n=>u.keep b o e n (λz=>(m_.mp (I.stkSub b z)).elim hL hb) hc) (λb o _ _ hc e n=>u.any e n hc) (λb o hc e n=>u.free b o e n hc) (λb o hc e=>u.there b o e hc) u.tups u.frzs u.tbls (λm' hm=>by
  obtain⟨o',es',gY,bL,r'⟩:=hm;rw[ho] at bL;cases bL
  exact⟨_,es',gY,hL,r'⟩) hok hg
theorem Inv.turned{it:h_}(I:Inv X aa U H s)(k:∀b o,b≠it->s.heap.get? b=some o->h'.get? b=some o)(hn:H it=none)(hL:it≠X.env.locals)(h1:it∈X.ex\/X.s₀.heap.objs.size<=it)(h2:∀x c,X.env.cells.lookup x=some c->c≠it)(h3:∀p∈X.pn++aa,p.1≠it):Inv X aa U H { s with heap:=h',toks:=t' }:=by
 have kj:∀b u,H b=some u->b≠it:=λb u e z=>by rw[z,hn] at e;cases e
 refine I.step (g':=s.gens) (d':=s.drawn) (ch:=[it]) (λb hb=>?_) (λb o _ _ hc e _=>k b o (λz=>hc (by simp[z])) e) (λb o _ _ hc e _=>⟨o.slots,k b o (λz=>hc (by simp[z])) e⟩) (λ_ _ _ _ n=>n)
  (λb o hc e=>⟨o,k b o (λz=>hc (by simp[z])) e⟩) (λ_ _ e=>e) (λ_ _ _ e=>e) (λ_ _ e=>e) (λm hm=>?_) (λb u e=>?_) I.bare
 ·have e:b=it:=by simpa using hb
  subst e;exact⟨h1,hL,h2,h3⟩
 ·obtain⟨o,es,ep,ho,r⟩:=hm;exact⟨o,es,ep,k _ o (Kx hL) ho,r⟩
 ·refine(I.hok b u e).stay (λc v hc q=>k c v ?_ q) (λ_ q=>q) (λ_ _ q=>q) λ_ _ _ q=>q
  rcases hc with z | z
  ·rw[z];exact kj b u e
  ·exact kj c _ z
theorem Inv.tok(I:Inv X aa U H s)(t:Nat):Inv X aa U H { s with toks:=t }:=I.un (h':=s.heap) (t':=t) Un.refl I.hok
theorem Inv.kept(I:Inv X aa U H s)(k:∀b u,s.heap.get? b=some u->h'.get? b=some u):Inv X aa U H { s with heap:=h',toks:=t' }:=I.un (Un.kept k) (I.hok.kept k)
theorem Inv.laid{a:h_}{o:HO}(I:Inv X aa U H s)(k:∀b u,s.heap.get? b=some u->h'.get? b=some u)(hp:s.heap.objs.size<=a)(new:ObjOk X.prog X.w (upd H a o) h' a o):
  Inv X aa U (upd H a o) { s with heap:=h',toks:=t' }:=I.un (Un.laid k hp (I.hok.fresh hp)) (I.hok.laid k hp new)
theorem Inv.write{x e:h_}{o:HO}(I:Inv X aa U H s)(mu:Mut (H x))(he:e=x\/H e=some (.own x))(k:∀b u,b≠e->s.heap.get? b=some u->h'.get? b=some u)(fu:∃u,h'.get? e=some u)(new:ObjOk X.prog X.w (upd H x o) h' x o):Inv X aa U (upd H x o) { s with heap:=h',toks:=t' }:=I.un (Un.write mu he k fu) (I.hok.write mu he k fu new)
theorem Inv.pins_of(I:Inv X aa U H s)(h:∀p∈fN,s.heap.get? p.1=some p.2/\H p.1=none/\p.1≠X.env.locals/\p.1∉X.fs/\∀v,p.2.data≠.cell v):Inv X fN U H s:=
 ⟨I.ok,I.os,I.bare,I.base,I.loc,I.cell,I.free,I.freeC,λp hp=>(Lg.mp hp).elim (λz=>I.pin p (MT _ z)) (h p),I.hok,I.len⟩
theorem zK{N:List Str}(hN:N.Nodup){i:Nat}{x:Str}(a:N[i]?=some x)(b:N[j]?=some x):i=j:=by
 obtain⟨h1,e1⟩:=D_.mp a;obtain⟨h2,e2⟩:=D_.mp b;exact(List.getElem_inj hN).mp (e1.trans e2.symm)
theorem xB{M:Model}{E:b_->d_->Prop}{i:Nat}{x:Str}{v:V}{u:b_}{Q:Unit->d_->Prop}(I:Inv X aa U H s)(hN:X.N.Nodup)(hi:X.N[i]?=some x)(hx:Loc X.env.scope x)(r:RelV v u)(h:∀s',Inv X aa (U.set i (some v)) H s'->(∃a,KM.SameBut a s.heap s'.heap/\(a=X.env.locals\/X.env.cells.lookup x=some a))->Q () s')(hf:X.fn x=true\/X.env.scope.names.lookup x=some .local):w_ M A (storeName X.env x u) Q E s:=by
 obtain⟨m,hn,hl⟩:=id I.loc;have km:(X.env.scope.kind == .class||(X.env.scope.kind == .module&&X.env.locals != X.env.globals))=false:=by rw[I.ok.kind];rfl
 have i7:i < U.length:=by rw[I.len];exact(D_.mp hi).1
 have cne:=I.cne
 have cX:∀{a:h_}{h':KM},(∃o,s.heap.get? a=some o/\H a=none)->KM.SameBut a s.heap h'->HOk X.prog X.w H h':=λ{a h'} ha hs b ob e=>by
  obtain⟨_,_,dM⟩:=ha;refine(I.hok b ob e).stay (λc w' hc q=>(hs.2 c ?_).trans q) (λ_ q=>q) (λ_ _ q=>q) λ_ _ _ q=>q
  rintro rfl
  rcases hc with rfl | hc
  ·rw[dM] at e;cases e
  ·rw[dM] at hc;cases hc
 rcases hx with hk | hk
 ·refine wpAny_storeName_local hk hn (λh' eE hs=>?_) km;obtain⟨oL,_,_,mQ,_⟩:=id hn;refine h _ ⟨I.ok,I.os,I.bare,⟨λb o e n hb hx=>?_,λb o e n hb hx=>?_,I.base.free,λb o e hx=>?_,I.base.tups,I.base.frzs,I.base.tbls⟩,⟨_,eE,λj y v' e1 e2 e3=>?_⟩,λy c e=>?_,I.free,I.freeC,λp hp=>?_,cX ⟨oL,mQ,I.free⟩ hs,by simpa using I.len⟩ ⟨_,hs,.inl rfl⟩
  ·exact(hs.2 b (KI (J_ (F_ e) I.ok.above))).trans (I.base.keep b o e n hb hx)
  ·obtain⟨sl,e1⟩:=I.base.slot b o e n hb hx;exact⟨sl,(hs.2 b (KI (J_ (F_ e) I.ok.above))).trans e1⟩
  ·obtain⟨o',e1⟩:=I.base.there b o e hx;exact⟨o',(hs.2 b (KI (J_ (F_ e) I.ok.above))).trans e1⟩
  ·by_cases hj:j=i
   ·subst hj;rw[hi] at e1;cases e1;rw[Mr i7] at e2;cases e2;exact⟨u,r,.inl ⟨hk,by simp⟩⟩
   ·rw[Lf (Kx hj)] at e2;obtain⟨u',r',q⟩:=hl j y v' e1 e2 e3;refine⟨u',r',?_⟩
    rcases q with⟨k,e⟩ | ⟨k,c,e,z⟩
    ·refine .inl ⟨k,?_⟩;have:y≠x:=λe=>hj (zK hN e1 (e▸hi))
     simp[this,e]
    ·exact .inr ⟨k,c,e,z.sameBut hs (cne y c e)⟩
  ·obtain⟨w',z⟩:=I.cell y c e;exact⟨w',z.sameBut hs (cne y c e)⟩
  ·obtain⟨e,n,ne,nf,d⟩:=I.pin p hp;exact⟨(hs.2 p.1 ne).trans e,n,ne,nf,d⟩
 ·have jl:X.fn x=true:=by
   rcases hf with z | z
   ·exact z
   ·rw[z] at hk;cases hk
  obtain⟨c,hc⟩:=I.ok.has x (.inl hk);obtain⟨w',z⟩:=I.cell x c hc;refine wpAny_storeName_cell I.ok.kind hk hc z (λh' bW hs=>?_);obtain⟨oc,ko,kq⟩:=id z;refine h { s with heap:=h' } ⟨I.ok,I.os,I.bare,⟨λb o e n hb hx=>?_,λb o e n hb hx=>?_,I.base.free,λb o e hx=>?_,I.base.tups,I.base.frzs,I.base.tbls⟩,⟨m,hn.sameBut hs (Kx (cne x c hc)),λj y v' e1 e2 e3=>?_⟩,λy c' e=>?_,I.free,I.freeC,λp hp=>?_,cX ⟨oc,ko,I.freeC x c hc⟩ hs,by simpa using I.len⟩ ⟨c,hs,.inr hc⟩
  ·exact(hs.2 b (KI (J_ (F_ e) (I.ok.cab x c jl hc)))).trans (I.base.keep b o e n hb hx)
  ·obtain⟨sl,e1⟩:=I.base.slot b o e n hb hx;exact⟨sl,(hs.2 b (KI (J_ (F_ e) (I.ok.cab x c jl hc)))).trans e1⟩
  ·obtain⟨o',e1⟩:=I.base.there b o e hx;exact⟨o',(hs.2 b (KI (J_ (F_ e) (I.ok.cab x c jl hc)))).trans e1⟩
  ·by_cases hj:j=i
   ·subst hj;rw[hi] at e1;cases e1;rw[Mr i7] at e2;cases e2;exact⟨u,r,.inr ⟨.inl hk,c,hc,bW⟩⟩
   ·rw[Lf (Kx hj)] at e2;obtain⟨u',r',q⟩:=hl j y v' e1 e2 e3;refine⟨u',r',?_⟩
    rcases q with q | ⟨k,c',e,z'⟩
    ·exact .inl q
    ·refine .inr ⟨k,c',e,z'.sameBut hs ?_⟩;rintro rfl;exact hj (zK hN e1 (I.ok.inj _ _ _ e hc▸hi))
  ·by_cases jm:c'=c
   ·subst jm;exact⟨_,bW⟩
   ·obtain⟨w2,z2⟩:=I.cell y c' e;exact⟨w2,z2.sameBut hs jm⟩
  ·obtain⟨e,n,ne,nf,d⟩:=I.pin p hp;refine⟨(hs.2 p.1 ?_).trans e,n,ne,nf,d⟩;intro q;rw[q,ko] at e;have q':oc=p.2:=KH e;exact d w' (by rw[←q'];exact kq)
theorem AC{M:Model}{E:b_->d_->Prop}{i:Nat}{x:Str}{v:V}{u:b_}{Q:Unit->d_->Prop}(I:Inv X aa U H s)(hN:X.N.Nodup)(hi:X.N[i]?=some x)(hx:Loc X.env.scope x)(r:RelV v u)(h:∀s',Inv X aa (U.set i (some v)) H s'->Q () s')(hf:X.fn x=true\/X.env.scope.names.lookup x=some .local):w_ M A (storeName X.env x u) Q E s:=
 xB I hN hi hx r (λs' I' _=>h s' I') hf
theorem Inv.call'(I:Inv X aa U H s)(ho:s'.os=s.os)(u:Un (frs X.stack) ch H H' s.heap s'.heap)(hok:HOk X.prog X.w H' s'.heap)(hg:OL s'.gens)(bx:∀b∈ch,(b∈X.ex\/X.s₀.heap.objs.size<=b)/\b≠X.env.locals/\(∀x c,X.env.cells.lookup x=some c->c≠b)/\∀p∈X.pn++aa,p.1≠b):Inv X aa U H' s':=by
 obtain⟨h',g',d',t',o'⟩:=s';have e:o'=s.os:=ho;subst e;exact I.call (g':=g') (t':=t') (d':=d') u hok hg bx
end
abbrev XK:=b_->Option h_->Hp->Prop
abbrev St:=List (Option V)
abbrev VK:=V->Hp->Prop
abbrev TE:=St->Hp->VK->Prop
abbrev TT:=St->Hp->(Bool->Hp->Prop)->Prop
abbrev TA:=St->Hp->(List V->Hp->Prop)->Prop
structure Ends where
 nx:St->Hp->Prop
 rt:VK
 bk:St->Hp->Prop:=λ_ _=>False
 ct:St->Hp->Prop:=λ_ _=>False
abbrev TS:=Ends->St->Hp->Prop
def EP(X:Cx)(aa:List (h_×Obj))(U:St)(Q:VK)(u:b_)(s':d_):Prop:=∃v H',Inv X aa U H' s'/\RelV v u/\Q v H'
def TP(X:Cx)(aa:List (h_×Obj))(U:St)(Q:Bool->Hp->Prop)(b:Bool)(s':d_):Prop:=∃H',Inv X aa U H' s'/\Q b H'
def AP(X:Cx)(aa:List (h_×Obj))(U:St)(Q:List V->Hp->Prop)(us:List b_)(s':d_):Prop:=∃vs H',Inv X aa U H' s'/\Vals vs us/\Q vs H'
def SP(X:Cx)(aa:List (h_×Obj))(D:Ends)(f:Flow)(s':d_):Prop:=
 match f with
 | .next=>∃au H',Inv X aa au H' s'/\D.nx au H'
 | .brk=>∃au H',Inv X aa au H' s'/\D.bk au H'
 | .cont=>∃au H',Inv X aa au H' s'/\D.ct au H'
 | .ret u=>∃v au H',Inv X aa au H' s'/\RelV v u/\D.rt v H'
def PE(X:Cx)(e:KQ)(t:TE):Prop:=
 ∀(aa:List (h_×Obj)) (s:d_) (U:St) (H:Hp) (Q:VK),Inv X aa U H s->t U H Q->w_ (n_ X.prog X.w) X.A (KR e X.env) (EP X aa U Q) X.xe s
def PT(X:Cx)(e:KQ)(t:TT):Prop:=
 ∀(aa:List (h_×Obj)) (s:d_) (U:St) (H:Hp) (Q:Bool->Hp->Prop),Inv X aa U H s->t U H Q->w_ (n_ X.prog X.w) X.A (RQ e X.env (KR e X.env)) (TP X aa U Q) X.xe s
def PW(X:Cx)(e:KQ)(t:TT):Prop:=
 ∀(bt:Sem b_) (aa:List (h_×Obj)) (s:d_) (U:St) (H:Hp) (Q:Bool->Hp->Prop),Inv X aa U H s->t U H Q->w_ (n_ X.prog X.w) X.A (RQ e X.env bt) (TP X aa U Q) X.xe s
def PA(X:Cx)(es:List KQ)(t:TA):Prop:=
 ∀(pos:Pos) (aa:List (h_×Obj)) (s:d_) (U:St) (H:Hp) (Q:List V->Hp->Prop),Inv X aa U H s->t U H Q->w_ (n_ X.prog X.w) X.A (spliced (K0 pos (f_ es X.env))) (AP X aa U Q) X.xe s
def PS(X:Cx)(st:L9)(t:TS):Prop:=
 ∀(aa:List (h_×Obj)) (s:d_) (U:St) (H:Hp) (D:Ends),Inv X aa U H s->t D U H->w_ (n_ X.prog X.w) X.A (exec st X.env) (SP X aa D) X.xe s
def PSs(X:Cx)(st:List L9)(t:TS):Prop:=
 ∀(aa:List (h_×Obj)) (s:d_) (U:St) (H:Hp) (D:Ends),Inv X aa U H s->t D U H->w_ (n_ X.prog X.w) X.A (execs st X.env) (SP X aa D) X.xe s
theorem thn{α:Type}{t:Sem α}{Q Q':α->d_->Prop}{M:Model}{E:b_->d_->Prop}{s:d_}(h:w_ M A t Q E s)(hQ:∀a s,Q a s->Q' a s):w_ M A t Q' E s:=Lk h hQ λ_ _ x=>x
section
variable {X:Cx}
noncomputable def tVar(i:Nat):TE:=λU H Q=>∃v,U[i]?=some (some v)/\Q v H
noncomputable def tC(v:V):TE:=λ_ H Q=>Q v H
theorem HC{i:Nat}{x:Str}(hN:X.N[i]?=some x)(hv:Vis X.env.scope x)(hd:(x == ("__debug__":Str))=false:=by decide)(aW:(x == ("__classdict__":Str))=false:=by decide):PE X (.Name x pos) (tVar i):=by
 intro aa s U H Q I h;obtain⟨v,e,h⟩:=h;obtain⟨m,hn,hl⟩:=I.loc;obtain⟨u,r,l⟩:=hl i x v hN e hv;have fin:EP X aa U Q u s:=⟨v,H,I,r,h⟩
 rcases l with⟨hk,hm⟩ | ⟨hk,c,hc,ca⟩
 ·exact RR (wpAny_loadName_local I.ok.kind hk hn hm fin) hd
 ·rcases hk with hk | hk
  ·exact RR (wpAny_loadName_cell I.ok.kind hk hc ca fin) hd
  ·exact RR (wpAny_loadName_free I.ok.kind hk hc ca fin aW) hd
theorem Ac{i j pos}:PE X (.Constant (.int i) j pos) (tC (.int i)):=λ_ _ _ H _ I h=>wpAny_Constant_int ⟨.int i,H,I.tok _,⟨_,rfl⟩,h⟩
theorem xw{b j pos}:PE X (.Constant (.bool b) j pos) (tC (.bl b)):=λ_ _ _ H _ I h=>Constant_bool ⟨.bl b,H,I,rfl,h⟩
theorem Io{j pos}:PE X (.Constant .none j pos) (tC .non):=λ_ _ _ H _ I h=>Constant_none ⟨.non,H,I,rfl,h⟩
theorem DB{x j pos}:PE X (.Constant (.str x) j pos) (tC (.str x)):=λ_ _ _ H _ I h=>Calls.Constant_str ⟨.str x,H,I.tok _,⟨_,rfl⟩,h⟩
def Gl(X:Cx)(x:Str):Prop:=X.env.kindOf x=some .globalImplicit
theorem FV{E:b_->d_->Prop}{s:d_}{U:St}{H:Hp}{x:Str}{u:b_}{Q:b_->d_->Prop}(I:Inv X aa U H s)(hg:Gl X x)(hm:X.mg x=some u)(h:Q u s)(hd:(x == ("__debug__":Str))=false:=by decide):w_ (n_ X.prog X.w) X.A (KR (.Name x pos) X.env) Q E s:=
 Ox I.ok.kind hg (Calls.loadGlobal_global (by rw[I.ok.glob];exact I.mod.glob.keeps I.bk) hm h) hd
theorem qc{E:b_->d_->Prop}{s:d_}{U:St}{H:Hp}{x:Str}{u:b_}{Q:b_->d_->Prop}(I:Inv X aa U H s)(hg:Gl X x)(hm:X.mg x=none)(hv:Mb x=some u)(h:Q u s)(hn:x ≠ "__name__":=by decide)(hd:(x == ("__debug__":Str))=false:=by decide):w_ (n_ X.prog X.w) X.A (KR (.Name x pos) X.env) Q E s:=by
 obtain⟨mb,h1,h2⟩:=I.mod.blt;exact Ox I.ok.kind hg (Calls.loadGlobal_builtin (by rw[I.ok.glob];exact I.mod.glob.keeps I.bk) hm (by rw[I.ok.blt];exact h1.keeps I.bk) ((h2 x hn).trans hv) h) hd
theorem FL{x:Str}{v:V}{u:b_}(hg:Gl X x)(hm:X.mg x=none)(hv:Mb x=some u)(r:RelV v u)(hn:x ≠ "__name__":=by decide)(hd:(x == ("__debug__":Str))=false:=by decide):PE X (.Name x pos) (tC v):=
 λ_ _ _ H _ I h=>qc I hg hm hv ⟨v,H,I,r,h⟩ hn hd
variable{a b:KQ}{ta tb:TE}
def PC(X:Cx)(op:CmpOp)(a b:KQ)(t:TE):Prop:=
 ∀(aa:List (h_×Obj)) (s:d_) (U:St) (H:Hp) (Q:VK),Inv X aa U H s->t U H Q →
  w_ (n_ X.prog X.w) X.A (KR a X.env) (λv aw=>w_ (n_ X.prog X.w) X.A (KR b X.env) (λu cY=>w_ (n_ X.prog X.w) X.A (Mh op v u) (EP X aa U Q) X.xe cY) X.xe aw) X.xe s
noncomputable def tB(t:TE):TT:=λU H Q=>t U H λx H1=>∃c,x=.bl c/\Q c H1
theorem HK{t:TE}(h:PC X op a b t)(h1:Mz op b=false):PT X (.Compare a [op] [b] pos) (tB t):=by
 intro aa s U H Q I hw;refine PR (thn (h aa s U H _ I hw) λv s1 h1=>thn h1 λu s2 h2=>thn h2 λc s3 ⟨x,H1,I1,r1,q1⟩=>?_) h1;obtain⟨d,rfl,q⟩:=q1;cases r1;exact L7 ⟨H1,I1,q⟩
theorem G1{t:TE}(h:PE X e t)(he:∀bt,RQ e X.env bt=(do let v ←bt;Sg e.pos;Nw [v] (truthy v)):=by intros;rfl):PT X e (tB t):=by
 intro aa s U H Q I hw;refine isTrue_plain (thn (h aa s U H _ I hw) λv s1 ⟨x,H1,I1,r1,q1⟩=>?_) (he _);obtain⟨d,rfl,q⟩:=q1;cases r1;exact L7 ⟨H1,I1,q⟩
variable {tA gZ:TT}{ax:List KQ}
noncomputable def tAnd(t u:TT):TT:=λU H Q=>t U H λc H1=>if c=true then u U H1 Q else Q false H1
noncomputable def tOr(t u:TT):TT:=λU H Q=>t U H λc H1=>if c=true then Q true H1 else u U H1 Q
noncomputable def tNot(t:TT):TT:=λU H Q=>t U H λc H1=>Q (!c) H1
theorem HF(ha:PT X a tA):PW X (.BoolOp .And [a] pos) tA:=by
 intro wh aa s U H Q I h;refine isTrue_and (thn (ha aa s U H Q I h) λc s1 e=>?_);cases c with
 | true=>exact isTrue_and_nil e
 | false=>exact e
theorem Ih(ha:PT X a tA):PW X (.BoolOp .Or [a] pos) tA:=by
 intro wh aa s U H Q I h;refine isTrue_or (thn (ha aa s U H Q I h) λc s1 e=>?_);cases c with
 | false=>exact isTrue_or_nil e
 | true=>exact e
theorem Bu(ha:PT X a tA)(hb:PW X (.BoolOp .And (b::ax) pos) gZ):PW X (.BoolOp .And (a::b::ax) pos) (tAnd tA gZ):=by
 intro wh aa s U H Q I h;refine isTrue_and (thn (ha aa s U H _ I h) λc s1 ⟨H1,I1,q1⟩=>?_);cases c with
 | true=>exact hb wh aa s1 U H1 Q I1 q1
 | false=>exact⟨H1,I1,q1⟩
theorem Bk(ha:PT X a tA)(hb:PW X (.BoolOp .Or (b::ax) pos) gZ):PW X (.BoolOp .Or (a::b::ax) pos) (tOr tA gZ):=by
 intro wh aa s U H Q I h;refine isTrue_or (thn (ha aa s U H _ I h) λc s1 ⟨H1,I1,q1⟩=>?_);cases c with
 | true=>exact⟨H1,I1,q1⟩
 | false=>exact hb wh aa s1 U H1 Q I1 q1
theorem IT(ha:PT X a tA):PT X (.UnaryOp .Not a pos) (tNot tA):=by
 intro aa s U H Q I h;exact isTrue_not (ha aa s U H (λc H1=>Q (!c) H1) I h)
noncomputable def tAndV(ta tb:TE):TE:=λU H Q=>ta U H λx H1=>∃c,x=.bl c/\if c=true then tb U H1 Q else Q (.bl false) H1
theorem GV{op}{t:TE}(h:PE X a t):PE X (.BoolOp op [a] pos) t:=λaa s U H Q I hw=>BoolOp_one (h aa s U H Q I hw)
theorem G6(ha:PE X a ta)(hb:PE X (.BoolOp .And (b::ax) pos) tb):PE X (.BoolOp .And (a::b::ax) pos) (tAndV ta tb):=by
 intro aa s U H Q I h;refine BoolOp_and (thn (ha aa s U H _ I h) λv s1 ⟨x,H1,I1,r1,q1⟩=>?_);obtain⟨c,rfl,q1⟩:=q1;cases r1;refine L7 ?_;cases c with
 | true=>exact hb aa s1 U H1 Q I1 q1
 | false=>exact⟨.bl false,H1,I1,rfl,q1⟩
noncomputable def tIf(t:TT)(ta tb:TE):TE:=λU H Q=>t U H λc H1=>if c=true then ta U H1 Q else tb U H1 Q
theorem GT{c:KQ}(hc:PT X c tA)(ha:PE X a ta)(hb:PE X b tb):PE X (.IfExp c a b pos) (tIf tA ta tb):=by
 intro aa s U H Q I h;refine wpAny_IfExp (thn (hc aa s U H _ I h) λd s1 ⟨H1,I1,q1⟩=>?_);cases d with
 | true=>exact ha aa s1 U H1 Q I1 q1
 | false=>exact hb aa s1 U H1 Q I1 q1
end
def SqL(K:PySem.W.Frag)(H:Hp)(a:h_)(xs:List V):Prop:=
 Rd H a (.lst xs) ∨
  ∃(o:Obj) (af:Array b_) (n:Nat),K.lookup a=some o/\o.cls=.type "list"/\o.dict=none/\o.data=.seq af n/\af.size<=x_/\Vals xs af.toList
def SqT(K:PySem.W.Frag)(H:Hp)(a:h_)(xs:List V):Prop:=
 Rd H a (.tup xs) ∨
  ∃(o:Obj) (af:Array b_) (n:Nat),K.lookup a=some o/\o.cls=.type "tuple"/\o.data=.seq af n/\af.size<=x_/\Vals xs af.toList
noncomputable def absV:b_->Option V
 | .none=>some .non
 | .bool b=>some (.bl b)
 | .int i _=>some (.int i)
 | .str x _=>some (.str x)
 | .bytes b _=>some (.byt b)
 | .float b _=>some (.flt b)
 | .ref a=>some (.ref a)
 | .type n=>some (.ty n)
 | _=>none
theorem RelV.abs{x:V}{u:b_}(r:RelV x u):absV u=some x:=by
 cases x with
 | non=>cases r;rfl
 | bl _=>cases r;rfl
 | int _=>obtain⟨t,rfl⟩:=r;rfl
 | str _=>obtain⟨t,rfl⟩:=r;rfl
 | byt _=>obtain⟨t,rfl⟩:=r;rfl
 | flt _=>obtain⟨t,rfl⟩:=r;rfl
 | ref _=>cases r;rfl
 | ty _=>cases r;rfl
theorem RelV.inj{x y:V}{u:b_}(r:RelV x u)(q:RelV y u):x=y:=KH (r.abs.symm.trans q.abs)
theorem Vals.inj:∀{xs ys:List V}{us:List b_},Vals xs us->Vals ys us->xs=ys
 | _,_,_,.nil,.nil=>rfl
 | _,_,_,.cons r t,.cons r' t'=>by rw[r.inj r',Vals.inj t t']
section
variable{X:Cx}{U:St}{H:Hp}{s:d_}{a:h_}{xs ys:List V}
theorem SqL.of{K:PySem.W.Frag}(h:H a=some (.lst xs)):SqL K H a xs:=.inl (.inl h)
theorem SqT.of{K:PySem.W.Frag}(h:H a=some (.tup xs)):SqT K H a xs:=.inl (.inl h)
theorem Inv.list(I:Inv X aa U H s)(h:SqL X.K H a xs):∃af:List b_,Vals xs af/\PlainL s.heap a af.toArray/\xs.length<=x_:=by
 rcases h with h | ⟨o,af,n,hk,hc,hd,hs,hz,r⟩
 ·obtain⟨z,af,n,r,e⟩:=h.ok I.hok;exact⟨af,r,⟨_,n,e,rfl,rfl,rfl⟩,z⟩
 ·refine⟨af.toList,r,⟨o,n,I.kIn a o hk,hc,hd,by simpa using hs⟩,?_⟩;have e:=r.length;simp only[Ky] at e;omega
theorem Inv.tuple(I:Inv X aa U H s)(h:SqT X.K H a xs):∃af:List b_,Vals xs af/\Sf s.heap a af.toArray/\xs.length<=x_:=by
 rcases h with h | ⟨o,af,n,hk,hc,hs,hz,r⟩
 ·obtain⟨z,af,r,p⟩:=h.ok I.hok;exact⟨af,r,p,z⟩
 ·refine⟨af.toList,r,⟨o,I.kIn a o hk,hc,n,by simpa using hs⟩,?_⟩;have e:=r.length;simp only[Ky] at e;omega
theorem Inv.list_inj(I:Inv X aa U H s)(h:SqL X.K H a xs)(h':SqL X.K H a ys):xs=ys:=by
 obtain⟨af,r,⟨o,n,e,_,_,d⟩,_⟩:=I.list h;obtain⟨its',r',⟨o',n',e',_,_,d'⟩,_⟩:=I.list h';rw[e] at e';cases e';rw[d] at d';injection d' with d1 _
 have:af=its':=by simpa using congrArg toList d1
 subst this;exact r.inj r'
theorem Inv.tuple_inj(I:Inv X aa U H s)(h:SqT X.K H a xs)(h':SqT X.K H a ys):xs=ys:=by
 obtain⟨af,r,⟨o,e,_,n,d⟩,_⟩:=I.tuple h;obtain⟨its',r',⟨o',e',_,n',d'⟩,_⟩:=I.tuple h';rw[e] at e';cases e';rw[d] at d';injection d' with d1 _
 have:af=its':=by simpa using congrArg toList d1
 subst this;exact r.inj r'
end
noncomputable abbrev Cx.wish(X:Cx)(E:b_->d_->Prop):Cx:={ X with xe:=E }
noncomputable abbrev Cx.nox(X:Cx):Cx:=X.wish λ_ _=>False
theorem Cx.Ok.wish{X:Cx}(ok:X.Ok)(E:b_->d_->Prop):(X.wish E).Ok:=
 ⟨ok.mod,ok.kind,ok.glob,ok.blt,ok.above,ok.inj,ok.has,ok.cab,ok.hd,ok.frames,ok.stk,ok.exf,ok.bs,ok.bsz,ok.noex,ok.exfs,ok.funs,ok.frf,ok.tb⟩
theorem Cx.Ok.unwish{X:Cx}{E:b_->d_->Prop}(ok:(X.wish E).Ok):X.Ok:=
 ⟨ok.mod,ok.kind,ok.glob,ok.blt,ok.above,ok.inj,ok.has,ok.cab,ok.hd,ok.frames,ok.stk,ok.exf,ok.bs,ok.bsz,ok.noex,ok.exfs,ok.funs,ok.frf,ok.tb⟩
section
variable{X:Cx}{U:St}{H:Hp}{s:d_}{E:b_->d_->Prop}
theorem Inv.wish(I:Inv X aa U H s)(E:b_->d_->Prop):Inv (X.wish E) aa U H s:=⟨I.ok.wish E,I.os,I.bare,I.base,I.loc,I.cell,I.free,I.freeC,I.pin,I.hok,I.len⟩
theorem Inv.unwish(I:Inv (X.wish E) aa U H s):Inv X aa U H s:=⟨I.ok.unwish,I.os,I.bare,I.base,I.loc,I.cell,I.free,I.freeC,I.pin,I.hok,I.len⟩
theorem SP.unwish{D:Ends}{f:Flow}(h:SP (X.wish E) aa D f s'):SP X aa D f s':=by
 cases f with
 | next=>obtain⟨au,H',I,q⟩:=h;exact⟨au,H',I.unwish,q⟩
 | brk=>obtain⟨au,H',I,q⟩:=h;exact⟨au,H',I.unwish,q⟩
 | cont=>obtain⟨au,H',I,q⟩:=h;exact⟨au,H',I.unwish,q⟩
 | ret u=>obtain⟨v,au,H',I,r,q⟩:=h;exact⟨v,au,H',I.unwish,r,q⟩
theorem PSs.nox{st:List L9}{t:TS}(h:PSs X.nox st t):PSs X st t:=λaa s U H D I hw =>
 Lk (h aa s U H D (I.wish _) hw) (λ_ _ q=>q.unwish) λ_ _ z=>Sh z
end
section
variable{X:Cx}{st:L9}{ax:List L9}{t u:TS}{te:TE}
noncomputable def tNext:TS:=λD U H=>D.nx U H
noncomputable def tSeq(t u:TS):TS:=λD U H=>t { D with nx:=u D } U H
theorem zg:PSs X [] tNext:=λ_ _ U H _ I h=>PL ⟨U,H,I,h⟩
theorem tG(h1:PS X st t)(h2:PSs X ax u):PSs X (st::ax) (tSeq t u):=by
 intro aa s U H D I h;refine wpAny_execs_cons (thn (h1 aa s U H { D with nx:=u D } I h) λf s1 q=>?_);cases f with
 | next =>
  obtain⟨au,H',I',q⟩:=q;exact h2 aa s1 au H' D I' q
 | ret v=>exact q
 | brk=>exact q
 | cont=>exact q
theorem Aa(h1:PS X st t):PSs X [st] t:=by
 intro aa s U H D I h;refine wpAny_execs_cons (thn (h1 aa s U H D I h) λf s1 q=>?_);cases f with
 | next=>exact PL q
 | ret v=>exact q
 | brk=>exact q
 | cont=>exact q
theorem Inv.quiet{U:St}{H:Hp}{s:d_}(I:Inv X aa U H s):interactive X.env=false:=by simp[interactive,I.ok.kind]
noncomputable def tDrop(te:TE):TS:=λD U H=>te U H λ_ H1=>D.nx U H1
theorem u7(he:PE X e te)(hs:Mo e none pos.line X.env=pure false:=by rfl):PS X (.Expr e pos) (tDrop te):=by
 intro aa s U H D I h;exact wpAny_Expr_any (thn (he aa s U H _ I h) λv s1 ⟨x,H1,I1,r1,q1⟩=>⟨U,H1,I1,q1⟩) I.quiet hs
noncomputable def tRet(te:TE):TS:=λD U H=>te U H D.rt
theorem sE(he:PE X e te):PS X (.Return (some e) pos) (tRet te):=by
 intro aa s U H D I h;exact wpAny_Return_some (thn (he aa s U H _ I h) λv s1 ⟨x,H1,I1,r1,q1⟩=>⟨x,U,H1,I1,r1,q1⟩)
noncomputable def tIfS(c:TT)(t u:TS):TS:=λD U H=>c U H λb H1=>if b=true then t D U H1 else u D U H1
theorem yM{c:KQ}{a b:List L9}{tc:TT}(hc:PT X c tc)(ha:PSs X a t)(hb:PSs X b u):PS X (.If c a b pos) (tIfS tc t u):=by
 intro aa s U H D I h;refine wpAny_If (thn (hc aa s U H _ I h) λd s1 ⟨H1,I1,q1⟩=>?_);cases d with
 | true=>exact ha aa s1 U H1 D I1 q1
 | false=>exact hb aa s1 U H1 D I1 q1
end
abbrev TG:=V->St->Hp->(St->Hp->Prop)->Prop
abbrev TGs:=List V->St->Hp->(St->Hp->Prop)->Prop
def PG(X:Cx)(g9:KQ)(t:TG):Prop:=
 ∀(aa:List (h_×Obj)) (s:d_) (U:St) (H:Hp) (v:V) (u:b_) (Q:St->Hp->Prop),Inv X aa U H s->RelV v u->t v U H Q →
  w_ (n_ X.prog X.w) X.A (N9 g9 X.env u) (λ_ s'=>∃au H',Inv X aa au H' s'/\Q au H') X.xe s
def PGs(X:Cx)(ts:List KQ)(t:TGs):Prop:=
 ∀(aa:List (h_×Obj)) (s:d_) (U:St) (H:Hp) (vs:List V) (us:List b_) (Q:St->Hp->Prop),Inv X aa U H s->Vals vs us->t vs U H Q →
  w_ (n_ X.prog X.w) X.A (assignInOrder ((L_ ts X.env).map (·.2)) us) (λ_ s'=>∃au H',Inv X aa au H' s'/\Q au H') X.xe s
abbrev TSet:=V->V->V->Hp->(Hp->Prop)->Prop
def PSet(X:Cx)(t:TSet):Prop:=
 ∀(aa:List (h_×Obj)) (s:d_) (U:St) (H:Hp) (o i v:V) (ov iv u:b_) (Q:Hp->Prop),Inv X aa U H s->RelV o ov->RelV i iv->RelV v u->t o i v H Q →
  w_ (n_ X.prog X.w) X.A (Si ov iv u) (λ_ s'=>∃H',Inv X aa U H' s'/\Q H') X.xe s
section
variable{X:Cx}
noncomputable def gName(i:Nat):TG:=λv U H Q=>Q (U.set i (some v)) H
theorem yf{i:Nat}{x:Str}(hN:X.N.Nodup)(hi:X.N[i]?=some x)(hx:Loc X.env.scope x)(hf:X.fn x=true\/X.env.scope.names.lookup x=some .local):PG X (.Name x pos) (gName i):=by
 intro aa s U H v u Q I r h;exact Q6 (AC I hN hi hx r (λs' I'=>⟨_,H,I',h⟩) hf)
noncomputable def gNil:TGs:=λvs U H Q=>vs=[]/\Q U H
noncomputable def gCons(t:TG)(u:TGs):TGs:=λvs U H Q=>∃v r,vs=v::r/\t v U H λau H'=>u r au H' Q
theorem Bf:PGs X [] gNil:=by
 intro aa s U H vs us Q I r h;obtain⟨e,h⟩:=h;subst e;cases r;exact assignInOrder_nil ⟨U,H,I,h⟩
theorem Du{es:List KQ}{t:TG}{u:TGs}(h1:PG X e t)(h2:PGs X es u)(hs:(L_ (e::es) X.env).map (·.2)=N9 e X.env::(L_ es X.env).map (·.2):=by rfl):PGs X (e::es) (gCons t u):=by
 intro aa s U H vs us Q I r h;obtain⟨v,vr,e1,h⟩:=h;subst e1;cases r with
 | cons r rr =>
  rw[hs];refine assignInOrder_cons (thn (h1 aa s U H _ _ _ I r h) λ_ s1 ⟨dN,H1,I1,q1⟩=>?_);exact h2 aa s1 dN H1 _ _ Q I1 rr q1
noncomputable def gTup(K:PySem.W.Frag)(n:Nat)(t:TGs):TG:=λv U H Q=>∃a xs,v=.ref a/\SqT K H a xs/\xs.length=n/\t xs U H Q
theorem Ig{es:List KQ}{k:Nat}{t:TGs}(hc:X.calm=true)(h:PGs X es t)(hn:(L_ es X.env).length=n:=by rfl)(jo:(L_ es X.env).findIdx? (·.1)=none:=by rfl):PG X (.Tuple es k pos) (gTup X.K n t):=by
 intro aa s U H v u Q I r hw;obtain⟨a,xs,e1,hq,hl,hw⟩:=hw;subst e1;cases r;obtain⟨af,rv,ht,hz⟩:=I.tuple hq;refine assign_Tuple_tuple (I.ok.hd hc) ht (by simp[hn,←hl,rv.length]) jo λh' hx=>?_
 have I1:Inv X aa U H { s with heap:=h' }:=I.kept (t':=s.toks) λb o e=>hx b o (KI (F_ e)) e
 exact h aa _ U H xs _ Q I1 (by simpa using rv) hw
noncomputable def gSub(to ti:TE)(t:TSet):TG:=λv U H Q=>to U H λo H1=>ti U H1 λi H2=>t o i v H2 λH3=>Q U H3
theorem A'{o i:KQ}{to ti:TE}{t:TSet}(ho:PE X o to)(hi:PE X i ti)(hs:PSet X t)(ha:∀v,N9 (.Subscript o i pos) X.env v=(do
   let ov ←Nw [v] (KR o X.env)
   let iv ←Nw [v,ov] (KR i X.env)
   Sg pos
   Nw [v,ov,iv] (Si ov iv v)
   release [v,ov,iv] []):=by intros;rfl):PG X (.Subscript o i pos) (gSub to ti t):=by
 intro aa s U H v u Q I r h;rw[ha];refine a_ (Kz (thn (ho aa s U H _ I h) λov s1 ⟨x,H1,I1,r1,q1⟩=>?_));refine a_ (Kz (thn (hi aa s1 U H1 _ I1 q1) λiv s2 ⟨y,H2,I2,r2,q2⟩=>?_));refine a_ (QE (a_ (Kz (thn (hs aa s2 U H2 x y v ov iv u _ I2 r1 r2 r q2) λ_ s3 ⟨H3,I3,q3⟩=>?_))));exact wpAny_release ⟨U,H3,I3,q3⟩
noncomputable def tAsg(te:TE)(g:TG):TS:=λD U H=>te U H λx H1=>g x U H1 D.nx
theorem vd{te:TE}{g:TG}(he:PE X e te)(hg:PG X tg g)(hs:OX [tg] e pos.line X.env=pure false:=by rfl)(hw:OY [tg] e X.env=pure none:=by rfl)(h1:(L_ [tg] X.env).map (·.2)=[N9 tg X.env]:=by rfl):PS X (.Assign [tg] e pos) (tAsg te g):=by
 intro aa s U H D I h;refine wpAny_Assign_stores (thn (he aa s U H _ I h) λv s1 ⟨x,H1,I1,r1,q1⟩=>?_) hs hw;rw[h1];exact thn (hg aa s1 U H1 x v _ I1 r1 q1) λ_ s2 q=>q
theorem v5{i:Nat}{x:Str}{te:TE}(hN:X.N.Nodup)(hi:X.N[i]?=some x)(hx:Loc X.env.scope x)(he:PE X e te)(hs:Mo e (some (.Name x aA)) pos.line X.env=pure false:=by rfl)(hf:X.fn x=true\/X.env.scope.names.lookup x=some .local):
  PS X (.Assign [.Name x aA] e pos) (tAsg te (gName i)):=by
 intro aa s U H D I h;refine wpAny_Assign_Name (thn (he aa s U H _ I h) λv s1 ⟨y,H1,I1,r1,q1⟩=>?_) hs;exact AC I1 hN hi hx r1 (λs2 I2=>⟨_,H1,I2,q1⟩) hf
end
structure It where
 go:Nat->Hp->Prop
 yld:Nat->Hp->V->Hp->Prop
 stop:Nat->Hp->Prop
def FpOk(X:Cx)(aa:List (h_×Obj))(H:Hp)(b:h_):Prop:=
 H b=none/\b≠X.env.locals/\b∉X.fs/\(b∈X.ex\/X.s₀.heap.objs.size<=b)/\(∀x c,X.env.cells.lookup x=some c->c≠b)/\∀p∈X.pn++aa,p.1≠b
theorem Inv.fpOk{X:Cx}{U:St}{H H':Hp}{s:d_}{b:h_}(I:Inv X aa U H s)(hb:s.heap.objs.size<=b)(hn:H' b=none):FpOk X aa H' b:=by
 refine⟨hn,Nb (J_ I.lt hb),I.nofs hb,.inr (LL I.sz hb),λx c e z=>?_,λp hp z=>?_⟩
 ·obtain⟨v,q⟩:=I.cell x c e;exact absurd (J_ q.lt (by rw[z];exact hb)) (MG _)
 ·exact absurd (J_ (F_ (I.pin p hp).1) (by rw[z];exact hb)) (MG _)
structure Turn(P:z_)(w:I_)(K:PySem.W.Frag)(tg:KQ)(J:It)(fp:List h_)(it:h_)(tn:Nat->KM->Prop):Prop where
 mem:it∈fp
 obj:∀i h,tn i h->∀b∈fp,∃o,h.get? b=some o/\∀v,o.data≠.cell v
 keep:∀i h h',tn i h->(∀b∈fp,∀o,h.get? b=some o->h'.get? b=some o)->tn i h'
 item:∀(X:Cx),X.prog=P->X.w=w->X.K=K->X.calm=true->∀(i:Nat) (aa:List (h_×Obj)) (s:d_) (U:St) (H:Hp) (E:b_->d_->Prop),Inv X aa U H s->(∀b∈fp,FpOk X aa H b)->tn i s.heap->J.go i H →
  w_ (n_ P w) X.A (Mn (.ref it)) (λr s1=>∃u,r=some u ∧
   w_ (n_ P w) X.A (N_ tg (.ref it) u) (λ_ s2=>∃x H',Inv X aa U H' s2/\RelV x u/\J.yld i H x H'/\tn (i+1) s2.heap/\∀b∈fp,H' b=none) E s1) E s
 done:∀(X:Cx),X.prog=P->X.w=w->X.K=K->X.calm=true->∀(i:Nat) (aa:List (h_×Obj)) (s:d_) (U:St) (H:Hp) (E:b_->d_->Prop),Inv X aa U H s->(∀b∈fp,FpOk X aa H b)->tn i s.heap->J.stop i H →
  w_ (n_ P w) X.A (Mn (.ref it)) (λr s1=>r=none/\Inv X aa U H s1) E s
 self:∀(A:Mc) (i:Nat) (s:d_) (Q:b_->d_->Prop) (E:b_->d_->Prop),tn i s.heap->Q (.ref it) s->w_ (n_ P w) A (QH (.ref it)) Q E s
abbrev TI:=St->Hp->(It->Hp->Prop)->Prop
def PIE(X:Cx)(aa:List (h_×Obj))(U:St)(tg:KQ)(R:It->Hp->Prop)(hG:b_)(s2:d_):Prop:=
 ∃(it:h_) (fp:List h_) (tn:Nat->KM->Prop) (J:It) (H':Hp),hG=.ref it/\Inv X aa U H' s2/\Turn X.prog X.w X.K tg J fp it tn/\tn 0 s2.heap/\(∀b∈fp,FpOk X aa H' b)/\R J H'
def PI(X:Cx)(tg iter:KQ)(wi:TI):Prop:=
 ∀(aa:List (h_×Obj)) (s:d_) (U:St) (H:Hp) (R:It->Hp->Prop),Inv X aa U H s->wi U H R →
  w_ (n_ X.prog X.w) X.A (KR iter X.env) (λv s1=>w_ (n_ X.prog X.w) X.A (QH v) (PIE X aa U tg R) X.xe s1) X.xe s
theorem sZ{M:Model}{E:b_->d_->Prop}{s:d_}{it:h_}{u:b_}{o:Obj}{n:String}{vs:Array b_}{Q:Unit->d_->Prop}(ho:s.heap.get? it=some o)(hc:o.cls=.type n)(hd:o.data=.fields vs)(hn:["enumerate", "zip", "dict_itemiterator", "dict_reverseitemiterator", "odict_iterator", "itertools.zip_longest", "itertools.pairwise"].contains n=false)(hQ:Q () s):w_ M A (N_ tg (.ref it) u) Q E s:=by
 unfold N_
 cases tg<;>first
  | exact e_ hQ
  | (cases u<;>first
    | exact e_ hQ
    | (refine a_ (wpAny_load ho ?_)
       rw[hc,hd];show w_ M A (if(["enumerate", "zip", "dict_itemiterator", "dict_reverseitemiterator", "odict_iterator", "itertools.zip_longest", "itertools.pairwise"].contains n&&vs[0]? == some (Md _))=true then _ else _) Q E s;rw[if_neg (by intro h;rw[hn,P0] at h;cases h)]
       exact e_ hQ))
noncomputable def Itl(K:PySem.W.Frag)(a:h_):It:=
 ⟨λi H=>∃xs x,SqL K H a xs/\xs[i]?=some x,λi H x H'=>H'=H/\∀xs,SqL K H a xs->xs[i]?=some x,λi H=>∃xs,SqL K H a xs/\xs.length<=i⟩
noncomputable def Itt(K:PySem.W.Frag)(a:h_):It:=
 ⟨λi H=>∃xs x,SqT K H a xs/\xs[i]?=some x,λi H x H'=>H'=H/\∀xs,SqT K H a xs->xs[i]?=some x,λi H=>∃xs,SqT K H a xs/\xs.length<=i⟩
noncomputable def Itr(lo:Int)(n:Nat):It:=⟨λi _=>i < n,λi H x H'=>H'=H/\x=.int (lo+i),λi _=>n<=i⟩
theorem Gi{P:z_}{w:I_}{K:PySem.W.Frag}(a it:h_):Turn P w K tg (Itl K a) [it] it (λi h=>h.IsListIter it a i) where
 mem:=by simp
 obj:=λi h st b hb=>by
  have e:b=it:=by simpa using hb
  subst e;obtain⟨o,e,c,d⟩:=st;exact⟨o,e,λv z=>by rw[d] at z;cases z⟩
 keep:=λi h h' st k=>st.at λo e=>k it (by simp) o e
 item:=by
  intro X hP hw hK hc i aa s U H E I hf st hg;subst hP hw hK;obtain⟨xs,x,hq,hx⟩:=hg;obtain⟨af,rv,p,hz⟩:=I.list hq;obtain⟨u,hu,ru⟩:=rv.get hx;obtain⟨f0,f1,f2,f3,f4,f5⟩:=hf it (by simp);refine wpAny_pyNext_list_item st p.isList (x:=u) (by simpa using hu) λh' ag sb=>?_
  have I1:Inv X aa U H { s with heap:=h' }:=I.turned (t':=s.toks) (λb o hb e=>(sb.2 b hb).trans e) f0 f1 f3 f4 f5;obtain⟨o,e,c,d⟩:=id ag;exact⟨u,rfl,sZ (s:={ s with heap:=h' }) e c d (by decide) ⟨x,H,I1,ru,⟨rfl,λys hy=>by rw[I.list_inj hy hq];exact hx⟩,ag,λb hb=>(hf b hb).1⟩⟩
 done:=by
  intro X hP hw hK hc i aa s U H E I hf st hg;subst hP hw hK;obtain⟨xs,hq,hx⟩:=hg;obtain⟨af,rv,p,hz⟩:=I.list hq;obtain⟨f0,f1,f2,f3,f4,f5⟩:=hf it (by simp);have hl:=rv.length;exact wpAny_pyNext_list_end (I.ok.hd hc) st p.isList (by simp;omega) λh' eb=>⟨rfl,I.turned (t':=s.toks) (λb o hb e=>eb b o hb e) f0 f1 f3 f4 f5⟩
 self:=λ_ _ _ _ _ st h=>wpAny_pyIter_listiter st h
theorem G2{P:z_}{w:I_}{K:PySem.W.Frag}(a it:h_):Turn P w K tg (Itt K a) [it] it (λi h=>h.IsTupleIter it a i) where
 mem:=by simp
 obj:=λi h st b hb=>by
  have e:b=it:=by simpa using hb
  subst e;obtain⟨o,e,c,d⟩:=st;exact⟨o,e,λv z=>by rw[d] at z;cases z⟩
 keep:=λi h h' st k=>st.at λo e=>k it (by simp) o e
 item:=by
  intro X hP hw hK hc i aa s U H E I hf st hg;subst hP hw hK;obtain⟨xs,x,hq,hx⟩:=hg;obtain⟨af,rv,p,hz⟩:=I.tuple hq;obtain⟨u,hu,ru⟩:=rv.get hx;obtain⟨f0,f1,f2,f3,f4,f5⟩:=hf it (by simp);refine wpAny_pyNext_tuple_item st (show s.heap.IsTuple a af.toArray from p) (x:=u) (by simpa using hu) λh' ag sb=>?_
  have I1:Inv X aa U H { s with heap:=h' }:=I.turned (t':=s.toks) (λb o hb e=>(sb.2 b hb).trans e) f0 f1 f3 f4 f5;obtain⟨o,e,c,d⟩:=id ag;exact⟨u,rfl,sZ (s:={ s with heap:=h' }) e c d (by decide) ⟨x,H,I1,ru,⟨rfl,λys hy=>by rw[I.tuple_inj hy hq];exact hx⟩,ag,λb hb=>(hf b hb).1⟩⟩
 done:=by
  intro X hP hw hK hc i aa s U H E I hf st hg;subst hP hw hK;obtain⟨xs,hq,hx⟩:=hg;obtain⟨af,rv,p,hz⟩:=I.tuple hq;obtain⟨f0,f1,f2,f3,f4,f5⟩:=hf it (by simp);have hl:=rv.length;exact wpAny_pyNext_tuple_end (I.ok.hd hc) st (show s.heap.IsTuple a af.toArray from p) (by simp;omega) λh' eb=>⟨rfl,I.turned (t':=s.toks) (λb o hb e=>eb b o hb e) f0 f1 f3 f4 f5⟩
 self:=λ_ _ _ _ _ st h=>wpAny_pyIter_tupleiter st h
theorem Er{P:z_}{w:I_}{K:PySem.W.Frag}(it:h_)(lo:Int)(n:Nat):Turn P w K tg (Itr lo n) [it] it (λi h=>IsRangeIter h it (lo+(i:Nat)*1) ((n:Int) - (i:Nat)) 1) where
 mem:=by simp
 obj:=λi h st b hb=>by
  have e:b=it:=by simpa using hb
  subst e
  exact⟨_,st,λv z=>by
   have z':fields _=Qn v:=z
   cases z'⟩
 keep:=λi h h' st k=>k it (by simp) _ st
 item:=by
  intro X hP hw hK hc i aa s U H E I hf st hg;subst hP hw hK;obtain⟨f0,f1,f2,f3,f4,f5⟩:=hf it (by simp);have W:=RS.range (prog:=X.prog) (w:=X.w) (I.ok.hd hc) it lo 1 n;refine W.item i s _ _ hg st λv h' tk hv ag kk=>?_
  obtain⟨t,rfl⟩:=hv;have I1:Inv X aa U H { s with heap:=h',toks:=tk }:=I.turned (λb o hb e=>kk b o (by simpa using hb) e) f0 f1 f3 f4 f5;refine⟨_,rfl,sZ (s:={ s with heap:=h',toks:=tk }) (n:= "range_iterator") ag rfl rfl (by decide) ⟨.int (lo+i),H,I1,⟨t,?_⟩,⟨rfl,rfl⟩,ag,λb hb=>(hf b hb).1⟩⟩;rw[Int.mul_one]
 done:=by
  intro X hP hw hK hc i aa s U H E I hf st hg;subst hP hw hK;obtain⟨f0,f1,f2,f3,f4,f5⟩:=hf it (by simp);exact wpAny_pyNext_range_end (I.ok.hd hc) st (by have:n<=i:=hg;omega) λh' eb=>⟨rfl,I.turned (t':=s.toks) (λb o hb e=>eb b o hb e) f0 f1 f3 f4 f5⟩
 self:=λ_ _ _ _ _ st h=>wpAny_pyIter_rangeiter st h
section
variable{X:Cx}
theorem xn{U:St}{H:Hp}{s:d_}{R:It->Hp->Prop}{E:b_->d_->Prop}{lo hi:Int}{t u v:Tok}(I:Inv X aa U H s)(h1:-(2 ^ 62)<=lo)(h2:lo < 2 ^ 62)(h3:-(2 ^ 62)<=hi)(h4:hi < 2 ^ 62)(q:R (Itr lo (hi - lo).toNat) H):w_ (n_ X.prog X.w) X.A (QH (.ref s.heap.objs.size)) (PIE X aa U tg R) E { s with heap:=s.heap.push { cls:=.type "range", data:=.fields #[.int lo t,.int hi u,.int 1 v] },toks:=tk }:=by
 refine wpAny_pyIter_range (IsRange.new ..) (small_one h1 h2 h3 h4) ?_;have I1:Inv X aa U H { s with heap:=s.heap.push { cls:=.type "range", data:=.fields #[.int lo t,.int hi u,.int 1 v] },toks:=tk }:=I.kept λb o e=>c_ _ e
 refine⟨(s.heap.push { cls:=.type "range", data:=.fields #[.int lo t,.int hi u,.int 1 v] }).objs.size,[(s.heap.push { cls:=.type "range", data:=.fields #[.int lo t,.int hi u,.int 1 v] }).objs.size],_,_,H,rfl,
  I1.kept (t':=tk) λb o e=>c_ _ e,Er _ lo (hi - lo).toNat,?_,λb hb=>?_,q⟩
 ·have e1:lo+((0:Nat):Int)*1=lo:=by simp
  have e2:(((hi - lo).toNat:Nat):Int) - ((0:Nat):Int)=rangeSize lo hi 1:=by rw[rangeSize_one];split<;>omega
  show IsRangeIter _ _ (lo+((0:Nat):Int)*1) ((((hi - lo).toNat:Nat):Int) - ((0:Nat):Int)) 1;rw[e1,e2];exact t_ _ rfl
 ·have e:b=(s.heap.push { cls:=.type "range", data:=.fields #[.int lo t,.int hi u,.int 1 v] }).objs.size:=by simpa using hb
  subst e;exact I1.fpOk (B_ _) (I1.hok.fresh (B_ _))
noncomputable def iRng1(ta:TA):TI:=λU H R=>ta U H λvs H1=>∃j:Int,vs=[.int j]/\-(2 ^ 62)<=j/\j < 2 ^ 62/\R (Itr 0 j.toNat) H1
noncomputable def iRng2(ta:TA):TI:=λU H R=>ta U H λvs H1=>∃i j:Int,vs=[.int i,.int j]/\(-(2 ^ 62)<=i/\i < 2 ^ 62/\-(2 ^ 62)<=j/\j < 2 ^ 62)/\R (Itr i (j - i).toNat) H1
theorem Cm{a:KQ}{ta:TA}{p:Pos}(hg:Gl X "range")(hm:X.mg "range"=none)(ha:PA X [a] ta)(hs:f_ [a] X.env=[(false,KR a X.env)]:=by rfl):PI X tg (.Call (.Name "range" p) [a] [] pos) (iRng1 ta):=by
 intro aa s U H R I h;refine RT (qc I hg hm RU (KF (thn (ha pos aa s U H _ I h) λus s1 ⟨vs,H1,I1,r1,q1⟩=>?_) hs rfl));obtain⟨j,e,q1,q2,q⟩:=q1;subst e;cases r1 with
 | cons r rr =>
  cases rr;obtain⟨t,rfl⟩:=r;exact call_range_1 (xn I1 (by omega) (by omega) q1 q2 (by simpa using q))
theorem DX{a b:KQ}{ta:TA}{p:Pos}(hg:Gl X "range")(hm:X.mg "range"=none)(ha:PA X [a,b] ta)(hs:f_ [a,b] X.env=[(false,KR a X.env),(false,KR b X.env)]:=by rfl)(bM:f_ [b] X.env=[(false,KR b X.env)]:=by rfl):
  PI X tg (.Call (.Name "range" p) [a,b] [] pos) (iRng2 ta):=by
 intro aa s U H R I h;refine RT (qc I hg hm RU (KF (thn (ha pos aa s U H _ I h) λus s1 ⟨vs,H1,I1,r1,q1⟩=>?_) (by rw[hs,bM]) (by rw[bM];rfl)));obtain⟨i,j,e,⟨q1,q2,q3,q4⟩,q⟩:=q1;subst e;cases r1 with
 | cons r rr =>
  cases rr with
  | cons r' rr =>
   cases rr;obtain⟨t,rfl⟩:=r;obtain⟨t',rfl⟩:=r';exact call_range_2 (xn I1 q1 q2 q3 q4 q)
noncomputable def tFor(wi:TI)(g:TG)(tb:TS):TS:=λD U H=>wi U H λJ H1=>∃W:Nat->Nat->St->Hp->Prop,(∃m,W 0 m U H1)/\∀i m U H,W i m U H →
 (J.stop i H/\D.nx U H)\/(J.go i H/\∃N:St->Hp->Prop,(∀au H',N au H'->∃m',m' < m/\W (i+1) m' au H')/\∀x H',J.yld i H x H'->g x U H' λbb H2=>tb { D with nx:=N,ct:=N,bk:=D.nx } bb H2)
noncomputable def pinsAt(fp:List h_)(h:KM):List (h_×Obj):=fp.filterMap λb=>(h.get? b).map λo=>(b,o)
theorem tP{b:h_}{o:Obj}(hb:b∈fp)(e:h.get? b=some o):(b,o)∈pinsAt fp h:=Oy.mpr ⟨b,hb,by rw[e];rfl⟩
theorem Gu{p:h_×Obj}(hp:p∈pinsAt fp h):p.1∈fp/\h.get? p.1=some p.2:=by
 obtain⟨b,hb,e⟩:=Oy.mp hp;cases q:h.get? b with
 | none=>rw[q] at e;cases e
 | some o =>
  rw[q] at e;have e':(b,o)=p:=KH e;subst e';exact⟨hb,q⟩
theorem Inv.pinned{U:St}{H:Hp}{s:d_}(I:Inv X aa U H s)(hf:∀b∈fp,FpOk X aa H b)(ho:∀b∈fp,∃o,s.heap.get? b=some o/\∀v,o.data≠.cell v):Inv X (aa++pinsAt fp s.heap) U H s:=
 I.pins_of λp hp=>(Lg.mp hp).elim (λz=>I.pin p (KW _ z)) λz=>by
  obtain⟨hb,e⟩:=Gu z;obtain⟨f0,f1,f2,_⟩:=hf p.1 hb;obtain⟨o,e',d⟩:=ho p.1 hb;rw[e] at e';cases e';exact⟨e,f0,f1,f2,d⟩
theorem Inv.unpinned{pl:List (h_×Obj)}{U:St}{H:Hp}{s:d_}(I:Inv X (aa++pl) U H s):Inv X aa U H s:=I.pins_of λp hp=>I.pin p (KW _ (MT _ hp))
theorem GS{body:List L9}{wi:TI}{g:TG}{tb:TS}(hp:PassesOwn (n_ X.prog X.w) X.A X.env X.xe)(hc:X.calm=true)(hi:PI X tg iter wi)(hg:PG X tg g)(hb:PSs X body tb)(hs:∀x,L8 iter X.env x=pure x:=by intros;rfl):PS X (.For tg iter body [] pos) (tFor wi g tb):=by
 intro aa s U H D I h;refine wpAny_For (thn (hi aa s U H _ I h) λv s1 h1=>thn h1 λhG s2 h2=>?_) hs;obtain⟨it,fp,tn,J,H2,e,I2,T,bN,f2,W,⟨m0,w0⟩,turn⟩:=h2;subst e
 -- what stays true of the iterator's objects through the aX
 have cZ:∀{H':Hp},(∀b∈fp,H' b=none)->∀b∈fp,FpOk X aa H' b:=λhn b hb=>⟨hn b hb,(f2 b hb).2⟩
 refine codeAny_forLoop_any (λn s'=>∃i au H',Inv X aa au H' s'/\tn i s'.heap/\(∀b∈fp,H' b=none)/\W i n au H') ?_ m0 ⟨0,U,H2,I2,bN,λb hb=>(f2 b hb).1,w0⟩;rintro n s3 ⟨i,fO,H3,I3,cS,kt,w3⟩
 rcases turn i n fO H3 w3 with⟨stop,qn⟩ | ⟨go,N,hN,step⟩
 ·refine Nk hp (thn (T.done X rfl rfl rfl hc i aa s3 fO H3 X.xe I3 (cZ kt) cS stop) λr s4 ⟨hr,I4⟩=>?_);subst hr;exact PL ⟨fO,H3,I4,qn⟩
 ·refine Nk hp (thn (T.item X rfl rfl rfl hc i aa s3 fO H3 X.xe I3 (cZ kt) cS go) λr s4 ⟨u,hr,h4⟩=>?_);subst hr;refine Nk hp (thn h4 λ_ s5 ⟨x,H5,I5,r5,y5,fy,hJ⟩=>?_);have mR:=I5.pinned (cZ hJ) (T.obj _ _ fy);refine Nk hp (thn (hg _ s5 fO H5 x u _ mR r5 (step x H5 y5)) λ_ s6 ⟨mS,H6,I6,q6⟩=>?_);refine Nk hp (thn (hb _ s6 mS H6 _ I6 q6) λf s7 q7=>?_)
  have Q7:∀{c7:St}{H7:Hp},Inv X (aa++pinsAt fp s5.heap) c7 H7 s7->N c7 H7->∃m,m < n/\∃i au H',Inv X aa au H' s7/\tn i s7.heap/\(∀b∈fp,H' b=none)/\W i m au H':=λ{c7 H7} I7 n7=>by
   obtain⟨m',hm,w7⟩:=hN c7 H7 n7;refine⟨m',hm,i+1,c7,H7,I7.unpinned,T.keep _ _ _ fy λb hb o e=>(I7.pin (b,o) (KW _ (KW _ (tP hb e)))).1,λb hb=>?_,w7⟩;obtain⟨o,e,d⟩:=T.obj _ _ fy b hb;exact(I7.pin (b,o) (KW _ (KW _ (tP hb e)))).2.1
  cases f with
  | next=>obtain⟨c7,H7,I7,n7⟩:=q7;exact Q7 I7 n7
  | cont=>obtain⟨c7,H7,I7,n7⟩:=q7;exact Q7 I7 n7
  | brk=>obtain⟨c7,H7,I7,q7⟩:=q7;exact⟨c7,H7,I7.unpinned,q7⟩
  | ret v=>obtain⟨x7,c7,H7,I7,r7,q7⟩:=q7;exact⟨x7,c7,H7,I7.unpinned,r7,q7⟩
end
abbrev R2:=V->V->Hp->VK->Prop
def OpR(X:Cx)(f:b_->b_->Sem b_)(r:R2):Prop:=
 ∀(aa:List (h_×Obj)) (s:d_) (U:St) (H:Hp) (x y:V) (v u:b_) (Q:VK),Inv X aa U H s->RelV x v->RelV y u->r x y H Q →
  w_ (n_ X.prog X.w) X.A (f v u) (EP X aa U Q) X.xe s
def UnR(X:Cx)(f:b_->Sem b_)(r:V->Hp->VK->Prop):Prop:=
 ∀(aa:List (h_×Obj)) (s:d_) (U:St) (H:Hp) (x:V) (v:b_) (Q:VK),Inv X aa U H s->RelV x v->r x H Q →
  w_ (n_ X.prog X.w) X.A (f v) (EP X aa U Q) X.xe s
def CallR(X:Cx)(f:b_)(r:List V->Hp->VK->Prop):Prop:=
 ∀(aa:List (h_×Obj)) (s:d_) (U:St) (H:Hp) (xs:List V) (us:List b_) (Q:VK),Inv X aa U H s->Vals xs us->r xs H Q →
  w_ (n_ X.prog X.w) X.A (call f us) (EP X aa U Q) X.xe s
noncomputable def tOp(r:R2)(ta tb:TE):TE:=λU H Q=>ta U H λx H1=>tb U H1 λy H2=>r x y H2 Q
noncomputable def tUn(r:V->Hp->VK->Prop)(ta:TE):TE:=λU H Q=>ta U H λx H1=>r x H1 Q
noncomputable def rI(C:Int->Int->Prop)(g:Int->Int->V):R2:=λx y H Q=>∃i j,x=.int i/\y=.int j/\C i j/\Q (g i j) H
noncomputable def rI0(g:Int->Int->V):R2:=λx y H Q=>∃i j,x=.int i/\y=.int j/\Q (g i j) H
def rU(g:Int->V):V->Hp->VK->Prop:=λx H Q=>∃i,x=.int i/\Q (g i) H
section
variable{X:Cx}{a b c:KQ}{ta tb tc:TE}
theorem binT(ha:PE X a ta)(hb:PE X b tb){s:d_}{U:St}{H:Hp}{R:V->V->Hp->Prop}(I:Inv X aa U H s)(h:ta U H λx H1=>tb U H1 λy H2=>R x y H2){Q:b_->d_->Prop}{f:b_->b_->Sem b_}(hf:∀v u s2 x y H2,Inv X aa U H2 s2->RelV x v->RelV y u->R x y H2->w_ (n_ X.prog X.w) X.A (f v u) Q X.xe s2):
  w_ (n_ X.prog X.w) X.A (KR a X.env) (λv aw=>w_ (n_ X.prog X.w) X.A (KR b X.env) (λu cY=>w_ (n_ X.prog X.w) X.A (f v u) Q X.xe cY) X.xe aw) X.xe s:=by
 refine thn (ha aa s U H _ I h) λv s1 ⟨x,H1,I1,r1,q1⟩=>?_
 refine thn (hb aa s1 U H1 _ I1 q1) λu s2 ⟨y,H2,I2,r2,q2⟩=>?_
 exact hf v u s2 x y H2 I2 r1 r2 q2
theorem y4{op:Operator}{r:R2}(ho:OpR X (MH op) r)(ha:PE X a ta)(hb:PE X b tb):PE X (.BinOp a op b pos) (tOp r ta tb):=by
 intro aa s U H Q I h;exact wpAny_BinOp (binT ha hb I h λv u s2 x y H2 I2 rx ry q=>ho aa s2 U H2 x y v u Q I2 rx ry q)
theorem Cp{op:UnaryOp}{r:V->Hp->VK->Prop}(ho:UnR X (unaryOp op) r)(ha:PE X a ta):PE X (.UnaryOp op a pos) (tUn r ta):=by
 intro aa s U H Q I h;exact UnaryOp_ (thn (ha aa s U H _ I h) λv s1 ⟨x,H1,I1,r1,q1⟩=>ho aa s1 U H1 x v Q I1 r1 q1)
theorem opI{f:b_->b_->Sem b_}{C:Int->Int->Prop}{g:Int->Int->Int}(Q8:∀(i j:Int) (t u:Tok) (s:d_) (Q:b_->d_->Prop) (E:b_->d_->Prop),C i j->Q (.int (g i j) s.toks) { s with toks:=s.toks+1 }->w_ (n_ X.prog X.w) X.A (f (.int i t) (.int j u)) Q E s):
  OpR X f (rI C λi j=>.int (g i j)):=by
 intro aa s U H x y v u Q I rx ry h;obtain⟨i,j,rfl,rfl,hc,q⟩:=h;obtain⟨t,rfl⟩:=rx;obtain⟨t',rfl⟩:=ry;exact Q8 i j t t' s _ _ hc ⟨.int (g i j),H,I.tok _,⟨_,rfl⟩,q⟩
theorem opI0{f:b_->b_->Sem b_}{g:Int->Int->Int}(Q8:∀(i j:Int) (t u:Tok) (s:d_) (Q:b_->d_->Prop) (E:b_->d_->Prop),Q (.int (g i j) s.toks) { s with toks:=s.toks+1 }->w_ (n_ X.prog X.w) X.A (f (.int i t) (.int j u)) Q E s):
  OpR X f (rI0 λi j=>.int (g i j)):=by
 intro aa s U H x y v u Q I rx ry h;obtain⟨i,j,rfl,rfl,q⟩:=h;obtain⟨t,rfl⟩:=rx;obtain⟨t',rfl⟩:=ry;exact Q8 i j t t' s _ _ ⟨.int (g i j),H,I.tok _,⟨_,rfl⟩,q⟩
theorem opB0{f:b_->b_->Sem b_}{g:Int->Int->Bool}(Q8:∀(i j:Int) (t u:Tok) (s:d_) (Q:b_->d_->Prop) (E:b_->d_->Prop),Q (.bool (g i j)) s->w_ (n_ X.prog X.w) X.A (f (.int i t) (.int j u)) Q E s):
  OpR X f (rI0 λi j=>.bl (g i j)):=by
 intro aa s U H x y v u Q I rx ry h;obtain⟨i,j,rfl,rfl,q⟩:=h;obtain⟨t,rfl⟩:=rx;obtain⟨t',rfl⟩:=ry;exact Q8 i j t t' s _ _ ⟨.bl (g i j),H,I,rfl,q⟩
def CPow(i j:Int):Prop:=0<=j/\j<=1000000/\i.natAbs < 2 ^ 64
def CMul(i j:Int):Prop:=(-(2 ^ 64) < i/\i < 2 ^ 64)\/(-(2 ^ 64) < j/\j < 2 ^ 64)
theorem CMul.ok{i j:Int}(h:CMul i j):IntMulOk i j:=by
 rcases h with⟨h1,h2⟩ | ⟨h1,h2⟩
 ·exact .of_left (intBits_le_64 h1 h2)
 ·exact .of_right (intBits_le_64 h1 h2)
theorem CK:OpR X (MH .Add) (rI0 λi j=>.int (i+j)):=opI0 λ_ _ _ _ _ _ _ q=>add_int q
theorem HH:OpR X (MH .Sub) (rI0 λi j=>.int (i - j)):=opI0 λ_ _ _ _ _ _ _ q=>sub_int q
theorem CU:OpR X (MH .Mult) (rI CMul λi j=>.int (i*j)):=opI λ_ _ _ _ _ _ _ hc q=>mul_int q hc.ok
theorem En:OpR X (MH .Mod) (rI (λ_ j=>0 < j) λi j=>.int (i % j)):=opI λi j _ _ _ _ _ hc q=>by
 have h1:(0:Int) < j:=hc;exact mod_int' (by omega) (by rw[Int.fmod_eq_emod_of_nonneg i (by omega)];exact q)
theorem GZ:OpR X (MH .Pow) (rI CPow λi j=>.int (i ^ j.toNat)):=opI λ_ _ _ _ _ _ _ hc q=>pow_int_small hc.1 hc.2.1 hc.2.2 q
theorem unI{f:b_->Sem b_}{g:Int->Int}(Q8:∀(i:Int) (t:Tok) (s:d_) (Q:b_->d_->Prop) (E:b_->d_->Prop),Q (.int (g i) s.toks) { s with toks:=s.toks+1 }->w_ (n_ X.prog X.w) X.A (f (.int i t)) Q E s):
  UnR X f (rU λi=>.int (g i)):=by
 intro aa s U H x v Q I rx h;obtain⟨i,rfl,q⟩:=h;obtain⟨t,rfl⟩:=rx;exact Q8 i t s _ _ ⟨.int (g i),H,I.tok _,⟨_,rfl⟩,q⟩
theorem EA:UnR X (unaryOp .USub) (rU λi=>.int (-i)):=unI λ_ _ _ _ _ q=>neg_int q
end
section
variable{X:Cx}{a b c:KQ}{ta tb tc:TE}
theorem zF{U:St}{H:Hp}{s:d_}{Q:VK}{k k':Bool}(I:Inv X aa U H s)(q:Q (.bl k) H)(e:k=k'):EP X aa U Q (.bool k') s:=by
 subst e;exact⟨.bl k,H,I,rfl,q⟩
theorem Cs:OpR X (Mh .Lt) (rI0 λi j=>.bl (decide (i < j))):=opB0 λ_ _ _ _ _ _ _ q=>lt_int q
theorem G5:OpR X (Mh .Gt) (rI0 λi j=>.bl (decide (j < i))):=opB0 λ_ _ _ _ _ _ _ q=>gt_int q
theorem Df:OpR X (Mh .GtE) (rI0 λi j=>.bl (decide (j<=i))):=opB0 λ_ _ _ _ _ _ _ q=>ge_int q
theorem xJ:OpR X (Mh .Is) (λx y H Q=>y=.non/\Q (.bl (decide (x=.non))) H):=by
 intro aa s U H x y v u Q I rx ry h;obtain⟨rfl,q⟩:=h;cases ry;refine is_none_gen (zF I q ?_)
 cases x<;>first
  | (cases rx;rfl)
  | (obtain⟨t,rfl⟩:=rx;rfl)
theorem F8:OpR X (Mh .IsNot) (λx y H Q=>y=.non/\Q (.bl (!decide (x=.non))) H):=by
 intro aa s U H x y v u Q I rx ry h;obtain⟨rfl,q⟩:=h;cases ry;refine isnot_none_gen (zF I q ?_)
 cases x<;>first
  | (cases rx;rfl)
  | (obtain⟨t,rfl⟩:=rx;rfl)
theorem OpR.or{f:b_->b_->Sem b_}{r r':R2}(h:OpR X f r)(h':OpR X f r'):OpR X f (λx y H Q=>r x y H Q\/r' x y H Q):=by
 intro aa s U H x y v u Q I rx ry q
 rcases q with q | q
 ·exact h aa s U H x y v u Q I rx ry q
 ·exact h' aa s U H x y v u Q I rx ry q
theorem nomark(b:KQ)(h:op≠.In:=by decide)(h2:op≠.NotIn:=by decide):Mz op b=false:=by
 have e1:(op == CmpOp.In)=false:=by cases op<;>first | rfl | exact absurd rfl h
 have e2:(op == CmpOp.NotIn)=false:=by cases op<;>first | rfl | exact absurd rfl h2
 cases b<;>simp[Mz,e1,e2]
theorem Fm{r:R2}(ho:OpR X (Mh op) r)(ha:PE X a ta)(hb:PE X b tb)(hm:Mz op b=false):PE X (.Compare a [op] [b] pos) (tOp r ta tb):=by
 intro aa s U H Q I h;exact wpAny_Compare1 (binT ha hb I h λv u s2 x y H2 I2 rx ry q=>ho aa s2 U H2 x y v u Q I2 rx ry q) hm
noncomputable def tTest(t:TE):TT:=λU H Q=>t U H λx H'=>∃k,x=.bl k/\Q k H'
theorem xC{r:R2}(ho:OpR X (Mh op) r)(ha:PE X a ta)(hb:PE X b tb)(hm:Mz op b=false):PT X (.Compare a [op] [b] pos) (tTest (tOp r ta tb)):=by
 intro aa s U H Q I h
 refine PR (thn (ha aa s U H _ I h) λv s1 ⟨x,H1,I1,r1,q1⟩=>thn (hb aa s1 U H1 _ I1 q1) λu s2 ⟨y,H2,I2,r2,q2⟩ =>
  thn (ho aa s2 U H2 x y v u _ I2 r1 r2 q2) λc s3 ⟨z,H3,I3,r3,k,e,q3⟩=>?_) hm
 subst e;cases r3;exact L7 ⟨H3,I3,q3⟩
theorem line63:(x_:Nat) < 2 ^ 63:=by rw[Lb];decide
theorem Dl:OpR X (MH .Add) (λx y H Q=>∃i j,x=.str i/\y=.str j/\i.length+j.length<=x_/\Q (.str (i++j)) H):=by
 intro aa s U H x y v u Q I rx ry h;obtain⟨i,j,rfl,rfl,hz,q⟩:=h;obtain⟨t,rfl⟩:=rx;obtain⟨t',rfl⟩:=ry;exact add_str (λt' tk=>⟨.str (i++j),H,I.tok _,⟨_,rfl⟩,q⟩) hz
theorem vals1{x:V}(r:Vals [x] us):∃u,us=[u]/\RelV x u:=by
 cases r with
 | cons r1 r2=>cases r2;exact⟨_,rfl,r1⟩
theorem vals2{x y:V}(r:Vals [x,y] us):∃u w',us=[u,w']/\RelV x u/\RelV y w':=by
 cases r with
 | cons r1 r2 =>
  cases r2 with
  | cons r3 r4=>cases r4;exact⟨_,_,rfl,r1,r3⟩
theorem Ep(hc:X.calm=true):CallR X (.builtin "max") (λxs H Q=>∃i j,xs=[.int i,.int j]/\Q (.int (if j > i then j else i)) H):=by
 intro aa s U H xs us Q I r h;obtain⟨i,j,rfl,q⟩:=h;obtain⟨u,w',rfl,⟨t,rfl⟩,⟨t',rfl⟩⟩:=vals2 r;refine max_two_ints (I.ok.hd hc) λh' tk k=>⟨_,H,I.kept k,?_,q⟩
 by_cases hj:j > i
 ·rw[if_pos hj,if_pos hj];exact⟨_,rfl⟩
 ·rw[if_neg hj,if_neg hj];exact⟨_,rfl⟩
theorem DU(hc:X.calm=true):CallR X (.builtin "min") (λxs H Q=>∃i j,xs=[.int i,.int j]/\Q (.int (if j < i then j else i)) H):=by
 intro aa s U H xs us Q I r h;obtain⟨i,j,rfl,q⟩:=h;obtain⟨u,w',rfl,⟨t,rfl⟩,⟨t',rfl⟩⟩:=vals2 r;refine min_two_ints (I.ok.hd hc) λh' tk k=>⟨_,H,I.kept k,?_,q⟩
 by_cases hj:j < i
 ·rw[if_pos hj,if_pos hj];exact⟨_,rfl⟩
 ·rw[if_neg hj,if_neg hj];exact⟨_,rfl⟩
end
structure Room(k:Nat)(A:Mc):Prop where
 hd:A.handled=none
 dp:A.depth+3*k+5 < P3
 un:A.units+16*k+200 < MN
 gd:A.guards=some []
theorem Room.mono{k:Nat}(r:Room k A)(h:j<=k):Room j A:=⟨r.hd,by have:=r.dp;omega,by have:=r.un;omega,r.gd⟩
theorem Room.deeper{k:Nat}(r:Room (k+1) A)(env:Env):Room k (A.deeper env):=
 ⟨r.hd,by have:=r.dp;show A.depth+1+3*k+5 < _;omega,by have:=r.un;show A.units+3+16*k+200 < _;omega,r.gd⟩
theorem Room.in1{k:Nat}(r:Room (k+1) A):Room k A.in1:=
 ⟨r.hd,by have:=r.dp;show A.depth+3*k+5 < _;omega,by have:=r.un;show A.units+1+16*k+200 < _;omega,r.gd⟩
theorem Room.depth{k:Nat}(r:Room k A):A.depth < P3:=by have:=r.dp;omega
theorem Room.units{k:Nat}(r:Room k A):A.units+64 < MN:=by have:=r.un;omega
noncomputable def tNil:TA:=λ_ H Q=>Q [] H
noncomputable def tCons(ta:TE)(tr:TA):TA:=λU H Q=>ta U H λx H1=>tr U H1 λxs H2=>Q (x::xs) H2
section
variable{X:Cx}{es:List KQ}{te:TE}{t:TA}
theorem sU:PA X [] tNil:=λ_ _ _ _ H Q I h=>Ms ⟨[],H,I,.nil,h⟩
theorem qI(ha:PE X e te)(hr:PA X es t)(hs:f_ (e::es) X.env=(false,KR e X.env)::f_ es X.env:=by rfl):PA X (e::es) (tCons te t):=by
 intro pos aa s U H Q I h;rw[hs];show w_ _ _ (spliced ((false,KR e X.env)::K0 pos (f_ es X.env))) _ _ s;refine Mj (thn (ha aa s U H _ I h) λu s1 ⟨x,H1,I1,r1,q1⟩=>?_);exact thn (hr pos aa s1 U H1 _ I1 q1) λus s2 ⟨xs,H2,I2,r2,q2⟩=>⟨x::xs,H2,I2,.cons r1 r2,q2⟩
noncomputable def tTup(t:TA):TE:=λU H Q=>t U H λxs H1=>xs.length<=x_/\∀p,H1 p=none->Q (.ref p) (upd H1 p (.tup xs))
noncomputable def tLst(t:TA):TE:=λU H Q=>t U H λxs H1=>xs.length<=x_/\∀p,H1 p=none->Q (.ref p) (upd H1 p (.lst xs))
theorem xu{x1}(h:PA X es t):PE X (.Tuple es x1 pos) (tTup t):=by
 intro aa s U H Q I hq;refine wpAny_Tuple_spliced (thn (h pos aa s U H _ I hq) λus s1 ⟨xs,H1,I1,r,z,q⟩=>⟨by rw[←r.length];exact z,?_⟩);have hf:H1 s1.heap.objs.size=none:=I1.hok.fresh (B_ _);refine⟨.ref s1.heap.objs.size,upd H1 s1.heap.objs.size (.tup xs),I1.laid (t':=s1.toks) (λb u e=>c_ _ e) (B_ _) ?_,rfl,q _ hf⟩;exact⟨z,us,r,⟨_,t_ _ rfl,rfl,_,rfl⟩⟩
theorem B8(h:PA X es t):PE X (.List es pos) (tLst t):=by
 intro aa s U H Q I hq;refine wpAny_List_spliced (thn (h pos aa s U H _ I hq) λus s1 ⟨xs,H1,I1,r,z,q⟩=>⟨by rw[←r.length];exact z,?_⟩);have hf:H1 s1.heap.objs.size=none:=I1.hok.fresh (B_ _);refine⟨.ref s1.heap.objs.size,upd H1 s1.heap.objs.size (.lst xs),I1.laid (t':=s1.toks) (λb u e=>c_ _ e) (B_ _) ?_,rfl,q _ hf⟩;exact⟨z,us,0,r,t_ _ rfl⟩
end
abbrev Sp:=List V->Hp->VK->XK->Prop
abbrev CXT:=List Env->Hp->d_->XK->b_->d_->Prop
structure Env0(P:z_)(w:I_)(K:PySem.W.Frag)(mg:Str->Option b_)(base:KM)(A:Mc)(outer:List Env)(s:d_)(H:Hp):Prop where
 frames:A.frames=some outer
 mod:Mod K mg base
 bs:∀b o,base.get? b=some o->s.heap.get? b=some o/\H b=none
 bsz:base.objs.size<=s.heap.objs.size
 funs:s.heap.FunFrames base outer
 frf:∀b∈frs outer,H b=none
 hok:HOk P w H s.heap
 bare:OL s.gens
 tb:TabsOk K H
def CE(outer:List Env)(P:z_)(w:I_)(H:Hp)(s:d_)(Q:VK)(u:b_)(s':d_):Prop:=
 ∃v H',s'.os=s.os/\OL s'.gens/\Un (frs outer) [] H H' s.heap s'.heap/\HOk P w H' s'.heap/\RelV v u/\Q v H'
def CR(CX:CXT)(outer:List Env)(P:z_)(w:I_)(H:Hp)(s:d_)(Q:VK)(E:XK)(r:Ry)(s':d_):Prop:=
 match r with
 | .ok (.ret u)=>CE outer P w H s Q u s'
 | .ok _=>False
 | .error e=>CX outer H s E e s'
structure FnOk(P:z_)(w:I_)(K:PySem.W.Frag)(mg:Str->Option b_)(base:KM)(CX:CXT)(k:Nat)(f:h_)(fd:NW)(ps:List Str)(sp:Sp):Prop where
 len:∀vs H Q E,sp vs H Q E->vs.length=ps.length
 run:∀(A:Mc) (outer:List Env) (s:d_) (H:Hp) (args:Args) (us:List b_) (vs:List V) (Q:VK) (E:XK),Room k A->Env0 P w K mg base A outer s H->Q9 s fd args (ps.zip us)->Vals vs us->sp vs H Q E →
  Ml (n_ P w) A (.call (.ref f) args) (CR CX outer P w H s Q E) s
theorem Env0.in1{P:z_}{w:I_}{K:PySem.W.Frag}{outer:List Env}{s:d_}{H:Hp}(e:Env0 P w K mg base A outer s H):
  Env0 P w K mg base A.in1 outer s H:=⟨e.frames,e.mod,e.bs,e.bsz,e.funs,e.frf,e.hok,e.bare,e.tb⟩
section
variable{X:Cx}{U:St}{H:Hp}{s:d_}
theorem Inv.env0(I:Inv X aa U H s):Env0 X.prog X.w X.K X.mg X.base X.A X.stack s H:=
 ⟨I.ok.frames,I.ok.mod,I.bs,LL I.ok.bsz I.sz,I.stack,I.stkFree,I.hok,I.bare,λc P h=>I.base.tbls P _ (I.ok.tb c P h)⟩
theorem Inv.after{Q:VK}{u:b_}(I:Inv X aa U H s)(h:CE X.stack X.prog X.w H s Q u s'):EP X aa U Q u s':=by
 obtain⟨v,H',os,bare,un,hok,r,q⟩:=h;obtain⟨hh,g,d,t,fP⟩:=s';obtain rfl:fP=s.os:=os;exact⟨v,H',I.call (h':=hh) (g':=g) (d':=d) (t':=t) (ch:=[]) un hok bare (λb z=>absurd z (by simp)),r,q⟩
end
noncomputable def tCall(sp:Sp)(dX:List V)(E:XK)(t:TA):TE:=λU H Q=>t U H λvs H1=>sp (vs++dX) H1 Q E
def Binds(K:PySem.W.Frag)(fd:NW)(ps:List Str)(ds:List b_):Prop:=
 ∀(s:d_) (us:List b_),K.In s.heap->(us++ds).length=ps.length->Q9 s fd ⟨us,[]⟩ (ps.zip (us++ds))
theorem Binds.all{K:PySem.W.Frag}(h:∀us:List b_,us.length=ps.length->MU fd ⟨us,[]⟩=pure (ps.zip us)):Binds K fd ps []:=λs us _ hl=>by
 rw[LD] at hl ⊢;exact .of_eq (h us hl)
def Passes(CX:CXT)(X:Cx)(E:XK):Prop:=∀(aa:List (h_×Obj)) (U:St) (H:Hp) (s:d_) (e:b_) (s':d_),Inv X aa U H s->CX X.stack H s E e s'->X.xe e s'
section
variable{X:Cx}{CX:CXT}{k:Nat}{C:h_}{sp:Sp}{dX:List V}{ds:List b_}{E:XK}{x m:Str}{p:Pos}{o:KQ}{es:List KQ}{ta:TE}{t:TA}
theorem Dc{U:St}{H:Hp}{s:d_}{Q:VK}{vs:List V}(F:FnOk X.prog X.w X.K X.mg X.base CX k f fd ps sp)(hr:Room k X.A)(hb:Binds X.K fd ps ds)(hd:Vals dX ds)(hx:Passes CX X E)(I:Inv X aa U H s)(r:Vals vs us)(h:sp (vs++dX) H Q E):w_ (n_ X.prog X.w) X.A (call (.ref f) us) (EP X aa U Q) X.xe s:=by
 have r2:Vals (vs++dX) (us++ds):=r.append hd;have hl:(us++ds).length=ps.length:=by rw[←r2.length];exact F.len _ _ _ _ h
 refine QI (M4 (F.run X.A X.stack s H ⟨us,[]⟩ (us++ds) (vs++dX) Q E hr I.env0 (hb s us I.kIn hl) r2 h) λr s' hq=>?_);cases r with
 | error e=>exact hx aa U H s e s' I hq
 | ok fl =>
  cases fl with
  | ret u=>exact I.after hq
  | next=>exact Sh hq
  | brk=>exact Sh hq
  | cont=>exact Sh hq
theorem rY(F:FnOk X.prog X.w X.K X.mg X.base CX k f fd ps sp)(hr:Room k X.A)(hg:Gl X x)(hm:X.mg x=some (.ref f))(hk:Oa X.K (.ref f)=true)(hb:Binds X.K fd ps ds)(hd:Vals dX ds)(hx:Passes CX X E)(ha:PA X (e::es) t)(bA:(x == ("__debug__":Str))=false:=by decide)(he:f_ (e::es) X.env=(false,KR e X.env)::f_ es X.env:=by rfl)(aC:(K0 pos (f_ es X.env)).any (·.1)=false:=by rfl):
  PE X (.Call (.Name x p) (e::es) [] pos) (tCall sp dX E t):=by
 intro aa s U H Q I h;refine LW (FV I hg hm ?_ bA);refine PySem.W.callWith_K (h₀:=X.base) I.ok.mod.kin hk (thn (ha pos aa s U H _ I h) λus s1 ⟨vs,H1,I1,r,q⟩=>⟨I1.kIn,?_⟩) he aC;exact Dc F hr hb hd hx I1 r q
end
structure FnScope(N P:List Str)(sc:Nu):Prop where
 kind:sc.kind=.function
 co:sc.isCoroutine=false
 gen:sc.isGenerator=false
 nd:N.Nodup
 pre:N.take P.length=P
 par:∀x∈P,sc.names.lookup x=some .local\/sc.names.lookup x=some .cell
 nofree:∀y∈sc.names,y.2≠.free
theorem xL{kindOf:Str->Option Ly}{x:Str}:∀{binds:List (Str×b_)}{m:Str->Option b_},(∀v,(x,v)∉binds)->RV kindOf binds m x=m x
 | [],_,_=>rfl
 | (n,v)::r,m,h=>by
  unfold RV;rw[xL λw hw=>h w (j_ _ hw)];split
  ·have:x≠n:=by rintro rfl;exact h v g_
   simp[this]
  ·rfl
theorem Ab{kindOf:Str->Option Ly}{x:Str}:∀{binds:List (Str×b_)}{m:Str->Option b_},(∀v,(x,v)∉binds)->RW kindOf binds m x=m x
 | [],_,_=>rfl
 | (n,v)::r,m,h=>by
  unfold RW;rw[Ab λw hw=>h w (j_ _ hw)];split
  ·rfl
  ·have:x≠n:=by rintro rfl;exact h v g_
   simp[this]
theorem yS{kindOf:Str->Option Ly}{x:Str}{v:b_}:∀{P:List Str}{vs:List b_}{i:Nat}{m:Str->Option b_},P.Nodup->P[i]?=some x->vs[i]?=some v->kindOf x=some .local →
  RV kindOf (P.zip vs) m x=some v
 | [],_,_,_,_,h,_,_=>by simp at h
 | _::_,[],_,_,_,_,h,_=>by simp at h
 | p::P,w::vs,0,m,nd,h1,h2,hk=>by
  simp at h1 h2;subst h1;subst h2;show RV kindOf ((p,w)::P.zip vs) m p=_;unfold RV;rw[xL λv hv=>(M1.mp nd).1 (RX hv).1,if_pos hk];simp
 | p::P,w::vs,i+1,m,nd,h1,h2,hk=>by
  show RV kindOf ((p,w)::P.zip vs) m x=_;unfold RV;exact yS (i:=i) (M1.mp nd).2 (by simpa using h1) (by simpa using h2) hk
theorem y0{kindOf:Str->Option Ly}{x:Str}{v:b_}:∀{P:List Str}{vs:List b_}{i:Nat}{m:Str->Option b_},P.Nodup->P[i]?=some x->vs[i]?=some v->kindOf x≠some .local →
  RW kindOf (P.zip vs) m x=some v
 | [],_,_,_,_,h,_,_=>by simp at h
 | _::_,[],_,_,_,_,h,_=>by simp at h
 | p::P,w::vs,0,m,nd,h1,h2,hk=>by
  simp at h1 h2;subst h1;subst h2;show RW kindOf ((p,w)::P.zip vs) m p=_;unfold RW;rw[Ab λv hv=>(M1.mp nd).1 (RX hv).1,if_neg hk];simp
 | p::P,w::vs,i+1,m,nd,h1,h2,hk=>by
  show RW kindOf ((p,w)::P.zip vs) m x=_;unfold RW;exact y0 (i:=i) (M1.mp nd).2 (by simpa using h1) (by simpa using h2) hk
noncomputable def start(N:List Str)(vs:List V):St:=vs.map some++Lh (N.length - vs.length) none
noncomputable def cxOf(CX:CXT)(P:z_)(w:I_)(K:PySem.W.Frag)(mg:Str->Option b_)(base:KM)(N:List Str)(qual:Str)(scope:Nu)(f:h_)(cd:b_)(A:Mc)(outer:List Env)(s:d_)(H:Hp)(E:XK):Cx where
 prog:=P
 w:=w
 K:=K
 mg:=mg
 base:=base
 A:=A.deeper (Oz qual scope s.heap.objs.size f cd)
 N:=N
 s₀:=s
 H₀:=H
 env:=Oz qual scope s.heap.objs.size f cd
 outer:=outer
 stack:=Oz qual scope s.heap.objs.size f cd::outer
 ex:=[]
 calm:=true
 fn:=λ_=>true
 pn:=[]
 xe:=λe s'=>w_ (n_ P w) (A.deeper (Oz qual scope s.heap.objs.size f cd)) (leaving (Oz qual scope s.heap.objs.size f cd) e) (λ_ fz=>CX outer H s E e fz) (λe' fz=>CX outer H s E e' fz) s'
theorem AU{sc:Nu}{x:Str}(h:sc.names.lookup x=some .cell):∃c,(cellsFrom n sc.names []).lookup x=some c:=by
 have q:=PySem.W.cellsFrom_some sc.names n [] (.inl h);exact Nc.mp q
theorem Iu{CX:CXT}{P:z_}{w:I_}{K:PySem.W.Frag}{N:List Str}{outer:List Env}{s s1:d_}{H:Hp}{E:XK}{vs:List V}(S:FnScope N ps scope)(hd:A.handled=none)(e0:Env0 P w K mg base A outer s H)(hl:vs.length=ps.length)(r:Vals vs us)(x:InCallC s s.heap.objs.size (RV (Oz qual scope s.heap.objs.size f cd).kindOf (ps.zip us) λ_=>none) (cellsFrom (s.heap.objs.size+1) scope.names []) (RW (Oz qual scope s.heap.objs.size f cd).kindOf (ps.zip us) λ_=>none) s1):
  Inv (cxOf CX P w K mg base N qual scope f cd A outer s H E) [] (start N vs) H s1:=by
 have aC:ps.length<=N.length:=by have:=congrArg length S.pre;rw[K7] at this;omega
 obtain⟨h1,tk,rfl,hk⟩:=x.done;have jp:∀b:h_,b∉(cxOf CX P w K mg base N qual scope f cd A outer s H E).ex:=λb z=>absurd (show b∈([]:List h_) from z) (by simp)
 refine⟨⟨e0.mod,S.kind,rfl,rfl,B_ _,λy z c h1 h2=>?_,λy hy=>?_,λy c _ h=>?_,λ_=>hd,Mc.frames_deeper e0.frames,.inr ⟨rfl,rfl⟩,λb z=>absurd z (jp b),e0.bs,e0.bsz,λb _ _=>jp b,λb z=>absurd z (jp b),e0.funs,e0.frf,e0.tb⟩,
  rfl,e0.bare,Un.kept hk,⟨_,x.toInCall.ns,λi y v h1 h2 h3=>?_⟩,λy c h=>⟨_,x.cell y c h⟩,e0.hok.fresh (B_ _),λy c h=>?_,λp hp=>absurd (show p∈([]:List (h_×Obj)) from hp) (by simp),e0.hok.kept hk,?_⟩
 ·exact name_of_addr x.apart (PySem.mem_of_lookup h1) (PySem.mem_of_lookup h2)
 ·have hy:scope.names.lookup y=some .cell\/scope.names.lookup y=some .free:=hy
  rcases hy with hy | hy
  ·exact AU hy
  ·exact absurd rfl (S.nofree _ (PySem.mem_of_lookup hy))
 ·exact Nv (x.above y c (PySem.mem_of_lookup h))
 ·have hi:i < vs.length:=by
   unfold start at h2;by_cases hi:i < vs.length
   ·exact hi
   ·rw[Lx (by simpa using hi)] at h2;rw[MJ] at h2;split at h2<;>cases h2
  have ha:vs[i]?=some v:=by
   unfold start at h2;rw[L0 (by simpa using hi),E_] at h2;cases e:vs[i]? with
   | none=>rw[e] at h2;cases h2
   | some a=>rw[e] at h2;cases h2;rfl
  obtain⟨u,hu,rv⟩:=r.get ha
  have hp:ps[i]?=some y:=by
   rw[←S.pre,List.getElem?_take_of_lt (by omega)];exact h1
  have kC:ps.Nodup:=by rw[←S.pre];exact S.nd.sublist (Po _ _)
  refine⟨u,rv,?_⟩
  rcases S.par y (LB hp) with k | k
  ·exact .inl ⟨k,yS kC hp hu k⟩
  ·obtain⟨c,e⟩:=AU (n:=s.heap.objs.size+1) k;refine .inr ⟨.inl k,c,e,?_⟩;have q:=x.cell y c e;rw[y0 kC hp hu (by show scope.names.lookup y≠_;rw[k];decide)] at q;exact q
 ·exact e0.hok.fresh (Nv (x.above y c (PySem.mem_of_lookup h)))
 ·unfold start;show _=N.length;rw[KJ,y_,KP];omega
theorem w6{CX:CXT}{P:z_}{w:I_}{K:PySem.W.Frag}{k:Nat}{name:Str}{body:List L9}{dV kV bO aD:b_}{N:List Str}{sp:Sp}(lk:K.lookup f=some ⟨oc,od,.func (QJ name qual params body scope dV kV bO pm an aD ct),c8⟩)(aW:codeIn K aD qual=true)(S:FnScope N ps scope)(len:∀vs H Q E,sp vs H Q E->vs.length=ps.length)(c9:∀(A:Mc) (outer:List Env) (s:d_) (H:Hp) (vs:List V) (Q:VK) (E:XK),Room k (A.deeper (Oz qual scope s.heap.objs.size f aD))->sp vs H Q E →
   ∃t,PSs (cxOf CX P w K mg base N qual scope f aD A outer s H E) body t/\t { nx:=λ_ H'=>Q .non H',rt:=Q } (start N vs) H):
  FnOk P w K mg base CX (k+1) f (QJ name qual params body scope dV kV bO pm an aD ct) ps sp:=by
 refine⟨len,λA outer s H args us vs Q E hr e0 hb r dE=>?_⟩;have hl:=len _ _ _ _ dE;have KX:K.In s.heap:=e0.mod.kin.keeps λb o e=>(e0.bs b o e).1
 have lim:s.heap.NoLimit:=e0.mod.nolimit.keeps λb o e=>(e0.bs b o e).1
 have fQ:∀y∈ps.zip us,scope.names.lookup y.1=some .local\/(scope.names.lookup y.1=some .cell/\((cellsFrom (s.heap.objs.size+1) scope.names []).lookup y.1).isSome=true):=λ⟨n,v⟩ hy=>by
  rcases S.par n (RX hy).1 with q | q
  ·exact .inl q
  ·exact .inr ⟨q,PySem.W.cellsFrom_some _ _ _ (.inl q)⟩
 refine codeAny_call_function hr.depth (KX _ _ lk) rfl S.co S.gen rfl (PySem.W.codeRec_of KX aW) (hb _ _ _ _ ?_);refine wpAny_newFunctionEnv_cells S.kind fQ λenv he s1 x=>?_
 subst he;refine⟨lim.keeps x.toInCall.keep,codeAny_func ?_⟩;obtain⟨t,ht,hq⟩:=c9 A outer s H vs Q E (hr.deeper _) dE;have I:Inv (cxOf CX P w K mg base N qual scope f aD A outer s H E) [] (start N vs) H s1:=Iu S hr.hd e0 hl r x;refine Lk (ht [] s1 (start N vs) H _ I hq) (λfl s' hs=>?_) λe s' hs=>hs
 have fin:∀{au:St}{H':Hp}{v:V}{u:b_},Inv (cxOf CX P w K mg base N qual scope f aD A outer s H E) [] au H' s'->RelV v u->Q v H'->CE outer P w H s Q u s':=
  λ{au H' v u} J rv q=>⟨v,H',J.os,J.bare,J.base,J.hok,rv,q⟩
 cases fl with
 | ret u =>
  obtain⟨v,au,H',J,rv,q⟩:=hs;exact fin J rv q
 | next =>
  obtain⟨au,H',J,q⟩:=hs;exact fin (v:=V.non) (u:=b_.none) J rfl q
 | brk =>
  obtain⟨_,_,_,q⟩:=hs;exact Sh q
 | cont =>
  obtain⟨_,_,_,q⟩:=hs;exact Sh q
section
variable{X:Cx}{x:Str}{p:Pos}{es:List KQ}{t:TA}{id T:String}{r:List V->Hp->VK->Prop}
noncomputable def tCB(r:List V->Hp->VK->Prop)(t:TA):TE:=λU H Q=>t U H λvs H1=>r vs H1 Q
theorem vH(hc:CallR X (.builtin id) r)(hg:Gl X x)(hm:X.mg x=none)(hv:Mb x=some (.builtin id))(ha:PA X (e::es) t)(hn:x ≠ "__name__":=by decide)(bA:(x == ("__debug__":Str))=false:=by decide)(he:f_ (e::es) X.env=(false,KR e X.env)::f_ es X.env:=by rfl)(aC:(K0 pos (f_ es X.env)).any (·.1)=false:=by rfl):PE X (.Call (.Name x p) (e::es) [] pos) (tCB r t):=by
 intro aa s U H Q I h;refine LW (qc I hg hm hv ?_ hn bA);exact NL (thn (ha pos aa s U H _ I h) λus s1 ⟨vs,H1,I1,r1,q1⟩=>hc aa s1 U H1 vs us Q I1 r1 q1) he aC
theorem Iv(hc:CallR X (.type T) r)(hg:Gl X x)(hm:X.mg x=none)(hv:Mb x=some (.type T))(ha:PA X (e::es) t)(hn:x ≠ "__name__":=by decide)(bA:(x == ("__debug__":Str))=false:=by decide)(he:f_ (e::es) X.env=(false,KR e X.env)::f_ es X.env:=by rfl)(aC:(K0 pos (f_ es X.env)).any (·.1)=false:=by rfl):PE X (.Call (.Name x p) (e::es) [] pos) (tCB r t):=by
 intro aa s U H Q I h;refine LW (qc I hg hm hv ?_ hn bA);exact KF (thn (ha pos aa s U H _ I h) λus s1 ⟨vs,H1,I1,r1,q1⟩=>hc aa s1 U H1 vs us Q I1 r1 q1) he aC
end
end L2
variable{xs ws zs:List L2.V}{o:L2.HO}{X:L2.Cx}{U dC:L2.St}{te tl:L2.TE}{H' H1 H2 I I' G I0:L2.Hp}{ta:L2.TA}{sp:L2.Sp}{aj:List (List L2.Key×L2.V)}{ks:List L2.Key}{v0 vc:L2.V}{J:L2.It}
namespace HT
open PySem PyProof.Rows
section
variable{prog:z_}{w:I_}{E:b_->d_->Prop}{s:d_}
theorem EC{t b:h_}{ws:List b_}{Q:b_->d_->Prop}(ht:Sf s.heap t vs.toArray)(hb:Sf s.heap b ws.toArray)(hv:vs≠[])(h1:ws=[]->Q (.ref t) s)(h2:ws≠[]->Q (.ref s.heap.objs.size) { s with heap:=s.heap.push { cls:=.type "tuple", data:=.seq (vs++ws).toArray } })(hsz:vs.length+ws.length<=x_):w_ (n_ prog w) A (MH .Add (.ref t) (.ref b)) Q E s:=by
 obtain⟨⟨cls,dd,data,sl⟩,ho,hc,n,hd⟩:=id ht;obtain⟨⟨kD,hU,data2,hV⟩,eF,de,n2,dO⟩:=id hb;simp only at hc hd de dO;subst hc hd de dO;have e:vs.toArray++ws.toArray=(vs++ws).toArray:=by simp
 by_cases hw:ws=[]
 ·exact Q_ ⟨_,ho,rfl⟩ ⟨_,eF,rfl⟩ O4 QF P4 PM (O5 _ _)
   (tuple_addW1 t b vs.toArray ws.toArray n n2 dd hU sl hV (by simpa using hv) (by simp[hw])) ⟨ho,eF,h1 hw⟩
 ·refine Q_ ⟨_,ho,rfl⟩ ⟨_,eF,rfl⟩ O4 QF P4 PM (O5 _ _)
   (tuple_addW2 t b vs.toArray ws.toArray n n2 dd hU sl hV (by simpa using hv) (by simpa using hw) (by rw[l_,l_];exact hsz)) ⟨ho,eF,?_⟩
  rw[e];exact h2 hw
noncomputable def sIx(n d:Nat):Option Int->Nat
 | none=>d
 | some v=>if v < 0 then(v+(n:Int)).toNat else min v.toNat n
theorem Fh(n d:Nat)(hd:d<=n)(o:Option Int):sIx n d o<=n:=by
 cases o with
 | none=>exact hd
 | some v =>
  show(if v < 0 then(v+(n:Int)).toNat else min v.toNat n)<=n;by_cases hv:v < 0
  ·rw[if_pos hv];omega
  ·rw[if_neg hv];exact Nat.min_le_right _ _
theorem zm(v:Int)(n d:Nat):(if v < 0 then max (v+(n:Int)) 0 else min v (n:Int))=((sIx n d (some v):Nat):Int):=by
 show(if v < 0 then max (v+(n:Int)) 0 else min v (n:Int))=(((if v < 0 then(v+(n:Int)).toNat else min v.toNat n):Nat):Int);by_cases hv:v < 0
 ·simp only[if_pos hv];omega
 ·simp only[if_neg hv];omega
theorem E3(lo hi:Option Int)(n:Nat):RD lo hi 1 (n:Int)=(((sIx n 0 lo:Nat):Int),((sIx n n hi:Nat):Int)):=by
 have h1:¬((1:Int) < 0):=by omega
 unfold RD;simp only[h1,if_false];refine Prod.ext ?_ ?_
 ·cases lo with
  | none=>rfl
  | some v=>exact zm v n 0
 ·cases hi with
  | none=>rfl
  | some v=>exact zm v n n
theorem FR(i j:Nat):P5 (i:Int) (j:Int) 1=j - i:=by
 unfold P5;have h1:(1:Int) > 0:=by omega
 simp only[h1,if_true,Int.ediv_one];split<;>omega
theorem Ao{v:b_}{o:Option Int}{Q:Option Int->d_->Prop}(p:QM v o)(h:Q o s):w_ (n_ prog w) A (Me.Slice.slicePartIndex v) Q E s:=by
 cases p with
 | none=>exact slicePart_none h
 | int i t=>exact slicePart_int h
theorem BY{sl:h_}{lo:Option Int}{Q:Int×Int×Nat->d_->Prop}(hs:s.heap.IsSliceOf sl vl vu .none)(pl:QM vl lo)(pu:QM vu hi)(h:Q (((sIx n 0 lo:Nat):Int),1,sIx n n hi - sIx n 0 lo) s):w_ (n_ prog w) A (sliceApplied (.ref sl) (pure (n:Int))) Q E s:=by
 obtain⟨os,fR,kE,fA⟩:=id hs;unfold sliceApplied Me.Slice.sliceFields;refine a_ (a_ (LF fR fA (x:=vl) rfl (a_ (LF fR fA (x:=vu) rfl (a_ (LF fR fA (x:=.none) rfl (e_ ?_)))))));refine a_ (slicePart_none ?_);show w_ _ _ (if((1:Int) == 0)=true then _ else _) _ _ s;rw[if_neg (by decide)];refine a_ (Ao pl (a_ (Ao pu (a_ (e_ ?_)))));show w_ _ _ (match RD lo hi 1 (n:Int) with | (lo,hi)=>pure (lo,(1:Int),P5 lo hi 1)) _ _ s;rw[E3 lo hi n];show w_ _ _ (pure (((sIx n 0 lo:Nat):Int),(1:Int),P5 ((sIx n 0 lo:Nat):Int) ((sIx n n hi:Nat):Int) 1)) _ _ s;rw[FR];exact e_ h
theorem HD(xs:Array b_)(i k:Nat):((Mm k).filterMap λ(m:Nat)=>xs[((i:Int)+(m:Int)*1).toNat]?).toArray=((xs.toList.drop i).take k).toArray:=by
 have e:(λ(m:Nat)=>xs[((i:Int)+(m:Int)*1).toNat]?)=λm=>xs[i+m]?:=by
  funext m
  have:((i:Int)+(m:Int)*1).toNat=i+m:=by omega
  rw[this]
 rw[e];have:=pick_run xs i k;rw[List.filterMap_map] at this;have e2:((λx=>xs[x]?)∘λx=>i+x)=λm=>xs[i+m]?:=rfl
 rw[e2] at this;rw[this]
theorem F0{t sl:h_}{lo:Option Int}{Q:b_->d_->Prop}(ht:Sf s.heap t items)(hs:s.heap.IsSliceOf sl vl vu .none)(pl:QM vl lo)(pu:QM vu hi)(hw:¬(sIx items.size 0 lo=0/\sIx items.size items.size hi=items.size))(h:Q (.ref s.heap.objs.size) { s with heap:=s.heap.push { cls:=.type "tuple", data:=.seq ((items.toList.drop (sIx items.size 0 lo)).take (sIx items.size items.size hi - sIx items.size 0 lo)).toArray } })(hsz:items.size<=x_):w_ (n_ prog w) A (RN (.ref t) (.ref sl)) Q E s:=by
 have dP:sizeOk (.seq ((items.toList.drop (sIx items.size 0 lo)).take (sIx items.size items.size hi - sIx items.size 0 lo)).toArray):=by
  show((items.toList.drop (sIx items.size 0 lo)).take (sIx items.size items.size hi - sIx items.size 0 lo)).toArray.size<=x_;rw[l_,K7,L3,Ky];omega
 have hj:sIx items.size items.size hi<=items.size:=Fh _ _ (B_ _) hi;obtain⟨os,fR,kE,fA⟩:=id hs;have mT:s.TypeIs (.ref sl) "slice":=⟨os,fR,kE⟩;unfold RN
 try with_reducible refine Kz ?_
 first | refine a_ (e_ ?_) | skip
 refine a_ (wpAny_sequenceKey ht.typeIs (by decide) ?_)
 refine a_ (K8 (name:=Mu "__getitem__") ht.typeIs ME
  (K_ ME ht.typeIs entry_tuple_getitem ?_ (args_tuple_getitem _ _)))
 show w_ _ _ (Me.Tuple.tupleItemsOf (.ref t) >>= _) _ _ s;refine a_ (tupleItemsOf_ ht ?_);refine a_ (Pp mT ?_);rw[if_pos (by decide)];refine a_ (BY hs pl pu ?_)
 have hW:¬((((sIx items.size 0 lo:Nat):Int) == 0&&(1:Int) == 1&&(sIx items.size items.size hi - sIx items.size 0 lo) == items.size)=true):=by
  intro q;rw[LQ,LQ] at q;have q1:((sIx items.size 0 lo:Nat):Int)=0:=eq_of_beq q.1.1;have q2:sIx items.size items.size hi - sIx items.size 0 lo=items.size:=eq_of_beq q.2;exact hw ⟨by omega,by omega⟩
 show w_ _ _ (if(((sIx items.size 0 lo:Nat):Int) == 0&&(1:Int) == 1&&(sIx items.size items.size hi - sIx items.size 0 lo) == items.size)=true then _ else _) _ _ s;rw[if_neg hW,HD]
 first
  | exact a_ (m:=QN _) (KY (e_ ⟨_,rfl,e_ h⟩) dP)
  | exact a_ (m:=QN _) (KY (a_ (e_ (e_ ⟨_,rfl,e_ h⟩))) dP)
  | exact a_ (a_ (m:=QN _) (KY (e_ (e_ ⟨_,rfl,e_ h⟩)) dP))
  | exact a_ (a_ (m:=QN _) (KY (e_ ⟨_,rfl,e_ h⟩) dP))
end
end HT
namespace L2
open PySem PySem.Spec PyProof.Rows
abbrev TO:=St->Hp->(Option Int->Hp->Prop)->Prop
def PO(X:Cx)(e:Option KQ)(t:TO):Prop:=
 ∀(aa:List (h_×Obj)) (s:d_) (U:St) (H:Hp) (Q:Option Int->Hp->Prop),Inv X aa U H s->t U H Q →
  w_ (n_ X.prog X.w) X.A (evalPart e X.env) (λu s'=>∃o H',Inv X aa U H' s'/\QM u o/\Q o H') X.xe s
noncomputable def tNoPart:TO:=λ_ H Q=>Q none H
noncomputable def tPart(t:TE):TO:=λU H Q=>t U H λx H1=>∃i,x=.int i/\Q (some i) H1
section
variable{lo hi:Option KQ}{tl th:TO}
theorem Ff:PO X none tNoPart:=by
 intro aa s U H Q I h;rw[evalPart_none];exact e_ ⟨none,H,I,.none,h⟩
theorem Bo(h:PE X e te):PO X (some e) (tPart te):=by
 intro aa s U H Q I hw;rw[evalPart_some];refine thn (h aa s U H _ I hw) λu s1 ⟨x,H1,I1,r1,q1⟩=>?_
 obtain⟨i,rfl,q⟩:=q1;obtain⟨t,rfl⟩:=r1;exact⟨some i,H1,I1,.int i t,q⟩
def SlR(X:Cx)(r:V->Option Int->Option Int->Hp->VK->Prop):Prop:=
 ∀(aa:List (h_×Obj)) (s:d_) (U:St) (H:Hp) (x:V) (v vl vu:b_) (lo hi:Option Int) (sl:h_) (Q:VK),Inv X aa U H s->RelV x v->s.heap.IsSliceOf sl vl vu .none->QM vl lo->QM vu hi->r x lo hi H Q →
  ∃T id,RY (.type T) "__getitem__"=pure (some (.builtin id))/\s.TypeIs v T/\w_ (n_ X.prog X.w) X.A (RN v (.ref sl)) (EP X aa U Q) X.xe s
theorem SlR.or{r r':V->Option Int->Option Int->Hp->VK->Prop}(h:SlR X r)(h':SlR X r'):SlR X (λx lo hi H Q=>r x lo hi H Q\/r' x lo hi H Q):=by
 intro aa s U H x v vl vu lo hi sl Q I rx hs pl pu q
 rcases q with q | q
 ·exact h aa s U H x v vl vu lo hi sl Q I rx hs pl pu q
 ·exact h' aa s U H x v vl vu lo hi sl Q I rx hs pl pu q
noncomputable def tSl(r:V->Option Int->Option Int->Hp->VK->Prop)(te:TE)(tl th:TO):TE:=λU H Q=>te U H λx H1=>tl U H1 λl H2=>th U H2 λu H3=>r x l u H3 Q
theorem FE{r:V->Option Int->Option Int->Hp->VK->Prop}(hr:SlR X r)(he:PE X e te)(hl:PO X lo tl)(hu:PO X hi th):PE X (.Subscript e (.Slice lo hi none p2) pos) (tSl r te tl th):=by
 intro aa s U H Q I h;refine Subscript_ (thn (he aa s U H _ I h) λv s1 ⟨x,H1,I1,r1,q1⟩=>?_);refine wpAny_Slice (thn (hl aa s1 U H1 _ I1 q1) λvl s2 ⟨l,H2,I2,pl,q2⟩=>thn (hu aa s2 U H2 _ I2 q2) λvu s3 ⟨u,H3,I3,pu,q3⟩=>?_);rw[evalPart_none];refine e_ ?_;have I4:Inv X aa U H3 { s3 with heap:=s3.heap.push { cls:=.type "slice", data:=.fields #[vl,vu,.none] } }:=I3.kept (t':=s3.toks) λb ob q=>c_ _ q
 obtain⟨T,id,hT,ht,hg⟩:=hr aa { s3 with heap:=s3.heap.push { cls:=.type "slice", data:=.fields #[vl,vu,.none] } } U H3 x v vl vu l u s3.heap.objs.size Q I4 r1 (KM.IsSliceOf.new ..) pl pu q3;show w_ (n_ X.prog X.w) X.A (subscriptTail e (.Slice lo hi none p2) v (.ref s3.heap.objs.size)) (EP X aa U Q) X.xe { s3 with heap:=s3.heap.push { cls:=.type "slice", data:=.fields #[vl,vu,.none] } };exact tail_any (ops:=[.ref s3.heap.objs.size,v]) ht hT hg (by with_unfolding_all rfl)
noncomputable def cutV(xs:List V)(lo hi:Option Int):List V:=(xs.drop (HT.sIx xs.length 0 lo)).take (HT.sIx xs.length xs.length hi - HT.sIx xs.length 0 lo)
theorem yt(xs:List V)(lo hi:Option Int):(cutV xs lo hi).length<=xs.length:=by
 unfold cutV;rw[K7,L3];omega
def rSlT(K:PySem.W.Frag):V->Option Int->Option Int->Hp->VK->Prop:=λx lo hi H Q=>∃a xs,x=.ref a/\SqT K H a xs ∧
 ¬(HT.sIx xs.length 0 lo=0/\HT.sIx xs.length xs.length hi=xs.length)/\∀p,H p=none->Q (.ref p) (upd H p (.tup (cutV xs lo hi)))
theorem B9:SlR X (rSlT X.K):=by
 intro aa s U H x v vl vu lo hi sl Q I rx hs pl pu h;obtain⟨a,xs,rfl,hx,hw,q⟩:=h;cases rx;obtain⟨af,r,ht,hz⟩:=I.tuple hx;have aY:af.toArray.size=xs.length:=by rw[l_];exact r.length.symm
 refine⟨"tuple", _,ME.lookup,ht.typeIs,?_⟩;refine HT.F0 ht hs pl pu (by rw[aY];exact hw) ?_ (by rw[aY];exact hz);rw[aY];refine⟨.ref s.heap.objs.size,_,I.laid (t':=s.toks) (o:=.tup (cutV xs lo hi)) (λb ob q=>c_ _ q) (B_ _) ?_,rfl,q _ (I.hok.fresh (B_ _))⟩;exact⟨LL (yt xs lo hi) hz,_,(r.drop (HT.sIx xs.length 0 lo)).take (HT.sIx xs.length xs.length hi - HT.sIx xs.length 0 lo),Sf.new _ _⟩
noncomputable def rCatT(K:PySem.W.Frag):R2:=λx y H Q=>∃a b xs ys,x=.ref a/\y=.ref b/\SqT K H a xs/\SqT K H b ys/\xs≠[]/\xs.length+ys.length<=x_ ∧
 (ys=[]->Q (.ref a) H)/\(ys≠[]->∀p,H p=none->Q (.ref p) (upd H p (.tup (xs++ys))))
theorem Vals.nil_iff(r:Vals xs us):us=[]↔xs=[]:=by
 cases r with
 | nil=>simp
 | cons _ _=>simp
theorem BG:OpR X (MH .Add) (rCatT X.K):=by
 intro aa s U H x y v u Q I rx ry h;obtain⟨a,b,xs,ys,rfl,rfl,ha,hb,hx,hz,q1,q2⟩:=h;cases rx;cases ry;obtain⟨af,r1,p1,_⟩:=I.tuple ha;obtain⟨b9,r2,p2,_⟩:=I.tuple hb;refine HT.EC p1 p2 (λz=>hx (r1.nil_iff.mp z)) (λz=>⟨.ref a,H,I,rfl,q1 (r2.nil_iff.mp z)⟩) (λz=>?_) (by rw[←r1.length,←r2.length];exact hz);refine⟨.ref s.heap.objs.size,_,I.laid (t':=s.toks) (o:=.tup (xs++ys)) (λb ob q=>c_ _ q) (B_ _) ?_,rfl,q2 (λw=>z (r2.nil_iff.mpr w)) _ (I.hok.fresh (B_ _))⟩;exact⟨by rw[KJ];exact hz,_,r1.append r2,Sf.new _ _⟩
end
noncomputable def ixN(n:Nat)(i:Int):Option Nat:=if 0<=i then(if i < n then some i.toNat else none) else if -(n:Int)<=i then some (i+n).toNat else none
noncomputable def atI{α:Type}(xs:List α)(i:Int):Option α:=(ixN xs.length i).bind λj=>xs[j]?
theorem zT{i:Int}(h:ixN n i=some j):seqIndex? i n=some j/\j < n/\-(n:Int)<=i/\i < n:=by
 unfold ixN at h;by_cases h0:0<=i
 ·rw[if_pos h0] at h;by_cases h1:i < n
  ·rw[if_pos h1] at h;have e:i.toNat=j:=KH h;exact⟨by rw[RE h0 h1,e],by omega,by omega,h1⟩
  ·rw[if_neg h1] at h;cases h
 ·rw[if_neg h0] at h;by_cases h1:-(n:Int)<=i
  ·rw[if_pos h1] at h;have e:(i+n).toNat=j:=KH h;exact⟨by rw[seqIndex_neg (by omega) h1,e],by omega,h1,by omega⟩
  ·rw[if_neg h1] at h;cases h
theorem Aw{α:Type}{xs:List α}{i:Int}{v:α}(h:atI xs i=some v):∃j,seqIndex? i xs.length=some j/\xs[j]?=some v/\j < xs.length/\-(xs.length:Int)<=i/\i < xs.length:=by
 unfold atI at h;cases e:ixN xs.length i with
 | none=>rw[e] at h;cases h
 | some j =>
  rw[e] at h;obtain⟨h1,h2,h3,h4⟩:=zT e;exact⟨j,h1,h,h2,h3,h4⟩
theorem CL{α:Type}{xs:List α}{v:α}(h:xs[j]?=some v):atI xs (j:Int)=some v:=by
 have hj:j < xs.length:=(D_.mp h).1
 have e:ixN xs.length (j:Int)=some j:=by
  unfold ixN;rw[if_pos (by omega),if_pos (by omega)];simp
 unfold atI;rw[e];exact h
theorem Hr{α:Type}(xs:List α)(v:α):atI (xs++[v]) (-1)=some v:=by
 have hl:(xs++[v]).length=xs.length+1:=by simp
 have e:ixN (xs++[v]).length (-1)=some xs.length:=by
  unfold ixN;rw[hl,if_neg (by decide),if_pos (by omega)]
  congr 1
  omega
 unfold atI;rw[e];show(xs++[v])[xs.length]?=some v;simp
def PlainIx(b:KQ):Prop:=∀o i,subscripted b false o i=operate [o,i] (RN o i)
def IxR(X:Cx)(r:R2):Prop:=
 ∀(value cb:KQ) (aa:List (h_×Obj)) (s:d_) (U:St) (H:Hp) (x y:V) (v u:b_) (Q:VK),Inv X aa U H s->RelV x v->RelV y u->r x y H Q →
  subscripted cb false v u=operate [v,u] (RN v u)->w_ (n_ X.prog X.w) X.A (subscriptTail value cb v u) (EP X aa U Q) X.xe s
def MtR(X:Cx)(id:String)(r:V->List V->Hp->VK->Prop):Prop:=
 ∀(aa:List (h_×Obj)) (s:d_) (U:St) (H:Hp) (x:V) (xs:List V) (v:b_) (us:List b_) (Q:VK),Inv X aa U H s->RelV x v->Vals xs us->r x xs H Q →
  w_ (n_ X.prog X.w) X.A (call (.builtin id) (v::us)) (EP X aa U Q) X.xe s
section
variable{a b:KQ}{ta tb:TE}
theorem IxR.or{r r':R2}(h:IxR X r)(h':IxR X r'):IxR X (λx y H Q=>r x y H Q\/r' x y H Q):=by
 intro value cb aa s U H x y v u Q I rx ry q hs
 rcases q with q | q
 ·exact h value cb aa s U H x y v u Q I rx ry q hs
 ·exact h' value cb aa s U H x y v u Q I rx ry q hs
theorem vJ{r:R2}(hr:IxR X r)(ha:PE X a ta)(hb:PE X b tb)(hs:PlainIx b):PE X (.Subscript a b pos) (tOp r ta tb):=by
 intro aa s U H Q I h;exact Subscript_ (binT ha hb I h λv u s2 x y H2 I2 rx ry q=>hr a b aa s2 U H2 x y v u Q I2 rx ry q (hs _ _))
noncomputable def rIxL(K:PySem.W.Frag):R2:=λx y H Q=>∃p xs i v,x=.ref p/\y=.int i/\SqL K H p xs/\atI xs i=some v/\Q v H
noncomputable def rIxT(K:PySem.W.Frag):R2:=λx y H Q=>∃p xs i v,x=.ref p/\y=.int i/\SqT K H p xs/\atI xs i=some v/\Q v H
theorem yD:IxR X (rIxL X.K):=by
 intro value cb aa s U H x y v u Q I rx ry h hs;obtain⟨p,xs,i,z,rfl,rfl,hq,he,q⟩:=h;cases rx;obtain⟨t,rfl⟩:=ry;obtain⟨af,r,pl,hz⟩:=I.list hq;obtain⟨j,h1,h2,h3,h4,h5⟩:=Aw he;obtain⟨w,ew,jq⟩:=r.get h2;have hl:=r.length;have hn:=line63;have fin:EP X aa U Q w s:=⟨z,H,I,jq,q⟩;by_cases h0:0<=i
 ·have hj:i.toNat=j:=by
   rw[RE h0 h5] at h1;exact KH h1
  exact item_listR pl.isList h0 (by omega) (by rw[hj];simpa using ew) fin hs
 ·have hj:(i+(af.toArray.size:Int)).toNat=j:=by
   rw[seqIndex_neg (by omega) h4] at h1;rw[l_,←hl];exact KH h1
  exact Pq (x:=w) pl.isList.typeIs Ra.lookup
   (wpAny_getItem_list_neg (Q:=λr s'=>r=w/\EP X aa U Q r s') pl.isList (by omega) (by rw[l_]<;>omega) (by omega) (by rw[hj];simpa using ew) ⟨rfl,fin⟩) hs
theorem xW:IxR X (rIxT X.K):=by
 intro value cb aa s U H x y v u Q I rx ry h hs;obtain⟨p,xs,i,z,rfl,rfl,hq,he,q⟩:=h;cases rx;obtain⟨t,rfl⟩:=ry;obtain⟨af,r,pl,hz⟩:=I.tuple hq;obtain⟨j,h1,h2,h3,h4,h5⟩:=Aw he;obtain⟨w,ew,jq⟩:=r.get h2;have hl:=r.length;have hn:=line63;have fin:EP X aa U Q w s:=⟨z,H,I,jq,q⟩
 exact Pq (x:=w) pl.typeIs slot_tuple_getitem.lookup
  (getItem_tuple (j:=j) (Q:=λr s'=>r=w/\EP X aa U Q r s') pl (by omega) (by omega) (by rw[l_,←hl];exact h1) (by simpa using ew) ⟨rfl,fin⟩) hs
theorem Gx(af:List b_)(n j:Nat)(u:b_):L4 (·.setIfInBounds j u) { cls:=.type "list", data:=.seq af.toArray n }={ cls:=.type "list", data:=.seq (af.set j u).toArray n }:=by
 simp[L4]
theorem Inv.lst{H:Hp}{s:d_}{p:h_}(I:Inv X aa U H s)(h:H p=some (.lst xs)):
  ∃(af:List b_) (n:Nat),Vals xs af/\s.heap.get? p=some { cls:=.type "list", data:=.seq af.toArray n }/\xs.length<=x_:=by
 obtain⟨z,af,n,r,e⟩:=I.hok p _ h;exact⟨af,n,r,e,z⟩
theorem Inv.lstUpd{H:Hp}{s:d_}{p:h_}{ys:List V}{n':Nat}{f:Obj->Obj}(I:Inv X aa U H s)(h:H p=some (.lst xs))(ho:s.heap.get? p=some { cls:=.type "list", data:=.seq af.toArray n })(hf:f { cls:=.type "list", data:=.seq af.toArray n }={ cls:=.type "list", data:=.seq its'.toArray n' })(r:Vals ys its')(hz:ys.length<=x_)(t:Nat):
  Inv X aa U (upd H p (.lst ys)) { s with heap:=s.heap.update p f,toks:=t }:=by
 have e:(s.heap.update p f).get? p=some { cls:=.type "list", data:=.seq its'.toArray n' }:=by
  rw[KL f ho (by rw[hf]<;>rfl),hf]
 refine I.write (x:=p) (e:=p) (by rw[h];trivial) (.inl rfl) (λb u hb q=>(C_ _ _ (Kx hb)).trans q) ⟨_,e⟩ ?_;exact⟨hz,its',n',r,e⟩
def rSetL:V->V->V->Hp->(Hp->Prop)->Prop:=λo i v H Q=>∃p xs k j,o=.ref p/\i=.int k/\H p=some (.lst xs)/\ixN xs.length k=some j/\Q (upd H p (.lst (xs.set j v)))
theorem F3:PSet X rSetL:=by
 intro aa s U H o i v ov iv u Q I ro ri rv h;obtain⟨p,xs,k,j,rfl,rfl,hp,hj,q⟩:=h;cases ro;obtain⟨t,rfl⟩:=ri;obtain⟨af,n,r,ho,hz⟩:=I.lst hp;obtain⟨h1,h2,h3,h4⟩:=zT hj;have hl:=r.length;have hn:=line63
 have I':Inv X aa U (upd H p (.lst (xs.set j v))) { s with heap:=s.heap.update p (L4 (·.setIfInBounds j u)) }:=
  I.lstUpd hp ho (Gx af n j u) (r.set rv j) (by rw[MA];exact hz) s.toks
 by_cases h0:0<=k
 ·have hk:k.toNat=j:=by
   rw[RE h0 h4] at h1;exact KH h1
  exact PySem.W.ki_setAt ho h0 (by omega) (by rw[l_,←hl];exact h4) (by rw[hk];exact⟨_,I',q⟩)
 ·have hk:(k+(af.toArray.size:Int)).toNat=j:=by
   rw[seqIndex_neg (by omega) h3] at h1;rw[l_,←hl];exact KH h1
  exact PySem.W.ki_setBack ho (by omega) (by rw[l_,←hl];exact h3) (by omega) (by rw[hk];exact⟨_,I',q⟩)
theorem E7(lo hi:Option Int)(n:Nat):(No lo hi none n).1=((HT.sIx n 0 lo:Nat):Int)/\(No lo hi none n).2.1=((HT.sIx n n hi:Nat):Int)/\(No lo hi none n).2.2=1:=by
 refine⟨?_,?_,rfl⟩
 ·cases lo with
  | none=>simp[No,HT.sIx]
  | some i =>
   simp only[No,HT.sIx,getD_none,show(1:Int) > 0 by decide,if_true];by_cases h:i < 0
   ·simp only[h,if_true]<;>omega
   ·simp only[h,if_false]<;>omega
 ·cases hi with
  | none=>simp[No,HT.sIx]
  | some i =>
   simp only[No,HT.sIx,getD_none,show(1:Int) > 0 by decide,if_true];by_cases h:i < 0
   ·simp only[h,if_true]<;>omega
   ·simp only[h,if_false]<;>omega
theorem Fn(af:List b_)(lo hi:Option Int):slicePick af.toArray lo hi none=((af.drop (HT.sIx af.length 0 lo)).take (HT.sIx af.length af.length hi - HT.sIx af.length 0 lo)).toArray:=by
 obtain⟨h1,h2,h3⟩:=E7 lo hi af.toArray.size;unfold slicePick;rw[h1,h2,h3];simp only[sliceRange_one,pick_run,l_]<;>rfl
def rSlL(K:PySem.W.Frag):V->Option Int->Option Int->Hp->VK->Prop:=λx lo hi H Q=>∃a xs,x=.ref a/\SqL K H a xs/\∀p,H p=none->Q (.ref p) (upd H p (.lst (cutV xs lo hi)))
theorem Ce:SlR X (rSlL X.K):=by
 intro aa s U H x v vl vu lo hi sl Q I rx hs pl pu h;obtain⟨a,xs,rfl,hx,q⟩:=h;cases rx;obtain⟨af,r,ht,hz⟩:=I.list hx;have aY:=r.length;refine⟨"list", _,Ra.lookup,ht.isList.typeIs,?_⟩;refine wpAny_getItem_list_slice ht.isList hs pl pu .none (by simp) ?_ (by rw[l_]<;>omega);rw[Fn,←aY];refine⟨.ref s.heap.objs.size,_,I.laid (t':=s.toks) (o:=.lst (cutV xs lo hi)) (λb ob q=>c_ _ q) (B_ _) ?_,rfl,q _ (I.hok.fresh (B_ _))⟩;exact⟨LL (yt xs lo hi) hz,_,0,(r.drop (HT.sIx xs.length 0 lo)).take (HT.sIx xs.length xs.length hi - HT.sIx xs.length 0 lo),t_ _ rfl⟩
theorem GY:CallR X (.builtin "len") (λxs H Q=>∃p ys,xs=[.ref p]/\(SqL X.K H p ys\/SqT X.K H p ys)/\Q (.int ys.length) H):=by
 intro aa s U H xs us Q I r h;obtain⟨p,ys,rfl,hq,q⟩:=h;obtain⟨u,rfl,rx⟩:=vals1 r;cases rx;have hn:=line63
 rcases hq with hq | hq
 ·obtain⟨af,r',pl,hz⟩:=I.list hq;have aY:=r'.length;exact Calls.call_len_list pl.isList (by simp only[l_]<;>omega) ⟨.int ys.length,H,I.tok _,⟨s.toks+1,by rw[l_,aY]⟩,q⟩
 ·obtain⟨af,r',pl,hz⟩:=I.tuple hq;have aY:=r'.length;exact len_tuple pl (by simp only[l_]<;>omega) ⟨.int ys.length,H,I.tok _,⟨s.toks+1,by rw[l_,aY]⟩,q⟩
theorem DQ:CallR X (.type "list") (λxs H Q=>∃p ys,xs=[.ref p]/\(SqL X.K H p ys\/SqT X.K H p ys)/\∀l,H l=none->Q (.ref l) (upd H l (.lst ys))):=by
 intro aa s U H xs us Q I r h;obtain⟨p,ys,rfl,hq,q⟩:=h;obtain⟨u,rfl,rx⟩:=vals1 r;cases rx
 have fin:∀(af:List b_),Vals ys af->ys.length<=x_->∀(h':KM) (c':Nat),(∀b o',s.heap.get? b=some o'->h'.get? b=some o') →
   h'.get? s.heap.objs.size=some { cls:=.type "list", dict:=none,data:=.seq af.toArray c',slots:=#[] }->EP X aa U Q (.ref s.heap.objs.size) { s with heap:=h' }:=λaf r' hz h' c' kp e =>
  ⟨.ref s.heap.objs.size,_,I.laid (t':=s.toks) kp (B_ _) (show ObjOk X.prog X.w _ h' _ (.lst ys) from⟨hz,af,c',r',e⟩),rfl,q _ (I.hok.fresh (B_ _))⟩
 rcases hq with hq | hq
 ·obtain⟨af,r',pl,hz⟩:=I.list hq;have aY:=r'.length;obtain⟨o,ho,hc,n,hd⟩:=pl.isList;exact call_list_seq p (.inl rfl) ho hc hd (λh' c' kp e=>fin af r' hz h' c' kp e) (by simp only[l_]<;>omega)
 ·obtain⟨af,r',pl,hz⟩:=I.tuple hq;have aY:=r'.length;obtain⟨o,ho,hc,n,hd⟩:=pl;exact call_list_seq p (.inr rfl) ho hc hd (λh' c' kp e=>fin af r' hz h' c' kp e) (by simp only[l_]<;>omega)
def tyV(K:PySem.W.Frag)(T:String)(x:V)(H:Hp):Prop:=match x with
 | .str _=>T = "str"
 | .int _=>T = "int"
 | .ref p=>(T = "list"/\∃xs,SqL K H p xs)\/(T = "tuple"/\∃o,K.lookup p=some o/\o.cls=.type "tuple"/\o.dict=none) ∨
   (T = "dict"/\((∃aj,H p=some (.dK aj))\/∃aj,H p=some (.dT aj)))\/(T = "set"/\∃S n,H p=some (.set S n))
 | _=>False
theorem yN{H:Hp}{s:d_}{T:String}{x:V}{v:b_}(I:Inv X aa U H s)(r:RelV x v)(ty:tyV X.K T x H):
  s.TypeIs v T/\∀a,v=.ref a->∃ob,s.heap.get? a=some ob/\ob.dict=none:=by
 cases x with
 | str z =>
  obtain⟨t,rfl⟩:=r
  cases(show T = "str" from ty)
  exact⟨typeIs_str s z t,λ_ e=>nomatch e⟩
 | int i =>
  obtain⟨t,rfl⟩:=r
  cases(show T = "int" from ty)
  exact⟨typeIs_int s i t,λ_ e=>nomatch e⟩
 | ref p =>
  cases r
  rcases ty with⟨rfl,xs,hq⟩ | ⟨rfl,o,hk,hc,hd⟩ | ⟨rfl,hk⟩ | ⟨rfl,S,n,hk⟩
  ·obtain⟨af,_,pl,_⟩:=I.list hq;refine⟨pl.isList.typeIs,λa e=>?_⟩;cases e;obtain⟨o,n,e,c,hd,_⟩:=pl;exact⟨o,e,hd⟩
  ·refine⟨⟨o,I.kIn p o hk,hc⟩,λa e=>?_⟩;cases e;exact⟨o,I.kIn _ o hk,hd⟩
  ·have z:∃o,s.heap.get? p=some o/\o.ExactDict:=by
    rcases hk with⟨aj,hk⟩ | ⟨aj,hk⟩
    ·obtain⟨_,_,_,_,o,_,_,e,ex,_⟩:=I.hok p _ hk;exact⟨o,e,ex⟩
    ·obtain⟨_,_,_,_,o,_,_,e,ex,_⟩:=I.hok p _ hk;exact⟨o,e,ex⟩
   obtain⟨o,e,ex⟩:=z;refine⟨⟨o,e,ex.1⟩,λa e2=>?_⟩;cases e2;exact⟨o,e,ex.2.1⟩
  ·obtain⟨o,_,_,_,e,ex,_⟩:=I.hok p _ hk;refine⟨⟨o,e,ex.1⟩,λa e2=>?_⟩;cases e2;exact⟨o,e,ex.2.1⟩
 | _=>exact Sh ty
noncomputable def tBM0(K:PySem.W.Frag)(T:String)(r:V->List V->Hp->VK->Prop)(to:TE):TE:=λU H Q=>to U H λx H1=>tyV K T x H1/\r x [] H1 Q
noncomputable def tBM(K:PySem.W.Frag)(T:String)(r:V->List V->Hp->VK->Prop)(to:TE)(t:TA):TE:=λU H Q=>to U H λx H1=>tyV K T x H1/\t U H1 λxs H2=>r x xs H2 Q
variable{o:KQ}{es:List KQ}{to:TE}{t:TA}{name:Str}{T id:String}{r:V->List V->Hp->VK->Prop}
theorem Hi(pa:PlainAttrs T)(slot:Slot T name id)(jr:Sj (.builtin id)=pure (.type "method_descriptor"))(hm:MtR X id r)(ho:PE X o to)(bP:NR o name X.env (KR o X.env)=KR o X.env:=by rfl)(bQ:(bf.endLine == aH.line)=true:=by rfl):PE X (.Call (.Attribute o name bf) [] [] aH) (tBM0 X.K T r to):=by
 intro aa s U H Q I h;refine wpAny_Call_method0_late bP bQ (thn (ho aa s U H _ I h) λv s1 ⟨x,H1,I1,r1,ty,q1⟩=>?_);obtain⟨h1,h2⟩:=yN I1 r1 ty;exact⟨T,id,pa,slot,jr,h1,h2,Pr rfl (PySem.evalArgs_none (hm aa s1 U H1 x [] v [] Q I1 r1 .nil q1))⟩
theorem yb(pa:PlainAttrs T)(slot:Slot T name id)(jr:Sj (.builtin id)=pure (.type "method_descriptor"))(hm:MtR X id r)(ho:PE X o to)(ha:PA X (e::es) t)(bP:NR o name X.env (KR o X.env)=KR o X.env:=by rfl)(cu:((K0 aH (f_ (e::es) X.env)).all (λx=>!x.1)&&(backToKw aH (RF [] X.env)).all (λx=>x.1.isSome)
   &&decide ((e::es).length+([]:List Rb).length+(if([]:List Rb).isEmpty then 0 else 1) < 30))=true:=by rfl)(bQ:(bf.endLine == aH.line)=true:=by rfl)(hs:f_ (e::es) X.env=(false,KR e X.env)::f_ es X.env:=by rfl)(cw:(K0 aH (f_ es X.env)).any (·.1)=false:=by rfl):
  PE X (.Call (.Attribute o name bf) (e::es) [] aH) (tBM X.K T r to t):=by
 intro aa s U H Q I h;refine wpAny_Call_method_late bP cu bQ rfl (thn (ho aa s U H _ I h) λv s1 ⟨x,H1,I1,r1,ty,q1⟩=>?_);obtain⟨h1,h2⟩:=yN I1 r1 ty;refine⟨T,id,pa,slot,jr,h1,h2,?_⟩;have hA:=ha aH aa s1 U H1 _ I1 q1;rw[hs] at hA ⊢;refine Pr (by show(false||(K0 aH (f_ es X.env)).any (·.1))=false;rw[cw]<;>rfl) (Calls.evalArgs_plain ?_);exact thn hA λus s2 ⟨vs,H2,I2,r2,q2⟩=>hm aa s2 U H2 x vs v us Q I2 r1 r2 q2
end
def MtM(X:Cx)(id:String)(r:V->List V->Hp->VK->Prop):Prop:=
 ∀(aa:List (h_×Obj)) (s:d_) (U:St) (H:Hp) (x:V) (xs:List V) (v:b_) (us:List b_) (Q:VK),Inv X aa U H s->RelV x v->Vals xs us->r x xs H Q →
  w_ (n_ X.prog X.w) X.A (call (.builtin id) (v::us)) (EP X aa U Q) X.xe s
theorem Vals.one:∀{x:V}{us:List b_},Vals [x] us->∃u,us=[u]/\RelV x u
 | _,_,.cons r .nil=>⟨_,rfl,r⟩
theorem Vals.two:∀{x y:V}{us:List b_},Vals [x,y] us->∃u v,us=[u,v]/\RelV x u/\RelV y v
 | _,_,_,.cons r (.cons q .nil)=>⟨_,_,rfl,r,q⟩
theorem Vals.zero:∀{us:List b_},Vals [] us->us=[]
 | _,.nil=>rfl
section
variable{H:Hp}{s:d_}{l b:h_}{ys:List V}
theorem Inv.lset{f:Array b_->Array b_}(I:Inv X aa U H s)(hH:H l=some (.lst xs))(e:s.heap.get? l=some { cls:=.type "list", data:=.seq af.toArray n })(hf:f af.toArray=its'.toArray)(hv:Vals ys its')(hz:ys.length<=x_):
  Inv X aa U (upd H l (.lst ys)) { s with heap:=s.heap.update l (L4 f),toks:=t' }:=by
 have q:=PySem.IsL.update e f;rw[hf] at q;refine I.write (x:=l) (e:=l) (by rw[hH];exact trivial) (.inl rfl) (λb' u hb hu=>(C_ s.heap (L4 f) (Kx hb)).trans hu) ⟨_,q⟩ ?_;exact⟨hz,its',_,hv,q⟩
theorem Inv.lnew(I:Inv X aa U H s)(hv:Vals ys af)(hz:ys.length<=x_):
  Inv X aa U (upd H s.heap.objs.size (.lst ys)) { s with heap:=s.heap.push { cls:=.type "list", data:=.seq af.toArray },toks:=t' }:=
 I.laid (λ_ _ q=>c_ _ q) (B_ _) ⟨hz,af,0,hv,t_ _ rfl⟩
theorem Inv.fresh(I:Inv X aa U H s):H s.heap.objs.size=none:=I.hok.fresh (B_ _)
theorem Inv.lstM(I:Inv X aa U H s)(hH:H l=some (.lst xs)):xs.length<=x_/\∃(af:List b_) (n:Nat),Vals xs af/\xs.length=af.length/\s.heap.get? l=some { cls:=.type "list", data:=.seq af.toArray n }:=by
 obtain⟨z,af,n,r,e⟩:=I.hok l _ hH;exact⟨z,af,n,r,r.length,e⟩
theorem notLongL(h:n<=x_):RG n=false:=by
 unfold RG;exact decide_eq_false (by omega)
end
section
def rAppend:V->List V->Hp->VK->Prop:=λx vs H Q=>∃l xs y,x=.ref l/\vs=[y]/\H l=some (.lst xs)/\xs.length < x_/\Q .non (upd H l (.lst (xs++[y])))
theorem AI:MtM X "list.append" rAppend:=by
 intro aa s U H x vs v us Q I rx rv h;obtain⟨l,xs,y,rfl,rfl,hH,hz,q⟩:=h;cases rx;obtain⟨u,rfl,ru⟩:=rv.one;obtain⟨z,af,n,r,hl,e⟩:=I.lstM hH;refine RZ F.slot_list_append ⟨_,e,rfl⟩ F.entry_list_append (F.args_list_append_2 _ _) (PySem.list_append l af.toArray n u (by rw[l_];omega)) ⟨e,?_⟩;refine⟨.non,_,I.lset (its':=af++[u]) hH e (by simp) (r.append (.cons ru .nil)) ?_,rfl,q⟩;rw[KJ,PU];omega
def rClear:V->List V->Hp->VK->Prop:=λx vs H Q=>∃l xs,x=.ref l/\vs=[]/\H l=some (.lst xs)/\Q .non (upd H l (.lst []))
theorem BA:MtM X "list.clear" rClear:=by
 intro aa s U H x vs v us Q I rx rv h;obtain⟨l,xs,rfl,rfl,hH,q⟩:=h;cases rx;have mU:=rv.zero;subst mU;obtain⟨z,af,n,r,hl,e⟩:=I.lstM hH;refine RZ F.slot_list_clear ⟨_,e,rfl⟩ F.entry_list_clear (F.args_list_clear_1 _) (AutoSeq1.list_clear_list_0 l af.toArray n (by rw[l_];omega)) ⟨e,?_⟩;exact⟨.non,_,I.lset (its':=[]) (ys:=[]) hH e rfl .nil (K' _),rfl,q⟩
end
end L2
namespace Att
open PySem PySem.W PySem.Calls PyProof.Rows
theorem IK{P:Params}:∀(ns:List Int) (vs:List b_),WellAll P h vs (ns.map WData.int)->LZ vs ns:=by
 intro ns
 induction ns with
 | nil =>
  intro vs w;rw[List.map_nil] at w;cases w;exact .nil
 | cons n ns ih =>
  intro vs w;rw[KB] at w;cases w with
  | cons a b =>
   cases a;exact .cons _ _ (ih _ b)
theorem Bd{l:Sk}(hn:l.most=some n){P:Params}(fi:l.row.toRowW.claim.pre args=true)(jt:WellAll P h fT args):
  ∃a vs ns,fT=[b_.ref a]/\args=[WData.list (ns.map WData.int)]/\h.get? a=some { cls:=.type "list", data:=.seq vs.toArray }/\LZ vs ns/\ns.length<=n:=by
 have mV:Sl.hasAll [] args [.list .int]=true:=(pre_splitW fi).1;have hc:l.pre.holds [] { args:=args }=true:=(pre_splitW fi).2;obtain⟨d,r,rfl,h1,h2⟩:=hasAllW_cons mV;obtain rfl:=hasAllW_nil h2;obtain⟨xs,rfl,h3⟩:=hasW_list h1;obtain⟨ns,rfl⟩:=items_int h3
 have aY:ns.length<=n:=by
  unfold Sk.pre at hc
  have h4:(WTm.not (.lt (.lit (.int (n:Int))) (.len (.arg 0)))).holds [] { args:=[.list (ns.map .int)] }=true:=by
   have h4:=(holds_andW hc).1;rw[hn] at h4;exact h4
  have h5:=condW_of h4 (w_not (w_lt w_lit (w_len_list (w_arg rfl))));rw[y_] at h5;refine O6 λq=>?_
  have q':(n:Int) < ((ns.length:Nat):Int):=by omega
  first
   | (rw[decide_eq_true q'] at h5;exact absurd h5 (by decide))
   | (simp at h5;omega)
 cases jt with
 | cons w1 w2 =>
  cases w2;cases w1 with
  | list ho hall=>exact⟨_,_,ns,rfl,rfl,ho,IK ns _ hall,aY⟩
theorem Gj(l:Sk)(args:List WData):l.row.toRowW.claim.post args (.bool true) args=true:=
 postW_of (r:=l.row.toRowW) (X:=(true == true))
  (show Sl.has [] (.bool true) .bool=true by first | rfl | decide | simp[Sl.has,Sl.arms,Sl.armsAll])
  (show(WTm.eq .res (.lit (.bool true))).value [] { args:=args,res:=some (.bool true),after:=args }=some (.bool (true == true)) from w_eq_bool (w_res rfl) w_lit) rfl
theorem IR{l:Sk}{XP:(Str->Option b_)->KM->Prop}{YP:I_->KM->Prop}{d:DefRec}(hn:l.most=some n)(fU:d.params.defaults=[])(call:∀(w:I_) (s₀ aw:d_) (mg mb:Str->Option b_) (fa:h_) (o:Obj) (pm cd bO:b_) (a:h_) (vs:List b_) (ns:List Int),
   Ground q cA [] XP w s₀ mg mb aw.heap->YP w aw.heap →
   aw.heap.get? fa=some o->o.data=.func (docDef d.name d.params d.body d.scope pm cd bO)->aw.heap.CodeRec cd d.name->mg d.name=some (.ref fa) →
   aw.heap.get? a=some { cls:=.type "list", data:=.seq vs.toArray }->LZ vs ns->ns.length<=n->aw.gens=#[] →
   Ml (n_ l.prog w) Qo (.call (.ref fa) ⟨[.ref a],[]⟩) (λr s'=>r=.ok (.ret (.bool true))/\OldK aw.heap s'.heap/\s'.os=aw.os/\OL s'.gens) aw):
  WalkO q cA XP YP l.row.toRowW d [] (λf vs=>PySem.call f vs):=by
 intro w s₀ aw mg mb G Y fa o pm cd bO dV kV ho hd aW hD fV hg args fT as fi oM kF jt kG;obtain rfl:dV=.none:=Dflts.none hD fU;obtain rfl:kV=.none:=Dflts.noKw hD;obtain⟨a,vs,ns,rfl,rfl,fW,eG,aY⟩:=Bd hn fi jt;refine enter_call (M4 (call w s₀ aw mg mb fa o pm cd bO a vs ns G Y ho (fd_plain hd) aW fV fW eG aY hg) λr s' hq=>?_);obtain⟨rfl,h2,h3,h4⟩:=hq;exact⟨.inl ⟨.bool true,.bool true,[],rfl,λ_=>rfl,.bool true,Gj l _,λ_=>⟨Mf.nil,λ_ hm=>(nomatch hm)⟩⟩,h2,h3,h4⟩
end Att
namespace L2
open PySem PySem.Spec PyProof.Rows
theorem z5:∀{vs:List b_}{ns:List Int},LZ vs ns->Vals (ns.map V.int) vs
 | _,_,.nil=>.nil
 | _,_,.cons n t h=>.cons ⟨t,rfl⟩ (z5 h)
def Only(H:Hp):Prop:=∀b,H b=none\/∃o xs,H b=some (.frz o (.lst xs))
noncomputable def defArgs(s:L9):Arguments:=match s with
 | .FunctionDef _ a _ _ _ _ _ _ _ _=>a
 | _=>{ posonlyargs:=[],args:=[],vararg:=none,kwonlyargs:=[],kw_defaults:=[],kwarg:=none,defaults:=[] }
noncomputable def defBody(s:L9):List L9:=match s with
 | .FunctionDef _ _ b _ _ _ _ _ _ _=>b
 | _=>[]
noncomputable def defScope(s:L9):Nu:=match s with
 | .FunctionDef _ _ _ _ _ _ sc _ _ _=>sc
 | _=>{ kind:=.function,names:=[],isGenerator:=false,isCoroutine:=false }
noncomputable abbrev CX0:CXT:=λ_ _ _ _ _ _=>False
noncomputable abbrev E0:XK:=λ_ _ _=>False
theorem pass0:Passes CX0 X E0:=λ_ _ _ _ _ _ _ h=>h.elim
structure Fun(K:PySem.W.Frag)(x qual:Str)(st:L9)(f:h_)(fd:NW):Prop where
 ex:∃(oc:b_) (od:Option h_) (kV bO pm:b_) (an:Option h_) (aD ct:b_) (c8:Array (Option b_)),
  fd=QJ x qual (defArgs st) (defBody st) (defScope st) .none kV bO pm an aD ct/\K.lookup f=some ⟨oc,od,.func fd,c8⟩/\codeIn K aD qual=true
 kp:Oa K (.ref f)=true
section
variable{P:z_}{w:I_}{K:PySem.W.Frag}
theorem Fun.ok{x:Str}{st:L9}{N:List Str}{k:Nat}(F:Fun K x qual st f fd)(S:FnScope N ps (defScope st))(len:∀vs H Q E,sp vs H Q E->vs.length=ps.length)(c9:∀(aD:b_) (A:Mc) (outer:List Env) (s:d_) (H:Hp) (vs:List V) (Q:VK) (E:XK),Room k (A.deeper (Oz qual (defScope st) s.heap.objs.size f aD))->sp vs H Q E →
   ∃t,PSs (cxOf CX0 P w K mg base N qual (defScope st) f aD A outer s H E).nox (defBody st) t/\t { nx:=λ_ H'=>Q .non H',rt:=Q } (start N vs) H):FnOk P w K mg base CX0 (k+1) f fd ps sp:=by
 obtain⟨oc,od,kV,bO,pm,an,aD,ct,c8,rfl,lk,aW⟩:=F.ex;refine w6 lk aW S len λA outer s H vs Q E hr dE=>?_
 obtain⟨t,h,q⟩:=c9 aD A outer s H vs Q E hr dE;exact⟨t,h.nox,q⟩
theorem Fun.binds{x:Str}{st:L9}(F:Fun K x qual st f fd)(h:∀(kV bO pm:b_) (an:Option h_) (aD ct:b_) (us:List b_),us.length=ps.length->MU (QJ x qual (defArgs st) (defBody st) (defScope st) .none kV bO pm an aD ct) ⟨us,[]⟩=pure (ps.zip us)):Binds K fd ps []:=by
 obtain⟨oc,od,kV,bO,pm,an,aD,ct,c8,rfl,lk,aW⟩:=F.ex;exact .all (h kV bO pm an aD ct)
theorem FG{x:Str}{st:L9}{kV bO aD:b_}(l:K.lookup f=some ⟨oc,od,.func (QJ x qual (defArgs st) (defBody st) (defScope st) .none kV bO pm an aD ct),c8⟩)(c:codeIn K aD qual=true)(k:Oa K (.ref f)=true):Fun K x qual st f (QJ x qual (defArgs st) (defBody st) (defScope st) .none kV bO pm an aD ct):=⟨⟨oc,od,kV,bO,pm,an,aD,ct,c8,rfl,l,c⟩,k⟩
end
theorem tz{k:Nat}(hr:Room k A):A.units+1 < MN:=Nm (Nat.add_le_add_left (by decide:1<=64) _) hr.units
section
theorem pv(i:Nat){x:Str}(hN:X.N[i]?=some x:=by rfl)(hv:visB X.env.scope x=true:=by rfl)(hd:(x == ("__debug__":Str))=false:=by decide)(aW:(x == ("__classdict__":Str))=false:=by decide):PE X (.Name x pos) (tVar i):=HC hN (visI hv) hd aW
end
theorem iteF{A B:Prop}(h:B):if false=true then A else B:=by
 rw[if_neg v_];exact h
theorem iteT{A B:Prop}(h:A):if true=true then A else B:=by
 rw[if_pos rfl];exact h
def Same(H H':Hp):Prop:=∀b o,H b=some o->H' b=some o
theorem Same.refl(H:Hp):Same H H:=λ_ _ h=>h
theorem Same.trans{H:Hp}(a:Same H H1)(b:Same H1 H2):Same H H2:=λc o h=>b c o (a c o h)
theorem Same.free{H:Hp}(e:Same H H'){l:h_}(h:H' l=Option.none):H l=Option.none:=by
 cases q:H l with
 | none=>rfl
 | some o =>
  rw[e l o q] at h;cases h
section
variable {κ:Type}[DecidableEq κ]
noncomputable def valV(aj:List (κ×V))(k:κ):Option V:=(aj.find? λkv=>decide (kv.1=k)).map (·.2)
noncomputable def putK(aj:List (κ×V))(k:κ)(v:V):List (κ×V):=
 if(aj.any λkv=>decide (kv.1=k))=true then aj.map (λkv=>if kv.1=k then(kv.1,v) else kv) else aj++[(k,v)]
theorem uH{p:κ×V}{r:List (κ×V)}{k:κ}(e:p.1=k):valV (p::r) k=some p.2:=by simp[valV,OA,e]
theorem ut{p:κ×V}{r:List (κ×V)}{k:κ}(e:¬p.1=k):valV (p::r) k=valV r k:=by simp[valV,OA,e]
theorem ux(k:κ):∀aj:List (κ×V),(aj.any λkv=>decide (kv.1=k))=(valV aj k).isSome
 | []=>rfl
 | p::r=>by
  rw[Rc];by_cases e:p.1=k
  ·simp only[uH e,decide_eq_true e,Bool.true_or,Option.isSome_some]
  ·rw[ut e,decide_eq_false e,Bool.false_or];exact ux k r
theorem yZ(aj:List (κ×V))(k:κ)(v:V):(putK aj k v).length<=aj.length+1:=by
 unfold putK;split
 ·rw[y_];omega
 ·rw[KJ,Lc,List.length_nil];omega
theorem Gs{aj:List (κ×V)}{k:κ}(v:V)(h:valV aj k=none):putK aj k v=aj++[(k,v)]:=by
 unfold putK;rw[ux,h];exact if_neg (by decide)
theorem RelO.isSome_eq{o:Option V}{u:Option b_}(r:RelO o u):o.isSome=u.isSome:=by
 cases o with
 | none=>cases u with
  | none=>rfl
  | some _=>exact(show False from r).elim
 | some _=>cases u with
  | none=>exact(show False from r).elim
  | some _=>rfl
theorem KV.val{aj:List (κ×V)}{vs:List (κ×b_)}(r:KV aj vs)(k:κ):RelO (valV aj k) (Re vs k):=by
 unfold KV at r
 induction r with
 | nil=>exact Ps
 | @cons p q ps qs h t ih =>
  obtain⟨h1,h2⟩:=h;by_cases e:p.1=k
  ·have e':q.1=k:=h1.symm.trans e;have b:Re (q::qs) k=some q.2:=by simp[Re,OA,e']
   rw[uH e,b];exact h2
  ·have e':¬q.1=k:=λz=>e (h1.trans z)
   have b:Re (q::qs) k=Re qs k:=by simp[Re,OA,e']
   rw[ut e,b];exact ih
theorem KV.any{aj:List (κ×V)}{vs:List (κ×b_)}(r:KV aj vs)(k:κ):(aj.any λkv=>decide (kv.1=k))=vs.any λkv=>decide (kv.1=k):=by
 unfold KV at r
 induction r with
 | nil=>rfl
 | cons h t ih=>rw[Rc,Rc,ih,h.1]
theorem KV.repl{aj:List (κ×V)}{vs:List (κ×b_)}(r:KV aj vs)(k:κ){y:V}{u:b_}(ry:RelV y u):
  KV (aj.map λkv=>if kv.1=k then(kv.1,y) else kv) (vs.map λkv=>if kv.1=k then(kv.1,u) else kv):=by
 unfold KV at r ⊢
 induction r with
 | nil=>exact .nil
 | @cons p q ps qs h t ih =>
  rw[KB,KB];refine .cons ?_ ih;obtain⟨h1,h2⟩:=h;by_cases e:p.1=k
  ·rw[if_pos e,if_pos (h1.symm.trans e)];exact⟨h1,ry⟩
  ·rw[if_neg e,if_neg (λz=>e (h1.trans z))];exact⟨h1,h2⟩
theorem KV.put{aj:List (κ×V)}{vs:List (κ×b_)}(r:KV aj vs)(k:κ){y:V}{u:b_}(ry:RelV y u):KV (putK aj k y) (stored vs k u):=by
 unfold putK stored;rw[r.any k];by_cases e:(vs.any λkv=>decide (kv.1=k))=true
 ·rw[if_pos e,if_pos e];exact r.repl k ry
 ·rw[if_neg e,if_neg e];exact snoc r ⟨rfl,ry⟩
theorem KV.keys{aj:List (κ×V)}{vs:List (κ×b_)}(r:KV aj vs):aj.map (·.1)=vs.map (·.1):=by
 unfold KV at r
 induction r with
 | nil=>rfl
 | cons h t ih=>rw[KB,KB,ih,h.1]
theorem KV.length{aj:List (κ×V)}{vs:List (κ×b_)}(r:KV aj vs):aj.length=vs.length:=Paired.length r
end
theorem wb{P:z_}{w:I_}{k:Key}{u:b_}(r:RelV (kV k) u):(mixKind P w).is k u=true:=by
 cases k with
 | inl i=>obtain⟨t,e⟩:=(show ∃t,u=b_.int i t from r);subst e;exact CG P w i t
 | inr x=>obtain⟨t,e⟩:=(show ∃t,u=b_.str x t from r);subst e;exact CP P w x t
theorem Ap{P:z_}{w:I_}:∀{ks:List Key}{us:List b_},Vals (ks.map kV) us->ItemsAre (mixKind P w) ks us
 | [],_,r=>by rw[List.map_nil] at r;cases r;exact .nil
 | k::ks,_,r=>by
  rw[KB] at r;cases r with
  | cons h t=>exact .cons (wb h) (Ap t)
abbrev KT(H:Hp):List (List Key×V)->List (List Key×h_×b_)->Prop:=Paired λp q=>p.1=q.1/\H q.2.1=some (.tup (p.1.map kV))/\RelV p.2 q.2.2
theorem KT.val{H:Hp}{xs:List (List Key×h_×b_)}(r:KT H aj xs)(k:List Key):RelO (valV aj k) ((R0 xs k).map (·.2)):=by
 induction r with
 | nil=>exact Ps
 | @cons p q ps qs h t ih =>
  obtain⟨h1,_,h2⟩:=h;by_cases e:p.1=k
  ·have e':q.1=k:=h1.symm.trans e;have b:R0 (q::qs) k=some q.2:=by simp[R0,OA,e']
   rw[uH e,b];exact h2
  ·have e':¬q.1=k:=λz=>e (h1.trans z)
   have b:R0 (q::qs) k=R0 qs k:=by simp[R0,OA,e']
   rw[ut e,b];exact ih
theorem KT.repl{H:Hp}{xs:List (List Key×h_×b_)}(r:KT H aj xs)(k:List Key){y:V}{u:b_}(ry:RelV y u):
  KT H (aj.map λkv=>if kv.1=k then(kv.1,y) else kv) (xs.map (putAt k u)):=by
 induction r with
 | nil=>exact .nil
 | @cons p q ps qs h t ih =>
  rw[KB,KB];refine .cons ?_ ih;obtain⟨h1,h2,h3⟩:=h;unfold putAt;by_cases e:p.1=k
  ·rw[if_pos e,if_pos (h1.symm.trans e)];exact⟨h1,h2,ry⟩
  ·rw[if_neg e,if_neg (λz=>e (h1.trans z))];exact⟨h1,h2,h3⟩
theorem KT.put{H:Hp}{xs:List (List Key×h_×b_)}(r:KT H aj xs)(k:List Key){b:h_}{y:V}{u:b_}(hb:H b=some (.tup (k.map kV)))(ry:RelV y u):
  KT H (putK aj k y) (storedH xs k b u):=by
 have e:(aj.any λkv=>decide (kv.1=k))=(R0 xs k).isSome:=by
  rw[ux,(r.val k).isSome_eq,Rf]
 unfold putK storedH;rw[e];by_cases q:(R0 xs k).isSome=true
 ·rw[if_pos q,if_pos q];exact r.repl k ry
 ·rw[if_neg q,if_neg q];exact snoc r ⟨rfl,hb,ry⟩
theorem KT.keeps{H:Hp}{xs:List (List Key×h_×b_)}(r:KT H aj xs)(ht:∀b ys,H b=some (.tup ys)->H' b=some (.tup ys)):KT H' aj xs:=
 Paired.mapP r λ_ _ z=>⟨z.1,ht _ _ z.2.1,z.2.2⟩
section
variable{P:z_}{w:I_}{H:Hp}{a:h_}
theorem At{u:HO}(ok:HOk P w H h)(e:Rd H a u):ObjOk P w H h a u:=e.ok ok
theorem ua{aj:List (Key×V)}(ok:HOk P w H h)(e:Rd H a (.dK aj)):aj.length<=x_/\(a == My)=false/\∃vs,KV aj vs/\h.DictOf (mixKind P w) a vs:=
 show ObjOk P w H h a (.dK aj) from At ok e
theorem zc{aj:List (Key×V)}(ok:HOk P w H h)(e:H a=some (.dK aj)):aj.length<=x_/\(a == My)=false/\∃vs,KV aj vs/\h.DictOf (mixKind P w) a vs:=ua ok (.inl e)
theorem vO(ok:HOk P w H h)(e:H a=some (.tup (ks.map kV))):(Ql (mixKind P w)).is h ks a:=by
 obtain⟨_,af,r,o,h1,h2,n,h3⟩:=(show ObjOk P w H h a (.tup (ks.map kV)) from ok a _ e);exact⟨o,af.toArray,n,h1,h2,h3,by simpa using Ap r⟩
theorem yK(ok:HOk P w H h)(e:Rd H a (.dT aj)):aj.length<=x_/\(a == My)=false ∧
  ∃xs,KT H aj xs/\h.DictOfH (Ql (mixKind P w)) a xs:=by
 obtain⟨z,y,xs,r,o,es,ep,h1,h2,h3,h4,h5⟩:=(show ObjOk P w H h a (.dT aj) from At ok e);refine⟨z,y,xs,r,o,es,ep,h1,h2,h3,h4,λx hx=>?_,h5⟩
 have all:∀{l:List (List Key×V)}{m:List (List Key×h_×b_)},KT H l m->∀x∈m,(Ql (mixKind P w)).is h x.1 x.2.1:=by
  intro l m q
  induction q with
  | nil=>intro x hx;exact nomatch hx
  | @cons p q ps qs hq t ih =>
   intro x hx
   rcases m_.mp hx with e | hx
   ·subst e;exact vO ok (by rw[←hq.1];exact hq.2.1)
   ·exact ih x hx
 exact all r x hx
theorem Bm(ok:HOk P w H h)(e:H a=some (.dT aj)):aj.length<=x_/\(a == My)=false ∧
  ∃xs,KT H aj xs/\h.DictOfH (Ql (mixKind P w)) a xs:=yK ok (.inl e)
end
def DGet(H:Hp)(a:h_)(y:V)(r:Option V):Prop:=
 (∃aj k,Rd H a (.dK aj)/\y=kV k/\r=valV aj k)\/∃aj k b,Rd H a (.dT aj)/\y=.ref b/\H b=some (.tup (k.map kV))/\r=valV aj k
def DPut(H:Hp)(a:h_)(y v:V)(H':Hp):Prop:=
 (∃aj k,H a=some (.dK aj)/\y=kV k/\aj.length < x_/\H'=upd H a (.dK (putK aj k v))) ∨
 ∃aj k b,H a=some (.dT aj)/\y=.ref b/\H b=some (.tup (k.map kV))/\aj.length < x_/\H'=upd H a (.dT (putK aj k v))
theorem DPut.k{H:Hp}{a:h_}{aj:List (Key×V)}{k:Key}{v:V}(e:H a=some (.dK aj))(hl:aj.length < x_):DPut H a (kV k) v (upd H a (.dK (putK aj k v))):=.inl ⟨aj,k,e,rfl,hl,rfl⟩
section
variable{H:Hp}{s:d_}{a:h_}{y v:V}{u r:b_}{o:Option V}{E:b_->d_->Prop}
theorem Inv.big(I:Inv X aa U H s):My < s.heap.objs.size:=by
 have h:Lj < s.heap.objs.size:=(I.mod.glob.keeps I.bk).lt;exact Rg (by decide) h
theorem CB{Q:b_->d_->Prop}(hu:A.units+1 < MN)(I:Inv X aa U H s)(g:DGet H a y o)(ry:RelV y u)(h:∀s',Inv X aa U H s'->Q (.bool (!o.isSome)) s'):
  w_ (n_ X.prog X.w) A (Mh .NotIn u (.ref a)) Q E s:=by
 rcases g with⟨aj,k,e,ey,l⟩ | ⟨aj,k,b,e,ey,eb,l⟩
 ·subst ey;obtain⟨z,hd,vs,aQ,dd⟩:=ua I.hok e;refine wpAny_notIn_of (wb ry) hd dd.mapOf ?_;rw[←(aQ.val k).isSome_eq,←l];exact h _ (I.tok _)
 ·subst ey
  cases(show u=b_.ref b from ry)
  obtain⟨z,hd,xs,aQ,dd⟩:=yK I.hok e;refine wpAny_notIn_heap (QP hu) (vO I.hok eb) hd dd ?_;have q:=(aQ.val k).isSome_eq;rw[Rf] at q;rw[←q,←l];exact h _ (I.tok _)
theorem vM{ob:HO}(I:Inv X aa U H s)(mu:Mut (H a))(hs:KM.SameBut a s.heap h')(he:∃q,h'.get? a=some q)(new:ObjOk X.prog X.w (upd H a ob) h' a ob):
  Inv X aa U (upd H a ob) { s with heap:=h',toks:=t' }:=
 I.write (x:=a) (e:=a) mu (.inl rfl) (λb q hb z=>(hs.2 b hb).trans z) he new
theorem DF{P:z_}{w:I_}{aj:List (Key×V)}{vs:List (Key×b_)}(z:aj.length<=x_)(hd:(a == My)=false)(aQ:KV aj vs)(dd:h'.DictOf (mixKind P w) a vs):
  ObjOk P w H' h' a (.dK aj):=⟨z,hd,vs,aQ,dd⟩
theorem A5{Q:Unit->d_->Prop}(hu:A.units+1 < MN)(I:Inv X aa U H s)(g:DPut H a y v H')(ry:RelV y u)(rv:RelV v r)(h:∀s',Inv X aa U H' s'->Q () s'):
  w_ (n_ X.prog X.w) A (Si (.ref a) u r) Q E s:=by
 rcases g with⟨aj,k,e,ey,l,eH⟩ | ⟨aj,k,b,e,ey,eb,l,eH⟩
 ·subst ey eH;obtain⟨z,hd,vs,aQ,dd⟩:=zc I.hok e;have hz:vs.length<=x_:=by rw[←aQ.length];exact z
  have hl:(putK aj k v).length<=x_:=by have:=yZ aj k v;omega
  refine wpAny_setItem_pairs (hsz:=hz) (wb ry) dd λh' hZ hs=>h _ ?_
  have he:∃q,h'.get? a=some q:=let ⟨q,_,_,hq,_⟩:=hZ;⟨q,hq⟩
  exact vM I (by rw[e];exact Ps) hs he (DF hl hd (aQ.put k rv) hZ)
 ·subst ey eH
  cases(show u=b_.ref b from ry)
  obtain⟨z,hd,xs,aQ,dd⟩:=Bm I.hok e;have hz:xs.length<=x_:=by rw[←Paired.length aQ];exact z
  have hl:(putK aj k v).length<=x_:=by have:=yZ aj k v;omega
  refine wpAny_setItem_heap (hsz:=hz) (QP hu) (vO I.hok eb) dd λh' hZ hs=>h _ ?_
  obtain⟨q,es,ep,hq,h2,h3,h4,_,h5⟩:=hZ;refine vM I (by rw[e];exact Ps) hs ⟨q,hq⟩ ⟨hl,hd,_,(aQ.put k eb rv).keeps λc ys ec=>?_,q,es,ep,hq,h2,h3,h4,h5⟩;rw[po (BX ec e (λz=>nomatch z))];exact ec
end
noncomputable def tDNotIn(ty td:TE):TE:=λU H Q=>ty U H λy H1=>td U H1 λx H2=>∃a o,x=.ref a/\DGet H2 a y o/\Q (.bl (!o.isSome)) H2
noncomputable def sDPut(td ty tv:TE):TS:=λD U H=>tv U H λv H1=>td U H1 λx H2=>ty U H2 λy H3=>∃a H4,x=.ref a/\DPut H3 a y v H4/\D.nx U H4
section
variable{o i value:KQ}{kB:Pos}{td ty tv:TE}
theorem Hq(hu:X.A.units+1 < MN)(hi:PE X i ty)(ho:PE X o td):PC X .NotIn i o (tDNotIn ty td):=by
 intro aa s U H Q I h;refine thn (hi aa s U H _ I h) λiv s1 ⟨y,H1,I1,ry,q1⟩=>thn (ho aa s1 U H1 _ I1 q1) λu s2 ⟨x,H2,I2,rx,a,ov,ex,g,q2⟩=>?_
 subst ex;obtain rfl:u=b_.ref a:=rx;exact CB hu I2 g ry λs3 I3=>⟨.bl (!ov.isSome),H2,I3,rfl,q2⟩
theorem IJ(hu:X.A.units+1 < MN)(ho:PE X o td)(hi:PE X i ty)(hv:PE X value tv)(hs:Mo value (some (.Subscript o i aA)) pos.line X.env=pure false):
  PS X (.Assign [.Subscript o i aA] value pos) (sDPut td ty tv):=by
 intro aa s U H D I h;refine wpAny_Assign_Subscript (thn (hv aa s U H _ I h) λr s1 ⟨v,H1,I1,rv,q1⟩=>thn (ho aa s1 U H1 _ I1 q1) λu s2 ⟨x,H2,I2,rx,q2⟩=>thn (hi aa s2 U H2 _ I2 q2) λiv s3 ⟨y,H3,I3,ry,a,H4,ex,g,q3⟩=>?_) hs;subst ex;obtain rfl:u=b_.ref a:=rx;exact A5 hu I3 g ry rv λs4 I4=>⟨U,H4,I4,q3⟩
end
theorem Hj{P:z_}{w:I_}{H:Hp}(h:KM)(hb:My < h.objs.size):ObjOk P w H (h.push { cls:=.type "dict", data:=.dict #[] }) h.objs.size (.dK []):=
 ⟨K' _,beq_eq_false_iff_ne.mpr (Kx (KI hb)),[],.nil,KM.DictOf.new h⟩
noncomputable def tDNewK:TE:=λ_ H Q=>∀p,H p=none->Q (.ref p) (upd H p (.dK []))
section
theorem Bg:PE X (.Dict [] [] pos) tDNewK:=λaa s U H Q I h =>
 wpAny_Dict_empty ⟨.ref s.heap.objs.size,_,I.laid (a:=s.heap.objs.size) (o:=.dK []) (t':=s.toks) (λ_ _ q=>c_ _ q) (B_ _) (Hj s.heap I.big),rfl,h _ (I.hok.fresh (B_ _))⟩
end
end L2
set_option maxHeartbeats 4000000
namespace DL
open PySem PySem.Spec PyProof.Rows L2
inductive D where
 | non | bl (b:Bool) | int (i:Int) | str (x:Str) | tup (xs:List D) | lst (xs:List D) | dct (ns:List Int)
def RdK(K:PySem.W.Frag)(I:Hp)(a:h_)(xs:List V):Prop:=Rd I a (.lst xs)\/∃(af:List b_) (n:Nat),K.lookup a=some { cls:=.type "list", data:=.seq af.toArray n }/\Vals xs af/\af.length<=x_
theorem RdK.of{K:PySem.W.Frag}{a:h_}(h:I a=some (.lst xs)):RdK K I a xs:=.inl (.inl h)
theorem RdK.sq{K:PySem.W.Frag}{a:h_}(h:RdK K I a xs):SqL K I a xs:=by
 rcases h with h | ⟨af,n,h1,h2,h3⟩
 ·exact .inl h
 ·exact .inr ⟨_,af.toArray,n,h1,rfl,rfl,rfl,by simpa using h3,by simpa using h2⟩
mutual
def Is(K:PySem.W.Frag)(I:Hp):D->V->Prop
 | .non,v=>v=.non
 | .bl b,v=>v=.bl b
 | .int i,v=>v=.int i
 | .str x,v=>v=.str x
 | .tup ds,v=>∃a xs,v=.ref a/\SqT K I a xs/\IsA K I ds xs
 | .lst ds,v=>∃a xs,v=.ref a/\RdK K I a xs/\IsA K I ds xs
 | .dct ns,v=>∃a o xs,v=.ref a/\I a=some (.frz o (.dK xs))/\xs.map (·.1)=ns.map KU
def IsA(K:PySem.W.Frag)(I:Hp):List D->List V->Prop
 | [],xs=>xs=[]
 | d::ds,xs=>∃x r,xs=x::r/\Is K I d x/\IsA K I ds r
end
section
variable{K:PySem.W.Frag}{H:Hp}
theorem Same.rd{a:h_}(e:Same I I')(h:Rd I a o):Rd I' a o:=by
 rcases h with h | ⟨u,h⟩
 ·exact .inl (e _ _ h)
 ·exact .inr ⟨u,e _ _ h⟩
theorem Same.rdK{a:h_}(e:Same I I')(h:RdK K I a xs):RdK K I' a xs:=by
 rcases h with h | h
 ·exact .inl (Same.rd e h)
 ·exact .inr h
theorem Same.sqT{a:h_}(e:Same I I')(h:SqT K I a xs):SqT K I' a xs:=by
 rcases h with h | h
 ·exact .inl (Same.rd e h)
 ·exact .inr h
mutual
theorem Is.mono(e:Same I I'):∀{d:D}{v:V},Is K I d v->Is K I' d v
 | .non,_,h=>by rw[Is] at h ⊢;exact h
 | .bl _,_,h=>by rw[Is] at h ⊢;exact h
 | .int _,_,h=>by rw[Is] at h ⊢;exact h
 | .str _,_,h=>by rw[Is] at h ⊢;exact h
 | .tup ds,v,h=>by
  rw[Is] at h ⊢;obtain⟨a,xs,e1,e2,e3⟩:=h;exact⟨a,xs,e1,Same.sqT e e2,IsA.mono e e3⟩
 | .lst ds,v,h=>by
  rw[Is] at h ⊢;obtain⟨a,xs,e1,e2,e3⟩:=h;exact⟨a,xs,e1,Same.rdK e e2,IsA.mono e e3⟩
 | .dct ns,v,h=>by
  rw[Is] at h ⊢;obtain⟨a,o,xs,e1,e2,e3⟩:=h;exact⟨a,o,xs,e1,e _ _ e2,e3⟩
theorem IsA.mono(e:Same I I'):∀{ds:List D}{xs:List V},IsA K I ds xs->IsA K I' ds xs
 | [],_,h=>by rw[IsA] at h ⊢;exact h
 | d::ds,xs,h=>by
  rw[IsA] at h ⊢;obtain⟨x,r,e1,e2,e3⟩:=h;exact⟨x,r,e1,Is.mono e e2,IsA.mono e e3⟩
end
theorem IsA.nil:IsA K I [] []:=by rw[IsA]
theorem IsA.cons{d:D}{ds:List D}{x:V}{xs:List V}(h:Is K I d x)(t:IsA K I ds xs):IsA K I (d::ds) (x::xs):=by
 rw[IsA];exact⟨x,xs,rfl,h,t⟩
theorem IsA.nil_inv(h:IsA K I [] xs):xs=[]:=by rw[IsA] at h;exact h
theorem IsA.cons_inv{d:D}{ds:List D}(h:IsA K I (d::ds) xs):∃x r,xs=x::r/\Is K I d x/\IsA K I ds r:=by rw[IsA] at h;exact h
theorem IsA.length:∀{ds:List D}{xs:List V},IsA K I ds xs->ds.length=xs.length
 | [],xs,h=>by rw[h.nil_inv]<;>rfl
 | d::ds,xs,h=>by
  obtain⟨x,r,rfl,_,t⟩:=h.cons_inv;simp[IsA.length t]
theorem IsA.get:∀{ds:List D}{xs:List V}{i:Nat}{d:D},IsA K I ds xs->ds[i]?=some d->∃x,xs[i]?=some x/\Is K I d x
 | [],xs,i,d,h,e=>by simp at e
 | c::ds,xs,0,d,h,e=>by
  obtain⟨x,r,rfl,hx,t⟩:=h.cons_inv;simp at e;subst e;exact⟨x,rfl,hx⟩
 | c::ds,xs,i+1,d,h,e=>by
  obtain⟨x,r,rfl,hx,t⟩:=h.cons_inv;obtain⟨y,e1,e2⟩:=IsA.get (i:=i) t (by simpa using e);exact⟨y,by simpa using e1,e2⟩
theorem IsA.append:∀{ds es:List D}{xs ys:List V},IsA K I ds xs->IsA K I es ys->IsA K I (ds++es) (xs++ys)
 | [],es,xs,ys,h,t=>by rw[h.nil_inv];exact t
 | d::ds,es,xs,ys,h,t=>by
  obtain⟨x,r,rfl,hx,h'⟩:=h.cons_inv;exact IsA.cons hx (IsA.append h' t)
theorem IsA.take:∀{ds:List D}{xs:List V} (n:Nat),IsA K I ds xs->IsA K I (ds.take n) (xs.take n)
 | ds,xs,0,h=>by rw[take_zero,take_zero];exact IsA.nil
 | [],xs,n+1,h=>by rw[h.nil_inv];exact IsA.nil
 | d::ds,xs,n+1,h=>by
  obtain⟨x,r,rfl,hx,h'⟩:=h.cons_inv;rw[Qr,Qr];exact IsA.cons hx (IsA.take n h')
theorem IsA.drop:∀{ds:List D}{xs:List V} (n:Nat),IsA K I ds xs->IsA K I (ds.drop n) (xs.drop n)
 | ds,xs,0,h=>by rw[O7,O7];exact h
 | [],xs,n+1,h=>by rw[h.nil_inv];exact IsA.nil
 | d::ds,xs,n+1,h=>by
  obtain⟨x,r,rfl,hx,h'⟩:=h.cons_inv;rw[M2,M2];exact IsA.drop n h'
theorem IsA.set{d:D}{x:V}(q:Is K I d x):∀{ds:List D}{xs:List V} (n:Nat),IsA K I ds xs->IsA K I (ds.set n d) (xs.set n x)
 | [],xs,n,h=>by rw[h.nil_inv];exact IsA.nil
 | c::ds,xs,0,h=>by
  obtain⟨y,r,rfl,hx,h'⟩:=h.cons_inv;exact IsA.cons q h'
 | c::ds,xs,n+1,h=>by
  obtain⟨y,r,rfl,hx,h'⟩:=h.cons_inv;exact IsA.cons hx (IsA.set q n h')
theorem IsA.reverse:∀{ds:List D}{xs:List V},IsA K I ds xs->IsA K I ds.reverse xs.reverse
 | [],xs,h=>by rw[h.nil_inv];exact IsA.nil
 | d::ds,xs,h=>by
  obtain⟨x,r,rfl,hx,h'⟩:=h.cons_inv;rw[Oj,Oj];exact IsA.append (IsA.reverse h') (IsA.cons hx IsA.nil)
theorem IsA.one{d:D}(h:IsA K I [d] xs):∃x,xs=[x]/\Is K I d x:=by
 obtain⟨x,r,rfl,hx,t⟩:=h.cons_inv;rw[t.nil_inv];exact⟨x,rfl,hx⟩
theorem IsA.two{d e:D}(h:IsA K I [d,e] xs):∃x y,xs=[x,y]/\Is K I d x/\Is K I e y:=by
 obtain⟨x,r,rfl,hx,t⟩:=h.cons_inv;obtain⟨y,rfl,hy⟩:=t.one;exact⟨x,y,rfl,hx,hy⟩
theorem pq{i:Int}{v:V}(h:Is K I (.int i) v):v=.int i:=by rw[Is] at h;exact h
theorem qj{i:Bool}{v:V}(h:Is K I (.bl i) v):v=.bl i:=by rw[Is] at h;exact h
theorem qv{i:Str}{v:V}(h:Is K I (.str i) v):v=.str i:=by rw[Is] at h;exact h
theorem qz{v:V}(h:Is K I .non v):v=.non:=by rw[Is] at h;exact h
theorem pG{ds:List D}{v:V}(h:Is K I (.tup ds) v):∃a xs,v=.ref a/\SqT K I a xs/\IsA K I ds xs:=by rw[Is] at h;exact h
theorem pF{ds:List D}{v:V}(h:Is K I (.lst ds) v):∃a xs,v=.ref a/\RdK K I a xs/\IsA K I ds xs:=by rw[Is] at h;exact h
theorem rO{v:V}(h:Is K I (.dct ns) v):∃a o xs,v=.ref a/\I a=some (.frz o (.dK xs))/\xs.map (·.1)=ns.map KU:=by rw[Is] at h;exact h
theorem Is.dct{a:h_}{o:Obj}{xs:List (Key×V)}(h:I a=some (.frz o (.dK xs)))(q:xs.map (·.1)=ns.map KU):Is K I (.dct ns) (.ref a):=by rw[Is];exact⟨a,o,xs,rfl,h,q⟩
theorem Is.int(i:Int):Is K I (.int i) (.int i):=by rw[Is]
theorem Is.bl(i:Bool):Is K I (.bl i) (.bl i):=by rw[Is]
theorem Is.str(i:Str):Is K I (.str i) (.str i):=by rw[Is]
theorem Is.non:Is K I .non .non:=by rw[Is]
theorem Is.tup{ds:List D}{a:h_}(h:SqT K I a xs)(t:IsA K I ds xs):Is K I (.tup ds) (.ref a):=by rw[Is];exact⟨a,xs,rfl,h,t⟩
theorem Is.lst{ds:List D}{a:h_}(h:RdK K I a xs)(t:IsA K I ds xs):Is K I (.lst ds) (.ref a):=by rw[Is];exact⟨a,xs,rfl,h,t⟩
end
inductive R where
 | val (d:D) | own (ds:List D) | bor (ds:List D) | fro (ds:List D) | dic (aj:List (Int×D)) | tfr (ds:List D)
noncomputable def R.mut:R->Bool
 | .val _=>false
 | .own _=>true
 | .bor _=>true
 | .fro _=>false
 | .tfr _=>false
 | .dic _=>false
noncomputable def R.ptr:R->Bool
 | .val _=>false
 | .own _=>true
 | .bor _=>true
 | .fro _=>false
 | .tfr _=>false
 | .dic _=>true
abbrev Gm:=List (Option R)
def Mt(K:PySem.W.Frag)(G I H:Hp)(ds:List D)(v:V):Prop:=∃p xs,v=.ref p/\H p=some (.lst xs)/\I p=none/\G p=none/\IsA K I ds xs
def IsK(K:PySem.W.Frag)(I:Hp)(aj:List (Int×D))(xs:List (Key×V)):Prop:=xs.map (·.1)=aj.map (λq=>KU q.1)/\IsA K I (aj.map (·.2)) (xs.map (·.2))
theorem IsK.mono{K:PySem.W.Frag}{aj:List (Int×D)}{xs:List (Key×V)}(e:Same I I')(h:IsK K I aj xs):IsK K I' aj xs:=⟨h.1,h.2.mono e⟩
def MtK(K:PySem.W.Frag)(G I H:Hp)(aj:List (Int×D))(v:V):Prop:=∃p xs,v=.ref p/\H p=some (.dK xs)/\I p=none/\G p=none/\IsK K I aj xs
def SlotOk(K:PySem.W.Frag)(G I H:Hp):R->V->Prop
 | .val d,v=>Is K I d v
 | .own ds,v=>Mt K G I H ds v
 | .bor ds,v=>Mt K G I H ds v
 | .fro ds,v=>∃p xs,v=.ref p/\I p=some (.lst xs)/\G p=none/\IsA K I ds xs
 | .tfr _,_=>False
 | .dic aj,v=>MtK K G I H aj v
theorem SlotOk.mt{K:PySem.W.Frag}{H:Hp}{r:R}{v:V}(h:SlotOk K G I H r v)(m:r.ptr=true):∃p xs,v=.ref p/\H p=some xs/\I p=none/\G p=none:=by
 cases r with
 | val d=>cases m
 | own ds=>obtain⟨p,xs,e1,e2,e3,e4,_⟩:=h;exact⟨p,_,e1,e2,e3,e4⟩
 | bor ds=>obtain⟨p,xs,e1,e2,e3,e4,_⟩:=h;exact⟨p,_,e1,e2,e3,e4⟩
 | fro ds=>cases m
 | tfr ds=>cases m
 | dic ds=>obtain⟨p,xs,e1,e2,e3,e4,_⟩:=h;exact⟨p,_,e1,e2,e3,e4⟩
structure Rep(K:PySem.W.Frag)(B:Nat->Option (Option V))(G I H:Hp)(U:L2.St)(Γ:Gm):Prop where
 iH:Same I H
 gH:Same G H
 len:U.length=Γ.length
 slot:∀(i:Nat) (r:R),Γ[i]?=some (some r)->∃v,U[i]?=some (some v)/\SlotOk K G I H r v
 dist:∀(i j:Nat) (r r':R) (v:V),Γ[i]?=some (some r)->Γ[j]?=some (some r')->r.ptr=true->r'.ptr=true->U[i]?=some (some v)->U[j]?=some (some v)->i=j
 bor:∀(i:Nat) (ds:List D),Γ[i]?=some (some (.bor ds))->U[i]?=B i
structure Grow(G I I':Hp):Prop where
 up:Same I I'
 new:∀b o,I' b=some o->I b=some o\/G b=none
theorem Grow.refl(G I:Hp):Grow G I I:=⟨Same.refl _,λ_ _ h=>.inl h⟩
theorem Grow.trans{I1 I2:Hp}(a:Grow G I I1)(b:Grow G I1 I2):Grow G I I2:=⟨a.up.trans b.up,λc o h=>by
 rcases b.new c o h with h1 | h1
 ·exact a.new c o h1
 ·exact .inr h1⟩
section
variable{K:PySem.W.Frag}{B:Nat->Option (Option V)}{H:Hp}{Γ:Gm}
theorem Rep.ext(r:Rep K B G I H U Γ)(hI:Same I I')(hH:Same H H')(iH:Same I' H')(new:∀b o,I' b=some o->I b=some o\/H b=none):Rep K B G I' H' U Γ where
 iH:=iH
 gH:=r.gH.trans hH
 len:=r.len
 slot:=λi q e=>by
  obtain⟨v,e1,e2⟩:=r.slot i q e;refine⟨v,e1,?_⟩
  have mt:∀ds,Mt K G I H ds v->Mt K G I' H' ds v:=λds h=>by
   obtain⟨p,xs,h1,h2,h3,h4,h5⟩:=h;refine⟨p,xs,h1,hH _ _ h2,?_,h4,h5.mono hI⟩;cases z:I' p with
   | none=>rfl
   | some o =>
    rcases new p o z with z1 | z1
    ·rw[h3] at z1;cases z1
    ·rw[h2] at z1;cases z1
  cases q with
  | val d=>exact Is.mono hI e2
  | dic ds =>
   obtain⟨p,xs,h1,h2,h3,h4,h5⟩:=e2;refine⟨p,xs,h1,hH _ _ h2,?_,h4,h5.mono hI⟩;cases z:I' p with
   | none=>rfl
   | some o =>
    rcases new p o z with z1 | z1
    ·rw[h3] at z1;cases z1
    ·rw[h2] at z1;cases z1
  | own ds=>exact mt ds e2
  | bor ds=>exact mt ds e2
  | fro ds=>obtain⟨p,xs,f1,f2,f3,f4⟩:=e2;exact⟨p,xs,f1,hI _ _ f2,f3,f4.mono hI⟩
  | tfr ds=>exact e2.elim
 dist:=r.dist
 bor:=r.bor
theorem pQ{H:Hp}{p:h_}(h:H p=none)(o:HO):Same H (upd H p o):=λb u q=>by rw[po (qi q h)];exact q
theorem AJ{I H:Hp}{p:h_}(h:Same I H)(o:HO):Same (upd I p o) (upd H p o):=λb u q=>by
 by_cases e:b=p
 ·subst e;rw[pA] at q ⊢;exact q
 ·rw[po e] at q ⊢;exact h b u q
theorem Rep.iFree(r:Rep K B G I H U Γ){p:h_}(h:H p=none):I p=none:=r.iH.free h
theorem Rep.gFree(r:Rep K B G I H U Γ){p:h_}(h:H p=none):G p=none:=r.gH.free h
theorem Rep.alloc(r:Rep K B G I H U Γ){p:h_}(h:H p=none)(o:HO):Rep K B G (upd I p o) (upd H p o) U Γ:=
 r.ext (pQ (r.iFree h) o) (pQ h o) (AJ r.iH o) λb u q=>by
  by_cases e:b=p
  ·subst e;exact .inr h
  ·rw[po e] at q;exact .inl q
theorem Rep.growAlloc(r:Rep K B G I H U Γ){p:h_}(h:H p=none)(o:HO):Grow G I (upd I p o):=⟨pQ (r.iFree h) o,λb u q=>by
 by_cases e:b=p
 ·subst e;exact .inr (r.gFree h)
 ·rw[po e] at q;exact .inl q⟩
theorem Rep.fresh(r:Rep K B G I H U Γ){p:h_}(h:H p=none)(o:HO):Rep K B G I (upd H p o) U Γ:=
 r.ext (Same.refl _) (pQ h o) (r.iH.trans (pQ h o)) λb u q=>.inl q
def Apart(U:L2.St)(Γ:Gm)(p:h_):Prop:=∀(j:Nat) (r:R),Γ[j]?=some (some r)->r.ptr=true->U[j]?≠some (some (.ref p))
theorem Rep.apart(r:Rep K B G I H U Γ){p:h_}(h:H p=none):Apart U Γ p:=λj q e m z=>by
 obtain⟨v,e1,e2⟩:=r.slot j q e;obtain⟨p',xs,h1,h2,_,_⟩:=e2.mt m;rw[e1] at z;subst h1;cases z;rw[h] at h2;cases h2
theorem Rep.freeze(r:Rep K B G I H U Γ){p:h_}(h:H p=some (.lst xs))(hi:I p=none)(a:Apart U Γ p):Rep K B G (upd I p (.lst xs)) H U Γ where
 iH:=λb u q=>by
  by_cases e:b=p
  ·subst e;rw[pA] at q;cases q;exact h
  ·rw[po e] at q;exact r.iH b u q
 gH:=r.gH
 len:=r.len
 slot:=λi q e=>by
  obtain⟨v,e1,e2⟩:=r.slot i q e;refine⟨v,e1,?_⟩;have up:=pQ hi (.lst xs)
  have mt:q.ptr=true->∀ds,Mt K G I H ds v->Mt K G (upd I p (.lst xs)) H ds v:=λm ds h=>by
   obtain⟨p',bg,h1,h2,h3,h4,h5⟩:=h;refine⟨p',bg,h1,h2,?_,h4,h5.mono up⟩;have ne:p'≠p:=λz=>a i q e m (by rw[e1,h1,z])
   rw[po ne];exact h3
  cases q with
  | val d=>exact Is.mono up e2
  | dic ds =>
   obtain⟨p',bg,h1,h2,h3,h4,h5⟩:=e2;refine⟨p',bg,h1,h2,?_,h4,h5.mono up⟩;have ne:p'≠p:=λz=>a i _ e rfl (by rw[e1,h1,z])
   rw[po ne];exact h3
  | own ds=>exact mt rfl ds e2
  | bor ds=>exact mt rfl ds e2
  | fro ds=>obtain⟨p,xs,f1,f2,f3,f4⟩:=e2;exact⟨p,xs,f1,up _ _ f2,f3,f4.mono up⟩
  | tfr ds=>exact e2.elim
 dist:=r.dist
 bor:=r.bor
theorem growFreeze{G I:Hp}{p:h_}(hi:I p=none)(hg:G p=none):Grow G I (upd I p (.lst xs)):=⟨pQ hi _,λb u q=>by
 by_cases e:b=p
 ·subst e;exact .inr hg
 ·rw[po e] at q;exact .inl q⟩
theorem pI{α:Type}{l:List α}{i:Nat}{a b:α}(h:(l.set i a)[j]?=some b):(j=i/\b=a/\i < l.length)\/(j≠i/\l[j]?=some b):=by
 by_cases e:j=i
 ·subst e;by_cases hl:j < l.length
  ·rw[Mr hl] at h;cases h;exact .inl ⟨rfl,rfl,hl⟩
  ·rw[LU (by rw[MA];omega)] at h;cases h
 ·rw[Lf (Kx e)] at h;exact .inr ⟨e,h⟩
theorem Rep.forget(r:Rep K B G I H U Γ)(i:Nat):Rep K B G I H U (Γ.set i none) where
 iH:=r.iH
 gH:=r.gH
 len:=by rw[MA];exact r.len
 slot:=λj q e=>by
  rcases pI e with⟨_,z,_⟩ | ⟨_,z⟩
  ·cases z
  ·exact r.slot j q z
 dist:=λj k q q' v e e'=>by
  rcases pI e with⟨_,z,_⟩ | ⟨_,z⟩
  ·cases z
  rcases pI e' with⟨_,z',_⟩ | ⟨_,z'⟩
  ·cases z'
  exact r.dist j k q q' v z z'
 bor:=λj ds e=>by
  rcases pI e with⟨_,z,_⟩ | ⟨_,z⟩
  ·cases z
  ·exact r.bor j ds z
theorem Rep.learn(r:Rep K B G I H U Γ){i:Nat}{q:R}{v:V}(hv:U[i]?=some (some v))(ok:SlotOk K G I H q v)(ha:q.ptr=true->∀p,v=.ref p->∀(j:Nat) (r:R),j≠i->Γ[j]?=some (some r)->r.ptr=true->U[j]?≠some (some (.ref p)))(hb:∀ds,q=.bor ds->U[i]?=B i):Rep K B G I H U (Γ.set i (some q)) where
 iH:=r.iH
 gH:=r.gH
 len:=by rw[MA];exact r.len
 slot:=λj q' e=>by
  rcases pI e with⟨rfl,z,_⟩ | ⟨_,z⟩
  ·cases z;exact⟨v,hv,ok⟩
  ·exact r.slot j q' z
 dist:=λj k q1 q2 w e e' m1 m2 s1 s2=>by
  rcases pI e with⟨rfl,z,_⟩ | ⟨n1,z⟩
  ·cases z
   rcases pI e' with⟨rfl,z',_⟩ | ⟨n2,z'⟩
   ·rfl
   ·obtain⟨p,xs,e1,_⟩:=ok.mt m1;rw[hv] at s1;cases s1;exact absurd (e1▸s2) (ha m1 p e1 k q2 n2 z' m2)
  ·rcases pI e' with⟨rfl,z',_⟩ | ⟨n2,z'⟩
   ·cases z';obtain⟨p,xs,e1,_⟩:=ok.mt m2;rw[hv] at s2;cases s2;exact absurd (e1▸s1) (ha m2 p e1 j q1 n1 z m1)
   ·exact r.dist j k q1 q2 w z z' m1 m2 s1 s2
 bor:=λj ds e=>by
  rcases pI e with⟨rfl,z,_⟩ | ⟨_,z⟩
  ·cases z;exact hb ds rfl
  ·exact r.bor j ds z
theorem Rep.store(r:Rep K B G I H U Γ){i:Nat}{q:R}{v:V}(hi:i < U.length)(ok:SlotOk K G I H q v)(ha:q.ptr=true->∀p,v=.ref p->Apart U Γ p)(hb:∀ds,q≠.bor ds):Rep K B G I H (U.set i (some v)) (Γ.set i (some q)):=by
 have r1:Rep K B G I H (U.set i (some v)) (Γ.set i none):={
  iH:=r.iH,gH:=r.gH,len:=by rw[MA,MA];exact r.len
  slot:=λj q' e=>by
   rcases pI e with⟨_,z,_⟩ | ⟨n,z⟩
   ·cases z
   ·rw[Lf (Kx n)];exact r.slot j q' z
  dist:=λj k q1 q2 w e e' m1 m2 s1 s2=>by
   rcases pI e with⟨_,z,_⟩ | ⟨n1,z⟩
   ·cases z
   rcases pI e' with⟨_,z',_⟩ | ⟨n2,z'⟩
   ·cases z'
   rw[Lf (Kx n1)] at s1;rw[Lf (Kx n2)] at s2;exact r.dist j k q1 q2 w z z' m1 m2 s1 s2
  bor:=λj ds e=>by
   rcases pI e with⟨_,z,_⟩ | ⟨n,z⟩
   ·cases z
   ·rw[Lf (Kx n)];exact r.bor j ds z }
 have r2:=r1.learn (i:=i) (q:=q) (v:=v) (by rw[Mr hi]) ok (λm p e j q' n z m' s=>by
  rcases pI z with⟨_,z',_⟩ | ⟨_,z'⟩
  ·cases z'
  ·rw[Lf (Kx n)] at s
   exact ha m p e j q' z' m' s) (λds e=>absurd e (hb ds))
 rw[RO] at r2;exact r2
theorem Rep.write(r:Rep K B G I H U Γ){i:Nat}{q q':R}{p:h_}{ys:List V}{ds:List D}(hq:Γ[i]?=some (some q))(hm:q.ptr=true)(hs:U[i]?=some (some (.ref p)))(h:H p=some (.lst xs))(h9:q'=.own ds\/(q'=.bor ds/\∃es,q=.bor es))(hd:IsA K I ds ys):
  Rep K B G I (upd H p (.lst ys)) U (Γ.set i (some q')):=by
 obtain⟨v,e1,e2⟩:=r.slot i q hq;obtain⟨p',bg,h1,h2,h3,h4⟩:=e2.mt hm;have hp:p'=p:=by rw[hs] at e1;subst h1;cases e1;rfl
 subst hp;have cf:∀(j:Nat) (r':R),j≠i->Γ[j]?=some (some r')->r'.ptr=true->U[j]?≠some (some (.ref p')):=λj r' n z m s=>n (r.dist j i r' q _ z hq m hm s hs)
 have sI:Same I (upd H p' (.lst ys)):=λb u z=>by
  have ne:b≠p':=λe=>by subst e;rw[h3] at z;cases z
  rw[po ne];exact r.iH b u z
 have sG:Same G (upd H p' (.lst ys)):=λb u z=>by
  have ne:b≠p':=λe=>by subst e;rw[h4] at z;cases z
  rw[po ne];exact r.gH b u z
 have r1:Rep K B G I (upd H p' (.lst ys)) U (Γ.set i none):={
  iH:=sI,gH:=sG,len:=by rw[MA];exact r.len
  slot:=λj q1 e=>by
   rcases pI e with⟨_,z,_⟩ | ⟨n,z⟩
   ·cases z
   obtain⟨w,e3,e4⟩:=r.slot j q1 z;refine⟨w,e3,?_⟩
   have mt:q1.ptr=true->∀ds,Mt K G I H ds w->Mt K G I (upd H p' (.lst ys)) ds w:=λm ds hh=>by
    obtain⟨p2,eJ,g1,g2,g3,g4,g5⟩:=hh;refine⟨p2,eJ,g1,?_,g3,g4,g5⟩;have ne:p2≠p':=λz2=>cf j q1 n z m (by rw[e3,g1,z2])
    rw[po ne];exact g2
   cases q1 with
   | val d=>exact e4
   | dic ds =>
    obtain⟨p2,eJ,g1,g2,g3,g4,g5⟩:=e4;refine⟨p2,eJ,g1,?_,g3,g4,g5⟩;have ne:p2≠p':=λz2=>cf j _ n z rfl (by rw[e3,g1,z2])
    rw[po ne];exact g2
   | own ds=>exact mt rfl ds e4
   | bor ds=>exact mt rfl ds e4
   | fro ds=>exact e4
   | tfr ds=>exact e4
  dist:=(r.forget i).dist
  bor:=(r.forget i).bor }
 have kH:Mt K G I (upd H p' (.lst ys)) ds (.ref p'):=⟨p',ys,rfl,pA,h3,h4,hd⟩
 have r2:=r1.learn (i:=i) (q:=q') (v:=.ref p') hs (by rcases h9 with rfl | ⟨rfl,_⟩<;>exact kH) (λm p2 e j r' n z m' s=>by
  cases e
  rcases pI z with⟨_,z',_⟩ | ⟨_,z'⟩
  ·cases z'
  ·exact cf j r' n z' m' s) (λes e=>by
  rcases h9 with rfl | ⟨rfl,es',rfl⟩
  ·cases e
  ·exact r.bor i es' hq)
 rw[RO] at r2;exact r2
end
end DL
variable{c ys ds:List DL.D}{d:DL.D}{Γ ah:DL.Gm}{F:List DL.D->Option (List DL.D)}{rr:DL.R}{rs:List DL.R}
namespace DL
open PySem PySem.Spec PyProof.Rows L2
noncomputable abbrev M(α:Type):=Gm->Option (α×Gm)
noncomputable def ret{α:Type}(a:α):M α:=λΓ=>some (a,Γ)
noncomputable def bnd{α β:Type}(m:M α)(f:α->M β):M β:=λΓ=>match m Γ with
 | some (a,ae)=>f a ae
 | none=>none
noncomputable def lft{α:Type}(o:Option α):M α:=λΓ=>match o with
 | some a=>some (a,Γ)
 | none=>none
theorem oK{α β:Type}{m:M α}{f:α->M β}{b:β}(h:bnd m f Γ=some (b,ah)):∃a ae,m Γ=some (a,ae)/\f a ae=some (b,ah):=by
 unfold bnd at h;cases e:m Γ with
 | none=>rw[e] at h;cases h
 | some q=>obtain⟨a,ae⟩:=q;rw[e] at h;exact⟨a,ae,rfl,h⟩
theorem pD{α:Type}{o:Option α}{a:α}(h:lft o Γ=some (a,ah)):o=some a/\ah=Γ:=by
 unfold lft at h;cases o with
 | none=>cases h
 | some b=>cases h;exact⟨rfl,rfl⟩
section
variable (K:PySem.W.Frag)(B:Nat->Option (Option V))
def KD(G I:Hp)(U:L2.St)(ah:Gm)(d:D)(Q:VK):Prop:=∀v H' I',Rep K B G I' H' U ah->Grow G I I'->Is K I' d v->Q v H'
def KO(G I:Hp)(U:L2.St)(ah:Gm)(ds:List D)(Q:VK):Prop:=∀p xs H' I',Rep K B G I' H' U ah->Grow G I I'->H' p=some (.lst xs)->I' p=none->G p=none->Apart U ah p->IsA K I' ds xs->Q (.ref p) H'
def KT(G I:Hp)(U:L2.St)(ah:Gm)(b:Bool)(Q:Bool->Hp->Prop):Prop:=∀H' I',Rep K B G I' H' U ah->Grow G I I'->Q b H'
def KA(G I:Hp)(U:L2.St)(ah:Gm)(ds:List D)(Q:List V->Hp->Prop):Prop:=∀vs H' I',Rep K B G I' H' U ah->Grow G I I'->IsA K I' ds vs->Q vs H'
noncomputable def tD(g:M D):TE:=λU H Q=>∃G I Γ d ah,Rep K B G I H U Γ/\g Γ=some (d,ah)/\KD K B G I U ah d Q
noncomputable def tO(g:M (List D)):TE:=λU H Q=>∃G I Γ ds ah,Rep K B G I H U Γ/\g Γ=some (ds,ah)/\KO K B G I U ah ds Q
noncomputable def tTD(g:M Bool):TT:=λU H Q=>∃G I Γ b ah,Rep K B G I H U Γ/\g Γ=some (b,ah)/\KT K B G I U ah b Q
noncomputable def tAD(g:M (List D)):TA:=λU H Q=>∃G I Γ ds ah,Rep K B G I H U Γ/\g Γ=some (ds,ah)/\KA K B G I U ah ds Q
end
abbrev BB:=Nat->Option (Option V)
def ED(X:Cx)(B:BB)(e:KQ)(g:M D):Prop:=PE X e (tD X.K B g)
def EO(X:Cx)(B:BB)(e:KQ)(g:M (List D)):Prop:=PE X e (tO X.K B g)
def TD(X:Cx)(B:BB)(e:KQ)(g:M Bool):Prop:=PT X e (tTD X.K B g)
def TW(X:Cx)(B:BB)(e:KQ)(g:M Bool):Prop:=PW X e (tTD X.K B g)
def AD(X:Cx)(B:BB)(es:List KQ)(g:M (List D)):Prop:=PA X es (tAD X.K B g)
section
theorem PE.imp{t t':TE}(h:PE X e t)(f:∀U H Q,t' U H Q->t U H Q):PE X e t':=λaa s U H Q I q=>h aa s U H Q I (f U H Q q)
theorem PT.imp{t t':TT}(h:PT X e t)(f:∀U H Q,t' U H Q->t U H Q):PT X e t':=λaa s U H Q I q=>h aa s U H Q I (f U H Q q)
theorem PW.imp{t t':TT}(h:PW X e t)(f:∀U H Q,t' U H Q->t U H Q):PW X e t':=λwh aa s U H Q I q=>h wh aa s U H Q I (f U H Q q)
theorem PA.imp{es:List KQ}{t t':TA}(h:PA X es t)(f:∀U H Q,t' U H Q->t U H Q):PA X es t':=λpos aa s U H Q I q=>h pos aa s U H Q I (f U H Q q)
end
section
variable{K:PySem.W.Frag}{B:BB}{I1 I2 H:Hp}{ae:Gm}{Q:VK}
theorem KD.now(k:KD K B G I U Γ d Q)(r:Rep K B G I H U Γ){v:V}(h:Is K I d v):Q v H:=k v H I r (Grow.refl _ _) h
theorem KD.after(k:KD K B G I U ah d Q)(g:Grow G I I1):KD K B G I1 U ah d Q:=λv H' I' r g' h=>k v H' I' r (g.trans g') h
theorem KO.after(k:KO K B G I U ah ds Q)(g:Grow G I I1):KO K B G I1 U ah ds Q:=λp xs H' I' r g'=>k p xs H' I' r (g.trans g')
theorem KT.after{b:Bool}{Q:Bool->Hp->Prop}(k:KT K B G I U ah b Q)(g:Grow G I I1):KT K B G I1 U ah b Q:=λH' I' r g'=>k H' I' r (g.trans g')
theorem KD.tup(k:KD K B G I U Γ (.tup ds) Q)(r:Rep K B G I H U Γ){p:h_}(hp:H p=none)(h:IsA K I ds xs):Q (.ref p) (upd H p (.tup xs)):=
 k _ _ _ (r.alloc hp _) (r.growAlloc hp _) (Is.tup (SqT.of pA) (h.mono (pQ (r.iFree hp) _)))
theorem KO.new(k:KO K B G I U Γ ds Q)(r:Rep K B G I H U Γ){p:h_}(hp:H p=none)(h:IsA K I ds xs):Q (.ref p) (upd H p (.lst xs)):=
 k p xs _ I (r.fresh hp _) (Grow.refl _ _) pA (r.iFree hp) (r.gFree hp) (r.apart hp) h
end
section
variable{B:BB}{a b c:KQ}{es:List KQ}{ga gb gc:M D}
noncomputable def frz(g:M (List D)):M D:=bnd g λds=>ret (.lst ds)
theorem pC{g:M (List D)}(h:EO X B e g):ED X B e (frz g):=PE.imp h λU H Q q=>by
 obtain⟨G,I,Γ,d,ah,r,e1,k⟩:=q;obtain⟨ds,ae,e2,e3⟩:=oK e1;cases e3;refine⟨G,I,Γ,ds,_,r,e2,λp xs H' I' r' g h1 h2 h3 h4 h5=>?_⟩;exact k _ _ _ (r'.freeze h1 h2 h4) (g.trans (growFreeze h2 h3)) (Is.lst (RdK.of pA) (h5.mono (pQ h2 _)))
noncomputable def nm(i:Nat):M D:=λΓ=>match Γ[i]? with
 | some (some (.val d))=>some (d,Γ)
 | some (some (.own ds))=>some (.lst ds,Γ.set i (some (.val (.lst ds))))
 | some (some (.fro ds))=>some (.lst ds,Γ)
 | _=>none
theorem zq{i:Nat}{x:Str}(h:PE X (.Name x pos) (tVar i)):ED X B (.Name x pos) (nm i):=PE.imp h λU H Q q=>by
 obtain⟨G,I,Γ,d,ah,r,e1,k⟩:=q;unfold nm at e1;cases e:Γ[i]? with
 | none=>rw[e] at e1;cases e1
 | some o =>
  cases o with
  | none=>rw[e] at e1;cases e1
  | some q =>
   obtain⟨v,h1,h2⟩:=r.slot i q e;cases q with
   | val d'=>rw[e] at e1;cases e1;exact⟨v,h1,k.now r h2⟩
   | bor ds=>rw[e] at e1;cases e1
   | dic ds=>rw[e] at e1;cases e1
   | tfr ds=>rw[e] at e1;cases e1
   | fro ds=>rw[e] at e1;cases e1;obtain⟨p,xs,rfl,f1,f2,f3⟩:=h2;exact⟨_,h1,k.now r (Is.lst (RdK.of f1) f3)⟩
   | own ds =>
    rw[e] at e1;cases e1;obtain⟨p,xs,rfl,g1,g2,g3,g4⟩:=h2;refine⟨_,h1,k _ _ (upd I p (.lst xs)) ?_ (growFreeze g2 g3) (Is.lst (RdK.of pA) (g4.mono (pQ g2 _)))⟩
    have ap:Apart U (Γ.set i none) p:=λj q' z m s=>by
     rcases pI z with⟨_,z',_⟩ | ⟨n,z'⟩
     ·cases z'
     ·exact n (r.dist j i q' (.own ds) _ z' e m rfl s h1)
    have r1:=(r.forget i).freeze g1 g2 ap;have r2:=r1.learn (i:=i) (q:=.val (.lst ds)) h1 (Is.lst (RdK.of pA) (g4.mono (pQ g2 _))) (λm=>nomatch m) (λ_ z=>nomatch z);rw[RO] at r2;exact r2
theorem ed_c{v:V}(h:PE X e (tC v))(hd:∀I,Is X.K I d v):ED X B e (ret d):=PE.imp h λU H Q q=>by
 obtain⟨G,I,Γ,d',ah,r,e1,k⟩:=q;cases e1;exact k.now r (hd I)
theorem i'{i j}:ED X B (.Constant (.int i) j pos) (ret (.int i)):=ed_c Ac λ_=>Is.int i
theorem qh{b j}:ED X B (.Constant (.bool b) j pos) (ret (.bl b)):=ed_c xw λ_=>Is.bl b
theorem qH{j}:ED X B (.Constant .none j pos) (ret .non):=ed_c Io λ_=>Is.non
theorem GW{x j}:ED X B (.Constant (.str x) j pos) (ret (.str x)):=ed_c DB λ_=>Is.str x
noncomputable def nilA:M (List D):=ret []
noncomputable def consA(g:M D)(t:M (List D)):M (List D):=bnd g λd=>bnd t λds=>ret (d::ds)
theorem oU:AD X B [] nilA:=PA.imp sU λU H Q q=>by
 obtain⟨G,I,Γ,d,ah,r,e1,k⟩:=q;cases e1;exact k _ _ _ r (Grow.refl _ _) IsA.nil
theorem EH{g:M D}{t:M (List D)}(ha:ED X B e g)(hr:AD X B es t)(hs:f_ (e::es) X.env=(false,KR e X.env)::f_ es X.env:=by rfl):AD X B (e::es) (consA g t):=
 PA.imp (qI ha hr hs) λU H Q q=>by
  obtain⟨G,I,Γ,d,ah,r,e1,k⟩:=q;obtain⟨d1,ae,e2,e3⟩:=oK e1;obtain⟨d2,aq,e4,e5⟩:=oK e3;cases e5;exact⟨G,I,Γ,d1,ae,r,e2,λv H1 I1 r1 g1 h1=>⟨G,I1,ae,d2,_,r1,e4,λvs H2 I2 r2 g2 h2=>k _ _ _ r2 (g1.trans g2) (IsA.cons (h1.mono g2.up) h2)⟩⟩
noncomputable def lim:Nat:=1000000
theorem qN(h:n<=lim):n<=x_:=LL h (by rw[Lb];decide)
noncomputable def tupA(t:M (List D)):M D:=bnd t λds=>lft (if ds.length<=lim then some (.tup ds) else none)
noncomputable def lstA(t:M (List D)):M (List D):=bnd t λds=>lft (if ds.length<=lim then some ds else none)
theorem pK{α:Type}{c:Prop}[Decidable c]{a b:α}(h:(if c then some a else none)=some b):c/\b=a:=by
 by_cases hc:c
 ·rw[if_pos hc] at h;exact⟨hc,(KH h).symm⟩
 ·rw[if_neg hc] at h;cases h
theorem rC{x1}{t:M (List D)}(h:AD X B es t):ED X B (.Tuple es x1 pos) (tupA t):=PE.imp (xu h) λU H Q q=>by
 obtain⟨G,I,Γ,d,ah,r,e1,k⟩:=q;obtain⟨d1,ae,e2,e3⟩:=oK e1;obtain⟨e4,rfl⟩:=pD e3;obtain⟨hl,rfl⟩:=pK e4;refine⟨G,I,Γ,d1,_,r,e2,λvs H1 I1 r1 g1 h1=>⟨?_,λp hp=>(k.after g1).tup r1 hp h1⟩⟩;rw[←h1.length];exact qN hl
theorem pW{t:M (List D)}(h:AD X B es t):EO X B (.List es pos) (lstA t):=PE.imp (B8 h) λU H Q q=>by
 obtain⟨G,I,Γ,d,ah,r,e1,k⟩:=q;obtain⟨d1,ae,e2,e3⟩:=oK e1;obtain⟨e4,rfl⟩:=pD e3;obtain⟨hl,rfl⟩:=pK e4;refine⟨G,I,Γ,_,_,r,e2,λvs H1 I1 r1 g1 h1=>⟨?_,λp hp=>(k.after g1).new r1 hp h1⟩⟩;rw[←h1.length];exact qN hl
def OpD(K:PySem.W.Frag)(r:R2)(F:D->D->Option D):Prop:=∀a b d,F a b=some d->∀(B:BB) (G I H:Hp) (U:L2.St) (Γ:Gm) (x y:V) (Q:VK),Rep K B G I H U Γ->Is K I a x->Is K I b y->KD K B G I U Γ d Q->r x y H Q
def OpO(K:PySem.W.Frag)(r:R2)(F:D->D->Option (List D)):Prop:=∀a b d,F a b=some d->∀(B:BB) (G I H:Hp) (U:L2.St) (Γ:Gm) (x y:V) (Q:VK),Rep K B G I H U Γ->Is K I a x->Is K I b y->KO K B G I U Γ d Q->r x y H Q
def CallD(K:PySem.W.Frag)(r:List V->Hp->VK->Prop)(F:List D->Option D):Prop:=∀ds d,F ds=some d->∀(B:BB) (G I H:Hp) (U:L2.St) (Γ:Gm) (xs:List V) (Q:VK),Rep K B G I H U Γ->IsA K I ds xs->KD K B G I U Γ d Q->r xs H Q
def CallO(K:PySem.W.Frag)(r:List V->Hp->VK->Prop)(F:List D->Option (List D)):Prop:=∀ds d,F ds=some d->∀(B:BB) (G I H:Hp) (U:L2.St) (Γ:Gm) (xs:List V) (Q:VK),Rep K B G I H U Γ->IsA K I ds xs->KO K B G I U Γ d Q->r xs H Q
noncomputable def op2{α:Type}(F:D->D->Option α)(ga gb:M D):M α:=bnd ga λx=>bnd gb λy=>lft (F x y)
noncomputable def fn1{α:Type}(F:List D->Option α)(t:M (List D)):M α:=bnd t λds=>lft (F ds)
theorem t_op{r:R2}{F:D->D->Option D}{K:PySem.W.Frag}(h:OpD K r F):∀U H Q,tD K B (op2 F ga gb) U H Q->tOp r (tD K B ga) (tD K B gb) U H Q:=λU H Q q=>by
 obtain⟨G,I,Γ,d,ah,r,e1,k⟩:=q;obtain⟨d1,ae,e2,e3⟩:=oK e1;obtain⟨d2,aq,e4,e5⟩:=oK e3;obtain⟨e6,rfl⟩:=pD e5;exact⟨G,I,Γ,d1,ae,r,e2,λv H1 I1 r1 g1 h1=>⟨G,I1,ae,d2,_,r1,e4,λw H2 I2 r2 g2 h2=>h _ _ _ e6 B G I2 H2 U _ v w Q r2 (h1.mono g2.up) h2 (k.after (g1.trans g2))⟩⟩
theorem IA{r:R2}{F:D->D->Option (List D)}{K:PySem.W.Frag}(h:OpO K r F):∀U H Q,tO K B (op2 F ga gb) U H Q->tOp r (tD K B ga) (tD K B gb) U H Q:=λU H Q q=>by
 obtain⟨G,I,Γ,d,ah,r,e1,k⟩:=q;obtain⟨d1,ae,e2,e3⟩:=oK e1;obtain⟨d2,aq,e4,e5⟩:=oK e3;obtain⟨e6,rfl⟩:=pD e5;exact⟨G,I,Γ,d1,ae,r,e2,λv H1 I1 r1 g1 h1=>⟨G,I1,ae,d2,_,r1,e4,λw H2 I2 r2 g2 h2=>h _ _ _ e6 B G I2 H2 U _ v w Q r2 (h1.mono g2.up) h2 (k.after (g1.trans g2))⟩⟩
theorem rH{op:Operator}{r:R2}{F:D->D->Option D}(ho:OpR X (MH op) r)(h:OpD X.K r F)(ha:ED X B a ga)(hb:ED X B b gb):ED X B (.BinOp a op b pos) (op2 F ga gb):=PE.imp (y4 ho ha hb) (t_op h)
theorem CY{op:Operator}{r:R2}{F:D->D->Option (List D)}(ho:OpR X (MH op) r)(h:OpO X.K r F)(ha:ED X B a ga)(hb:ED X B b gb):EO X B (.BinOp a op b pos) (op2 F ga gb):=PE.imp (y4 ho ha hb) (IA h)
theorem vE{r:R2}{F:D->D->Option D}(ho:OpR X (Mh op) r)(h:OpD X.K r F)(ha:ED X B a ga)(hb:ED X B b gb)(hm:Mz op b=false):ED X B (.Compare a [op] [b] pos) (op2 F ga gb):=PE.imp (Fm ho ha hb hm) (t_op h)
theorem IN{r:R2}{F:D->D->Option D}(ho:IxR X r)(h:OpD X.K r F)(ha:ED X B a ga)(hb:ED X B b gb)(hs:PlainIx b:=by exact λ_ _=>rfl):ED X B (.Subscript a b pos) (op2 F ga gb):=PE.imp (vJ ho ha hb hs) (t_op h)
noncomputable def asB(d:D):Option Bool:=match d with
 | .bl b=>some b
 | _=>none
theorem AQ{b:Bool}(h:asB d=some b):d=.bl b:=by
 cases d<;>simp[asB] at h
 rw[h]
noncomputable def tst(g:M D):M Bool:=bnd g λd=>lft (asB d)
theorem uB{K:PySem.W.Frag}{g:M D}{t:TE}(ht:∀U H Q,tD K B g U H Q->t U H Q):∀U H Q,tTD K B (tst g) U H Q->tTest t U H Q:=λU H Q q=>by
 obtain⟨G,I,Γ,d,ah,r,e1,k⟩:=q;obtain⟨d1,ae,e2,e3⟩:=oK e1;obtain⟨e4,rfl⟩:=pD e3;have:=AQ e4;subst this;exact ht _ _ _ ⟨G,I,Γ,_,_,r,e2,λv H1 I1 r1 g1 h1=>⟨d,qj h1,k _ _ r1 g1⟩⟩
theorem rj{r:R2}{F:D->D->Option D}(ho:OpR X (Mh op) r)(h:OpD X.K r F)(ha:ED X B a ga)(hb:ED X B b gb)(hm:Mz op b=false):TD X B (.Compare a [op] [b] pos) (tst (op2 F ga gb)):=PT.imp (xC ho ha hb hm) (uB (t_op h))
theorem qo(ha:ED X B a ga)(he:∀bt,RQ a X.env bt=(do let v ←bt;Sg a.pos;Nw [v] (truthy v)):=by intros;rfl):TD X B a (tst ga):=PT.imp (G1 ha he) (uB λ_ _ _ z=>z)
noncomputable def andT(a b:M Bool):M Bool:=bnd a λk=>if k then b else ret false
noncomputable def orT(a b:M Bool):M Bool:=bnd a λk=>if k then ret true else b
noncomputable def notT(a:M Bool):M Bool:=bnd a λk=>ret (!k)
noncomputable def andV(a b:M D):M D:=bnd a λd=>bnd (lft (asB d)) λk=>if k then b else ret (.bl false)
noncomputable def ifV(c:M Bool)(a b:M D):M D:=bnd c λk=>if k then a else b
variable {ta tb:M Bool}{ax:List KQ}
theorem Ic(ha:TD X B a ta):TW X B (.BoolOp .And [a] pos) ta:=HF ha
theorem qy(ha:TD X B a ta):TW X B (.BoolOp .Or [a] pos) ta:=Ih ha
theorem BJ(ha:TD X B a ta)(hb:TW X B (.BoolOp .And (b::ax) pos) tb):TW X B (.BoolOp .And (a::b::ax) pos) (andT ta tb):=PW.imp (Bu ha hb) λU H Q q=>by
 obtain⟨G,I,Γ,d,ah,r,e1,k⟩:=q;obtain⟨d1,ae,e2,e3⟩:=oK e1;refine⟨G,I,Γ,d1,ae,r,e2,λH1 I1 r1 g1=>?_⟩;cases d1 with
 | true=>exact iteT ⟨G,I1,ae,d,ah,r1,e3,k.after g1⟩
 | false=>cases e3;exact iteF (k _ _ r1 g1)
theorem qf(ha:TD X B a ta)(hb:TW X B (.BoolOp .Or (b::ax) pos) tb):TW X B (.BoolOp .Or (a::b::ax) pos) (orT ta tb):=PW.imp (Bk ha hb) λU H Q q=>by
 obtain⟨G,I,Γ,d,ah,r,e1,k⟩:=q;obtain⟨d1,ae,e2,e3⟩:=oK e1;refine⟨G,I,Γ,d1,ae,r,e2,λH1 I1 r1 g1=>?_⟩;cases d1 with
 | false=>exact iteF ⟨G,I1,ae,d,ah,r1,e3,k.after g1⟩
 | true=>cases e3;exact iteT (k _ _ r1 g1)
theorem TW.td(h:TW X B e ta):TD X B e ta:=h _
theorem rf(ha:TD X B a ta):TD X B (.UnaryOp .Not a pos) (notT ta):=PT.imp (IT ha) λU H Q q=>by
 obtain⟨G,I,Γ,d,ah,r,e1,k⟩:=q;obtain⟨d1,ae,e2,e3⟩:=oK e1;cases e3;exact⟨G,I,Γ,d1,_,r,e2,λH1 I1 r1 g1=>k _ _ r1 g1⟩
theorem u9{op}(h:ED X B a ga):ED X B (.BoolOp op [a] pos) ga:=GV h
theorem uR(ha:ED X B a ga)(hb:ED X B (.BoolOp .And (b::ax) pos) gb):ED X B (.BoolOp .And (a::b::ax) pos) (andV ga gb):=PE.imp (G6 ha hb) λU H Q q=>by
 obtain⟨G,I,Γ,d,ah,r,e1,k⟩:=q;obtain⟨d1,ae,e2,e3⟩:=oK e1;obtain⟨k1,aq,e4,e5⟩:=oK e3;obtain⟨e6,rfl⟩:=pD e4;have:=AQ e6;subst this;refine⟨G,I,Γ,_,_,r,e2,λv H1 I1 r1 g1 h1=>⟨k1,qj h1,?_⟩⟩;cases k1 with
 | true=>exact iteT ⟨G,I1,_,d,ah,r1,e5,k.after g1⟩
 | false=>cases e5;exact iteF (k _ _ _ r1 g1 (Is.bl false))
theorem Fg(hc:TD X B c ta)(ha:ED X B a ga)(hb:ED X B b gb):ED X B (.IfExp c a b pos) (ifV ta ga gb):=PE.imp (GT hc ha hb) λU H Q q=>by
 obtain⟨G,I,Γ,d,ah,r,e1,k⟩:=q;obtain⟨d1,ae,e2,e3⟩:=oK e1;refine⟨G,I,Γ,d1,ae,r,e2,λH1 I1 r1 g1=>?_⟩;cases d1 with
 | true=>exact iteT ⟨G,I1,ae,d,ah,r1,e3,k.after g1⟩
 | false=>exact iteF ⟨G,I1,ae,d,ah,r1,e3,k.after g1⟩
variable {x:Str}{p:Pos}{id T:String}{r:List V->Hp->VK->Prop}{t:M (List D)}
theorem t_fn{F:List D->Option D}{K:PySem.W.Frag}(h:CallD K r F):∀U H Q,tD K B (fn1 F t) U H Q->tCB r (tAD K B t) U H Q:=λU H Q q=>by
 obtain⟨G,I,Γ,d,ah,r,e1,k⟩:=q;obtain⟨d1,ae,e2,e3⟩:=oK e1;obtain⟨e4,rfl⟩:=pD e3;exact⟨G,I,Γ,d1,_,r,e2,λvs H1 I1 r1 g1 h1=>h _ _ e4 B G I1 H1 U _ vs Q r1 h1 (k.after g1)⟩
theorem wR{K:PySem.W.Frag}(h:CallO K r F):∀U H Q,tO K B (fn1 F t) U H Q->tCB r (tAD K B t) U H Q:=λU H Q q=>by
 obtain⟨G,I,Γ,d,ah,r,e1,k⟩:=q;obtain⟨d1,ae,e2,e3⟩:=oK e1;obtain⟨e4,rfl⟩:=pD e3;exact⟨G,I,Γ,d1,_,r,e2,λvs H1 I1 r1 g1 h1=>h _ _ e4 B G I1 H1 U _ vs Q r1 h1 (k.after g1)⟩
theorem rV{F:List D->Option D}(hc:CallR X (.builtin id) r)(h:CallD X.K r F)(hg:Gl X x)(hm:X.mg x=none)(hv:Mb x=some (.builtin id))(ha:AD X B (e::es) t)(hn:x ≠ "__name__":=by decide)(bA:(x == ("__debug__":Str))=false:=by decide)(he:f_ (e::es) X.env=(false,KR e X.env)::f_ es X.env:=by rfl)(aC:(K0 pos (f_ es X.env)).any (·.1)=false:=by rfl):ED X B (.Call (.Name x p) (e::es) [] pos) (fn1 F t):=PE.imp (vH hc hg hm hv ha hn bA he aC) (t_fn h)
theorem DJ(hc:CallR X (.builtin id) r)(h:CallO X.K r F)(hg:Gl X x)(hm:X.mg x=none)(hv:Mb x=some (.builtin id))(ha:AD X B (e::es) t)(hn:x ≠ "__name__":=by decide)(bA:(x == ("__debug__":Str))=false:=by decide)(he:f_ (e::es) X.env=(false,KR e X.env)::f_ es X.env:=by rfl)(aC:(K0 pos (f_ es X.env)).any (·.1)=false:=by rfl):EO X B (.Call (.Name x p) (e::es) [] pos) (fn1 F t):=PE.imp (vH hc hg hm hv ha hn bA he aC) (wR h)
theorem EB(hc:CallR X (.type T) r)(h:CallO X.K r F)(hg:Gl X x)(hm:X.mg x=none)(hv:Mb x=some (.type T))(ha:AD X B (e::es) t)(hn:x ≠ "__name__":=by decide)(bA:(x == ("__debug__":Str))=false:=by decide)(he:f_ (e::es) X.env=(false,KR e X.env)::f_ es X.env:=by rfl)(aC:(K0 pos (f_ es X.env)).any (·.1)=false:=by rfl):EO X B (.Call (.Name x p) (e::es) [] pos) (fn1 F t):=PE.imp (Iv hc hg hm hv ha hn bA he aC) (wR h)
end
inductive Fl where
 | nx | rt (r:R) | bk | ct
def ResOk(K:PySem.W.Frag)(G I H:Hp)(U:L2.St)(Γ:Gm):R->V->Prop
 | .val d,v=>Is K I d v
 | .own ds,v=>∃p xs,v=.ref p/\H p=some (.lst xs)/\I p=none/\G p=none/\Apart U Γ p/\IsA K I ds xs
 | .bor _,_=>False
 | .fro ds,v=>∃p xs,v=.ref p/\I p=some (.lst xs)/\G p=none/\IsA K I ds xs
 | .tfr ds,v=>∃a xs,v=.ref a/\I a=some (.tup xs)/\G a=none/\IsA K I ds xs/\(∀(i:Nat) (p:h_),xs[i]?=some (V.ref p)->(∃ys,I p=some (.lst ys))->G p=none)/\(∀(i j:Nat) (p:h_),xs[i]?=some (V.ref p)->xs[j]?=some (V.ref p)->((∃ys,I p=some (.lst ys))->i=j))/\∀(i:Nat) (es:List D),ds[i]?=some (.lst es)->∃p ys,xs[i]?=some (V.ref p)/\I p=some (.lst ys)
 | .dic aj,v=>∃p xs,v=.ref p/\H p=some (.dK xs)/\I p=none/\G p=none/\Apart U Γ p/\IsK K I aj xs
def EndAt(K:PySem.W.Frag)(G I H:Hp)(U:L2.St)(Γ:Gm)(E:Ends):Fl->Prop
 | .nx=>E.nx U H
 | .bk=>E.bk U H
 | .ct=>E.ct U H
 | .rt r=>∀v,ResOk K G I H U Γ r v->E.rt v H
section
variable (K:PySem.W.Frag)(B:BB)
def KS(G I:Hp)(ah:Gm)(f:Fl)(E:Ends):Prop:=∀au H' I',Rep K B G I' H' au ah->Grow G I I'->EndAt K G I' H' au ah E f
noncomputable def tS(g:M Fl):TS:=λE U H=>∃G I Γ f ah,Rep K B G I H U Γ/\g Γ=some (f,ah)/\KS K B G I ah f E
def KG(m:Nat)(U:L2.St)(G I:Hp)(ah:Gm)(Q:L2.St->Hp->Prop):Prop:=∀au H' I',Rep K B G I' H' au ah->Grow G I I'->au.drop m=U.drop m->Q au H'
noncomputable def tGD(m:Nat)(f:D->M Unit):TG:=λv U H Q=>∃G I Γ d ah,Rep K B G I H U Γ/\Is K I d v/\f d Γ=some ((),ah)/\KG K B m U G I ah Q
noncomputable def tGs(m:Nat)(f:List D->M Unit):TGs:=λvs U H Q=>∃G I Γ ds ah,Rep K B G I H U Γ/\IsA K I ds vs/\f ds Γ=some ((),ah)/\KG K B m U G I ah Q
end
def SD(X:Cx)(B:BB)(st:L9)(g:M Fl):Prop:=PS X st (tS X.K B g)
def SDs(X:Cx)(B:BB)(st:List L9)(g:M Fl):Prop:=PSs X st (tS X.K B g)
def GD(X:Cx)(B:BB)(m:Nat)(tg:KQ)(f:D->M Unit):Prop:=PG X tg (tGD X.K B m f)
def GDs(X:Cx)(B:BB)(m:Nat)(ic:List KQ)(f:List D->M Unit):Prop:=PGs X ic (tGs X.K B m f)
section
theorem PS.imp{st:L9}{t t':TS}(h:PS X st t)(f:∀E U H,t' E U H->t E U H):PS X st t':=λaa s U H E I q=>h aa s U H E I (f E U H q)
theorem PSs.imp{st:List L9}{t t':TS}(h:PSs X st t)(f:∀E U H,t' E U H->t E U H):PSs X st t':=λaa s U H E I q=>h aa s U H E I (f E U H q)
theorem PG.imp{t t':TG}(h:PG X tg t)(f:∀v U H Q,t' v U H Q->t v U H Q):PG X tg t':=λaa s U H v u Q I r q=>h aa s U H v u Q I r (f v U H Q q)
theorem PGs.imp{t t':TGs}(h:PGs X ic t)(f:∀v U H Q,t' v U H Q->t v U H Q):PGs X ic t':=λaa s U H v u Q I r q=>h aa s U H v u Q I r (f v U H Q q)
theorem PI.imp{t t':TI}(h:PI X tg iter t)(f:∀U H Q,t' U H Q->t U H Q):PI X tg iter t':=λaa s U H R I q=>h aa s U H R I (f U H R q)
end
section
variable{K:PySem.W.Frag}{B:BB}{I1 H:Hp}{f:Fl}{E:Ends}
theorem KS.after(k:KS K B G I ah f E)(g:Grow G I I1):KS K B G I1 ah f E:=λau H' I' r g'=>k au H' I' r (g.trans g')
theorem KG.after{dN:L2.St}{Q:L2.St->Hp->Prop}(k:KG K B m U G I ah Q)(g:Grow G I I1)(hs:dN.drop m=U.drop m):KG K B m dN G I1 ah Q:=λau H' I' r g' z=>k au H' I' r (g.trans g') (z.trans hs)
end
section
variable{B:BB}{a b c:KQ}{es:List KQ}{ga gb gc:M D}{st:L9}{ax:List L9}{g h:M Fl}
noncomputable def seqS(g h:M Fl):M Fl:=bnd g λf=>match f with
 | .nx=>h
 | .rt r=>ret (.rt r)
 | .bk=>ret .bk
 | .ct=>ret .ct
theorem He:SDs X B [] (ret .nx):=PSs.imp zg λE U H q=>by
 obtain⟨G,I,Γ,f,ah,r,e1,k⟩:=q;cases e1;exact k U H I r (Grow.refl _ _)
theorem Fa(h:SD X B st g):SDs X B [st] g:=Aa h
theorem Cn(h1:SD X B st g)(h2:SDs X B ax h):SDs X B (st::ax) (seqS g h):=PSs.imp (tG h1 h2) λE U H q=>by
 obtain⟨G,I,Γ,f,ah,r,e1,k⟩:=q;obtain⟨f1,ae,e2,e3⟩:=oK e1;refine⟨G,I,Γ,f1,ae,r,e2,λdN H1 I1 r1 g1=>?_⟩;cases f1 with
 | nx=>exact⟨G,I1,ae,f,ah,r1,e3,k.after g1⟩
 | bk=>cases e3;exact k dN H1 I1 r1 g1
 | ct=>cases e3;exact k dN H1 I1 r1 g1
 | rt v=>cases e3;exact k dN H1 I1 r1 g1
noncomputable def retS(g:M D):M Fl:=bnd g λd=>ret (.rt (.val d))
theorem pN(he:ED X B e ga):SD X B (.Return (some e) pos) (retS ga):=PS.imp (sE he) λE U H q=>by
 obtain⟨G,I,Γ,f,ah,r,e1,k⟩:=q;obtain⟨d1,ae,e2,e3⟩:=oK e1;cases e3;exact⟨G,I,Γ,d1,_,r,e2,λv H1 I1 r1 g1 h1=>k U H1 I1 r1 g1 v h1⟩
noncomputable def retO(g:M (List D)):M Fl:=bnd g λd=>ret (.rt (.own d))
theorem ug{g:M (List D)}(he:EO X B e g):SD X B (.Return (some e) pos) (retO g):=PS.imp (sE he) λE U H q=>by
 obtain⟨G,I,Γ,f,ah,r,e1,k⟩:=q;obtain⟨d1,ae,e2,e3⟩:=oK e1;cases e3;exact⟨G,I,Γ,d1,_,r,e2,λp xs H1 I1 r1 g1 h1 h2 h3 h4 h5=>k U H1 I1 r1 g1 _ ⟨p,xs,rfl,h1,h2,h3,h4,h5⟩⟩
noncomputable def ifS(c:M Bool)(a b:M Fl):M Fl:=bnd c λk=>if k then a else b
theorem Ef{tc:M Bool}{sa sb:List L9}(hc:TD X B c tc)(ha:SDs X B sa g)(hb:SDs X B sb h):SD X B (.If c sa sb pos) (ifS tc g h):=PS.imp (yM hc ha hb) λE U H q=>by
 obtain⟨G,I,Γ,f,ah,r,e1,k⟩:=q;obtain⟨d1,ae,e2,e3⟩:=oK e1;refine⟨G,I,Γ,d1,ae,r,e2,λH1 I1 r1 g1=>?_⟩;cases d1 with
 | true=>exact iteT ⟨G,I1,ae,f,ah,r1,e3,k.after g1⟩
 | false=>exact iteF ⟨G,I1,ae,f,ah,r1,e3,k.after g1⟩
noncomputable def putS(i:Nat)(q:R):M Unit:=λΓ=>if i < Γ.length then some ((),Γ.set i (some q)) else none
noncomputable def tgN(i:Nat)(d:D):M Unit:=putS i (.val d)
theorem sw{i:Nat}{q:R}{u:Unit}(h:putS i q Γ=some (u,ah)):i < Γ.length/\ah=Γ.set i (some q):=by
 unfold putS at h;obtain⟨h1,h2⟩:=pK h;cases h2;exact⟨h1,rfl⟩
theorem zA{α:Type}:∀{l:List α}{i m:Nat}{a:α},i < m->(l.set i a).drop m=l.drop m
 | [],_,_,_,_=>rfl
 | _::_,0,m+1,_,_=>rfl
 | _::r,i+1,m+1,a,h=>by
  rw[List.set_cons_succ,M2,M2];exact zA (Pt h)
theorem gd_n{i:Nat}{x:Str}(hN:X.N.Nodup)(hi:X.N[i]?=some x:=by rfl)(hx:locB X.env.scope x=true:=by rfl)(hf:fnB X x=true:=by rfl)(mW:i < m:=by decide):GD X B m (.Name x pos) (tgN i):=
 PG.imp (yf hN hi (locI hx) (fnI hf)) λv U H Q q=>by
  obtain⟨G,I,Γ,d,ah,r,hd,e1,k⟩:=q;obtain⟨hl,rfl⟩:=sw e1;exact k _ _ I (r.store (by rw[r.len];exact hl) hd (λm=>nomatch m) (λ_ z=>nomatch z)) (Grow.refl _ _) (zA mW)
noncomputable def tgNil(ds:List D):M Unit:=match ds with
 | []=>ret ()
 | _=>λ_=>none
noncomputable def tgCons(f:D->M Unit)(t:List D->M Unit)(ds:List D):M Unit:=match ds with
 | d::r=>bnd (f d) λ_=>t r
 | []=>λ_=>none
theorem rq:GDs X B m [] tgNil:=PGs.imp Bf λv U H Q q=>by
 obtain⟨G,I,Γ,ds,ah,r,hd,e1,k⟩:=q;cases ds with
 | nil=>cases e1;exact⟨hd.nil_inv,k _ _ I r (Grow.refl _ _) rfl⟩
 | cons d t=>cases e1
theorem pZ{f:D->M Unit}{t:List D->M Unit}(h1:GD X B m e f)(h2:GDs X B m es t)(hs:(L_ (e::es) X.env).map (·.2)=N9 e X.env::(L_ es X.env).map (·.2):=by rfl):GDs X B m (e::es) (tgCons f t):=PGs.imp (Du h1 h2 hs) λv U H Q q=>by
 obtain⟨G,I,Γ,ds,ah,r,hd,e1,k⟩:=q;cases ds with
 | nil=>cases e1
 | cons d t =>
  obtain⟨x,xs,rfl,h1,h2⟩:=hd.cons_inv;obtain⟨u,ae,e2,e3⟩:=oK e1;exact⟨x,xs,rfl,G,I,Γ,d,ae,r,h1,e2,λdN H1 I1 r1 g1 z=>⟨G,I1,ae,t,ah,r1,h2.mono g1.up,e3,k.after g1 z⟩⟩
noncomputable def tgTup(n:Nat)(t:List D->M Unit)(d:D):M Unit:=match d with
 | .tup ds=>if ds.length=n then t ds else λ_=>none
 | _=>λ_=>none
theorem rA{k:Nat}{t:List D->M Unit}(hc:X.calm=true)(h:GDs X B m es t)(hn:(L_ es X.env).length=n:=by rfl)(jo:(L_ es X.env).findIdx? (·.1)=none:=by rfl):GD X B m (.Tuple es k pos) (tgTup n t):=
 PG.imp (Ig hc h hn jo) λv U H Q q=>by
  obtain⟨G,I,Γ,d,ah,r,hd,e1,k⟩:=q;cases d with
  | tup ds =>
   obtain⟨a,xs,rfl,h1,h2⟩:=pG hd;unfold tgTup at e1;by_cases hl:ds.length=n
   ·simp only[hl,if_true] at e1;exact⟨a,xs,rfl,Same.sqT r.iH h1,by rw[←h2.length];exact hl,G,I,Γ,ds,ah,r,h2,e1,k⟩
   ·simp only[hl,if_false] at e1;cases e1
  | _=>cases e1
noncomputable def asgS(g:M D)(f:D->M Unit):M Fl:=bnd g λd=>bnd (f d) λ_=>ret .nx
theorem DT{f:D->M Unit}(he:ED X B e ga)(hg:GD X B m tg f)(hs:OX [tg] e pos.line X.env=pure false:=by rfl)(hw:OY [tg] e X.env=pure none:=by rfl)(h1:(L_ [tg] X.env).map (·.2)=[N9 tg X.env]:=by rfl):SD X B (.Assign [tg] e pos) (asgS ga f):=PS.imp (vd he hg hs hw h1) λE U H q=>by
 obtain⟨G,I,Γ,f,ah,r,e1,k⟩:=q;obtain⟨d1,ae,e2,e3⟩:=oK e1;obtain⟨d2,aq,e4,e5⟩:=oK e3;cases e5;exact⟨G,I,Γ,d1,ae,r,e2,λv H1 I1 r1 g1 h1=>⟨G,I1,ae,d1,_,r1,h1,e4,λbb H2 I2 r2 g2 _=>k bb H2 I2 r2 (g1.trans g2)⟩⟩
noncomputable def setV(i:Nat)(g:M D):M Fl:=bnd g λd=>bnd (putS i (.val d)) λ_=>ret .nx
noncomputable def setO(i:Nat)(g:M (List D)):M Fl:=bnd g λd=>bnd (putS i (.own d)) λ_=>ret .nx
theorem DM{K:PySem.W.Frag}{i:Nat}:∀E U H,tS K B (setV i ga) E U H->tAsg (tD K B ga) (gName i) E U H:=λE U H q=>by
 obtain⟨G,I,Γ,f,ah,r,e1,k⟩:=q;obtain⟨d1,ae,e2,e3⟩:=oK e1;obtain⟨d2,aq,e4,e5⟩:=oK e3;cases e5;obtain⟨hl,rfl⟩:=sw e4;exact⟨G,I,Γ,d1,ae,r,e2,λv H1 I1 r1 g1 h1=>k _ H1 I1 (r1.store (by rw[r1.len];exact hl) h1 (λm=>nomatch m) (λ_ z=>nomatch z)) g1⟩
theorem FO{K:PySem.W.Frag}{i:Nat}{g:M (List D)}:∀E U H,tS K B (setO i g) E U H->tAsg (tO K B g) (gName i) E U H:=λE U H q=>by
 obtain⟨G,I,Γ,f,ah,r,e1,k⟩:=q;obtain⟨d1,ae,e2,e3⟩:=oK e1;obtain⟨d2,aq,e4,e5⟩:=oK e3;cases e5;obtain⟨hl,rfl⟩:=sw e4;exact⟨G,I,Γ,d1,ae,r,e2,λp xs H1 I1 r1 g1 h1 h2 h3 h4 h5=>k _ H1 I1 (r1.store (by rw[r1.len];exact hl) ⟨p,xs,rfl,h1,h2,h3,h5⟩ (λ_ p' z=>by cases z;exact h4) (λ_ z=>nomatch z)) g1⟩
theorem CA{i:Nat}{x:Str}(hN:X.N.Nodup)(he:ED X B e ga)(hi:X.N[i]?=some x:=by rfl)(hx:locB X.env.scope x=true:=by rfl)(hs:Mo e (some (.Name x aA)) pos.line X.env=pure false:=by rfl)(hf:fnB X x=true:=by rfl):SD X B (.Assign [.Name x aA] e pos) (setV i ga):=PS.imp (v5 hN hi (locI hx) he hs (fnI hf)) DM
theorem sB{i:Nat}{x:Str}{g:M (List D)}(hN:X.N.Nodup)(he:EO X B e g)(hi:X.N[i]?=some x:=by rfl)(hx:locB X.env.scope x=true:=by rfl)(hs:Mo e (some (.Name x aA)) pos.line X.env=pure false:=by rfl)(hf:fnB X x=true:=by rfl):SD X B (.Assign [.Name x aA] e pos) (setO i g):=PS.imp (v5 hN hi (locI hx) he hs (fnI hf)) FO
noncomputable def isMut(Γ:Gm)(i:Nat):Bool:=match Γ[i]? with
 | some (some r)=>r.mut
 | _=>false
noncomputable def wr(i:Nat)(F:List D->Option (List D)):M Unit:=λΓ=>match Γ[i]? with
 | some (some (.own ds))=>match F ds with
  | some es=>some ((),Γ.set i (some (.own es)))
  | none=>none
 | some (some (.bor ds))=>match F ds with
  | some es=>some ((),Γ.set i (some (.bor es)))
  | none=>none
 | _=>none
theorem rh{K:PySem.W.Frag}{H:Hp}{i:Nat}(h:isMut Γ i=true)(r:Rep K B G I H U Γ):∃p xs,U[i]?=some (some (.ref p))/\H p=some (.lst xs):=by
 unfold isMut at h;cases e:Γ[i]? with
 | none=>rw[e] at h;cases h
 | some o =>
  cases o with
  | none=>rw[e] at h;cases h
  | some q =>
   rw[e] at h;obtain⟨v,h1,h2⟩:=r.slot i q e;cases q with
   | val d=>cases h
   | fro d=>cases h
   | tfr d=>cases h
   | dic d=>cases h
   | own d=>obtain⟨p,xs,rfl,h3,_⟩:=h2;exact⟨p,xs,h1,h3⟩
   | bor d=>obtain⟨p,xs,rfl,h3,_⟩:=h2;exact⟨p,xs,h1,h3⟩
theorem wZ{K:PySem.W.Frag}{H:Hp}{i:Nat}{u:Unit}(h:wr i F Γ=some (u,ah))(r:Rep K B G I H U Γ):
  ∃p xs ds es,U[i]?=some (some (.ref p))/\H p=some (.lst xs)/\IsA K I ds xs/\F ds=some es/\∀ys,IsA K I es ys->Rep K B G I (upd H p (.lst ys)) U ah:=by
 unfold wr at h;cases e:Γ[i]? with
 | none=>rw[e] at h;cases h
 | some o =>
  cases o with
  | none=>rw[e] at h;cases h
  | some q =>
   obtain⟨v,h1,h2⟩:=r.slot i q e;cases q with
   | val d=>rw[e] at h;cases h
   | fro d=>rw[e] at h;cases h
   | tfr d=>rw[e] at h;cases h
   | dic d=>rw[e] at h;cases h
   | own ds =>
    rw[e] at h;obtain⟨p,xs,rfl,g1,g2,g3,g4⟩:=h2;cases hf:F ds with
    | none=>simp only[hf] at h;cases h
    | some es =>
     simp only[hf] at h;cases h;exact⟨p,xs,ds,es,h1,g1,g4,hf,λys hy=>r.write e rfl h1 g1 (.inl rfl) hy⟩
   | bor ds =>
    rw[e] at h;obtain⟨p,xs,rfl,g1,g2,g3,g4⟩:=h2;cases hf:F ds with
    | none=>simp only[hf] at h;cases h
    | some es =>
     simp only[hf] at h;cases h;exact⟨p,xs,ds,es,h1,g1,g4,hf,λys hy=>r.write e rfl h1 g1 (.inr ⟨rfl,ds,rfl⟩) hy⟩
noncomputable def mutS{α:Type}(i:Nat)(m:M α):M α:=λΓ=>if isMut Γ i then m Γ else none
theorem se{α:Type}{i:Nat}{m:M α}{r:α×Gm}(h:mutS i m Γ=some r):isMut Γ i=true/\m Γ=some r:=by
 unfold mutS at h;by_cases hc:isMut Γ i=true
 ·rw[if_pos hc] at h;exact⟨hc,h⟩
 ·rw[if_neg hc] at h;cases h
noncomputable def appF(d:D)(ds:List D):Option (List D):=if ds.length < lim then some (ds++[d]) else none
noncomputable def extF(d:D)(ds:List D):Option (List D):=match d with
 | .lst es=>if ds.length+es.length<=lim then some (ds++es) else none
 | _=>none
noncomputable def appS(i:Nat)(g:M D):M Fl:=mutS i (bnd g λd=>bnd (wr i (appF d)) λ_=>ret .nx)
noncomputable def extS(i:Nat)(g:M D):M Fl:=mutS i (bnd g λd=>bnd (wr i (extF d)) λ_=>ret .nx)
theorem vy{H:Hp}{s:d_}{l:h_}(I:Inv X aa U H s)(hH:RdK X.K H l xs):xs.length<=x_/\∃(af:List b_) (n:Nat),Vals xs af/\xs.length=af.length/\s.heap.get? l=some { cls:=.type "list", data:=.seq af.toArray n }:=by
 rcases hH with hH | ⟨af,n,h1,h2,h3⟩
 ·obtain⟨z,af,n,r,e⟩:=hH.ok I.hok;exact⟨z,af,n,r,r.length,e⟩
 ·exact⟨by rw[h2.length];exact h3,af,n,h2,h2.length,I.kIn l _ h1⟩
def rExtendR(K:PySem.W.Frag):V->List V->Hp->VK->Prop:=λx vs H Q=>∃l b xs zs,x=.ref l/\vs=[.ref b]/\H l=some (.lst xs)/\RdK K H b zs/\xs.length+zs.length<=x_/\Q .non (upd H l (.lst (xs++zs)))
theorem G7:MtM X "list.extend" (rExtendR X.K):=by
 intro aa s U H x vs v us Q I rx rv h;obtain⟨l,b,xs,zs,rfl,rfl,hH,hB,hz,q⟩:=h;cases rx;obtain⟨u,rfl,ru⟩:=rv.one;cases ru;obtain⟨z,af,n,r,hl,e⟩:=I.lstM hH;obtain⟨z2,b9,n2,r2,dY,e2⟩:=vy I hB;have hsz:af.toArray.size+b9.toArray.size<=x_:=by rw[l_,l_];omega
 have ju:¬(!af.toArray.isEmpty&&RG (af.toArray.size+b9.toArray.size))=true:=by
  rw[notLongL hsz,Bool.and_false];exact v_
 refine RZ F.slot_list_extend ⟨_,e,rfl⟩ F.entry_list_extend (F.args_list_extend_2 _ _)
  (AutoSeq1.list_extend_list_list_0 l af.toArray n b b9.toArray n2 ju (by rw[l_];omega) (by omega)) ⟨e,e2,?_⟩
 refine⟨.non,_,I.lset (its':=af++b9) hH e (by simp) (r.append r2) ?_,rfl,q⟩;rw[KJ];omega
theorem xf{i:Nat}{x:Str}(hv:PE X (.Name x p1) (tVar i))(ha:ED X B e ga)(hs:Mo (.Call (.Attribute (.Name x p1) "append" bf) [e] [] aH) none pos.line X.env=pure false:=by rfl)(fX:f_ [e] X.env=(false,KR e X.env)::f_ [] X.env:=by rfl)(bP:NR (.Name x p1) "append" X.env (KR (.Name x p1) X.env)=KR (.Name x p1) X.env:=by rfl)(cu:((K0 aH (f_ [e] X.env)).all (λx=>!x.1)&&(backToKw aH (RF [] X.env)).all (λx=>x.1.isSome)
   &&decide ([e].length+([]:List Rb).length+(if([]:List Rb).isEmpty then 0 else 1) < 30))=true:=by rfl)(bQ:(bf.endLine == aH.line)=true:=by rfl)(cw:(K0 aH (f_ [] X.env)).any (·.1)=false:=by rfl):
  SD X B (.Expr (.Call (.Attribute (.Name x p1) "append" bf) [e] [] aH) pos) (appS i ga):=
 PS.imp (u7 (yb PN PySem.F.slot_list_append PySem.F.type_list_append AI hv (qI ha sU fX) bP cu bQ fX cw) hs) λE U H q=>by
  obtain⟨G,I,Γ,f,ah,r,e1,k⟩:=q;obtain⟨hm,e1⟩:=se e1;obtain⟨d1,ae,e2,e3⟩:=oK e1;obtain⟨d2,aq,e4,e5⟩:=oK e3;cases e5;obtain⟨p,xs,h1,h2⟩:=rh hm r;refine⟨_,h1,.inl ⟨rfl,xs,SqL.of h2⟩,G,I,Γ,d1,ae,r,e2,λv H1 I1 r1 g1 hd=>?_⟩;obtain⟨p',bg,ds,es,h3,h4,h5,h6,h7⟩:=wZ e4 r1;have hp:p'=p:=by rw[h1] at h3;cases h3;rfl
  subst hp;obtain⟨hl,rfl⟩:=pK h6;refine⟨p',bg,v,rfl,rfl,h4,?_,k U _ I1 (h7 _ (IsA.append h5 (IsA.cons hd IsA.nil))) g1⟩;rw[←h5.length];exact J_ hl (qN (B_ _))
theorem Gk{i:Nat}{x:Str}(hv:PE X (.Name x p1) (tVar i))(ha:ED X B e ga)(hs:Mo (.Call (.Attribute (.Name x p1) "extend" bf) [e] [] aH) none pos.line X.env=pure false:=by rfl)(fX:f_ [e] X.env=(false,KR e X.env)::f_ [] X.env:=by rfl)(bP:NR (.Name x p1) "extend" X.env (KR (.Name x p1) X.env)=KR (.Name x p1) X.env:=by rfl)(cu:((K0 aH (f_ [e] X.env)).all (λx=>!x.1)&&(backToKw aH (RF [] X.env)).all (λx=>x.1.isSome)
   &&decide ([e].length+([]:List Rb).length+(if([]:List Rb).isEmpty then 0 else 1) < 30))=true:=by rfl)(bQ:(bf.endLine == aH.line)=true:=by rfl)(cw:(K0 aH (f_ [] X.env)).any (·.1)=false:=by rfl):
  SD X B (.Expr (.Call (.Attribute (.Name x p1) "extend" bf) [e] [] aH) pos) (extS i ga):=
 PS.imp (u7 (yb PN PySem.F.slot_list_extend PySem.F.type_list_extend G7 hv (qI ha sU fX) bP cu bQ fX cw) hs) λE U H q=>by
  obtain⟨G,I,Γ,f,ah,r,e1,k⟩:=q;obtain⟨hm,e1⟩:=se e1;obtain⟨d1,ae,e2,e3⟩:=oK e1;obtain⟨d2,aq,e4,e5⟩:=oK e3;cases e5;obtain⟨p,xs,h1,h2⟩:=rh hm r;refine⟨_,h1,.inl ⟨rfl,xs,SqL.of h2⟩,G,I,Γ,d1,ae,r,e2,λv H1 I1 r1 g1 hd=>?_⟩;obtain⟨p',bg,ds,es,h3,h4,h5,h6,h7⟩:=wZ e4 r1;have hp:p'=p:=by rw[h1] at h3;cases h3;rfl
  subst hp;cases d1 with
  | lst zs =>
   obtain⟨a,ys,rfl,i1,i2⟩:=pF hd;obtain⟨hl,rfl⟩:=pK h6;refine⟨p',a,bg,ys,rfl,rfl,h4,Same.rdK r1.iH i1,?_,k U _ I1 (h7 _ (IsA.append h5 i2)) g1⟩;rw[←h5.length,←i2.length];exact qN hl
  | _=>cases h6
noncomputable def asI(d:D):Option Int:=match d with
 | .int i=>some i
 | _=>none
theorem zZ{i:Int}(h:asI d=some i):d=.int i:=by
 cases d<;>simp[asI] at h
 rw[h]
noncomputable def stF(k:Int)(d:D)(ds:List D):Option (List D):=(ixN ds.length k).map λj=>ds.set j d
noncomputable def stS(i:Nat)(gi gv:M D):M Fl:=bnd gv λd=>mutS i (bnd gi λn=>bnd (lft (asI n)) λk=>bnd (wr i (stF k d)) λ_=>ret .nx)
theorem uA{i:Nat}{x:Str}{gi:M D}(hv:PE X (.Name x p1) (tVar i))(hi:ED X B ie gi)(he:ED X B e ga)(ha:∀v,N9 (.Subscript (.Name x p1) ie p2) X.env v=(do
   let ov ←Nw [v] (KR (.Name x p1) X.env)
   let iv ←Nw [v,ov] (KR ie X.env)
   Sg p2
   Nw [v,ov,iv] (Si ov iv v)
   release [v,ov,iv] []):=by intros;rfl)(hs:OX [.Subscript (.Name x p1) ie p2] e pos.line X.env=pure false:=by rfl)(hw:OY [.Subscript (.Name x p1) ie p2] e X.env=pure none:=by rfl)(h1:(L_ [.Subscript (.Name x p1) ie p2] X.env).map (·.2)=[N9 (.Subscript (.Name x p1) ie p2) X.env]:=by rfl):
  SD X B (.Assign [.Subscript (.Name x p1) ie p2] e pos) (stS i gi ga):=PS.imp (vd he (A' hv hi F3 ha) hs hw h1) λE U H q=>by
 obtain⟨G,I,Γ,f,ah,r,e1,k⟩:=q;obtain⟨d,ae,e2,e3⟩:=oK e1;obtain⟨hm,e3⟩:=se e3;obtain⟨n,aq,e4,e5⟩:=oK e3;obtain⟨z,aP,e6,e7⟩:=oK e5;obtain⟨e8,rfl⟩:=pD e6;obtain⟨u,bn,f1,f2⟩:=oK e7;cases f2;have:=zZ e8;subst this;refine⟨G,I,Γ,d,ae,r,e2,λv H1 I1 r1 g1 hd=>?_⟩;obtain⟨p,xs,h1,h2⟩:=rh hm r1;refine⟨_,h1,G,I1,ae,_,_,r1,e4,λw H2 I2 r2 g2 hw=>?_⟩;obtain⟨p',bg,ds,es,h3,h4,h5,h6,h7⟩:=wZ f1 r2;have hp:p'=p:=by rw[h1] at h3;cases h3;rfl
 subst hp;unfold stF at h6;cases hj:ixN ds.length z with
 | none=>rw[hj] at h6;cases h6
 | some j =>
  rw[hj] at h6;cases h6;exact⟨p',bg,z,j,rfl,pq hw,h4,by rw[←h5.length];exact hj,k U _ I2 (h7 _ (IsA.set (hd.mono g2.up) j h5)) (g1.trans g2)⟩
def Yields(K:PySem.W.Frag)(I:Hp)(ds:List D)(J:It):Prop:=∀(i:Nat) (H1:Hp),Same I H1 →
 (∀d,ds[i]?=some d->J.go i H1/\∀x H2,J.yld i H1 x H2->(H2=H1/\Is K I d x)\/(∃p es xs,d=.tup es/\x=.ref p/\H1 p=none/\H2=upd H1 p (.tup xs)/\IsA K I es xs))/\(ds.length<=i->J.stop i H1)
noncomputable def tI(K:PySem.W.Frag)(B:BB)(g:M (List D)):TI:=λU H R=>∃G I Γ ds ah,Rep K B G I H U Γ/\g Γ=some (ds,ah)/\∀J H' I',Rep K B G I' H' U ah->Grow G I I'->Yields K I' ds J->R J H'
def ITD(X:Cx)(B:BB)(tg iter:KQ)(g:M (List D)):Prop:=PI X tg iter (tI X.K B g)
theorem IP{l:KQ}(hl:PE X l tl):PI X tg l (λU H R=>tl U H λx H1=>(∃a,x=.ref a/\(∃xs,SqL X.K H1 a xs)/\R (Itl X.K a) H1)\/(∃a,x=.ref a/\(∃xs,SqT X.K H1 a xs)/\R (Itt X.K a) H1)):=by
 intro aa s U H R I h;refine thn (hl aa s U H _ I h) λv s1 ⟨x,H1,I1,r1,q1⟩=>?_
 rcases q1 with⟨a,e,⟨xs,hq⟩,q⟩ | ⟨a,e,⟨xs,hq⟩,q⟩
 ·subst e;cases r1;obtain⟨af,rv,p,hz⟩:=I1.list hq;refine Nx p.isList ?_;refine⟨s1.heap.objs.size,[s1.heap.objs.size],_,_,H1,rfl,I1.kept (t':=s1.toks) λb o e=>c_ _ e,Gi a _,⟨_,t_ _ rfl,rfl,rfl⟩,λb hb=>?_,q⟩;have e:b=s1.heap.objs.size:=by simpa using hb
  subst e;exact I1.fpOk (B_ _) (I1.hok.fresh (B_ _))
 ·subst e;cases r1;obtain⟨af,rv,p,hz⟩:=I1.tuple hq;refine QQ (show s1.heap.IsTuple a af.toArray from p) ?_;refine⟨s1.heap.objs.size,[s1.heap.objs.size],_,_,H1,rfl,I1.kept (t':=s1.toks) λb o e=>c_ _ e,G2 a _,⟨_,t_ _ rfl,rfl,rfl⟩,λb hb=>?_,q⟩;have e:b=s1.heap.objs.size:=by simpa using hb
  subst e;exact I1.fpOk (B_ _) (I1.hok.fresh (B_ _))
noncomputable def seqI(d:D):Option (List D):=match d with
 | .lst ds=>some ds
 | .tup ds=>some ds
 | _=>none
noncomputable def itS(g:M D):M (List D):=bnd g λd=>lft (seqI d)
theorem qE(ha:ED X B a ga):ITD X B tg a (itS ga):=PI.imp (IP ha) λU H R q=>by
 obtain⟨G,I,Γ,ds,ah,r,e1,k⟩:=q;obtain⟨d,ae,e2,e3⟩:=oK e1;obtain⟨e4,rfl⟩:=pD e3;refine⟨G,I,Γ,d,_,r,e2,λv H1 I1 r1 g1 hd=>?_⟩;cases d with
 | lst es =>
  cases e4;obtain⟨l,xs,rfl,h1,h2⟩:=pF hd;refine .inl ⟨l,rfl,⟨xs,(Same.rdK r1.iH h1).sq⟩,k _ _ _ r1 g1 λi H2 s2=>⟨λd hd=>?_,λhi=>⟨xs,(Same.rdK s2 h1).sq,by rw[←h2.length];exact hi⟩⟩⟩;obtain⟨x,e5,e6⟩:=h2.get hd;refine⟨⟨xs,x,(Same.rdK s2 h1).sq,e5⟩,λy H3 hy=>.inl ⟨hy.1,?_⟩⟩;have:=hy.2 xs ((Same.rdK s2 h1).sq);rw[e5] at this;cases this;exact e6
 | tup es =>
  cases e4;obtain⟨l,xs,rfl,h1,h2⟩:=pG hd;refine .inr ⟨l,rfl,⟨xs,Same.sqT r1.iH h1⟩,k _ _ _ r1 g1 λi H2 s2=>⟨λd hd=>?_,λhi=>⟨xs,Same.sqT s2 h1,by rw[←h2.length];exact hi⟩⟩⟩;obtain⟨x,e5,e6⟩:=h2.get hd;refine⟨⟨xs,x,Same.sqT s2 h1,e5⟩,λy H3 hy=>.inl ⟨hy.1,?_⟩⟩;have:=hy.2 xs (Same.sqT s2 h1);rw[e5] at this;cases this;exact e6
 | _=>cases e4
noncomputable def rngD(lo:Int)(n:Nat):List D:=(Mm n).map λ(k:Nat)=>D.int (lo+(k:Int))
theorem AM{K:PySem.W.Frag}(lo:Int)(n:Nat):Yields K I (rngD lo n) (Itr lo n):=λi H1 s1=>by
 refine⟨λd hd=>?_,λhi=>?_⟩
 ·unfold rngD at hd;rw[E_] at hd;cases e:(Mm n)[i]? with
  | none=>rw[e] at hd;cases hd
  | some j =>
   rw[e] at hd;cases hd;obtain⟨h1,h2⟩:=D_.mp e;rw[OZ] at h2;rw[Ol] at h1;subst h2;refine⟨h1,λx H2 hy=>.inl ⟨hy.1,?_⟩⟩;rw[hy.2];exact Is.int _
 ·unfold rngD at hi;rw[y_,Ol] at hi;exact hi
noncomputable def rngI1(ds:List D):Option (List D):=match ds with
 | [.int j]=>if -1000000<=j/\j<=1000000 then some (rngD 0 j.toNat) else none
 | _=>none
noncomputable def rngI2(ds:List D):Option (List D):=match ds with
 | [.int i,.int j]=>if(-1000000<=i/\i<=1000000)/\-1000000<=j/\j<=1000000 then some (rngD i (j - i).toNat) else none
 | _=>none
theorem DC{es:List D}(h:rngI1 ds=some es):∃j:Int,ds=[.int j]/\(-1000000<=j/\j<=1000000)/\es=rngD 0 j.toNat:=by
 unfold rngI1 at h;split at h
 ·obtain⟨h1,h2⟩:=pK h;exact⟨_,rfl,h1,h2⟩
 ·cases h
theorem Af{es:List D}(h:rngI2 ds=some es):∃i j:Int,ds=[.int i,.int j]/\((-1000000<=i/\i<=1000000)/\-1000000<=j/\j<=1000000)/\es=rngD i (j - i).toNat:=by
 unfold rngI2 at h;split at h
 ·obtain⟨h1,h2⟩:=pK h;exact⟨_,_,rfl,h1,h2⟩
 ·cases h
theorem tm{p:Pos}{t:M (List D)}(hg:Gl X "range")(hm:X.mg "range"=none)(ha:AD X B [a] t)(hs:f_ [a] X.env=[(false,KR a X.env)]:=by rfl):ITD X B tg (.Call (.Name "range" p) [a] [] pos) (fn1 rngI1 t):=
 PI.imp (Cm hg hm ha hs) λU H R q=>by
  obtain⟨G,I,Γ,ds,ah,r,e1,k⟩:=q;obtain⟨d,ae,e2,e3⟩:=oK e1;obtain⟨e4,rfl⟩:=pD e3;obtain⟨j,rfl,⟨h1,h2⟩,rfl⟩:=DC e4;refine⟨G,I,Γ,_,_,r,e2,λvs H1 I1 r1 g1 hd=>?_⟩;obtain⟨x,rfl,hx⟩:=hd.one;exact⟨j,by rw[pq hx],by omega,by omega,k _ _ _ r1 g1 (AM _ _)⟩
theorem xx{p:Pos}{t:M (List D)}(hg:Gl X "range")(hm:X.mg "range"=none)(ha:AD X B [a,b] t)(hs:f_ [a,b] X.env=[(false,KR a X.env),(false,KR b X.env)]:=by rfl)(bM:f_ [b] X.env=[(false,KR b X.env)]:=by rfl):
  ITD X B tg (.Call (.Name "range" p) [a,b] [] pos) (fn1 rngI2 t):=
 PI.imp (DX hg hm ha hs bM) λU H R q=>by
  obtain⟨G,I,Γ,ds,ah,r,e1,k⟩:=q;obtain⟨d,ae,e2,e3⟩:=oK e1;obtain⟨e4,rfl⟩:=pD e3;obtain⟨i,j,rfl,h1,rfl⟩:=Af e4;refine⟨G,I,Γ,_,_,r,e2,λvs H1 I1 r1 g1 hd=>?_⟩;obtain⟨x,y,rfl,hx,hy⟩:=hd.two;exact⟨i,j,by rw[pq hx,pq hy],by omega,k _ _ _ r1 g1 (AM _ _)⟩
noncomputable def forM(aE:D->M Unit)(body:M Fl):List D->M Fl
 | []=>ret .nx
 | d::ds=>bnd (aE d) λ_=>bnd body λf=>match f with
  | .nx=>forM aE body ds
  | .ct=>forM aE body ds
  | .bk=>ret .nx
  | .rt r=>ret (.rt r)
noncomputable def forS(it:M (List D))(aE:D->M Unit)(body:M Fl):M Fl:=bnd it λds=>forM aE body ds
theorem G9{body:List L9}{it:M (List D)}{aE:D->M Unit}(hp:PassesOwn (n_ X.prog X.w) X.A X.env X.xe)(hc:X.calm=true)(hi:ITD X B tg iter it)(hg:GD X B m tg aE)(hb:SDs X B body g)(hs:∀x,L8 iter X.env x=pure x:=by intros;rfl):SD X B (.For tg iter body [] pos) (forS it aE g):=PS.imp (GS hp hc hi hg hb hs) λE U H q=>by
 obtain⟨G,I,Γ,f,ah,r,e1,k⟩:=q;obtain⟨ds,ae,e2,e3⟩:=oK e1;refine⟨G,I,Γ,ds,ae,r,e2,λJ H1 I1 r1 g1 y=>?_⟩;refine⟨λi m U H=>∃I2 aq,Rep X.K B G I2 H U aq/\Grow G I1 I2/\forM aE g (ds.drop i) aq=some (f,ah)/\i<=ds.length/\m=ds.length - i,⟨ds.length,I1,ae,r1,Grow.refl _ _,by simpa using e3,K' _,rfl⟩,?_⟩;rintro i m' bb H2 ⟨I2,aq,r2,g2,e4,bY,rfl⟩;obtain⟨yg,ys⟩:=y i H2 (g2.up.trans r2.iH);by_cases bH:i < ds.length
 ·have hd:ds.drop i=ds[i]::ds.drop (i+1):=KC bH;obtain⟨go,yld⟩:=yg ds[i] (i_ bH);rw[hd] at e4;obtain⟨u,aP,e5,e6⟩:=oK e4;obtain⟨fl,bn,e7,e8⟩:=oK e6;refine .inr ⟨go,λau H'=>∃I3,Rep X.K B G I3 H' au bn/\Grow G I1 I3/\(fl=.nx\/fl=.ct),λau H' ⟨I3,r3,g3,hf⟩=>⟨ds.length - (i+1),by omega,I3,bn,r3,g3,?_,bH,rfl⟩,λx H3 hy=>?_⟩
  ·rcases hf with rfl | rfl<;>exact e8
  ·have kI:∀I3,Rep X.K B G I3 H3 bb aq->Grow G I2 I3->Is X.K I3 ds[i] x->tGD X.K B m aE x bb H3 λbb H2=>tS X.K B g { E with nx:=λau H'=>∃I3,Rep X.K B G I3 H' au bn/\Grow G I1 I3/\(fl=.nx\/fl=.ct),ct:=λau H'=>∃I3,Rep X.K B G I3 H' au bn/\Grow G I1 I3/\(fl=.nx\/fl=.ct),bk:=E.nx } bb H2:=by
    intro I3 r3 g3 hx;refine⟨G,I3,aq,ds[i],aP,r3,hx,e5,λkJ H4 I4 r4 g4 _=>⟨G,I4,aP,fl,bn,r4,e7,λeK H5 I5 r5 g5=>?_⟩⟩;have gg:Grow G I1 I5:=g2.trans (g3.trans (g4.trans g5));cases fl with
    | nx=>exact⟨I5,r5,gg,.inl rfl⟩
    | ct=>exact⟨I5,r5,gg,.inr rfl⟩
    | bk=>cases e8;exact k eK H5 I5 r5 (g1.trans gg)
    | rt v=>cases e8;exact k eK H5 I5 r5 (g1.trans gg)
   rcases yld x H3 hy with⟨rfl,hx⟩ | ⟨p,es,xs,dO,rfl,eM,rfl,hx⟩
   ·exact kI I2 r2 (Grow.refl _ _) (hx.mono g2.up)
   ·refine kI _ (r2.alloc eM _) (r2.growAlloc eM _) ?_;rw[dO];exact Is.tup (SqT.of pA) ((hx.mono g2.up).mono (pQ (r2.iFree eM) _))
 ·have eN:i=ds.length:=by omega
  subst eN;rw[NX] at e4;cases e4;exact .inl ⟨ys (B_ _),k bb H2 I2 r2 (g1.trans g2)⟩
end
noncomputable def fin:List R->Gm->Option (List R)
 | [],_=>some []
 | .val d::rs,_::Γ=>match fin rs Γ with
  | some l=>some (.val d::l)
  | none=>none
 | .bor _::rs,some (.bor ds)::Γ=>match fin rs Γ with
  | some l=>some (.bor ds::l)
  | none=>none
 | _,_=>none
noncomputable def flR:Fl->Option R
 | .rt r=>some r
 | .nx=>some (.val .non)
 | _=>none
noncomputable def fnD1(n:Nat)(body:M Fl)(rs:List R):Option (R×List R):=
 match body (rs.map some++Lh (n - rs.length) none) with
 | some (f,ah)=>match flR f with
  | some r=>match fin rs ah with
   | some l=>some (r,l)
   | none=>none
  | none=>none
 | none=>none
noncomputable def fnD(n ar:Nat)(body:M Fl)(rs:List R):Option (R×List R):=if rs.length=ar then fnD1 n body rs else none
noncomputable def noOwn:R->Bool
 | .own _=>false
 | _=>true
noncomputable def vB(vs:List V):BB:=λi=>(vs.map some)[i]?
noncomputable def spD(K:PySem.W.Frag)(g:List R->Option (R×List R)):Sp:=λvs H Q _=>∃(G I:Hp) (rs:List R) (r:R) (a8:List R),Rep K (vB vs) G I H (vs.map some) (rs.map some)/\rs.all noOwn=true/\g rs=some (r,a8) ∧
 ∀v H' I',Rep K (vB vs) G I' H' (vs.map some) (a8.map some)->Grow G I I'->ResOk K G I' H' (vs.map some) (a8.map some) r v->Q v H'
theorem tR:∀{rs l:List R}{Γ:Gm},fin rs Γ=some l->l.length=rs.length/\∀(i:Nat) (r:R),l[i]?=some r->(∃d,r=.val d/\rs[i]?=some (.val d))\/(∃ds,r=.bor ds/\Γ[i]?=some (some (.bor ds)))
 | [],l,Γ,h=>by
  rw[fin] at h;cases h;exact⟨rfl,λi r e=>by simp at e⟩
 | .val d::rs,l,[],h=>by simp[fin] at h
 | .bor d::rs,l,[],h=>by simp[fin] at h
 | .own d::rs,l,Γ,h=>by cases Γ<;>simp[fin] at h
 | .fro d::rs,l,Γ,h=>by cases Γ<;>simp[fin] at h
 | .tfr d::rs,l,Γ,h=>by cases Γ<;>simp[fin] at h
 | .dic d::rs,l,Γ,h=>by cases Γ<;>simp[fin] at h
 | .val d::rs,l,o::Γ,h=>by
  rw[fin] at h;cases e:fin rs Γ with
  | none=>rw[e] at h;cases h
  | some l' =>
   rw[e] at h;cases h;obtain⟨h1,h2⟩:=tR e;refine⟨by simp[h1],λi r er=>?_⟩;cases i with
   | zero=>simp at er;subst er;exact .inl ⟨d,rfl,rfl⟩
   | succ i =>
    rcases h2 i r (by simpa using er) with⟨d',e1,e2⟩ | ⟨ds,e1,e2⟩
    ·exact .inl ⟨d',e1,by simpa using e2⟩
    ·exact .inr ⟨ds,e1,by simpa using e2⟩
 | .bor d::rs,l,none::Γ,h=>by simp[fin] at h
 | .bor d::rs,l,some (.val x)::Γ,h=>by simp[fin] at h
 | .bor d::rs,l,some (.own x)::Γ,h=>by simp[fin] at h
 | .bor d::rs,l,some (.fro x)::Γ,h=>by simp[fin] at h
 | .bor d::rs,l,some (.tfr x)::Γ,h=>by simp[fin] at h
 | .bor d::rs,l,some (.dic x)::Γ,h=>by simp[fin] at h
 | .bor d::rs,l,some (.bor x)::Γ,h=>by
  rw[fin] at h;cases e:fin rs Γ with
  | none=>rw[e] at h;cases h
  | some l' =>
   rw[e] at h;cases h;obtain⟨h1,h2⟩:=tR e;refine⟨by simp[h1],λi r er=>?_⟩;cases i with
   | zero=>simp at er;subst er;exact .inr ⟨x,rfl,rfl⟩
   | succ i =>
    rcases h2 i r (by simpa using er) with⟨d',e1,e2⟩ | ⟨ds,e1,e2⟩
    ·exact .inl ⟨d',e1,by simpa using e2⟩
    ·exact .inr ⟨ds,e1,by simpa using e2⟩
theorem getMap{α β:Type}{f:α->β}{l:List α}{i:Nat}{b:β}(h:(l.map f)[i]?=some b):∃a,l[i]?=some a/\b=f a:=by
 rw[E_] at h;cases e:l[i]? with
 | none=>rw[e] at h;cases h
 | some a=>rw[e] at h;exact⟨a,rfl,(KH h).symm⟩
theorem qQ{α:Type}{l:List α}{i:Nat}{a:α}(h:(l.map some++Lh n (none:Option α))[i]?=some (some a)):l[i]?=some a:=by
 by_cases hi:i < (l.map some).length
 ·rw[L0 hi] at h;obtain⟨b,e1,e2⟩:=getMap h;cases e2;exact e1
 ·rw[Lx (by omega),MJ] at h;split at h<;>cases h
section
variable{P:z_}{w:I_}{K:PySem.W.Frag}
theorem qe{x:Str}{st:L9}{N:List Str}{k:Nat}(F:Fun K x qual st f fd)(S:FnScope N ps (defScope st))(g:M Fl)(hb:∀(aD:b_) (A:Mc) (outer:List Env) (s:d_) (H:Hp) (E:XK) (B:BB),Room k (A.deeper (Oz qual (defScope st) s.heap.objs.size f aD)) →
   SDs (cxOf CX0 P w K mg base N qual (defScope st) f aD A outer s H E).nox B (defBody st) g):FnOk P w K mg base CX0 (k+1) f fd ps (spD K (fnD N.length ps.length g)):=by
 refine F.ok S (λvs H Q E h=>?_) (λaD A outer s H vs Q E hr h=>?_)
 ·obtain⟨_,_,rs,_,_,h1,_,h2,_⟩:=h;unfold fnD at h2;by_cases hc:rs.length=ps.length
  ·rw[←hc];simpa using h1.len
  ·rw[if_neg hc] at h2;cases h2
 ·obtain⟨G,I,rs,r,a8,h2,h3,h4,h5⟩:=h;have hl:vs.length=rs.length:=by simpa using h2.len
  refine⟨_,hb aD A outer s H E (λi=>(L2.start N vs)[i]?) hr,?_⟩;unfold fnD at h4
  have hc:rs.length=ps.length:=by
   by_cases hc:rs.length=ps.length
   ·exact hc
   ·rw[if_neg hc] at h4;cases h4
  rw[if_pos hc] at h4;unfold fnD1 at h4;cases e1:g (rs.map some++Lh (N.length - rs.length) none) with
  | none=>rw[e1] at h4;cases h4
  | some q =>
   obtain⟨fl,ah⟩:=q;rw[e1] at h4;dsimp only at h4;cases e2:flR fl with
   | none=>rw[e2] at h4;cases h4
   | some rr =>
    rw[e2] at h4;dsimp only at h4;cases e3:fin rs ah with
    | none=>rw[e3] at h4;cases h4
    | some l =>
     rw[e3] at h4;obtain⟨rfl,rfl⟩:rr=r/\l=a8:=by cases h4;exact⟨rfl,rfl⟩
     have dQ:∀{i:Nat}{v:V},vs[i]?=some v->(L2.start N vs)[i]?=some (some v):=λ{i v} e=>by
      unfold L2.start;rw[L0 (by rw[y_];exact(D_.mp e).1),E_,e];rfl
     have eO:∀{i:Nat}{v:V},(L2.start N vs)[i]?=some (some v)->vs[i]?=some v:=λ{i v} e=>qQ e
     have fY:Rep K (λi=>(L2.start N vs)[i]?) G I H (L2.start N vs) (rs.map some++Lh (N.length - rs.length) none):={
      iH:=h2.iH,gH:=h2.gH
      len:=by unfold L2.start;rw[KJ,KJ,y_,y_,KP,KP,hl]
      slot:=λi q e=>by
       have e':=qQ e;obtain⟨v,e4,e5⟩:=h2.slot i q (by rw[E_,e'];rfl);obtain⟨v',e6,e7⟩:=getMap e4;cases e7;exact⟨v,dQ e6,e5⟩
      dist:=λi j q q' v e e' m m' s1 s2=>h2.dist i j q q' v (by rw[E_,qQ e];rfl) (by rw[E_,qQ e'];rfl) m m' (by rw[E_,eO s1];rfl) (by rw[E_,eO s2];rfl)
      bor:=λi ds e=>rfl }
     obtain⟨f1,f2⟩:=tR e3
     -- behind the body
     have df:∀{au:L2.St}{H' I':Hp},Rep K (λi=>(L2.start N vs)[i]?) G I' H' au ah->Grow G I I'->Rep K (vB vs) G I' H' (vs.map some) (l.map some):=λ{au H' I'} r' g'=>{
      iH:=r'.iH,gH:=r'.gH
      len:=by rw[y_,y_,f1,hl]
      slot:=λi q e=>by
       obtain⟨q',e4,e5⟩:=getMap e;cases e5
       rcases f2 i q e4 with⟨d,rfl,e6⟩ | ⟨ds,rfl,e6⟩
       ·obtain⟨v,e7,e8⟩:=h2.slot i (.val d) (by rw[E_,e6];rfl);exact⟨v,e7,Is.mono g'.up e8⟩
       ·obtain⟨v,e7,e8⟩:=r'.slot i _ e6;have e9:=r'.bor i ds e6;rw[e7] at e9;exact⟨v,by rw[E_,eO e9.symm];rfl,e8⟩
      dist:=λi j q q' v e e' m m' s1 s2=>by
       obtain⟨_,e4,e5⟩:=getMap e;cases e5;obtain⟨_,e6,e7⟩:=getMap e';cases e7
       rcases f2 i q e4 with⟨d,rfl,_⟩ | ⟨ds,rfl,e8⟩
       ·cases m
       rcases f2 j q' e6 with⟨d,rfl,_⟩ | ⟨ig,rfl,e9⟩
       ·cases m'
       obtain⟨v1,a1,_⟩:=getMap s1;obtain⟨v2,a2,a3⟩:=getMap s2;have b1:=r'.bor i ds e8;have b2:=r'.bor j ig e9;rename_i b3;cases b3;cases a3;rw[dQ a1] at b1;rw[dQ a2] at b2;exact r'.dist i j _ _ v e8 e9 rfl rfl b1 b2
      bor:=λi ds e=>rfl }
     have ap:∀{au:L2.St}{H' I':Hp}{p:h_},Rep K (λi=>(L2.start N vs)[i]?) G I' H' au ah->Apart au ah p->Apart (vs.map some) (l.map some) p:=λ{au H' I' p} r' a i q e m z=>by
      obtain⟨_,e4,e5⟩:=getMap e;cases e5
      rcases f2 i q e4 with⟨d,rfl,_⟩ | ⟨ds,rfl,e8⟩
      ·cases m
      obtain⟨v1,a1,a2⟩:=getMap z;cases a2;exact a i _ e8 rfl ((r'.bor i ds e8).trans (dQ a1))
     refine⟨G,I,_,fl,ah,fY,e1,λau H' I' r' g'=>?_⟩;cases fl with
     | nx=>cases e2;exact h5 _ H' I' (df r' g') g' (show Is K I' D.non V.non from Is.non)
     | bk=>cases e2
     | ct=>cases e2
     | rt r0 =>
      cases e2;intro v hv;refine h5 v H' I' (df r' g') g' ?_;cases rr with
      | val d=>exact hv
      | bor d=>exact hv
      | fro d=>exact hv
      | tfr d=>exact hv
      | dic d =>
       obtain⟨p,xs,b1,b2,b3,b4,b5,b6⟩:=hv;exact⟨p,xs,b1,b2,b3,b4,ap r' b5,b6⟩
      | own d =>
       obtain⟨p,xs,b1,b2,b3,b4,b5,b6⟩:=hv;exact⟨p,xs,b1,b2,b3,b4,ap r' b5,b6⟩
end
mutual
noncomputable def noL:D->Bool
 | .tup ds=>noLA ds
 | .lst _=>false
 | _=>true
noncomputable def noLA:List D->Bool
 | []=>true
 | d::ds=>noL d&&noLA ds
end
noncomputable def tupOf(I0 I:Hp):Hp:=λb=>match I0 b with
 | some o=>some o
 | none=>match I b with
  | some (.lst _)=>none
  | o=>o
theorem xc:Same I0 (tupOf I0 I):=λb o e=>by unfold tupOf;rw[e]
theorem vf{b:h_}(h:tupOf I0 I b=some o):I0 b=some o\/(I0 b=none/\I b=some o/\∀xs,o≠.lst xs):=by
 unfold tupOf at h;cases e:I0 b with
 | some o'=>rw[e] at h;cases h;exact .inl rfl
 | none =>
  rw[e] at h;cases e1:I b with
  | none=>rw[e1] at h;cases h
  | some o' =>
   rw[e1] at h;cases o'<;>first | (cases h;exact .inr ⟨rfl,rfl,λxs z=>by cases z⟩) | cases h
theorem vK(s:Same I0 I){b:h_}(h:I b=some o)(n:∀xs,o≠.lst xs):tupOf I0 I b=some o:=by
 unfold tupOf;cases e:I0 b with
 | some o'=>rw[s b o' e] at h;exact h
 | none =>
  simp only[h];split
  ·rename_i z;cases z;exact absurd rfl (n _)
  ·rfl
mutual
theorem EF{K:PySem.W.Frag}{I0 I:Hp}(s:Same I0 I):∀(d:D) (v:V),noL d=true->Is K I d v->Is K (tupOf I0 I) d v
 | .non,_,_,h=>by rw[Is] at h ⊢;exact h
 | .bl _,_,_,h=>by rw[Is] at h ⊢;exact h
 | .int _,_,_,h=>by rw[Is] at h ⊢;exact h
 | .str _,_,_,h=>by rw[Is] at h ⊢;exact h
 | .lst _,_,n,_=>by simp[noL] at n
 | .dct _,v,_,h=>by
  obtain⟨a,o,xs,rfl,h1,h2⟩:=rO h;exact Is.dct (vK s h1 λxs z=>by cases z) h2
 | .tup ds,v,n,h=>by
  rw[noL] at n;obtain⟨a,xs,rfl,h1,h2⟩:=pG h;refine Is.tup ?_ (wI s ds xs n h2)
  rcases h1 with(h1 | ⟨o,h1⟩) | h1
  ·exact .inl (.inl (vK s h1 λxs z=>by cases z))
  ·exact .inl (.inr ⟨o,vK s h1 λxs z=>by cases z⟩)
  ·exact .inr h1
theorem wI{K:PySem.W.Frag}{I0 I:Hp}(s:Same I0 I):∀(ds:List D) (xs:List V),noLA ds=true->IsA K I ds xs->IsA K (tupOf I0 I) ds xs
 | [],xs,_,h=>by rw[h.nil_inv];exact IsA.nil
 | d::ds,xs,n,h=>by
  rw[noLA,LQ] at n;obtain⟨x,r,rfl,h1,h2⟩:=h.cons_inv;exact IsA.cons (EF s d x n.1 h1) (wI s ds r n.2 h2)
end
section
variable{B:BB}{es:List KQ}{p:Pos}{x:Str}{k:Nat}{g:List R->Option (R×List R)}{t:M (List D)}
noncomputable def cvF(g:List R->Option (R×List R))(ds:List D):Option D:=match g (ds.map .val) with
 | some (.val d,_)=>some d
 | some (.fro d,_)=>some (.lst d)
 | _=>none
noncomputable def coF(g:List R->Option (R×List R))(ds:List D):Option (List D):=match g (ds.map .val) with
 | some (.own d,_)=>some d
 | some (.fro d,_)=>if noLA d=true then some d else none
 | _=>none
theorem rp{K:PySem.W.Frag}{H:Hp}{vs:List V}(r:Rep K B G I H U Γ)(h:IsA K I ds vs):Rep K (vB vs) H I H (vs.map some) ((ds.map R.val).map some) where
 iH:=r.iH
 gH:=Same.refl _
 len:=by rw[y_,y_,y_,h.length]
 slot:=λi q e=>by
  obtain⟨_,e1,e2⟩:=getMap e;cases e2;obtain⟨d,e3,rfl⟩:=getMap e1;obtain⟨v,e4,e5⟩:=h.get e3;exact⟨v,by rw[E_,e4];rfl,e5⟩
 dist:=λi j q q' v e e' m=>by
  obtain⟨_,e1,e2⟩:=getMap e;cases e2;obtain⟨d,e3,rfl⟩:=getMap e1;cases m
 bor:=λi ds e=>rfl
theorem qW(ds:List D):(ds.map R.val).all noOwn=true:=by
 induction ds with
 | nil=>rfl
 | cons d r ih=>rw[KB,R4,ih];rfl
theorem tE{K:PySem.W.Frag}{B':BB}{H:Hp}{au:L2.St}(r:Rep K B G I H U Γ)(r':Rep K B' H I' H' au ah)(g':Grow H I I'):Rep K B G I' H' U Γ/\Grow G I I':=
 ⟨r.ext g'.up r'.gH r'.iH g'.new,g'.up,λb o e=>(g'.new b o e).imp (λz=>z) λz=>r.gFree z⟩
theorem t_cv{K:PySem.W.Frag}{E:XK}:∀U H Q,tD K B (fn1 (cvF g) t) U H Q->tCall (spD K g) [] E (tAD K B t) U H Q:=λU H Q q=>by
 obtain⟨G,I,Γ,d,ah,r,e1,kk⟩:=q;obtain⟨ds,ae,e2,e3⟩:=oK e1;obtain⟨e4,rfl⟩:=pD e3;refine⟨G,I,Γ,ds,_,r,e2,λvs H1 I1 r1 g1 h1=>?_⟩;show spD K g (vs++[]) H1 Q E;rw[LD];unfold cvF at e4;cases e5:g (ds.map .val) with
 | none=>rw[e5] at e4;cases e4
 | some q =>
  obtain⟨rr,a8⟩:=q;rw[e5] at e4;cases rr with
  | val d' =>
   cases e4;refine⟨H1,I1,ds.map .val,.val d,a8,rp r1 h1,qW ds,e5,λv H' I' r' g' hv=>?_⟩;obtain⟨r2,g2⟩:=tE r1 r' g';exact kk v H' I' r2 (g1.trans g2) hv
  | fro d' =>
   cases e4;refine⟨H1,I1,ds.map .val,.fro d',a8,rp r1 h1,qW ds,e5,λv H' I' r' g' hv=>?_⟩;obtain⟨r2,g2⟩:=tE r1 r' g';obtain⟨p,xs,rfl,f1,_,f3⟩:=hv;exact kk _ H' I' r2 (g1.trans g2) (Is.lst (RdK.of f1) f3)
  | own _=>cases e4
  | bor _=>cases e4
  | dic _=>cases e4
  | tfr _=>cases e4
theorem t_co{K:PySem.W.Frag}{E:XK}:∀U H Q,tO K B (fn1 (coF g) t) U H Q->tCall (spD K g) [] E (tAD K B t) U H Q:=λU H Q q=>by
 obtain⟨G,I,Γ,d,ah,r,e1,kk⟩:=q;obtain⟨ds,ae,e2,e3⟩:=oK e1;obtain⟨e4,rfl⟩:=pD e3;refine⟨G,I,Γ,ds,_,r,e2,λvs H1 I1 r1 g1 h1=>?_⟩;show spD K g (vs++[]) H1 Q E;rw[LD];unfold coF at e4;cases e5:g (ds.map .val) with
 | none=>rw[e5] at e4;cases e4
 | some q =>
  obtain⟨rr,a8⟩:=q;rw[e5] at e4;cases rr with
  | own d' =>
   cases e4;refine⟨H1,I1,ds.map .val,.own d,a8,rp r1 h1,qW ds,e5,λv H' I' r' g' hv=>?_⟩;obtain⟨r2,g2⟩:=tE r1 r' g';obtain⟨q,xs,rfl,b2,b3,b4,b5,b6⟩:=hv;exact kk q xs H' I' r2 (g1.trans g2) b2 b3 (r1.gFree b4) (r1.apart b4) b6
  | fro d' =>
   obtain⟨nl,e4⟩:=pK e4;subst e4;refine⟨H1,I1,ds.map .val,.fro d,a8,rp r1 h1,qW ds,e5,λv H' I' r' g' hv=>?_⟩;obtain⟨p,xs,rfl,f1,f2,f3⟩:=hv
   have new:∀b o,tupOf I1 I' b=some o->I1 b=some o\/H1 b=none:=λb o e=>by
    rcases vf e with z | ⟨_,z,_⟩
    ·exact .inl z
    ·exact g'.new b o z
   have r2:Rep K B G (tupOf I1 I') H' U _:=r1.ext xc r'.gH (λb o e=>by
    rcases vf e with z | ⟨_,z,_⟩
    ·exact r'.iH b o (g'.up b o z)
    ·exact r'.iH b o z) new
   refine kk p xs H' (tupOf I1 I') r2 (g1.trans ⟨xc,λb o e=>(new b o e).imp (λz=>z) λz=>r1.gFree z⟩) (r'.iH p _ f1) ?_ (r1.gFree f2) (r1.apart f2) (wI g'.up _ _ nl f3);cases e:tupOf I1 I' p with
   | none=>rfl
   | some o =>
    rcases vf e with z | ⟨_,z,zn⟩
    ·rw[r1.iFree f2] at z;cases z
    ·rw[f1] at z;cases z;exact absurd rfl (zn _)
  | tfr _=>cases e4
  | val _=>cases e4
  | bor _=>cases e4
  | dic _=>cases e4
variable {oV:Nat}{b:KQ}
theorem qG(F:FnOk X.prog X.w X.K X.mg X.base CX0 k f fd ps (spD X.K g))(hr:Room k X.A)(hg:Gl X x)(hm:X.mg x=some (.ref f))(hk:Oa X.K (.ref f)=true)(hb:Binds X.K fd ps [])(ha:AD X B (e::es) t)(bA:(x == ("__debug__":Str))=false:=by decide)(he:f_ (e::es) X.env=(false,KR e X.env)::f_ es X.env:=by rfl)(aC:(K0 pos (f_ es X.env)).any (·.1)=false:=by rfl):
  ED X B (.Call (.Name x p) (e::es) [] pos) (fn1 (cvF g) t):=PE.imp (rY F hr hg hm hk hb .nil pass0 ha bA he aC) t_cv
theorem wW(F:FnOk X.prog X.w X.K X.mg X.base CX0 k f fd ps (spD X.K g))(hr:Room k X.A)(hg:Gl X x)(hm:X.mg x=some (.ref f))(hk:Oa X.K (.ref f)=true)(hb:Binds X.K fd ps [])(ha:AD X B (e::es) t)(bA:(x == ("__debug__":Str))=false:=by decide)(he:f_ (e::es) X.env=(false,KR e X.env)::f_ es X.env:=by rfl)(aC:(K0 pos (f_ es X.env)).any (·.1)=false:=by rfl):
  EO X B (.Call (.Name x p) (e::es) [] pos) (fn1 (coF g) t):=PE.imp (rY F hr hg hm hk hb .nil pass0 ha bA he aC) t_co
noncomputable def hide(H:Hp)(p:h_):Hp:=λb=>if b=p then none else H b
theorem yw{H:Hp}{p:h_}:hide H p p=none:=by unfold hide;rw[if_pos rfl]
theorem qJ{H:Hp}{p b:h_}(h:b≠p):hide H p b=H b:=by unfold hide;rw[if_neg h]
theorem Fi{H:Hp}{p:h_}:Same (hide H p) H:=λb o e=>by
 by_cases h:b=p
 ·subst h;rw[yw] at e;cases e
 ·rw[qJ h] at e;exact e
noncomputable def bcF(g:List R->Option (R×List R))(c ds:List D):Option (R×List D):=match g (.bor c::ds.map .val) with
 | some (r,.bor c'::_)=>some (r,c')
 | _=>none
noncomputable def callB(i:Nat)(g:List R->Option (R×List R))(t:M (List D)):M R:=mutS i (bnd t λds=>λae=>match ae[i]? with
 | some (some (.own c))=>match bcF g c ds with
  | some (r,c')=>some (r,ae.set i (some (.own c')))
  | none=>none
 | some (some (.bor c))=>match bcF g c ds with
  | some (r,c')=>some (r,ae.set i (some (.bor c')))
  | none=>none
 | _=>none)
noncomputable def asV(r:R):Option D:=match r with
 | .val d=>some d
 | _=>none
noncomputable def asO(r:R):Option (List D):=match r with
 | .own d=>some d
 | _=>none
noncomputable def cbV(i:Nat)(g:List R->Option (R×List R))(t:M (List D)):M D:=bnd (callB i g t) λr=>lft (asV r)
noncomputable def cbO(i:Nat)(g:List R->Option (R×List R))(t:M (List D)):M (List D):=bnd (callB i g t) λr=>lft (asO r)
theorem Rep.extBut{K:PySem.W.Frag}{H:Hp}(r:Rep K B G I H U Γ){q:h_}(ap:Apart U Γ q)(gq:G q=none)(iq:I q=none)(oW:I' q=none)(hI:Same I I')(hH:∀b o,H b=some o->b≠q->H' b=some o)(iH:Same I' H')(new:∀b o,I' b=some o->I b=some o\/H b=none\/b=q):Rep K B G I' H' U Γ where
 iH:=iH
 gH:=λb o e=>hH b o (r.gH b o e) (λz=>by subst z;rw[gq] at e;cases e)
 len:=r.len
 slot:=λi qr e=>by
  obtain⟨v,e1,e2⟩:=r.slot i qr e;refine⟨v,e1,?_⟩
  have mt:qr.ptr=true->∀ds,Mt K G I H ds v->Mt K G I' H' ds v:=λm ds h=>by
   obtain⟨p2,xs,h1,h2,h3,h4,h5⟩:=h;have ne:p2≠q:=λz=>ap i qr e m (by rw[e1,h1,z])
   refine⟨p2,xs,h1,hH _ _ h2 ne,?_,h4,h5.mono hI⟩;cases z:I' p2 with
   | none=>rfl
   | some o =>
    rcases new p2 o z with z1 | z1 | z1
    ·rw[h3] at z1;cases z1
    ·rw[h2] at z1;cases z1
    ·exact absurd z1 ne
  cases qr with
  | val d=>exact Is.mono hI e2
  | dic ds =>
   obtain⟨p2,xs,h1,h2,h3,h4,h5⟩:=e2;have ne:p2≠q:=λz=>ap i _ e rfl (by rw[e1,h1,z])
   refine⟨p2,xs,h1,hH _ _ h2 ne,?_,h4,h5.mono hI⟩;cases z:I' p2 with
   | none=>rfl
   | some o =>
    rcases new p2 o z with z1 | z1 | z1
    ·rw[h3] at z1;cases z1
    ·rw[h2] at z1;cases z1
    ·exact absurd z1 ne
  | own ds=>exact mt rfl ds e2
  | bor ds=>exact mt rfl ds e2
  | fro ds=>obtain⟨p,xs,f1,f2,f3,f4⟩:=e2;exact⟨p,xs,f1,hI _ _ f2,f3,f4.mono hI⟩
  | tfr ds=>exact e2.elim
 dist:=r.dist
 bor:=r.bor
theorem borrow{K:PySem.W.Frag}{H:Hp}{i:Nat}{q q':R}{c':List D}{Q:VK}{E:XK}(r:Rep K B G I H U Γ)(hq:Γ[i]?=some (some q))(hc:(q=.own c/\q'=.own c')\/(q=.bor c/\q'=.bor c'))(hd:IsA K I ds ws)(fZ:U[i]?=some (some v0))(hg:bcF g c ds=some (rr,c'))(k:∀v H' I',Rep K B G I' H' U (Γ.set i (some q'))->Grow G I I'->ResOk K G I' H' U (Γ.set i (some q')) rr v->Q v H'):spD K g (v0::ws) H Q E:=by
 obtain⟨v,e1,e2⟩:=r.slot i q hq;rw[fZ] at e1;cases e1;have hm:q.ptr=true:=by rcases hc with⟨rfl,_⟩ | ⟨rfl,_⟩<;>rfl
 have mt:Mt K G I H c v0:=by rcases hc with⟨rfl,_⟩ | ⟨rfl,_⟩<;>exact e2
 obtain⟨a,xs,rfl,h1,h2,h3,h4⟩:=mt;unfold bcF at hg;cases e3:g (.bor c::ds.map .val) with
 | none=>rw[e3] at hg;cases hg
 | some z =>
  obtain⟨r0,a8⟩:=z;rw[e3] at hg;cases a8 with
  | nil=>cases hg
  | cons y a8 =>
   cases y with
   | val _=>cases hg
   | own _=>cases hg
   | fro _=>cases hg
   | tfr _=>cases hg
   | dic _=>cases hg
   | bor c2 =>
    cases hg;refine⟨hide H a,I,.bor c::ds.map .val,rr,.bor c'::a8,?_,by rw[R4,qW];rfl,e3,λv H' I' r' g' hv=>?_⟩
    ·have rv:=rp r hd
     exact {
      iH:=r.iH,gH:=Fi
      len:=by rw[KB,KB,Lc,Lc,rv.len]
      slot:=λj qr e=>by
       cases j with
       | zero=>cases e;exact⟨_,rfl,a,xs,rfl,h1,h2,yw,h4⟩
       | succ j =>
        obtain⟨w,e4,e5⟩:=rv.slot j qr (by simpa using e);refine⟨w,by simpa using e4,?_⟩;have e9:((ds.map R.val).map some)[j]?=some (some qr):=e;obtain⟨z,f1,f2⟩:=getMap e9;cases f2;obtain⟨d,f3,rfl⟩:=getMap f1;exact e5
      dist:=λj l qr oX w e e' m m' s1 s2=>by
       have only:∀{j:Nat}{qr:R},((R.bor c::ds.map R.val).map some)[j]?=some (some qr)->qr.ptr=true->j=0:=λ{j qr} e m=>by
        cases j with
        | zero=>rfl
        | succ j =>
         have e9:((ds.map R.val).map some)[j]?=some (some qr):=e;obtain⟨z,f1,f2⟩:=getMap e9;cases f2;obtain⟨d,f3,rfl⟩:=getMap f1;cases m
       rw[only e m,only e' m']
      bor:=λj es e=>rfl }
    ·obtain⟨w,e4,e5⟩:=r'.slot 0 (.bor c') rfl;cases e4;obtain⟨a',bg,e6,f1,f2,f3,f4⟩:=e5;cases e6
     have dF:Apart U (Γ.set i none) a:=λj r1 z m s=>by
      rcases pI z with⟨_,z',_⟩ | ⟨n,z'⟩
      ·cases z'
      ·exact n (r.dist j i r1 q _ z' hq m hm s fZ)
     have r1:=(r.forget i).extBut (q:=a) dF h3 h2 f2 g'.up (λb o e n=>r'.gH b o (by rw[qJ n];exact e)) r'.iH (λb o e=>by
      rcases g'.new b o e with z | z
      ·exact .inl z
      ·by_cases n:b=a
       ·exact .inr (.inr n)
       ·rw[qJ n] at z;exact .inr (.inl z))
     have r2:=r1.learn (i:=i) (q:=q') (v:=.ref a) fZ (by rcases hc with⟨_,rfl⟩ | ⟨_,rfl⟩<;>exact⟨a,bg,rfl,f1,f2,h3,f4⟩) (λm p2 e j r' n z m' s=>by
      cases e;exact dF j r' z m' s) (λes z=>by
      rcases hc with⟨_,rfl⟩ | ⟨rfl,rfl⟩
      ·cases z
      ·exact r.bor i c hq)
     rw[RO] at r2
     have g2:Grow G I I':=⟨g'.up,λb o e=>by
      rcases g'.new b o e with z | z
      ·exact .inl z
      ·by_cases n:b=a
       ·subst n;exact .inr h3
       ·rw[qJ n] at z;exact .inr (r.gFree z)⟩
     refine k v H' I' r2 g2 ?_;cases rr with
     | val d=>exact hv
     | bor d=>exact hv
     | tfr d =>
      obtain⟨p2,ys,b1,b2,b3,b4,b5,b6⟩:=hv;have ne:p2≠a:=λz=>by rw[z,f2] at b2;cases b2
      rw[qJ ne] at b3;refine⟨p2,ys,b1,b2,r.gFree b3,b4,λi p e1 e2=>?_,b6⟩;have b5:=b5 i p e1 e2;obtain⟨zs,e2⟩:=e2;have ne:p≠a:=λz=>by rw[z,f2] at e2;cases e2
      rw[qJ ne] at b5;exact r.gFree b5
     | fro d =>
      obtain⟨p2,ys,b1,b2,b3,b4⟩:=hv;have ne:p2≠a:=λz=>by rw[z,f2] at b2;cases b2
      rw[qJ ne] at b3;exact⟨p2,ys,b1,b2,r.gFree b3,b4⟩
     | dic d =>
      obtain⟨p2,ys,b1,b2,b3,b4,b5,b6⟩:=hv;have ne:p2≠a:=λz=>b5 0 (.bor c') rfl rfl (by rw[z];rfl)
      rw[qJ ne] at b4;refine⟨p2,ys,b1,b2,b3,r.gFree b4,λj r3 z m s=>?_,b6⟩
      rcases pI z with⟨rfl,z',_⟩ | ⟨n,z'⟩
      ·rw[fZ] at s;cases s;exact ne rfl
      ·exact r.apart b4 j r3 z' m s
     | own d =>
      obtain⟨p2,ys,b1,b2,b3,b4,b5,b6⟩:=hv;have ne:p2≠a:=λz=>b5 0 (.bor c') rfl rfl (by rw[z];rfl)
      rw[qJ ne] at b4;refine⟨p2,ys,b1,b2,b3,r.gFree b4,λj r3 z m s=>?_,b6⟩
      rcases pI z with⟨rfl,z',_⟩ | ⟨n,z'⟩
      ·rw[fZ] at s;cases s;exact ne rfl
      ·exact r.apart b4 j r3 z' m s
theorem yH{i:Nat}{t:M (List D)}(h:callB i g t Γ=some (rr,ah)):isMut Γ i=true/\∃ds ae q q' c c',t Γ=some (ds,ae)/\ae[i]?=some (some q)/\((q=.own c/\q'=.own c')\/(q=.bor c/\q'=.bor c'))/\bcF g c ds=some (rr,c')/\ah=ae.set i (some q'):=by
 obtain⟨hm,h⟩:=se h;obtain⟨ds,ae,e1,e2⟩:=oK h;refine⟨hm,ds,ae,?_⟩;cases e:ae[i]? with
 | none=>simp only[e] at e2;cases e2
 | some o =>
  cases o with
  | none=>simp only[e] at e2;cases e2
  | some q =>
   cases q with
   | val d=>simp only[e] at e2;cases e2
   | fro d=>simp only[e] at e2;cases e2
   | tfr d=>simp only[e] at e2;cases e2
   | dic d=>simp only[e] at e2;cases e2
   | own c =>
    simp only[e] at e2;cases e3:bcF g c ds with
    | none=>simp only[e3] at e2;cases e2
    | some z =>
     obtain⟨r0,c'⟩:=z;simp only[e3] at e2;cases e2;exact⟨.own c,.own c',c,c',e1,rfl,.inl ⟨rfl,rfl⟩,e3,rfl⟩
   | bor c =>
    simp only[e] at e2;cases e3:bcF g c ds with
    | none=>simp only[e3] at e2;cases e2
    | some z =>
     obtain⟨r0,c'⟩:=z;simp only[e3] at e2;cases e2;exact⟨.bor c,.bor c',c,c',e1,rfl,.inr ⟨rfl,rfl⟩,e3,rfl⟩
theorem Ez{K:PySem.W.Frag}{E:XK}{i:Nat}:∀U H Q,tD K B (cbV i g t) U H Q->tCall (spD K g) [] E (tCons (tVar i) (tAD K B t)) U H Q:=λU H Q q=>by
 obtain⟨G,I,Γ,d,ah,r,e1,kk⟩:=q;obtain⟨rr,aR,e2,e3⟩:=oK e1;obtain⟨e4,rfl⟩:=pD e3;obtain⟨hm,ds,ae,q,q',c,c',f1,f2,f3,f4,rfl⟩:=yH e2;obtain⟨a,xs,h1,h2⟩:=rh hm r;refine⟨_,h1,G,I,Γ,ds,ae,r,f1,λws H1 I1 r1 g1 hd=>?_⟩;show spD K g ((.ref a::ws)++[]) H1 Q E;rw[LD];refine borrow r1 f2 f3 hd h1 f4 λv H' I' r' g' hv=>?_
 cases rr with
 | val d'=>cases e4;exact kk v H' I' r' (g1.trans g') hv
 | own _=>cases e4
 | bor _=>cases e4
 | fro _=>cases e4
 | tfr _=>cases e4
 | dic _=>cases e4
theorem AY{K:PySem.W.Frag}{E:XK}{i:Nat}:∀U H Q,tO K B (cbO i g t) U H Q->tCall (spD K g) [] E (tCons (tVar i) (tAD K B t)) U H Q:=λU H Q q=>by
 obtain⟨G,I,Γ,d,ah,r,e1,kk⟩:=q;obtain⟨rr,aR,e2,e3⟩:=oK e1;obtain⟨e4,rfl⟩:=pD e3;obtain⟨hm,ds,ae,q,q',c,c',f1,f2,f3,f4,rfl⟩:=yH e2;obtain⟨a,xs,h1,h2⟩:=rh hm r;refine⟨_,h1,G,I,Γ,ds,ae,r,f1,λws H1 I1 r1 g1 hd=>?_⟩;show spD K g ((.ref a::ws)++[]) H1 Q E;rw[LD];refine borrow r1 f2 f3 hd h1 f4 λv H' I' r' g' hv=>?_
 cases rr with
 | own d' =>
  cases e4;obtain⟨p2,ys,rfl,b2,b3,b4,b5,b6⟩:=hv;exact kk p2 ys H' I' r' (g1.trans g') b2 b3 b4 b5 b6
 | val _=>cases e4
 | bor _=>cases e4
 | fro _=>cases e4
 | tfr _=>cases e4
 | dic _=>cases e4
theorem pV{i:Nat}(F:FnOk X.prog X.w X.K X.mg X.base CX0 k f fd ps (spD X.K g))(hr:Room k X.A)(hg:Gl X x)(hm:X.mg x=some (.ref f))(hk:Oa X.K (.ref f)=true)(hb:Binds X.K fd ps [])(hv:PE X (.Name y py) (tVar i))(ha:AD X B es t)(bA:(x == ("__debug__":Str))=false:=by decide)(he:f_ (.Name y py::es) X.env=(false,KR (.Name y py) X.env)::f_ es X.env:=by rfl)(aC:(K0 pos (f_ es X.env)).any (·.1)=false:=by rfl):
  ED X B (.Call (.Name x p) (.Name y py::es) [] pos) (cbV i g t):=PE.imp (rY F hr hg hm hk hb .nil pass0 (qI hv ha he) bA he aC) Ez
theorem Ey{i:Nat}(F:FnOk X.prog X.w X.K X.mg X.base CX0 k f fd ps (spD X.K g))(hr:Room k X.A)(hg:Gl X x)(hm:X.mg x=some (.ref f))(hk:Oa X.K (.ref f)=true)(hb:Binds X.K fd ps [])(hv:PE X (.Name y py) (tVar i))(ha:AD X B es t)(bA:(x == ("__debug__":Str))=false:=by decide)(he:f_ (.Name y py::es) X.env=(false,KR (.Name y py) X.env)::f_ es X.env:=by rfl)(aC:(K0 pos (f_ es X.env)).any (·.1)=false:=by rfl):
  EO X B (.Call (.Name x p) (.Name y py::es) [] pos) (cbO i g t):=PE.imp (rY F hr hg hm hk hb .nil pass0 (qI hv ha he) bA he aC) AY
end
end DL
variable{it:DL.M (List DL.D)}{body:DL.M DL.Fl}{aE:DL.D->DL.M Unit}{gl gh:DL.M (Option Int)}{ax:List DL.D->DL.M DL.Fl}{el gk gv:DL.M DL.D}{ts:DL.M Bool}
namespace DL
open PySem PySem.Spec PyProof.Rows L2
noncomputable def relab(sc cB:Nu):Nu:={ sc with names:=sc.names.map λ(n,k)=>if(k == .free&&cB.kind == .function&&cB.names.lookup n == some .cell) then(n,.cell) else(n,k) }
noncomputable def clo(cells:List (Str×h_)):List (Str×Ly)->List (Str×h_)->List (Str×h_)
 | [],ao=>ao
 | (n,k)::r,ao=>if k == .free then clo cells r ((n,(cells.lookup n).getD 0)::ao) else clo cells r ao
theorem yy{env:Env}(f:Str×Ly->List (Str×h_)->Sem (ForInStep (List (Str×h_))))(hf:∀name kind cs,f (name,kind) cs=if kind == .free then(do let a ←cellOf env name;pure (.yield ((name,a)::cs))) else pure (.yield cs)):
  ∀(names:List (Str×Ly)) (ao:List (Str×h_)),(∀n,(n,Ly.free)∈names->∃c,env.cells.lookup n=some c)->(forIn names ao f:Sem _)=pure (clo env.cells names ao)
 | [],ao,_=>by rw[forIn_nil];rfl
 | (n,k)::r,ao,h=>by
  rw[Pu,hf];unfold clo;have ih:=λkK=>yy f hf r kK (λn hn=>h n (j_ _ hn))
  by_cases hk:(k == Ly.free)=true
  ·rw[if_pos hk,if_pos hk];have dg:k=.free:=by simpa using hk
   subst dg;obtain⟨c,hc⟩:=h n g_;have e:cellOf env n=pure c:=by unfold cellOf;rw[hc]
   rw[e,hc];simp only[pure_bind,Option.getD_some];exact ih _
  ·rw[if_neg hk,if_neg hk];simp only[pure_bind];exact ih _
theorem yG(h:∀n,(n,Ly.free)∈scope.names->∃c,env.cells.lookup n=some c):Pv scope env=pure (clo env.cells scope.names []):=by
 unfold Pv;dsimp only;rw[yy (env:=env) _ (λname kind cs=>by cases hk:kind == Ly.free<;>simp[hk]) scope.names [] h];rfl
theorem tu{cells:List (Str×h_)}:∀{names:List (Str×Ly)}{ao:List (Str×h_)}{x:Str}{c:h_},(x,c)∈clo cells names ao->(x,c)∈ao\/((x,Ly.free)∈names/\c=(cells.lookup x).getD 0)
 | [],ao,x,c,h=>.inl h
 | (n,k)::r,ao,x,c,h=>by
  unfold clo at h;by_cases hk:(k == Ly.free)=true
  ·rw[if_pos hk] at h;have dg:k=.free:=by simpa using hk
   subst dg
   rcases tu h with z | ⟨z1,z2⟩
   ·rcases m_.mp z with z | z
    ·cases z;exact .inr ⟨g_,rfl⟩
    ·exact .inl z
   ·exact .inr ⟨j_ _ z1,z2⟩
  ·rw[if_neg hk] at h
   rcases tu h with z | ⟨z1,z2⟩
   ·exact .inl z
   ·exact .inr ⟨j_ _ z1,z2⟩
theorem wS{cells:List (Str×h_)}:∀{names:List (Str×Ly)}{ao:List (Str×h_)}{x:Str},((x,Ly.free)∈names\/∃c,ao.lookup x=some c)->∃c,(clo cells names ao).lookup x=some c
 | [],ao,x,h=>by
  rcases h with h | h
  ·cases h
  ·exact h
 | (n,k)::r,ao,x,h=>by
  unfold clo
  have push:∀c0:h_,(∃c,ao.lookup x=some c)->∃c,((n,c0)::ao).lookup x=some c:=λc0 ⟨c,hc⟩=>by
   rw[O8];cases x == n
   ·exact⟨c,hc⟩
   ·exact⟨c0,rfl⟩
  by_cases hk:(k == Ly.free)=true
  ·rw[if_pos hk];refine wS ?_
   rcases h with h | h
   ·rcases m_.mp h with z | z
    ·cases z;exact .inr ⟨_,by rw[O8,beq_self_eq_true]⟩
    ·exact .inl z
   ·exact .inr (push _ h)
  ·rw[if_neg hk];refine wS ?_
   rcases h with h | h
   ·rcases m_.mp h with z | z
    ·cases z;exact absurd (by rfl) hk
    ·exact .inl z
   ·exact .inr h
structure CompScope(cB sc:Nu)(N N':List Str)(m:Nat):Prop where
 kind:sc.kind=.function
 nocell:∀y∈sc.names,y.2≠.cell
 locals:∀y∈sc.names,y.2=.local->sc.names.lookup y.1=some .local
 free:∀y∈sc.names,y.2=.free->cB.names.lookup y.1=some .cell\/cB.names.lookup y.1=some .free
 nd:N'.Nodup
 len:N'.length=m+N.length
 up:∀p∈(N'.drop m).zip N,((relab sc cB).names.lookup p.1=none)\/(p.1=p.2/\(relab sc cB).names.lookup p.1≠some .local)
noncomputable def cxC(X:Cx)(scope:Nu)(N':List Str)(C:h_)(s:d_)(H:Hp)(ex:List h_):Cx:=
 { X with N:=N',s₀:=s,H₀:=H,env:=compEnvC scope (clo X.env.cells scope.names []) C X.env,outer:=X.stack,stack:=X.stack,ex:=ex,fn:=λ_=>false,pn:=[],xe:=λ_ _=>False }
def PTs(X:Cx)(bp:List KQ)(t:TT):Prop:=
 ∀(aa:List (h_×Obj)) (s:d_) (U:L2.St) (H:Hp) (Q:Bool->Hp->Prop),Inv X aa U H s->t U H Q →
  w_ (n_ X.prog X.w) X.A (forIn bp true λc r=>if r=true then do let ok ←RQ c X.env (KR c X.env);pure (Nl ok) else pure (Nl r)) (TP X aa U Q) X.xe s
theorem HL:PTs X [] (λ_ H Q=>Q true H):=λaa s U H Q I h=>wpAny_tests_nil ⟨H,I,h⟩
theorem GN{c:KQ}{t:TT}(h:PT X c t):PTs X [c] t:=λaa s U H Q I q=>wpAny_tests_one (h aa s U H Q I q)
abbrev calm(P:z_)(w:I_)(A:Mc){α:Type}(m:Sem α)(Q:α->d_->Prop)(s:d_):Prop:=w_ (n_ P w) A m Q (λ_ _=>False) s
theorem calm.on{P:z_}{w:I_}{α β:Type}{m:Sem α}{f:α->Sem β}{Q:α->d_->Prop}{K:β->d_->Prop}{E:b_->d_->Prop}{s:d_}(h:calm P w A m Q s)(k:∀a s',Q a s'->w_ (n_ P w) A (f a) K E s'):w_ (n_ P w) A (m >>= f) K E s:=
 a_ (Lk h k λ_ _ no=>no.elim)
def TurnMeets(P:z_)(w:I_)(A:Mc)(cC ii:b_)(tg bI:KQ)(bp:List KQ)(env:Env)(Q7 ak:d_->Prop)(s:d_):Prop:=
 calm P w A (Mn cC) (λeP s=>match eP with
  | none=>ak s
  | some v=>calm P w A (N_ tg cC v) (λ_ s=>calm P w A (N9 tg env v) (λ_ s =>
    calm P w A (forIn bp true λc r=>if r=true then do let ok ←RQ c env (KR c env);pure (Nl ok) else pure (Nl r)) (λfB s =>
     cond fB (calm P w A (KR bI env) (λx s=>calm P w A (call (.builtin "list.append") [ii,x]) (λ_ s=>Q7 s) s) s) (Q7 s)) s) s) s) s
theorem BI{P:z_}{w:I_}{ak:Ry->d_->Prop}{s:d_}{bI jv:KQ}{sc:Nu}{aI:Pos}{cC ii:b_}(W:Nat->d_->Prop)(kL:∀left s,W left s->TurnMeets P w A cC ii tg bI bp env (λs'=>∃less,less < left/\W less s') (ak (.ok .next)) s)(left:Nat)(start:W left s):
  Ml (n_ P w) A (.compLoop (.ListComp bI [⟨tg,jv,bp,0⟩] sc aI) 0 cC ii env) ak s:=by
 refine codeAny_loop rfl W (λleft s aJ=>?_) left start;have turn:=kL left s aJ;unfold TurnMeets at turn;refine wpAny_noted ?_;rw[compTurn_list];refine a_ (QE (turn.on λeP s1 h1=>?_));cases eP with
 | none=>exact e_ h1
 | some v=>exact calm.on h1 λ_ _ h2=>calm.on h2 λ_ _ h3=>calm.on h3 λfB s4 h4=>match fB,h4 with
  | false,h4=>e_ (And.intro rfl h4)
  | true,h4=>a_ (calm.on h4 λ_ _ h5=>calm.on h5 λ_ _ h6=>e_ (e_ (And.intro rfl h6)))
def Clear(X:Cx)(aa:List (h_×Obj))(H:Hp)(C:h_):Prop:=H C=none/\C≠X.env.locals/\X.s₀.heap.objs.size<=C/\(∀x c,X.env.cells.lookup x=some c->c≠C)/\∀p∈X.pn++aa,p.1≠C
theorem Inv.clear{H:Hp}{s:d_}{C:h_}(I:Inv X aa U H s)(c:Clear X aa H C)(hs:KM.SameBut C s.heap h'):Inv X aa U H { s with heap:=h' }:=
 I.turned (t':=s.toks) (λb o hb e=>(hs.2 b hb).trans e) c.1 c.2.1 (.inr c.2.2.1) c.2.2.2.1 c.2.2.2.2
def CompW(m:Nat)(J:It)(g:TG)(tt:TT)(te:TE)(U:L2.St)(H1:Hp)(p:h_)(Q:VK):Prop:=
 ∃W:Nat->Nat->L2.St->Hp->Prop,(∃n,W 0 n (Lh m none++U) (upd H1 p (.lst [])))/\∀i n au H',W i n au H' →
  (J.stop i H'/\Q (.ref p) H')\/(J.go i H'/\∀x H2,J.yld i H' x H2->g x au H2 λbb H3=>tt bb H3 λb H4 =>
   if b=true then te bb H4 λy H5=>∃ao,H5 p=some (.lst ao)/\ao.length < x_/\∃n',n' < n/\W (i+1) n' bb (upd H5 p (.lst (ao++[y])))
   else ∃n',n' < n/\W (i+1) n' bb H4)
section
variable{bI:KQ}{N':List Str}{g:TG}{tt:TT}
theorem yk{it:h_}{tn:Nat->KM->Prop}{Q:VK}{E:b_->d_->Prop}(S:CompScope X.env.scope scope X.N N' m)(hc:X.calm=true)(hg:∀C s H ex,PG (cxC X scope N' C s H ex) tg g)(ht:∀C s H ex,PTs (cxC X scope N' C s H ex) bp tt)(he:∀C s H ex,PE (cxC X scope N' C s H ex) bI te)(I2:Inv X aa U H2 s2)(T:Turn X.prog X.w X.K tg J fp it tn)(bN:tn 0 s2.heap)(f2:∀b∈fp,FpOk X aa H2 b)(hw:∀p,H2 p=none->CompW m J g tt te U H2 p Q):
  w_ (n_ X.prog X.w) X.A (newList []) (λao s3=>w_ (n_ X.prog X.w) X.A (newFunctionEnv scope X.env.globals (clo X.env.cells scope.names []) [] X.env.qual none .none (some X.env)) (λdj s4 =>
   Ml (n_ X.prog X.w) X.A (.compStart (.ListComp bI [⟨tg,iter,bp,0⟩] scope pos) 0 (.ref it) ao { dj with scope:=relabel scope X.env })
    (λr s'=>match r with | .ok _=>∃p H' mm,ao=.ref p/\s'.heap.Ns dj.locals mm/\Inv X aa U H' s'/\Clear X aa H' dj.locals/\Q (.ref p) H' | .error _=>False) s4) E s3) E s2:=by
 refine KY (P6 S.nocell (by intro y hy;simp at hy) (λh1 i8 i9=>?_) S.kind);dsimp only at i8 i9 ⊢
 -- the new list
 have hp:H2 s2.heap.objs.size=none:=I2.hok.fresh (B_ _);obtain⟨W,⟨n0,w0⟩,turn⟩:=hw _ hp;obtain⟨p,hP⟩:∃p,p=s2.heap.objs.size:=⟨_,rfl⟩;obtain⟨s3,jw⟩:∃s3:d_,s3={ s2 with heap:=s2.heap.push { cls:=.type "list", dict:=none,data:=.seq ([]:List b_).toArray } }:=⟨_,rfl⟩;obtain⟨C,hC⟩:∃C,C=s3.heap.objs.size:=⟨_,rfl⟩;obtain⟨H3,jy⟩:∃H3,H3=upd H2 p (.lst []):=⟨_,rfl⟩;have h3:s3.heap=s2.heap.push { cls:=.type "list", dict:=none,data:=.seq ([]:List b_).toArray }:=by rw[jw]
 have fC:h1.Ns C (λx=>([]:List (Str×b_)).reverse.lookup x):=by rw[hC,h3];exact i8
 have ik:KM.SameBut C (s3.heap.push { cls:=.type "dict", data:=.dict #[] }) h1:=by rw[hC,h3];exact i9
 rw[←hP] at hp;have mX:W 0 n0 (Lh m none++U) H3:=by rw[jy,hP];exact w0
 have jz:∀i n au H',W i n au H'->(J.stop i H'/\Q (.ref p) H')\/(J.go i H'/\∀x H2,J.yld i H' x H2->g x au H2 λbb H3=>tt bb H3 λb H4 =>
   if b=true then te bb H4 λy H5=>∃ao,H5 p=some (.lst ao)/\ao.length < x_/\∃n',n' < n/\W (i+1) n' bb (upd H5 p (.lst (ao++[y])))
   else ∃n',n' < n/\W (i+1) n' bb H4):=by rw[hP];exact turn
 have I3:Inv X aa U H3 s3:=by
  rw[jy,jw,hP];exact I2.laid (t':=s2.toks) (λb u e=>c_ _ e) (B_ _) ⟨K' _,[],0,.nil,t_ _ rfl⟩
 have cS:tn 0 s3.heap:=T.keep _ _ _ bN λb _ o e=>by rw[h3];exact c_ _ e
 have f3:∀b∈fp,FpOk X aa H3 b:=λb hb=>by
  obtain⟨a0,a1⟩:=f2 b hb;refine⟨?_,a1⟩;obtain⟨o,e,_⟩:=T.obj _ _ bN b hb
  have ne:b≠p:=λz=>by
   have:=F_ e;rw[←hP,z] at this;exact MG _ this
  rw[jy,po ne];exact a0
 -- the block's context
 have bz:∀x c,(clo X.env.cells scope.names []).lookup x=some c->X.env.cells.lookup x=some c:=λx c e=>by
  rcases tu (mem_of_lookup e) with z | ⟨z1,z2⟩
  ·cases z
  ·obtain⟨c',bW⟩:=I2.ok.has x (S.free _ z1 rfl);rw[bW] at z2;rw[z2];exact bW
 have fj:Clear X aa H3 C:=by
  refine⟨?_,?_,?_,λx c e z=>?_,λq hq z=>?_⟩
  ·exact I3.hok.fresh (Rh hC.symm)
  ·have:=I3.lt;rw[←hC] at this;exact Nb this
  ·have:=I3.sz;rw[←hC] at this;exact this
  ·obtain⟨v,q⟩:=I3.cell x c e;have:=q.lt;rw[←hC,z] at this;exact MG _ this
  ·have:=F_ (I3.pin q hq).1;rw[←hC,z] at this;exact MG _ this
 have old:∀b o,s3.heap.get? b=some o->h1.get? b=some o:=λb o e=>by
  have ne:b≠C:=λz=>by have:=F_ e;rw[←hC,z] at this;exact MG _ this
  exact(ik.2 b ne).trans (c_ _ e)
 have ok:(cxC X scope N' C s3 H3 fp).Ok:=by
  refine⟨I3.ok.mod,S.kind,I3.ok.glob,I3.ok.blt,Rh hC.symm,λx y c e1 e2=>I3.ok.inj x y c (bz x c e1) (bz y c e2),λx hx=>?_,λx c z=>(nomatch z),λz=>I3.ok.hd z,I3.ok.frames,.inl rfl,λb hb=>⟨λz=>?_,λx c e=>(f3 b hb).2.2.2.2.1 x c (bz x c e)⟩,I3.bs,LL I3.ok.bsz I3.sz,λb o e hb=>?_,λb hb z=>?_,I3.stack,λb hb=>I3.stkFree b hb,λc P h=>I3.base.tbls P _ (I3.ok.tb c P h)⟩
  ·-- has
   have jA:(relab scope X.env.scope).names.lookup x=some .cell\/(relab scope X.env.scope).names.lookup x=some .free:=hx
   have mem:∃k,(x,k)∈(relab scope X.env.scope).names/\(k=Ly.cell\/k=Ly.free):=by
    rcases jA with z | z
    ·exact⟨_,mem_of_lookup z,.inl rfl⟩
    ·exact⟨_,mem_of_lookup z,.inr rfl⟩
   obtain⟨k,hm,hk⟩:=mem;obtain⟨⟨n1,k1⟩,gj,e1⟩:=LS.mp hm;refine wS (.inl ?_);dsimp only at e1;by_cases hcond:(k1 == Ly.free&&X.env.scope.kind == ScopeKind.function&&X.env.scope.names.lookup n1 == some Ly.cell)=true
   ·rw[if_pos hcond] at e1;cases e1
    have:k1=.free:=by
     simp only[LQ,beq_iff_eq] at hcond;exact hcond.1.1
    rw[←this];exact gj
   ·rw[if_neg hcond] at e1;cases e1
    rcases hk with rfl | rfl
    ·exact absurd rfl (S.nocell _ gj)
    ·exact gj
  ·obtain⟨o,e,_⟩:=T.obj _ _ cS b hb;have:=F_ e;rw[←hC] at this;have z':b=C:=z;rw[z'] at this;exact MG _ this
  ·obtain⟨a0,a1,a2,a3,_⟩:=f3 b hb
   rcases a3 with z | z
   ·exact I3.ok.noex b o e z
   ·exact absurd (J_ (F_ e) (LL I3.ok.bsz z)) (MG _)
  ·have z':=I3.stkSub b z;obtain⟨a0,a1,a2,_⟩:=f3 b hb
   rcases m_.mp z' with e | e
   ·exact a1 e
   ·exact a2 e
 -- the block's first state
 have I4:Inv (cxC X scope N' C s3 H3 fp) [] (Lh m none++U) H3 { s3 with heap:=h1,toks:=s3.toks+([]:List (Str×b_)).length }:=by
  obtain⟨mo,oY,kG⟩:=I3.loc;refine⟨ok,rfl,I3.bare,Un.kept old,⟨_,fC,λi x v e1 e2 e3=>?_⟩,λx c e=>?_,fj.1,λx c e=>I3.freeC x c (bz x c e),λq hq=>absurd (show q∈([]:List (h_×Obj)) from hq) (by simp),I3.hok.kept old,?_⟩
  ·have hi:m<=i:=by
    by_cases z:m<=i
    ·exact z
    ·rw[L0 (by rw[KP];omega),MJ] at e2;split at e2<;>cases e2
   rw[Lx (by rw[KP];exact hi),KP] at e2;have eQ:N'[i]?=some x:=e1
   have eN:i - m < X.N.length:=by
    have:=(D_.mp eQ).1;rw[S.len] at this;omega
   have e4:(N'.drop m)[i - m]?=some x:=by rw[Nd];rw[show m+(i - m)=i from by omega];exact eQ
   have e5:X.N[i - m]?=some X.N[i - m]:=i_ eN;have e6:((N'.drop m).zip X.N)[i - m]?=some (x,X.N[i - m]):=by rw[OJ];exact⟨e4,e5⟩
   have kM:Vis (relab scope X.env.scope) x:=e3
   rcases S.up _ (LB e6) with z | ⟨z1,z2⟩
   ·have z':(relab scope X.env.scope).names.lookup x=none:=z
    rcases kM with y | y | y<;>rw[z'] at y<;>cases y
   ·have mY:x=X.N[i - m]:=z1;have mZ:(relab scope X.env.scope).names.lookup x≠some .local:=z2
    have kO:(relab scope X.env.scope).names.lookup x=some .cell\/(relab scope X.env.scope).names.lookup x=some .free:=by
     rcases kM with y | y | y
     ·exact absurd y mZ
     ·exact .inl y
     ·exact .inr y
    obtain⟨c,cD⟩:=ok.has x kO;have m8:=bz x c cD
    -- the name in the def's own frame
    have mem:(x,Ly.free)∈scope.names:=by
     rcases tu (mem_of_lookup cD) with y | ⟨y,_⟩
     ·cases y
     ·exact y
    have kP:Vis X.env.scope x:=by
     rcases S.free _ mem rfl with y | y
     ·exact .inr (.inl y)
     ·exact .inr (.inr y)
    obtain⟨u,ru,l⟩:=kG (i - m) x v (by rw[e5,←mY]) e2 kP;refine⟨u,ru,.inr ⟨kO,c,cD,?_⟩⟩
    rcases l with⟨k,_⟩ | ⟨_,c',e',z'⟩
    ·have k':X.env.scope.names.lookup x=some .local:=k
     rcases S.free _ mem rfl with y | y<;>(have y':X.env.scope.names.lookup x=_:=y;rw[k'] at y';cases y')
    ·rw[m8] at e';cases e';exact z'.keeps old
  ·obtain⟨v,q⟩:=I3.cell x c (bz x c e);exact⟨v,q.keeps old⟩
  ·show(Lh m none++U).length=N'.length;rw[KJ,KP,S.len,I3.len]
 have cZ:∀{H':Hp},(∀b∈fp,H' b=none)->∀b∈fp,FpOk (cxC X scope N' C s3 H3 fp) [] H' b:=λ{H'} hn b hb=>by
  refine⟨hn b hb,(ok.exf b hb).1,ok.exfs b hb,.inl hb,(ok.exf b hb).2,λq hq=>absurd (show q∈([]:List (h_×Obj)) from hq) (by simp)⟩
 -- what stands behind the block
 have df:∀{au:L2.St}{H':Hp}{s':d_},Inv (cxC X scope N' C s3 H3 fp) [] au H' s'->Inv X aa U H' s'/\Clear X aa H' C:=λ{au H' s'} J'=>by
  refine⟨I3.call' J'.os J'.base J'.hok J'.bare λb hb=>?_,J'.free,fj.2⟩;obtain⟨a0,a1,a2,a3,a4,a5⟩:=f3 b hb;exact⟨a3,a1,a4,a5⟩
 have aX:∀s4:d_,s4={ s3 with heap:=h1,toks:=s3.toks+([]:List (Str×b_)).length } →
   Ml (n_ X.prog X.w) X.A (.compLoop (.ListComp bI [⟨tg,iter,bp,0⟩] scope pos) 0 (.ref it) (.ref p) (compEnvC scope (clo X.env.cells scope.names []) C X.env))
    (λr s'=>match r with | .ok _=>∃p' H' mm,b_.ref p=.ref p'/\s'.heap.Ns C mm/\Inv X aa U H' s'/\Clear X aa H' C/\Q (.ref p') H' | .error _=>False) s4:=by
  rintro s4 rfl;refine BI (λn s'=>∃i au H',Inv (cxC X scope N' C s3 H3 fp) [] au H' s'/\tn i s'.heap/\(∀b∈fp,H' b=none)/\W i n au H') ?_ n0 ⟨0,_,_,I4,T.keep _ _ _ cS λb _ o e=>old b o e,λb hb=>(f3 b hb).1,mX⟩;rintro n s5 ⟨i,eK,H5,I5,fy,hJ,w5⟩;show TurnMeets _ _ _ _ _ _ _ _ _ _ _ _;unfold TurnMeets
  rcases jz i n eK H5 w5 with⟨stop,qn⟩ | ⟨go,step⟩
  ·refine Lk (T.done (cxC X scope N' C s3 H3 fp) rfl rfl rfl hc i [] s5 eK H5 (λ_ _=>False) I5 (cZ hJ) fy stop) (λr s6 ⟨hr,I6⟩=>?_) λ_ _ z=>z
   subst hr;obtain⟨mm,m9,_⟩:=I6.loc;obtain⟨b1,b2⟩:=df I6;exact⟨p,H5,mm,rfl,m9,b1,b2,qn⟩
  ·refine Lk (T.item (cxC X scope N' C s3 H3 fp) rfl rfl rfl hc i [] s5 eK H5 (λ_ _=>False) I5 (cZ hJ) fy go) (λr s6 ⟨u,hr,h6⟩=>?_) λ_ _ z=>z
   subst hr;refine Lk h6 (λ_ s7 ⟨x,H7,I7,r7,y7,jB,nc⟩=>?_) λ_ _ z=>z
   have ng:=I7.pinned (cZ nc) (T.obj _ _ jB);refine Lk (hg C s3 H3 fp _ s7 eK H7 x u _ ng r7 (step x H7 y7)) (λ_ s8 ⟨gm,H8,I8,q8⟩=>?_) λ_ _ z=>z
   refine Lk (ht C s3 H3 fp _ s8 gm H8 _ I8 q8) (λok s9 ⟨H9,I9,q9⟩=>?_) λ_ _ z=>z
   have Q7:∀{kQ:L2.St}{Ha:Hp}{sa:d_},Inv (cxC X scope N' C s3 H3 fp) ([]++pinsAt fp s7.heap) kQ Ha sa->tn (i+1) sa.heap/\(∀b∈fp,Ha b=none):=λ{kQ Ha sa} Ia=>by
    refine⟨T.keep _ _ _ jB λb hb o e=>(Ia.pin (b,o) (KW _ (KW _ (tP hb e)))).1,λb hb=>?_⟩;obtain⟨o,e,d⟩:=T.obj _ _ jB b hb;exact(Ia.pin (b,o) (KW _ (KW _ (tP hb e)))).2.1
   cases ok with
   | false =>
    rw[if_neg v_] at q9;obtain⟨n',eE,w9⟩:=q9;obtain⟨a1,a2⟩:=Q7 I9;exact⟨n',eE,i+1,gm,H9,I9.unpinned,a1,a2,w9⟩
   | true =>
    rw[if_pos rfl] at q9;refine Lk (he C s3 H3 fp _ s9 gm H9 _ I9 q9) (λxv ni ⟨y,kR,np,nq,ao,kT,hl,n',eE,nr⟩=>?_) λ_ _ z=>z
    refine Lk (AI (X:=cxC X scope N' C s3 H3 fp) _ ni gm kR (.ref p) [y] (.ref p) [xv] (λ_ H'=>H'=upd kR p (.lst (ao++[y]))) np rfl (.cons nq .nil) ⟨p,ao,y,rfl,rfl,kT,hl,rfl⟩) (λ_ oZ ⟨o0,o3,kU,_,nu⟩=>?_) λ_ _ z=>z
    subst nu;obtain⟨a1,a2⟩:=Q7 kU;exact⟨n',eE,i+1,gm,_,kU.unpinned,a1,a2,nr⟩
 subst hC;subst jw;subst hP;refine codeAny_compStart_list ?_ (T.self X.A 0 _ _ _ (T.keep _ _ _ cS λb _ o e=>old b o e) ?_)
 ·exact aX _ rfl
 ·exact aX _ rfl
end
section
variable{bI:KQ}{N':List Str}{g:TG}{tt:TT}{wi:TI}
noncomputable def tComp(m:Nat)(wi:TI)(g:TG)(tt:TT)(te:TE):TE:=λU H Q=>wi U H λJ H1=>∀p,H1 p=none->CompW m J g tt te U H1 p Q
theorem BU(S:CompScope X.env.scope scope X.N N' m)(hc:X.calm=true)(hi:PI X tg iter wi)(hg:∀C s H ex,PG (cxC X scope N' C s H ex) tg g)(ht:∀C s H ex,PTs (cxC X scope N' C s H ex) bp tt)(he:∀C s H ex,PE (cxC X scope N' C s H ex) bI te)(hs:∀x,L8 iter X.env x=pure x:=by intros;rfl):PE X (.ListComp bI [⟨tg,iter,bp,0⟩] scope pos) (tComp m wi g tt te):=by
 intro aa s U H Q I h;rw[eval_ListComp];refine O0 (use:=none) rfl hs (yG λn hn=>I.ok.has n (S.free _ hn rfl)) S.kind S.locals (thn (hi aa s U H _ I h) λxv s1 h1=>thn h1 λhG s2 h2=>?_);obtain⟨it,fp,tn,J,H2,e,I2,T,bN,f2,hw⟩:=h2;subst e;refine thn (yk (pos:=pos) (iter:=iter) S hc hg ht he I2 T bN f2 hw) λao s3 h3=>thn h3 λdj s4 h4=>M4 h4 λr s5 h5=>?_
 cases r with
 | error x=>exact h5.elim
 | ok fl =>
  obtain⟨p,H5,mm,rfl,hn,I5,cl,q⟩:=h5;exact⟨mm,hn,λh' fD=>⟨.ref p,H5,Inv.clear I5 cl fD,rfl,q⟩⟩
theorem Fp{i:Nat}(S:CompScope X.env.scope scope X.N N' m)(hc:X.calm=true)(hN:X.N.Nodup)(bY:X.N[i]?=some y)(hy:X.env.scope.names.lookup y=some .local)(hi:PI X tg iter wi)(hg:∀C s H ex,PG (cxC X scope N' C s H ex) tg g)(ht:∀C s H ex,PTs (cxC X scope N' C s H ex) bp tt)(he:∀C s H ex,PE (cxC X scope N' C s H ex) bI te)(jC:Mo (.ListComp bI [⟨tg,iter,bp,0⟩] scope pos) (some (.Name y py)) dZ.line X.env=pure true)(hs:∀x,L8 iter X.env x=pure x:=by intros;rfl):PS X (.Assign [.Name y py] (.ListComp bI [⟨tg,iter,bp,0⟩] scope pos) dZ) (tAsg (tComp m wi g tt te) (gName i)):=by
 intro aa s U H D I h;rw[exec_Assign_Name_used _ _ _ _ jC];refine a_ (QE (a_ ?_));show w_ _ X.A (do let _ ←comprehension (.ListComp bI [⟨tg,iter,bp,0⟩] scope pos) scope X.env _ (newList []) false (KR iter X.env) (some (N9 (.Name y py) X.env))) _ _ s
 refine a_ (thn (O0 (use:=some (N9 (.Name y py) X.env)) (Q:=λ_ s'=>SP X aa D .next s') rfl hs (yG λn hn=>I.ok.has n (S.free _ hn rfl)) S.kind S.locals
  (thn (hi aa s U H _ I h) λxv s1 h1=>thn h1 λhG s2 h2=>?_)) λ_ s' hq=>e_ (e_ hq))
 obtain⟨it,fp,tn,J,H2,e,I2,T,bN,f2,hw⟩:=h2;subst e;refine thn (yk (pos:=pos) (iter:=iter) S hc hg ht he I2 T bN f2 hw) λao s3 h3=>thn h3 λdj s4 h4=>M4 h4 λr s5 h5=>?_
 cases r with
 | error x=>exact h5.elim
 | ok fl =>
  obtain⟨p,H5,mm,rfl,hn,I5,cl,q⟩:=h5;show w_ _ X.A (N9 (.Name y py) X.env (.ref p)) _ _ s5;refine Q6 (xB (v:=.ref p) I5 hN bY (.inl hy) rfl (λs6 I6 ⟨a,nv,ha⟩=>?_) (.inr hy))
  have fx:dj.locals≠a:=by
   rcases ha with rfl | ha
   ·exact cl.2.1
   ·exact λz=>cl.2.2.2.1 y a ha z.symm
  refine⟨mm,hn.sameBut nv fx,λh' fD=>?_⟩;have ny:Clear X aa H5 dj.locals:=cl;exact⟨_,H5,Inv.clear I6 ny fD,q⟩
end
noncomputable def inC{α:Type}(m:Nat)(g:M α):M α:=λΓ=>match g (Lh m none++Γ) with
 | some (a,ah)=>some (a,ah.drop m)
 | none=>none
noncomputable def compM(aE:D->M Unit)(ts:M Bool)(el:M D):List D->M (List D)
 | []=>ret []
 | d::ds=>bnd (aE d) λ_=>bnd ts λb=>if b then bnd el λx=>bnd (compM aE ts el ds) λr=>ret (x::r) else compM aE ts el ds
noncomputable def compO(m:Nat)(it:M (List D))(aE:D->M Unit)(ts:M Bool)(el:M D):M (List D):=bnd it λds=>if ds.length<=lim then inC m (compM aE ts el ds) else λ_=>none
noncomputable def bUp(m:Nat)(B:BB):BB:=λi=>if i < m then none else B (i - m)
theorem DG{α:Type}{g:M α}{a:α}(h:inC m g Γ=some (a,ah)):∃ae,g (Lh m none++Γ)=some (a,ae)/\ah=ae.drop m:=by
 unfold inC at h;cases e:g (Lh m none++Γ) with
 | none=>rw[e] at h;cases h
 | some q=>obtain⟨b,ae⟩:=q;rw[e] at h;cases h;exact⟨ae,rfl,rfl⟩
section
variable{K:PySem.W.Frag}{B:BB}{H:Hp}{au:L2.St}
theorem rJ{α:Type}{l:List (Option α)}{m i:Nat}{a:α}(h:(Lh m (none:Option α)++l)[i]?=some (some a)):m<=i/\l[i - m]?=some (some a):=by
 by_cases hi:m<=i
 ·rw[Lx (by rw[KP];exact hi),KP] at h;exact⟨hi,h⟩
 ·rw[L0 (by rw[KP];omega),MJ] at h;split at h<;>cases h
theorem xg{α:Type}{l:List (Option α)}{m i:Nat}(hi:m<=i):(Lh m (none:Option α)++l)[i]?=l[i - m]?:=by
 rw[Lx (by rw[KP];exact hi),KP]
theorem Rep.up(r:Rep K B G I H U Γ)(m:Nat):Rep K (bUp m B) G I H (Lh m none++U) (Lh m none++Γ) where
 iH:=r.iH
 gH:=r.gH
 len:=by rw[KJ,KJ,KP,KP,r.len]
 slot:=λi q e=>by
  obtain⟨hi,e1⟩:=rJ e;obtain⟨v,e2,e3⟩:=r.slot _ q e1;exact⟨v,by rw[xg hi];exact e2,e3⟩
 dist:=λi j q q' v e e' mm jD s1 s2=>by
  obtain⟨hi,e1⟩:=rJ e;obtain⟨hj,e2⟩:=rJ e';have:=r.dist _ _ q q' v e1 e2 mm jD (rJ s1).2 (rJ s2).2;omega
 bor:=λi ds e=>by
  obtain⟨hi,e1⟩:=rJ e;rw[xg hi,r.bor _ ds e1];unfold bUp;rw[if_neg (by omega)]
theorem Rep.down(r:Rep K (bUp m B) G I H au ah)(hs:au.drop m=U):Rep K B G I H U (ah.drop m):=by
 subst hs
 exact {
  iH:=r.iH,gH:=r.gH
  len:=by rw[L3,L3,r.len]
  slot:=λi q e=>by
   rw[Nd] at e;obtain⟨v,e2,e3⟩:=r.slot _ q e;exact⟨v,by rw[Nd];exact e2,e3⟩
  dist:=λi j q q' v e e' mm jD s1 s2=>by
   rw[Nd] at e e' s1 s2;have:=r.dist _ _ q q' v e e' mm jD s1 s2;omega
  bor:=λi ds e=>by
   rw[Nd] at e ⊢;rw[r.bor _ ds e];unfold bUp;rw[if_neg (by omega)]
   congr 1
   omega }
theorem Rep.guard(r:Rep K B G I H U Γ){p:h_}(h:H p=none)(o:HO):Rep K B (upd G p o) I (upd H p o) U Γ where
 iH:=r.iH.trans (pQ h o)
 gH:=AJ r.gH o
 len:=r.len
 slot:=λi q e=>by
  obtain⟨v,e1,e2⟩:=r.slot i q e;refine⟨v,e1,?_⟩
  have mt:∀ds,Mt K G I H ds v->Mt K (upd G p o) I (upd H p o) ds v:=λds hh=>by
   obtain⟨p2,xs,h1,h2,h3,h4,h5⟩:=hh;have ne:p2≠p:=qi h2 h;exact⟨p2,xs,h1,by rw[po ne];exact h2,h3,by rw[po ne];exact h4,h5⟩
  cases q with
  | val d=>exact e2
  | dic ds =>
   obtain⟨p2,xs,h1,h2,h3,h4,h5⟩:=e2;have ne:p2≠p:=qi h2 h;exact⟨p2,xs,h1,by rw[po ne];exact h2,h3,by rw[po ne];exact h4,h5⟩
  | own ds=>exact mt ds e2
  | bor ds=>exact mt ds e2
  | tfr ds=>exact e2.elim
  | fro ds =>
   obtain⟨p2,xs,f1,f2,f3,f4⟩:=e2;have ne:p2≠p:=qi (r.iH _ _ f2) h;exact⟨p2,xs,f1,f2,by rw[po ne];exact f3,f4⟩
 dist:=r.dist
 bor:=r.bor
theorem Rep.reguard{p:h_}{o':HO}(r:Rep K B (upd G p o) I H U Γ)(hi:I p=none):Rep K B (upd G p o') I (upd H p o') U Γ where
 iH:=λb u q=>by
  have ne:b≠p:=λz=>by subst z;rw[hi] at q;cases q
  rw[po ne];exact r.iH b u q
 gH:=λb u q=>by
  by_cases e:b=p
  ·subst e;rw[pA] at q ⊢;exact q
  ·rw[po e] at q ⊢;exact r.gH b u (by rw[po e];exact q)
 len:=r.len
 slot:=λi q e=>by
  obtain⟨v,e1,e2⟩:=r.slot i q e;refine⟨v,e1,?_⟩
  have mt:∀ds,Mt K (upd G p o) I H ds v->Mt K (upd G p o') I (upd H p o') ds v:=λds hh=>by
   obtain⟨p2,xs,h1,h2,h3,h4,h5⟩:=hh;have ne:p2≠p:=λz=>by subst z;rw[pA] at h4;cases h4
   rw[po ne] at h4;exact⟨p2,xs,h1,by rw[po ne];exact h2,h3,by rw[po ne];exact h4,h5⟩
  cases q with
  | val d=>exact e2
  | dic ds =>
   obtain⟨p2,xs,h1,h2,h3,h4,h5⟩:=e2;have ne:p2≠p:=λz=>by subst z;rw[pA] at h4;cases h4
   rw[po ne] at h4;exact⟨p2,xs,h1,by rw[po ne];exact h2,h3,by rw[po ne];exact h4,h5⟩
  | own ds=>exact mt ds e2
  | bor ds=>exact mt ds e2
  | tfr ds=>exact e2.elim
  | fro ds =>
   obtain⟨p2,xs,f1,f2,f3,f4⟩:=e2;have ne:p2≠p:=λz=>by rw[z,hi] at f2;cases f2
   rw[po ne] at f3;exact⟨p2,xs,f1,f2,by rw[po ne];exact f3,f4⟩
 dist:=r.dist
 bor:=r.bor
theorem Rep.unguard{p:h_}(r:Rep K B (upd G p o) I H U Γ)(hg:G p=none):Rep K B G I H U Γ/\Apart U Γ p:=by
 have ap:Apart U Γ p:=λj q e mm s=>by
  obtain⟨v,e1,e2⟩:=r.slot j q e;obtain⟨p2,xs,h1,h2,h3,h4⟩:=e2.mt mm;rw[e1,h1] at s;cases s;rw[pA] at h4;cases h4
 refine⟨{ iH:=r.iH,gH:=(pQ hg o).trans r.gH,len:=r.len,slot:=λi q e=>?_,dist:=r.dist,bor:=r.bor },ap⟩;obtain⟨v,e1,e2⟩:=r.slot i q e;refine⟨v,e1,?_⟩
 have mt:∀ds,Mt K (upd G p o) I H ds v->Mt K G I H ds v:=λds hh=>by
  obtain⟨p2,xs,h1,h2,h3,h4,h5⟩:=hh;have ne:p2≠p:=λz=>by subst z;rw[pA] at h4;cases h4
  rw[po ne] at h4;exact⟨p2,xs,h1,h2,h3,h4,h5⟩
 cases q with
 | val d=>exact e2
 | dic ds =>
  obtain⟨p2,xs,h1,h2,h3,h4,h5⟩:=e2;have ne:p2≠p:=λz=>by subst z;rw[pA] at h4;cases h4
  rw[po ne] at h4;exact⟨p2,xs,h1,h2,h3,h4,h5⟩
 | own ds=>exact mt ds e2
 | bor ds=>exact mt ds e2
 | tfr ds=>exact e2.elim
 | fro ds =>
  obtain⟨p2,xs,f1,f2,f3,f4⟩:=e2;have ne:p2≠p:=λz=>by rw[z,pA] at f3;cases f3
  rw[po ne] at f3;exact⟨p2,xs,f1,f2,f3,f4⟩
theorem Grow.unguard{p:h_}(g:Grow (upd G p o) I I'):Grow G I I':=⟨g.up,λb u q=>by
 rcases g.new b u q with z | z
 ·exact .inl z
 ·by_cases e:b=p
  ·subst e;rw[pA] at z;cases z
  ·rw[po e] at z;exact .inr z⟩
theorem Grow.keepsOut{p:h_}(g:Grow (upd G p o) I I')(hi:I p=none):I' p=none:=by
 cases e:I' p with
 | none=>rfl
 | some u =>
  rcases g.new p u e with z | z
  ·rw[hi] at z;cases z
  ·rw[pA] at z;cases z
end
section
variable{B:BB}{bI:KQ}{N':List Str}
def TDs(X:Cx)(B:BB)(bp:List KQ)(g:M Bool):Prop:=PTs X bp (tTD X.K B g)
theorem sd:TDs X B [] (ret true):=λaa s U H Q I h=>HL aa s U H Q I (by
 obtain⟨G,I,Γ,b,ah,r,e1,k⟩:=h;cases e1
 exact k _ _ r (Grow.refl _ _))
theorem rN{c:KQ}{g:M Bool}(h:TD X B c g):TDs X B [c] g:=GN h
theorem yB{K:PySem.W.Frag}:∀U H Q,tO K B (compO m it aE ts el) U H Q->tComp m (tI K B it) (tGD K (bUp m B) m aE) (tTD K (bUp m B) ts) (tD K (bUp m B) el) U H Q:=λU H Q q=>by
 obtain⟨G,I,Γ,rs,ah,r,e1,k⟩:=q;obtain⟨ds,ae,e2,e3⟩:=oK e1;by_cases fm:ds.length<=lim
 case neg=>rw[if_neg fm] at e3;cases e3
 rw[if_pos fm] at e3;obtain⟨cU,e4,rfl⟩:=DG e3;refine⟨G,I,Γ,ds,ae,r,e2,λJ H1 I1 r1 g1 y p hp=>?_⟩;have gp:=r1.gFree hp;have ip:=r1.iFree hp
 refine⟨λi n au H'=>∃ao ad I2 aq ax,Rep K (bUp m B) (upd G p (.lst ao)) I2 H' au aq/\Grow G I1 I2/\I2 p=none/\IsA K I2 ad ao/\au.drop m=U/\compM aE ts el (ds.drop i) aq=some (ax,cU)/\ad++ax=rs/\ad.length<=i/\i<=ds.length/\n=ds.length - i,
  ⟨ds.length,[],[],I1,_,rs,(r1.up m).guard hp _,Grow.refl _ _,ip,IsA.nil,by rw[MO (by simp),Mv (by simp),Pw],by simpa using e4,rfl,K' _,K' _,rfl⟩,?_⟩
 rintro i n bb H2 ⟨ao,ad,I2,aq,ax,r2,g2,jE,ha,hs,e5,rfl,o4,hi,rfl⟩;obtain⟨yg,ys⟩:=y i H2 (g2.up.trans r2.iH);by_cases bH:i < ds.length
 ·have hd:ds.drop i=ds[i]::ds.drop (i+1):=KC bH;obtain⟨go,yld⟩:=yg ds[i] (i_ bH);rw[hd,compM] at e5;obtain⟨u,aP,e6,e7⟩:=oK e5;obtain⟨b,bn,e8,e9⟩:=oK e7;refine .inr ⟨go,λx H3 hy=>?_⟩
  have main:∀I3,Rep K (bUp m B) (upd G p (.lst ao)) I3 H3 bb aq->Grow (upd G p (.lst ao)) I2 I3->Is K I3 ds[i] x->tGD K (bUp m B) m aE x bb H3 λbb H3=>tTD K (bUp m B) ts bb H3 λb H4 =>
    if b=true then tD K (bUp m B) el bb H4 λy H5=>∃ao,H5 p=some (.lst ao)/\ao.length < x_/\∃n',n' < ds.length - i/\∃acc_1 ad_1 I2 aq rest_1,Rep K (bUp m B) (upd G p (.lst acc_1)) I2 (upd H5 p (.lst (ao++[y]))) bb aq/\Grow G I1 I2/\I2 p=none/\IsA K I2 ad_1 acc_1/\bb.drop m=U/\compM aE ts el (ds.drop (i+1)) aq=some (rest_1,cU)/\ad_1++rest_1=ad++ax/\ad_1.length<=i+1/\i+1<=ds.length/\n'=ds.length - (i+1)
    else ∃n',n' < ds.length - i/\∃ao ad_1 I2 aq rest_1,Rep K (bUp m B) (upd G p (.lst ao)) I2 H4 bb aq/\Grow G I1 I2/\I2 p=none/\IsA K I2 ad_1 ao/\bb.drop m=U/\compM aE ts el (ds.drop (i+1)) aq=some (rest_1,cU)/\ad_1++rest_1=ad++ax/\ad_1.length<=i+1/\i+1<=ds.length/\n'=ds.length - (i+1):=by
   intro I3 r3 g3 hx;refine⟨_,I3,aq,ds[i],aP,r3,hx,e6,λkJ H4 I4 r4 g4 nA=>⟨_,I4,aP,b,bn,r4,e8,λH5 I5 r5 g5=>?_⟩⟩;have im:=g3.trans (g4.trans g5);have fD:kJ.drop m=U:=nA.trans hs;cases b with
   | false =>
    refine iteF ⟨ds.length - (i+1),by omega,ao,ad,I5,bn,ax,r5,g2.trans im.unguard,im.keepsOut jE,ha.mono im.up,fD,by simpa using e9,rfl,by omega,bH,rfl⟩
   | true =>
    simp only[if_true] at e9;obtain⟨xd,gr,f1,f2⟩:=oK e9;obtain⟨rr,gw,f3,f4⟩:=oK f2;cases f4;refine iteT ⟨_,I5,bn,xd,gr,r5,f1,λyv H6 I6 r6 g6 nB=>⟨ao,r6.gH _ _ pA,?_,ds.length - (i+1),by omega,ao++[yv],ad++[xd],I6,gr,rr,?_⟩⟩
    ·rw[←ha.length];have h1:lim < x_:=by rw[Lb];decide
     omega
    ·have jF:=im.trans g6;have kW:=jF.keepsOut jE;exact⟨r6.reguard kW,g2.trans jF.unguard,kW,IsA.append (ha.mono jF.up) (IsA.cons nB IsA.nil),fD,f3,by rw[LC];rfl,by rw[KJ,PU];omega,bH,rfl⟩
  rcases yld x H3 hy with⟨rfl,hx⟩ | ⟨p2,es,xs,dO,rfl,eM,rfl,hx⟩
  ·exact main I2 r2 (Grow.refl _ _) (hx.mono g2.up)
  ·refine main _ (r2.alloc eM _) (r2.growAlloc eM _) ?_;rw[dO];exact Is.tup (SqT.of pA) ((hx.mono g2.up).mono (pQ (r2.iFree eM) _))
 ·have eN:i=ds.length:=by omega
  subst eN;rw[NX] at e5;cases e5;rw[LD] at k;refine .inl ⟨ys (B_ _),?_⟩;have rd:=Rep.down r2 hs;obtain⟨ru,ap⟩:=rd.unguard gp;exact k p ao H2 I2 ru (g1.trans g2) (r2.gH _ _ pA) jE gp ap ha
theorem qx(S:CompScope X.env.scope scope X.N N' m)(hc:X.calm=true)(hi:ITD X B tg iter it)(hg:∀C s H ex,GD (cxC X scope N' C s H ex) (bUp m B) m tg aE)(ht:∀C s H ex,TDs (cxC X scope N' C s H ex) (bUp m B) bp ts)(he:∀C s H ex,ED (cxC X scope N' C s H ex) (bUp m B) bI el)(hs:∀x,L8 iter X.env x=pure x:=by intros;rfl):EO X B (.ListComp bI [⟨tg,iter,bp,0⟩] scope pos) (compO m it aE ts el):=PE.imp (BU (g:=tGD X.K (bUp m B) m aE) (tt:=tTD X.K (bUp m B) ts) (te:=tD X.K (bUp m B) el) S hc hi hg ht he hs) yB
theorem BD{i:Nat}(S:CompScope X.env.scope scope X.N N' m)(hc:X.calm=true)(hN:X.N.Nodup)(hi:ITD X B tg iter it)(hg:∀C s H ex,GD (cxC X scope N' C s H ex) (bUp m B) m tg aE)(ht:∀C s H ex,TDs (cxC X scope N' C s H ex) (bUp m B) bp ts)(he:∀C s H ex,ED (cxC X scope N' C s H ex) (bUp m B) bI el)(bY:X.N[i]?=some y:=by rfl)(hy:X.env.scope.names.lookup y=some .local:=by rfl)(jC:Mo (.ListComp bI [⟨tg,iter,bp,0⟩] scope pos) (some (.Name y py)) dZ.line X.env=pure true:=by rfl)(hs:∀x,L8 iter X.env x=pure x:=by intros;rfl):SD X B (.Assign [.Name y py] (.ListComp bI [⟨tg,iter,bp,0⟩] scope pos) dZ) (setV i (frz (compO m it aE ts el))):=PS.imp (Fp (g:=tGD X.K (bUp m B) m aE) (tt:=tTD X.K (bUp m B) ts) (te:=tD X.K (bUp m B) el) S hc hN bY hy hi hg ht he jC hs) λE U H q=>by
 obtain⟨G,I,Γ,f,ah,r,e1,k⟩:=q;obtain⟨d1,ae,e2,e3⟩:=oK e1;obtain⟨d2,aq,e4,e5⟩:=oK e3;cases e5;obtain⟨hl,rfl⟩:=sw e4;obtain⟨ds,aP,e6,e7⟩:=oK e2;cases e7;refine yB U H _ ⟨G,I,Γ,ds,_,r,e6,λp xs H1 I1 r1 g1 h1 h2 h3 h4 h5=>?_⟩;refine k _ H1 _ ((r1.freeze h1 h2 h4).store (by rw[r1.len];exact hl) (Is.lst (RdK.of pA) (h5.mono (pQ h2 _))) (λm=>nomatch m) (λ_ z=>nomatch z)) (g1.trans (growFreeze h2 h3))
end
mutual
noncomputable def deq:D->D->Bool
 | .non,.non=>true
 | .bl a,.bl b=>a == b
 | .bl a,.int j=>(if a then(1:Int) else 0) == j
 | .int i,.bl b=>i == (if b then(1:Int) else 0)
 | .int i,.int j=>i == j
 | .str x,.str y=>x == y
 | .tup xs,.tup ys=>deqA xs ys
 | .lst xs,.lst ys=>deqA xs ys
 | .dct _,.dct _=>true
 | _,_=>false
noncomputable def deqA:List D->List D->Bool
 | [],[]=>true
 | x::xs,y::ys=>deq x y&&deqA xs ys
 | _,_=>false
end
mutual
noncomputable def dep:D->Nat
 | .tup xs=>depA xs+1
 | .lst xs=>depA xs+1
 | .dct _=>1000
 | _=>0
noncomputable def depA:List D->Nat
 | []=>0
 | x::xs=>max (dep x) (depA xs)
end
mutual
theorem vA:∀a:D,deq a a=true
 | .non=>by rw[deq]
 | .bl b=>by rw[deq];exact beq_self_eq_true b
 | .int b=>by rw[deq];exact beq_self_eq_true b
 | .str b=>by rw[deq];exact beq_self_eq_true b
 | .tup xs=>by rw[deq];exact sD xs
 | .lst xs=>by rw[deq];exact sD xs
 | .dct _=>by rw[deq]
theorem sD:∀a:List D,deqA a a=true
 | []=>by rw[deqA]
 | x::xs=>by rw[deqA,vA x,sD xs];rfl
end
theorem qt:∀{xs:List D}{x:D},x∈xs->dep x<=depA xs
 | y::ys,x,h=>by
  rw[depA]
  rcases m_.mp h with rfl | h
  ·omega
  ·have:=qt h;omega
theorem tZ:∀(xs ys:List D),((Mm (min xs.length ys.length)).all (λj=>deq (xs.getD j .non) (ys.getD j .non))&&(xs.length == ys.length))=deqA xs ys
 | [],[]=>by rw[deqA];rfl
 | [],y::ys=>by rw[deqA]<;>simp
 | x::xs,[]=>by rw[deqA]<;>simp
 | x::xs,y::ys=>by
  have ih:=tZ xs ys;have e:min (x::xs).length (y::ys).length=min xs.length ys.length+1:=by simp only[Lc];omega
  rw[deqA,←ih,e,Px,R4,List.all_map]
  have e2:((x::xs).length == (y::ys).length)=(xs.length == ys.length):=by
   simp only[Lc];cases h:xs.length == ys.length
   ·simp at h ⊢;omega
   ·simp at h ⊢;omega
  rw[e2,Bool.and_assoc];rfl
theorem GJ{xs:List D}(h:xs.length≠ys.length):deqA xs ys=false:=by
 rw[←tZ];have:(xs.length == ys.length)=false:=by simpa using h
 rw[this,Bool.and_false]
section
variable{H:Hp}{s:d_}
theorem IsA.getU{K:PySem.W.Frag}(h:IsA K I ds xs)(r:Vals xs us)(hj:j < us.toArray.size):∃v,RelV v us.toArray[j]/\Is K I (ds.getD j .non) v:=by
 have h1:=h.length;have h2:=r.length;have jG:j < us.length:=by simpa using hj
 have hd:ds[j]?=some ds[j]:=i_ (by omega);obtain⟨v,e1,e2⟩:=h.get hd;obtain⟨u,e3,e4⟩:=r.get e1
 have e5:us.toArray[j]=u:=by
  rw[i_ jG] at e3;simpa using e3
 refine⟨v,by rw[e5];exact e4,?_⟩;rw[q_,hd];exact e2
theorem rdL{a:h_}{K:PySem.W.Frag}(h:RdK K H a xs):SqL K H a xs:=h.sq
mutual
theorem tq(I:Inv X aa U H s):∀{a b:D}{v:V},dep a < 1000->dep b < 1000->Is X.K H a v->Is X.K H b v->a=b
 | .non,b,v,da,db,h,h'=>by
  have e:=qz h;subst e;cases b<;>first | rfl | (simp[dep] at db;done) | (rw[Is] at h';obtain⟨_,_,e,_⟩:=h';cases e) | (rw[Is] at h';cases h')
 | .bl x,b,v,da,db,h,h'=>by
  have e:=qj h;subst e;cases b<;>first | (simp[dep] at db;done) | (rw[Is] at h';obtain⟨_,_,e,_⟩:=h';cases e) | (rw[Is] at h';cases h';rfl) | (rw[Is] at h';cases h')
 | .int x,b,v,da,db,h,h'=>by
  have e:=pq h;subst e;cases b<;>first | (simp[dep] at db;done) | (rw[Is] at h';obtain⟨_,_,e,_⟩:=h';cases e) | (rw[Is] at h';cases h';rfl) | (rw[Is] at h';cases h')
 | .str x,b,v,da,db,h,h'=>by
  have e:=qv h;subst e;cases b<;>first | (simp[dep] at db;done) | (rw[Is] at h';obtain⟨_,_,e,_⟩:=h';cases e) | (rw[Is] at h';cases h';rfl) | (rw[Is] at h';cases h')
 | .tup ds,b,v,da,db,h,h'=>by
  obtain⟨p,xs,rfl,h1,h2⟩:=pG h;cases b with
  | tup es =>
   obtain⟨p',bg,e,h3,h4⟩:=pG h';cases e;have:=I.tuple_inj h1 h3;subst this;rw[wB I (by rw[dep] at da;omega) (by rw[dep] at db;omega) h2 h4]
  | lst es =>
   obtain⟨p',bg,e,h3,h4⟩:=pF h';cases e;obtain⟨i1,_,t1,_⟩:=I.tuple h1;obtain⟨i2,_,t2,_⟩:=I.list (rdL h3);exact absurd rfl (ne_of_list_tuple t2.isList t1)
  | dct _=>simp[dep] at db
  | _=>rw[Is] at h';cases h'
 | .lst ds,b,v,da,db,h,h'=>by
  obtain⟨p,xs,rfl,h1,h2⟩:=pF h;cases b with
  | lst es =>
   obtain⟨p',bg,e,h3,h4⟩:=pF h';cases e;have:=I.list_inj (rdL h1) (rdL h3);subst this;rw[wB I (by rw[dep] at da;omega) (by rw[dep] at db;omega) h2 h4]
  | tup es =>
   obtain⟨p',bg,e,h3,h4⟩:=pG h';cases e;obtain⟨i1,_,t1,_⟩:=I.tuple h3;obtain⟨i2,_,t2,_⟩:=I.list (rdL h1);exact absurd rfl (ne_of_list_tuple t2.isList t1)
  | dct _=>simp[dep] at db
  | _=>rw[Is] at h';cases h'
 | .dct _,b,v,da,_,_,_=>by simp[dep] at da
theorem wB(I:Inv X aa U H s):∀{a b:List D}{v:List V},depA a < 1000->depA b < 1000->IsA X.K H a v->IsA X.K H b v->a=b
 | [],b,v,_,_,h,h'=>by
  have e:=h.nil_inv;subst e;cases b with
  | nil=>rfl
  | cons d r=>obtain⟨_,_,e,_⟩:=h'.cons_inv;cases e
 | d::ds,b,v,da,db,h,h'=>by
  obtain⟨x,r,rfl,h1,h2⟩:=h.cons_inv;cases b with
  | nil=>have:=h'.nil_inv;cases this
  | cons e es =>
   obtain⟨x',r',e',h3,h4⟩:=h'.cons_inv;cases e';rw[depA] at da db;rw[tq I (by omega) (by omega) h1 h3,wB I (by omega) (by omega) h2 h4]
end
open PySem.SeqAt in
theorem xy(I:Inv X aa U H s)(hu:A.units < MN){a b:D}{x y:V}{u v:b_}(da:dep a < 1000)(db:dep b < 1000)(ha:Is X.K H a x)(hb:Is X.K H b y)(ru:RelV x u)(rv:RelV y v)(ht:∀xs ys,a=.tup xs->b=.tup ys->RcAt A s u v (deq a b)/\Sq A s u v (deq a b)/\Rz A s u v (!deq a b))(hl:∀xs ys,a=.lst xs->b=.lst ys->RcAt A s u v (deq a b)/\Sq A s u v (deq a b)/\Rz A s u v (!deq a b)):RcAt A s u v (deq a b)/\Sq A s u v (deq a b)/\Rz A s u v (!deq a b):=by
 cases a with
 | dct _=>simp[dep] at da
 | non =>
  have e:=qz ha;subst e;cases ru;cases b with
  | dct _=>simp[dep] at db
  | non=>have e:=qz hb;subst e;cases rv;rw[deq];exact⟨.none_none,.same _,.none_none⟩
  | bl j=>have e:=qj hb;subst e;cases rv;rw[deq]<;>first | exact⟨.none_bool _,.none_bool _,.none_bool _⟩ | (intros;contradiction)
  | int j=>have e:=pq hb;subst e;obtain⟨t,rfl⟩:=rv;rw[deq]<;>first | exact⟨.none_int _ _,.none_int _ _,.none_int _ _⟩ | (intros;contradiction)
  | str j=>have e:=qv hb;subst e;obtain⟨t,rfl⟩:=rv;rw[deq]<;>first | exact⟨.none_str _ _,.none_str _ _,.none_str _ _⟩ | (intros;contradiction)
  | tup j =>
   obtain⟨p,xs,rfl,h1,h2⟩:=pG hb;cases rv;obtain⟨af,_,t,_⟩:=I.tuple h1;rw[deq]<;>first | exact⟨.none_tuple t hu,.none_tuple t hu,.none_tuple t hu⟩ | (intros;contradiction)
  | lst j =>
   obtain⟨p,xs,rfl,h1,h2⟩:=pF hb;cases rv;obtain⟨af,_,t,_⟩:=I.list (rdL h1);have t:=t.isList;rw[deq]<;>first | exact⟨.none_list t hu,.none_list t hu,.none_list t hu⟩ | (intros;contradiction)
 | bl i =>
  have e:=qj ha;subst e;cases ru;cases b with
  | dct _=>simp[dep] at db
  | non=>have e:=qz hb;subst e;cases rv;rw[deq]<;>first | exact⟨.bool_none _,.bool_none _,.bool_none _⟩ | (intros;contradiction)
  | bl j=>have e:=qj hb;subst e;cases rv;rw[deq];exact⟨.bool_bool _ _,.bool_bool _ _,.bool_bool _ _⟩
  | int j=>have e:=pq hb;subst e;obtain⟨t,rfl⟩:=rv;rw[deq];exact⟨.bool_int _ _ _,.bool_int _ _ _,.bool_int _ _ _⟩
  | str j=>have e:=qv hb;subst e;obtain⟨t,rfl⟩:=rv;rw[deq]<;>first | exact⟨.bool_str _ _ _,.bool_str _ _ _,.bool_str _ _ _⟩ | (intros;contradiction)
  | tup j =>
   obtain⟨p,xs,rfl,h1,h2⟩:=pG hb;cases rv;obtain⟨af,_,t,_⟩:=I.tuple h1;rw[deq]<;>first | exact⟨.bool_tuple _ t hu,.bool_tuple _ t hu,.bool_tuple _ t hu⟩ | (intros;contradiction)
  | lst j =>
   obtain⟨p,xs,rfl,h1,h2⟩:=pF hb;cases rv;obtain⟨af,_,t,_⟩:=I.list (rdL h1);have t:=t.isList;rw[deq]<;>first | exact⟨.bool_list _ t hu,.bool_list _ t hu,.bool_list _ t hu⟩ | (intros;contradiction)
 | int i =>
  have e:=pq ha;subst e;obtain⟨t0,rfl⟩:=ru;cases b with
  | dct _=>simp[dep] at db
  | non=>have e:=qz hb;subst e;cases rv;rw[deq]<;>first | exact⟨.int_none _ _,.int_none _ _,.int_none _ _⟩ | (intros;contradiction)
  | bl j=>have e:=qj hb;subst e;cases rv;rw[deq];exact⟨.int_bool _ _ _,.int_bool _ _ _,.int_bool _ _ _⟩
  | int j=>have e:=pq hb;subst e;obtain⟨t,rfl⟩:=rv;rw[deq];exact⟨.int_int _ _ _ _,.int_int _ _ _ _,.int_int _ _ _ _⟩
  | str j=>have e:=qv hb;subst e;obtain⟨t,rfl⟩:=rv;rw[deq]<;>first | exact⟨.int_str _ _ _ _,.int_str _ _ _ _,.int_str _ _ _ _⟩ | (intros;contradiction)
  | tup j =>
   obtain⟨p,xs,rfl,h1,h2⟩:=pG hb;cases rv;obtain⟨af,_,t,_⟩:=I.tuple h1;rw[deq]<;>first | exact⟨.int_tuple _ _ t hu,.int_tuple _ _ t hu,.int_tuple _ _ t hu⟩ | (intros;contradiction)
  | lst j =>
   obtain⟨p,xs,rfl,h1,h2⟩:=pF hb;cases rv;obtain⟨af,_,t,_⟩:=I.list (rdL h1);have t:=t.isList;rw[deq]<;>first | exact⟨.int_list _ _ t hu,.int_list _ _ t hu,.int_list _ _ t hu⟩ | (intros;contradiction)
 | str i =>
  have e:=qv ha;subst e;obtain⟨t0,rfl⟩:=ru;cases b with
  | dct _=>simp[dep] at db
  | non=>have e:=qz hb;subst e;cases rv;rw[deq]<;>first | exact⟨.str_none _ _,.str_none _ _,.str_none _ _⟩ | (intros;contradiction)
  | bl j=>have e:=qj hb;subst e;cases rv;rw[deq]<;>first | exact⟨.str_bool _ _ _,.str_bool _ _ _,.str_bool _ _ _⟩ | (intros;contradiction)
  | int j=>have e:=pq hb;subst e;obtain⟨t,rfl⟩:=rv;rw[deq]<;>first | exact⟨.str_int _ _ _ _,.str_int _ _ _ _,.str_int _ _ _ _⟩ | (intros;contradiction)
  | str j=>have e:=qv hb;subst e;obtain⟨t,rfl⟩:=rv;rw[deq];exact⟨.str_str _ _ _ _,.str_str _ _ _ _,.str_str _ _ _ _⟩
  | tup j =>
   obtain⟨p,xs,rfl,h1,h2⟩:=pG hb;cases rv;obtain⟨af,_,t,_⟩:=I.tuple h1;rw[deq]<;>first | exact⟨.str_tuple _ _ t hu,.str_tuple _ _ t hu,.str_tuple _ _ t hu⟩ | (intros;contradiction)
  | lst j =>
   obtain⟨p,xs,rfl,h1,h2⟩:=pF hb;cases rv;obtain⟨af,_,t,_⟩:=I.list (rdL h1);have t:=t.isList;rw[deq]<;>first | exact⟨.str_list _ _ t hu,.str_list _ _ t hu,.str_list _ _ t hu⟩ | (intros;contradiction)
 | tup i =>
  obtain⟨q,ys,rfl,g1,g2⟩:=pG ha;cases ru;obtain⟨bh,_,t',_⟩:=I.tuple g1;cases b with
  | dct _=>simp[dep] at db
  | non=>have e:=qz hb;subst e;cases rv;rw[deq]<;>first | exact⟨.tuple_none t' hu,.tuple_none t' hu,.tuple_none t' hu⟩ | (intros;contradiction)
  | bl j=>have e:=qj hb;subst e;cases rv;rw[deq]<;>first | exact⟨.tuple_bool _ t' hu,.tuple_bool _ t' hu,.tuple_bool _ t' hu⟩ | (intros;contradiction)
  | int j=>have e:=pq hb;subst e;obtain⟨t,rfl⟩:=rv;rw[deq]<;>first | exact⟨.tuple_int _ _ t' hu,.tuple_int _ _ t' hu,.tuple_int _ _ t' hu⟩ | (intros;contradiction)
  | str j=>have e:=qv hb;subst e;obtain⟨t,rfl⟩:=rv;rw[deq]<;>first | exact⟨.tuple_str _ _ t' hu,.tuple_str _ _ t' hu,.tuple_str _ _ t' hu⟩ | (intros;contradiction)
  | tup j=>exact ht _ _ rfl rfl
  | lst j =>
   obtain⟨p,xs,rfl,h1,h2⟩:=pF hb;cases rv;obtain⟨af,_,t,_⟩:=I.list (rdL h1);have t:=t.isList;rw[deq]<;>first | exact⟨.tuple_list t' t hu,.tuple_list t' t hu,.tuple_list t' t hu⟩ | (intros;contradiction)
 | lst i =>
  obtain⟨q,ys,rfl,g1,g2⟩:=pF ha;cases ru;obtain⟨bh,_,t',_⟩:=I.list (rdL g1);have t':=t'.isList;cases b with
  | dct _=>simp[dep] at db
  | non=>have e:=qz hb;subst e;cases rv;rw[deq]<;>first | exact⟨.list_none t' hu,.list_none t' hu,.list_none t' hu⟩ | (intros;contradiction)
  | bl j=>have e:=qj hb;subst e;cases rv;rw[deq]<;>first | exact⟨.list_bool _ t' hu,.list_bool _ t' hu,.list_bool _ t' hu⟩ | (intros;contradiction)
  | int j=>have e:=pq hb;subst e;obtain⟨t,rfl⟩:=rv;rw[deq]<;>first | exact⟨.list_int _ _ t' hu,.list_int _ _ t' hu,.list_int _ _ t' hu⟩ | (intros;contradiction)
  | str j=>have e:=qv hb;subst e;obtain⟨t,rfl⟩:=rv;rw[deq]<;>first | exact⟨.list_str _ _ t' hu,.list_str _ _ t' hu,.list_str _ _ t' hu⟩ | (intros;contradiction)
  | lst j=>exact hl _ _ rfl rfl
  | tup j =>
   obtain⟨p,xs,rfl,h1,h2⟩:=pG hb;cases rv;obtain⟨af,_,t,_⟩:=I.tuple h1;rw[deq]<;>first | exact⟨.list_tuple t' t hu,.list_tuple t' t hu,.list_tuple t' t hu⟩ | (intros;contradiction)
open PySem.SeqAt in
theorem sS(I:Inv X aa U H s):∀(n:Nat) (A:Mc),A.units+n < MN->n < 900->∀(a b:D) (x y:V) (u v:b_),dep a<=n/\dep b<=n->Is X.K H a x->Is X.K H b y->RelV x u->RelV y v->RcAt A s u v (deq a b)/\Sq A s u v (deq a b)/\Rz A s u v (!deq a b):=by
 intro n
 induction n with
 | zero =>
  intro A hu hn a b x y u v hd ha hb ru rv;refine xy I (by omega) (by omega) (by omega) ha hb ru rv (λxs ys e1 e2=>?_) (λxs ys e1 e2=>?_)<;>(subst e1;subst e2;rw[dep,dep] at hd;omega)
 | succ n ih =>
  intro A hu hn a b x y u v hd ha hb ru rv;have eR:A.in1.units+n < MN:=by show A.units+1+n < MN;omega
  refine xy I (by omega) (by omega) (by omega) ha hb ru rv (λds es e1 e2=>?_) (λds es e1 e2=>?_)
  ·subst e1;subst e2;obtain⟨p,xs,rfl,h1,h2⟩:=pG ha;obtain⟨q,ys,rfl,h3,h4⟩:=pG hb;cases ru;cases rv;obtain⟨af,r1,t1,_⟩:=I.tuple h1;obtain⟨bh,r2,t2,_⟩:=I.tuple h3;have l1:af.toArray.size=ds.length:=by rw[l_,←r1.length,h2.length]
   have l2:bh.toArray.size=es.length:=by rw[l_,←r2.length,h4.length]
   have hk:∀j (g1:j < af.toArray.size) (g2:j < bh.toArray.size),Sq A.in1 s af.toArray[j] bh.toArray[j] (deq (ds.getD j .non) (es.getD j .non)):=λj g1 g2=>by
    obtain⟨v1,q1,q2⟩:=h2.getU r1 g1;obtain⟨v2,q3,q4⟩:=h4.getU r2 g2;refine(ih A.in1 eR (by omega) _ _ _ _ _ _ ?_ q2 q4 q1 q3).2.1
    have m1:ds.getD j .non∈ds:=by
     rw[q_,i_ (by omega)];exact LG _
    have m2:es.getD j .non∈es:=by
     rw[q_,i_ (by omega)];exact LG _
    have k1:=qt m1;have k2:=qt m2;rw[dep,dep] at hd;omega
   have re:((Mm (min af.toArray.size bh.toArray.size)).all (λj=>deq (ds.getD j .non) (es.getD j .non))&&af.toArray.size == bh.toArray.size)=deqA ds es:=by
    rw[l1,l2];exact tZ ds es
   have R1:=RcAt.tuples (A:=A) t1 t2 (by omega) hk;have R3:=Rz.tuples (A:=A) t1 t2 (by omega) hk;rw[re] at R1 R3;have ed:deq (.tup ds) (.tup es)=deqA ds es:=by rw[deq]
   rw[ed];refine⟨R1,?_,R3⟩;by_cases fE:p=q
   ·subst fE;have:=tq I (by omega) (by omega) ha hb;cases this;rw[sD];exact .same _
   ·exact .of_refs fE R1
  ·subst e1;subst e2;obtain⟨p,xs,rfl,h1,h2⟩:=pF ha;obtain⟨q,ys,rfl,h3,h4⟩:=pF hb;cases ru;cases rv;obtain⟨af,r1,t1,_⟩:=I.list (rdL h1);obtain⟨bh,r2,t2,_⟩:=I.list (rdL h3);have t1:=t1.isList;have t2:=t2.isList;have l1:af.toArray.size=ds.length:=by rw[l_,←r1.length,h2.length]
   have l2:bh.toArray.size=es.length:=by rw[l_,←r2.length,h4.length]
   have ed:deq (.lst ds) (.lst es)=deqA ds es:=by rw[deq]
   rw[ed]
   have fin:RcAt A s (.ref p) (.ref q) (deqA ds es)/\Rz A s (.ref p) (.ref q) (!deqA ds es):=by
    by_cases hl:ds.length=es.length
    ·have hk:∀j (g1:j < af.toArray.size) (g2:j < bh.toArray.size),Sq A.in1 s af.toArray[j] bh.toArray[j] (deq (ds.getD j .non) (es.getD j .non)):=λj g1 g2=>by
      obtain⟨v1,q1,q2⟩:=h2.getU r1 g1;obtain⟨v2,q3,q4⟩:=h4.getU r2 g2;refine(ih A.in1 eR (by omega) _ _ _ _ _ _ ?_ q2 q4 q1 q3).2.1
      have m1:ds.getD j .non∈ds:=by
       rw[q_,i_ (by omega)];exact LG _
      have m2:es.getD j .non∈es:=by
       rw[q_,i_ (by omega)];exact LG _
      have k1:=qt m1;have k2:=qt m2;rw[dep,dep] at hd;omega
     have re:(Mm af.toArray.size).all (λj=>deq (ds.getD j .non) (es.getD j .non))=deqA ds es:=by
      rw[←tZ ds es,l1,hl,Nat.min_self,beq_self_eq_true,Bool.and_true]
     have R1:=RcAt.lists (A:=A) t1 t2 (by omega) (by omega) hk;have R3:=Rz.lists (A:=A) t1 t2 (by omega) (by omega) hk;rw[re] at R1 R3;exact⟨R1,R3⟩
    ·rw[GJ hl];have gy:(af.toArray.size != bh.toArray.size)=true:=by rw[l1,l2];simpa using hl
     exact⟨.lists_lengths t1 t2 gy (by omega),.lists_lengths t1 t2 gy (by omega)⟩
   refine⟨fin.1,?_,fin.2⟩;by_cases fE:p=q
   ·subst fE;have:=tq I (by omega) (by omega) ha hb;cases this;rw[sD];exact .same _
   ·exact .of_refs fE fin.1
noncomputable def rEqD(K:PySem.W.Frag)(neg:Bool):R2:=λx y H Q=>∃a b,Is K H a x/\Is K H b y/\(dep a<=100/\dep b<=100)/\Q (.bl (if neg then !deq a b else deq a b)) H
theorem yj(hu:X.A.units+100 < MN):OpR X (Mh .Eq) (rEqD X.K false):=by
 intro aa s U H x y v u Q I rx ry h;obtain⟨a,b,h1,h2,h3,q⟩:=h;exact(sS I 100 X.A hu (by decide) a b x y v u h3 h1 h2 rx ry).1 _ _ _ _ ⟨.bl (deq a b),H,I,rfl,q⟩
theorem zI(hu:X.A.units+100 < MN):OpR X (Mh .NotEq) (rEqD X.K true):=by
 intro aa s U H x y v u Q I rx ry h;obtain⟨a,b,h1,h2,h3,q⟩:=h;exact(sS I 100 X.A hu (by decide) a b x y v u h3 h1 h2 rx ry).2.2 _ _ _ _ ⟨.bl (!deq a b),H,I,rfl,q⟩
noncomputable def rInD(K:PySem.W.Frag)(neg:Bool):R2:=λx y H Q=>∃a ds,Is K H a x/\(Is K H (.lst ds) y\/Is K H (.tup ds) y)/\(dep a<=99/\depA ds<=99)/\Q (.bl (if neg then !ds.any (λd=>deq d a) else ds.any λd=>deq d a)) H
theorem Dv{K:PySem.W.Frag}{f:D->Bool}{e:b_->Bool}(h:IsA K H ds xs)(r:Vals xs us)(hf:∀d v u,d∈ds->Is K H d v->RelV v u->e u=f d):us.any e=ds.any f:=by
 induction ds generalizing xs us with
 | nil=>have:=h.nil_inv;subst this;cases r;rfl
 | cons d ds ih =>
  obtain⟨x,xr,rfl,h1,h2⟩:=h.cons_inv;cases r with
  | cons r1 r2 =>
   rw[Rc,Rc,hf d _ _ g_ h1 r1,ih h2 r2 λd v u hd=>hf d v u (j_ _ hd)]
theorem Fv(hu:X.A.units+100 < MN){aa:List (h_×Obj)}{U:L2.St}{H:Hp}{s:d_}{x y:V}{v u:b_}{Q:VK}(I:Inv X aa U H s)(rx:RelV x v)(ry:RelV y u)(h:rInD X.K neg x y H Q):
  ∃(af:Array b_) (e:b_->Bool) (l:h_),u=.ref l/\(s.heap.IsList l af\/s.heap.IsTuple l af)/\(∀z,z∈af->PySem.SeqAt.EqAt X.A.in1 s z v (e z))/\Q (.bl (if neg then !af.any e else af.any e)) H:=by
 obtain⟨a,ds,h1,h2,h3,q⟩:=h;have eR:X.A.in1.units+99 < MN:=by show X.A.units+1+99 < MN;omega
 -- every item has af data: e reads it jH
 have key:∀(xs:List V) (af:List b_),IsA X.K H ds xs->Vals xs af->∃e:b_->Bool,(∀z,z∈af.toArray->PySem.SeqAt.EqAt X.A.in1 s z v (e z))/\af.toArray.any e=ds.any λd=>deq d a:=by
  intro xs af ha r
  have ex:∀z:b_,∃b:Bool,∀d w,d∈ds->Is X.K H d w->RelV w z->b=deq d a:=λz=>by
   by_cases hz:∃d w,d∈ds/\Is X.K H d w/\RelV w z
   ·obtain⟨d,w,hd,hi,hr⟩:=hz;refine⟨deq d a,λd' w' br bY nC=>?_⟩;have:=RelV.inj hr nC;subst this;rw[tq I (by have:=qt hd;omega) (by have:=qt br;omega) hi bY]
   ·exact⟨false,λd w hd hi hr=>absurd ⟨d,w,hd,hi,hr⟩ hz⟩
  refine⟨λz=>(ex z).choose,λz hz=>?_,?_⟩
  ·have nD:z∈af:=by simpa using hz
   obtain⟨j,hj,ej⟩:=Ob.mp nD;obtain⟨w,q1,q2⟩:=ha.getU r (j:=j) (by simpa using hj)
   have kX:RelV w z:=by
    have:af.toArray[j]'(by simpa using hj)=z:=by simpa using ej
    rw[←this];exact q1
   have hm:ds.getD j .non∈ds:=by
    have l1:=ha.length;have l2:=r.length;rw[q_,i_ (by omega)];exact LG _
   show PySem.SeqAt.EqAt X.A.in1 s z v (ex z).choose;rw[(ex z).choose_spec _ w hm q2 kX];exact(sS I 99 X.A.in1 eR (by decide) _ a w x z v ⟨by have:=qt hm;omega,h3.1⟩ q2 h1 kX rx).2.1
  ·have:af.toArray.any (λz=>(ex z).choose)=af.any (λz=>(ex z).choose):=by simp
   rw[this];exact Dv ha r λd w z hd hi hr=>(ex z).choose_spec d w hd hi hr
 rcases h2 with h2 | h2
 ·obtain⟨l,xs,rfl,g1,g2⟩:=pF h2;cases ry;obtain⟨af,r,t,_⟩:=I.list (rdL g1);obtain⟨e,k1,k2⟩:=key xs af g2 r;exact⟨af.toArray,e,l,rfl,.inl t.isList,k1,by rw[k2];exact q⟩
 ·obtain⟨l,xs,rfl,g1,g2⟩:=pG h2;cases ry;obtain⟨af,r,t,_⟩:=I.tuple g1;obtain⟨e,k1,k2⟩:=key xs af g2 r;exact⟨af.toArray,e,l,rfl,.inr t,k1,by rw[k2];exact q⟩
theorem C'(hu:X.A.units+100 < MN):OpR X (Mh .NotIn) (rInD X.K true):=by
 intro aa s U H x y v u Q I rx ry h;obtain⟨af,e,l,rfl,hl,he,q⟩:=Fv hu I rx ry h
 rcases hl with hl | hl
 ·exact PySem.SeqAt.notIn_listAt e hl he ⟨.bl (!af.any e),H,I,rfl,q⟩
 ·exact PySem.SeqAt.notIn_tupleAt e hl he ⟨.bl (!af.any e),H,I,rfl,q⟩
end
end DL
set_option exponentiation.threshold 2000
namespace DL
open PySem PySem.Spec PyProof.Rows L2
noncomputable def intF(C:Int->Int->Bool)(g:Int->Int->D)(a b:D):Option D:=match a,b with
 | .int i,.int j=>if C i j then some (g i j) else none
 | _,_=>none
theorem v3{g:Int->Int->D}{a b:D}(h:intF C g a b=some d):∃i j,a=.int i/\b=.int j/\C i j=true/\d=g i j:=by
 unfold intF at h;split at h
 ·obtain⟨h1,h2⟩:=pK h;exact⟨_,_,rfl,rfl,h1,h2⟩
 ·cases h
noncomputable def tt2(_ _:Int):Bool:=true
theorem od_I{K:PySem.W.Frag}{C:Int->Int->Prop}{c:Int->Int->Bool}{g:Int->Int->Int}(hc:∀i j,c i j=true->C i j):OpD K (rI C λi j=>.int (g i j)) (intF c λi j=>.int (g i j)):=λa b d e B G I H U Γ x y Q r hx hy k=>by
 obtain⟨i,j,rfl,rfl,h,rfl⟩:=v3 e;exact⟨i,j,pq hx,pq hy,hc i j h,k.now r (Is.int _)⟩
theorem Bq{K:PySem.W.Frag}{g:Int->Int->Int}:OpD K (rI0 λi j=>.int (g i j)) (intF tt2 λi j=>.int (g i j)):=λa b d e B G I H U Γ x y Q r hx hy k=>by
 obtain⟨i,j,rfl,rfl,h,rfl⟩:=v3 e;exact⟨i,j,pq hx,pq hy,k.now r (Is.int _)⟩
theorem vD{K:PySem.W.Frag}{g:Int->Int->Bool}:OpD K (rI0 λi j=>.bl (g i j)) (intF tt2 λi j=>.bl (g i j)):=λa b d e B G I H U Γ x y Q r hx hy k=>by
 obtain⟨i,j,rfl,rfl,h,rfl⟩:=v3 e;exact⟨i,j,pq hx,pq hy,k.now r (Is.bl _)⟩
noncomputable def subI:D->D->Option D:=intF tt2 λi j=>.int (i - j)
noncomputable def mulI:D->D->Option D:=intF (λi j=>decide ((-(2 ^ 64) < i/\i < 2 ^ 64)\/(-(2 ^ 64) < j/\j < 2 ^ 64))) λi j=>.int (i*j)
noncomputable def modI:D->D->Option D:=intF (λ_ j=>decide (0 < j)) λi j=>.int (i % j)
noncomputable def divI:D->D->Option D:=intF (λ_ j=>decide (0 < j/\j < 2 ^ 200)) λi j=>.int (i / j)
noncomputable def powI:D->D->Option D:=intF (λi j=>decide (0<=j/\j<=1000000/\i.natAbs < 2 ^ 64)) λi j=>.int (i ^ j.toNat)
noncomputable def ltI:D->D->Option D:=intF tt2 λi j=>.bl (decide (i < j))
noncomputable def leI:D->D->Option D:=intF tt2 λi j=>.bl (decide (i<=j))
noncomputable def gtI:D->D->Option D:=intF tt2 λi j=>.bl (decide (j < i))
noncomputable def geI:D->D->Option D:=intF tt2 λi j=>.bl (decide (j<=i))
section
variable{B:BB}{a b c:KQ}{es:List KQ}{ga gb gc:M D}
theorem qK(ha:ED X B a ga)(hb:ED X B b gb):ED X B (.BinOp a .Sub b pos) (op2 subI ga gb):=rH HH Bq ha hb
theorem qk(ha:ED X B a ga)(hb:ED X B b gb):ED X B (.BinOp a .Mult b pos) (op2 mulI ga gb):=rH CU (od_I (C:=CMul) λi j h=>(of_decide_eq_true h:_\/_)) ha hb
theorem qC(ha:ED X B a ga)(hb:ED X B b gb):ED X B (.BinOp a .Mod b pos) (op2 modI ga gb):=rH En (od_I λi j h=>of_decide_eq_true h) ha hb
theorem wP(ha:ED X B a ga)(hb:ED X B b gb):ED X B (.BinOp a .Pow b pos) (op2 powI ga gb):=rH GZ (od_I (C:=CPow) λi j h=>(of_decide_eq_true h:_/\_/\_)) ha hb
def CDivW(i j:Int):Prop:=0 < j/\j < 2 ^ 200
theorem IB:OpR X (MH .FloorDiv) (rI CDivW λi j=>.int (i / j)):=opI λi j _ _ _ _ _ hc q=>by
 have h1:(0:Int) < j:=hc.1
 have h2:j.natAbs < 2 ^ 200:=by
  have:=hc.2;omega
 have h4:j.natAbs.log2 < 9000:=by
  have h5:j.natAbs.log2 < 200:=(Nat.log2_lt (by omega)).mpr h2;omega
 refine floordiv_int (by omega) ?_ (.inl (PyProof.noPylong_of_log2 h4));rw[Int.fdiv_eq_ediv_of_nonneg _ (Py h1)];exact q
theorem BN(ha:ED X B a ga)(hb:ED X B b gb):ED X B (.BinOp a .FloorDiv b pos) (op2 divI ga gb):=rH IB (od_I (C:=CDivW) λi j h=>(of_decide_eq_true h:_/\_)) ha hb
theorem so(ha:ED X B a ga)(hb:ED X B b gb):TD X B (.Compare a [.Lt] [b] pos) (tst (op2 ltI ga gb)):=rj Cs vD ha hb (nomark _)
theorem wD(ha:ED X B a ga)(hb:ED X B b gb):TD X B (.Compare a [.Gt] [b] pos) (tst (op2 gtI ga gb)):=rj G5 vD ha hb (nomark _)
theorem wE(ha:ED X B a ga)(hb:ED X B b gb):TD X B (.Compare a [.GtE] [b] pos) (tst (op2 geI ga gb)):=rj Df vD ha hb (nomark _)
noncomputable def eqF(neg:Bool)(a b:D):Option D:=if dep a<=100/\dep b<=100 then some (.bl (if neg then !deq a b else deq a b)) else none
theorem u0{K:PySem.W.Frag}:OpD K (rEqD K neg) (eqF neg):=λa b d e B G I H U Γ x y Q r hx hy k=>by
 obtain⟨h1,rfl⟩:=pK e;exact⟨a,b,hx.mono r.iH,hy.mono r.iH,h1,k.now r (Is.bl _)⟩
variable {kr:Nat}
theorem hu100{k:Nat}(hr:Room k A):A.units+100 < MN:=by have:=hr.un;omega
theorem sm(hr:Room kr X.A)(ha:ED X B a ga)(hb:ED X B b gb):ED X B (.Compare a [.Eq] [b] pos) (op2 (eqF false) ga gb):=vE (yj (hu100 hr)) u0 ha hb (nomark _)
theorem FY(hr:Room kr X.A)(ha:ED X B a ga)(hb:ED X B b gb):TD X B (.Compare a [.Eq] [b] pos) (tst (op2 (eqF false) ga gb)):=rj (yj (hu100 hr)) u0 ha hb (nomark _)
theorem qm(hr:Room kr X.A)(ha:ED X B a ga)(hb:ED X B b gb):TD X B (.Compare a [.NotEq] [b] pos) (tst (op2 (eqF true) ga gb)):=rj (zI (hu100 hr)) u0 ha hb (nomark _)
noncomputable def inF(neg:Bool)(a b:D):Option D:=match seqI b with
 | some ds=>if dep a<=99/\depA ds<=99 then some (.bl (if neg then !ds.any (λd=>deq d a) else ds.any λd=>deq d a)) else none
 | none=>none
theorem B6{K:PySem.W.Frag}:OpD K (rInD K neg) (inF neg):=λa b d e B G I H U Γ x y Q r hx hy k=>by
 unfold inF at e;cases b with
 | lst ds =>
  obtain⟨h1,rfl⟩:=pK e;exact⟨a,ds,hx.mono r.iH,.inl (hy.mono r.iH),h1,k.now r (Is.bl _)⟩
 | tup ds =>
  obtain⟨h1,rfl⟩:=pK e;exact⟨a,ds,hx.mono r.iH,.inr (hy.mono r.iH),h1,k.now r (Is.bl _)⟩
 | _=>cases e
theorem Ir(hr:Room kr X.A)(ha:ED X B a ga)(hb:ED X B b gb)(hm:Mz .NotIn b=false:=by rfl):ED X B (.Compare a [.NotIn] [b] pos) (op2 (inF true) ga gb):=vE (C' (hu100 hr)) B6 ha hb hm
noncomputable def rCatTT(K:PySem.W.Frag):R2:=λx y H Q=>∃a b xs ys,x=.ref a/\y=.ref b/\SqT K H a xs/\SqT K H b ys/\xs.length+ys.length<=x_ ∧
 (xs=[]->Q (.ref b) H)/\(xs≠[]->ys=[]->Q (.ref a) H)/\(xs≠[]->ys≠[]->∀p,H p=none->Q (.ref p) (upd H p (.tup (xs++ys))))
theorem Da:OpR X (MH .Add) (rCatTT X.K):=by
 intro aa s U H x y v u Q I rx ry h;obtain⟨a,b,xs,ys,rfl,rfl,ha,hb,hz,q0,q1,q2⟩:=h;cases rx;cases ry;obtain⟨af,r1,p1,_⟩:=I.tuple ha;obtain⟨b9,r2,p2,_⟩:=I.tuple hb;by_cases hx:xs=[]
 ·subst hx;cases r1;obtain⟨⟨cls,dd,data,sl⟩,ho,hc,n,hd⟩:=id p1;obtain⟨⟨kD,hU,data2,hV⟩,eF,de,n2,dO⟩:=id p2;simp only at hc hd de dO;subst hc hd de dO
  exact Q_ ⟨_,ho,rfl⟩ ⟨_,eF,rfl⟩ O4 QF P4 PM (O5 _ _)
   (tuple_addW0 a b _ b9.toArray n n2 dd hU sl hV (by simp)) ⟨ho,eF,⟨.ref b,H,I,rfl,q0 rfl⟩⟩
 ·exact BG aa s U H (.ref a) (.ref b) _ _ Q I rfl rfl ⟨a,b,xs,ys,rfl,rfl,ha,hb,hx,hz,q1 hx,q2 hx⟩
noncomputable def addF(a b:D):Option D:=match a,b with
 | .int i,.int j=>some (.int (i+j))
 | .tup xs,.tup ys=>if xs.length+ys.length<=lim then some (.tup (xs++ys)) else none
 | .str x,.str y=>if x.length+y.length<=lim then some (.str (x++y)) else none
 | _,_=>none
theorem IsA.ne_nil{K:PySem.W.Frag}(h:IsA K I ds xs):xs=[]↔ds=[]:=by
 have:=h.length;constructor
 ·intro e;subst e;exact LX.mp this
 ·intro e;subst e;exact LX.mp this.symm
theorem pH(ha:ED X B a ga)(hb:ED X B b gb):ED X B (.BinOp a .Add b pos) (op2 addF ga gb):=rH ((CK.or Da).or Dl) (λa b d e B G I H U Γ x y Q r hx hy k=>by
 unfold addF at e;split at e
 ·cases e;exact .inl (.inl ⟨_,_,pq hx,pq hy,k.now r (Is.int _)⟩)
 ·obtain⟨hl,rfl⟩:=pK e;obtain⟨p,xs,rfl,h1,h2⟩:=pG hx;obtain⟨q,ys,rfl,h3,h4⟩:=pG hy;refine .inl (.inr ⟨p,q,xs,ys,rfl,rfl,Same.sqT r.iH h1,Same.sqT r.iH h3,by rw[←h2.length,←h4.length];exact qN hl,λz=>?_,λ_ z=>?_,λ_ _ p' hp=>k.tup r hp (IsA.append h2 h4)⟩)
  ·have:=h2.ne_nil.mp z;subst this;exact k.now r (Is.tup h3 h4)
  ·have:=h4.ne_nil.mp z;subst this;rw[LD] at k;exact k.now r (Is.tup h1 h2)
 ·obtain⟨hl,rfl⟩:=pK e;exact .inr ⟨_,_,qv hx,qv hy,qN hl,k.now r (Is.str _)⟩
 ·cases e) ha hb
noncomputable def rCatR(K:PySem.W.Frag):R2:=λx y H Q=>∃l b xs zs,x=.ref l/\y=.ref b/\RdK K H l xs/\RdK K H b zs/\xs.length+zs.length<=x_/\∀p,H p=none->Q (.ref p) (upd H p (.lst (xs++zs)))
theorem Ba:OpR X (MH .Add) (rCatR X.K):=by
 intro aa s U H x y v u Q I rx ry h;obtain⟨l,b,xs,zs,rfl,rfl,hH,hB,hz,q⟩:=h;cases rx;cases ry;obtain⟨z,af,n,r,hl,e⟩:=vy I hH;obtain⟨z2,b9,n2,r2,dY,e2⟩:=vy I hB;refine PySem.P.add_list e e2 ?_ (by rw[l_,l_];omega);have ea:af.toArray++b9.toArray=(af++b9).toArray:=by simp
 rw[ea];exact⟨.ref _,_,I.lnew (t':=s.toks) (r.append r2) (by rw[KJ];omega),rfl,q _ I.fresh⟩
noncomputable def catF(a b:D):Option (List D):=match a,b with
 | .lst xs,.lst ys=>if xs.length+ys.length<=lim then some (xs++ys) else none
 | _,_=>none
theorem ve(ha:ED X B a ga)(hb:ED X B b gb):EO X B (.BinOp a .Add b pos) (op2 catF ga gb):=CY Ba (λa b d e B G I H U Γ x y Q r hx hy k=>by
 unfold catF at e;split at e
 ·obtain⟨hl,rfl⟩:=pK e;obtain⟨p,xs,rfl,h1,h2⟩:=pF hx;obtain⟨q,ys,rfl,h3,h4⟩:=pF hy;exact⟨p,q,xs,ys,rfl,rfl,Same.rdK r.iH h1,Same.rdK r.iH h3,by rw[←h2.length,←h4.length];exact qN hl,λp' hp=>k.new r hp (IsA.append h2 h4)⟩
 ·cases e) ha hb
theorem IsA.at{K:PySem.W.Frag}{I:Hp}{ds:List D}{xs:List V}{i:Int}{d:D}(h:IsA K I ds xs)(e:atI ds i=some d):∃x,atI xs i=some x/\Is K I d x:=by
 unfold atI at e ⊢;rw[←h.length];cases hj:ixN ds.length i with
 | none=>rw[hj] at e;cases e
 | some j =>
  rw[hj] at e;exact h.get e
noncomputable def ixF(a b:D):Option D:=match seqI a,asI b with
 | some ds,some i=>atI ds i
 | _,_=>none
theorem y8{a b:D}(h:ixF a b=some d):∃ds i,(a=.lst ds\/a=.tup ds)/\b=.int i/\atI ds i=some d:=by
 unfold ixF at h;cases a<;>cases b<;>simp[seqI,asI] at h
 ·exact⟨_,_,.inr rfl,rfl,h⟩
 ·exact⟨_,_,.inl rfl,rfl,h⟩
theorem pJ(ha:ED X B a ga)(hb:ED X B b gb)(hs:PlainIx b:=by exact λ_ _=>rfl):ED X B (.Subscript a b pos) (op2 ixF ga gb):=IN (yD.or xW) (λa b d e B G I H U Γ x y Q r hx hy k=>by
 obtain⟨ds,i,h1,rfl,h2⟩:=y8 e
 rcases h1 with rfl | rfl
 ·obtain⟨p,xs,rfl,h3,h4⟩:=pF hx;obtain⟨v,e5,e6⟩:=h4.at h2;exact .inl ⟨p,xs,i,v,rfl,pq hy,(Same.rdK r.iH h3).sq,e5,k.now r e6⟩
 ·obtain⟨p,xs,rfl,h3,h4⟩:=pG hx;obtain⟨v,e5,e6⟩:=h4.at h2
  exact .inr ⟨p,xs,i,v,rfl,pq hy,Same.sqT r.iH h3,e5,k.now r e6⟩) ha hb hs
noncomputable def look(i:Nat):M D:=λΓ=>match Γ[i]? with
 | some (some (.own ds))=>some (.lst ds,Γ)
 | some (some (.bor ds))=>some (.lst ds,Γ)
 | _=>none
theorem xE{K:PySem.W.Frag}{H:Hp}{i:Nat}(h:look i Γ=some (d,ah))(r:Rep K B G I H U Γ):ah=Γ/\∃p xs ds,d=.lst ds/\U[i]?=some (some (.ref p))/\H p=some (.lst xs)/\IsA K I ds xs:=by
 unfold look at h;cases e:Γ[i]? with
 | none=>rw[e] at h;cases h
 | some o =>
  cases o with
  | none=>rw[e] at h;cases h
  | some q =>
   rw[e] at h;obtain⟨v,h1,h2⟩:=r.slot i q e;cases q with
   | val _=>cases h
   | own ds=>cases h;obtain⟨p,xs,rfl,g1,_,_,g4⟩:=h2;exact⟨rfl,p,xs,ds,rfl,h1,g1,g4⟩
   | fro ds=>cases h
   | tfr ds=>cases h
   | dic ds=>cases h
   | bor ds=>cases h;obtain⟨p,xs,rfl,g1,_,_,g4⟩:=h2;exact⟨rfl,p,xs,ds,rfl,h1,g1,g4⟩
noncomputable def atN(i:Nat)(g:M D):M D:=mutS i (bnd g λn=>bnd (look i) λl=>lft (ixF l n))
theorem qw{i:Nat}{x:Str}(hv:PE X (.Name x p1) (tVar i))(hb:ED X B b gb)(hs:PlainIx b:=by exact λ_ _=>rfl):ED X B (.Subscript (.Name x p1) b pos) (atN i gb):=PE.imp (vJ yD hv hb hs) λU H Q q=>by
 obtain⟨G,I,Γ,d,ah,r,e1,k⟩:=q;obtain⟨hm,e1⟩:=se e1;obtain⟨n,ae,e2,e3⟩:=oK e1;obtain⟨l,aq,e4,e5⟩:=oK e3;obtain⟨e6,rfl⟩:=pD e5;obtain⟨p,xs,h1,h2⟩:=rh hm r;refine⟨_,h1,G,I,Γ,n,ae,r,e2,λv H1 I1 r1 g1 hn=>?_⟩;obtain⟨rfl,p',bg,ds,rfl,f1,f2,f3⟩:=xE e4 r1;have hp:p'=p:=by rw[h1] at f1;cases f1;rfl
 subst hp;obtain⟨ig,j,g2,rfl,g3⟩:=y8 e6
 rcases g2 with g2 | g2
 ·cases g2;obtain⟨y,e7,e8⟩:=f3.at g3;exact⟨p',bg,j,y,rfl,pq hn,SqL.of f2,e7,(k.after g1).now r1 e8⟩
 ·cases g2
noncomputable def lenF(ds:List D):Option D:=match ds with
 | [.lst xs]=>some (.int xs.length)
 | [.tup xs]=>some (.int xs.length)
 | _=>none
theorem Bl(h:lenF ds=some d):∃xs,(ds=[.lst xs]\/ds=[.tup xs])/\d=.int xs.length:=by
 unfold lenF at h;split at h
 ·cases h;exact⟨_,.inl rfl,rfl⟩
 ·cases h;exact⟨_,.inr rfl,rfl⟩
 ·cases h
theorem qB{p:Pos}{t:M (List D)}(hg:Gl X "len")(hm:X.mg "len"=none)(ha:AD X B [e] t)(he:f_ [e] X.env=(false,KR e X.env)::f_ [] X.env:=by rfl)(aC:(K0 pos (f_ [] X.env)).any (·.1)=false:=by rfl):
  ED X B (.Call (.Name "len" p) [e] [] pos) (fn1 lenF t):=rV GY (λds d e B G I H U Γ xs Q r h k=>by
 obtain⟨ys,h1,rfl⟩:=Bl e
 rcases h1 with rfl | rfl
 ·obtain⟨x,rfl,hx⟩:=h.one;obtain⟨q,zs,rfl,h3,h4⟩:=pF hx;exact⟨q,zs,rfl,.inl ((Same.rdK r.iH h3).sq),by rw[h4.length] at k;exact k.now r (Is.int _)⟩
 ·obtain⟨x,rfl,hx⟩:=h.one;obtain⟨q,zs,rfl,h3,h4⟩:=pG hx
  exact⟨q,zs,rfl,.inr (Same.sqT r.iH h3),by rw[h4.length] at k;exact k.now r (Is.int _)⟩) hg hm PySem.boot_len ha (by decide) (by decide) he aC
noncomputable def cmpN(neg:Bool)(i:Nat)(g:M D):M D:=mutS i (bnd g λd=>bnd (look i) λl=>lft (eqF neg l d))
theorem EL{K:PySem.W.Frag}{i:Nat}:∀U H Q,tD K B (cmpN neg i gb) U H Q->tOp (rEqD K neg) (tVar i) (tD K B gb) U H Q:=λU H Q q=>by
 obtain⟨G,I,Γ,d,ah,r,e1,k⟩:=q;obtain⟨hm,e1⟩:=se e1;obtain⟨n,ae,e2,e3⟩:=oK e1;obtain⟨l,aq,e4,e5⟩:=oK e3;obtain⟨e6,rfl⟩:=pD e5;obtain⟨p,xs,h1,h2⟩:=rh hm r;refine⟨_,h1,G,I,Γ,n,ae,r,e2,λv H1 I1 r1 g1 hn=>?_⟩;obtain⟨rfl,p',bg,ds,rfl,f1,f2,f3⟩:=xE e4 r1;have hp:p'=p:=by rw[h1] at f1;cases f1;rfl
 subst hp;obtain⟨hd,rfl⟩:=pK e6;exact⟨.lst ds,n,Is.lst (RdK.of f2) (f3.mono r1.iH),hn.mono r1.iH,hd,(k.after g1).now r1 (Is.bl _)⟩
theorem DN{i:Nat}{x:Str}(hr:Room kr X.A)(hv:PE X (.Name x p1) (tVar i))(hb:ED X B b gb):TD X B (.Compare (.Name x p1) [.NotEq] [b] pos) (tst (cmpN true i gb)):=PT.imp (xC (zI (hu100 hr)) hv hb (nomark _)) (uB EL)
def partD(e:Option KQ)(X:Cx)(B:BB)(g:M (Option Int)):Prop:=PO X e (λU H Q=>∃G I Γ o ah,Rep X.K B G I H U Γ/\g Γ=some (o,ah)/\∀H' I',Rep X.K B G I' H' U ah->Grow G I I'->Q o H')
theorem qR:partD none X B (ret none):=λaa s U H Q I h=>Ff aa s U H Q I (by
 obtain⟨G,I,Γ,o,ah,r,e1,k⟩:=h;cases e1
 exact k _ _ r (Grow.refl _ _))
noncomputable def prt(g:M D):M (Option Int):=bnd g λd=>bnd (lft (asI d)) λi=>ret (some i)
theorem qq(ha:ED X B a ga):partD (some a) X B (prt ga):=λaa s U H Q I h=>Bo ha aa s U H Q I (by
 obtain⟨G,I,Γ,o,ah,r,e1,k⟩:=h;obtain⟨d,ae,e2,e3⟩:=oK e1;obtain⟨i,aq,e4,e5⟩:=oK e3;cases e5;obtain⟨e6,rfl⟩:=pD e4;have:=zZ e6;subst this
 exact⟨G,I,Γ,_,_,r,e2,λv H1 I1 r1 g1 hv=>⟨i,pq hv,k _ _ r1 g1⟩⟩)
noncomputable def cutD(ds:List D)(lo hi:Option Int):List D:=(ds.drop (HT.sIx ds.length 0 lo)).take (HT.sIx ds.length ds.length hi - HT.sIx ds.length 0 lo)
theorem IsA.cut{K:PySem.W.Frag}{I:Hp}{ds:List D}{xs:List V}(h:IsA K I ds xs)(lo hi:Option Int):IsA K I (cutD ds lo hi) (cutV xs lo hi):=by
 unfold cutD cutV;rw[←h.length];exact(h.drop _).take _
noncomputable def slF(d:D)(lo hi:Option Int):Option D:=match d with
 | .lst ds=>some (.lst (cutD ds lo hi))
 | .tup ds=>if HT.sIx ds.length 0 lo=0/\HT.sIx ds.length ds.length hi=ds.length then none else some (.tup (cutD ds lo hi))
 | _=>none
noncomputable def sl3{α:Type}(F:D->Option Int->Option Int->Option α)(g:M D)(gl gh:M (Option Int)):M α:=bnd g λd=>bnd gl λl=>bnd gh λh=>lft (F d l h)
theorem qA{lo hi:Option KQ}(ha:ED X B a ga)(hl:partD lo X B gl)(hh:partD hi X B gh):ED X B (.Subscript a (.Slice lo hi none p2) pos) (sl3 slF ga gl gh):=PE.imp (FE (Ce.or B9) ha hl hh) λU H Q q=>by
 obtain⟨G,I,Γ,d,ah,r,e1,k⟩:=q;obtain⟨c,ae,e2,e3⟩:=oK e1;obtain⟨l,aq,e4,e5⟩:=oK e3;obtain⟨h,aP,e6,e7⟩:=oK e5;obtain⟨e8,rfl⟩:=pD e7;refine⟨G,I,Γ,c,ae,r,e2,λv H1 I1 r1 g1 hv=>⟨G,I1,ae,l,aq,r1,e4,λH2 I2 r2 g2=>⟨G,I2,aq,h,_,r2,e6,λH3 I3 r3 g3=>?_⟩⟩⟩;have gg:=g1.trans (g2.trans g3);have kY:=hv.mono (g2.trans g3).up;cases c with
 | lst ds =>
  cases e8;obtain⟨p,xs,rfl,h3,h4⟩:=pF kY;refine .inl ⟨p,xs,rfl,(Same.rdK r3.iH h3).sq,λp' hp=>?_⟩;exact(k.after gg) _ _ _ (r3.alloc hp _) (r3.growAlloc hp _) (Is.lst (RdK.of pA) ((h4.cut l h).mono (pQ (r3.iFree hp) _)))
 | tup ds =>
  unfold slF at e8;by_cases hw:HT.sIx ds.length 0 l=0/\HT.sIx ds.length ds.length h=ds.length
  ·simp only[hw,and_self,if_true] at e8;cases e8
  ·simp only[if_neg hw] at e8;cases e8;obtain⟨p,xs,rfl,h3,h4⟩:=pG kY;exact .inr ⟨p,xs,rfl,Same.sqT r3.iH h3,by rw[←h4.length];exact hw,λp' hp=>(k.after gg).tup r3 hp (h4.cut l h)⟩
 | _=>cases e8
noncomputable def minF(ds:List D):Option D:=match ds with
 | [.int i,.int j]=>some (.int (if j < i then j else i))
 | _=>none
noncomputable def maxF(ds:List D):Option D:=match ds with
 | [.int i,.int j]=>some (.int (if j > i then j else i))
 | _=>none
theorem wU{p:Pos}{t:M (List D)}(hc:X.calm=true)(hg:Gl X "min")(hm:X.mg "min"=none)(ha:AD X B (e::es) t)(he:f_ (e::es) X.env=(false,KR e X.env)::f_ es X.env:=by rfl)(aC:(K0 pos (f_ es X.env)).any (·.1)=false:=by rfl):
  ED X B (.Call (.Name "min" p) (e::es) [] pos) (fn1 minF t):=rV (DU hc) (λds d e B G I H U Γ xs Q r h k=>by
 unfold minF at e;split at e
 ·cases e;obtain⟨x,y,rfl,hx,hy⟩:=h.two;exact⟨_,_,by rw[pq hx,pq hy],k.now r (Is.int _)⟩
 ·cases e) hg hm boot_min ha (by decide) (by decide) he aC
theorem FN{p:Pos}{t:M (List D)}(hc:X.calm=true)(hg:Gl X "max")(hm:X.mg "max"=none)(ha:AD X B (e::es) t)(he:f_ (e::es) X.env=(false,KR e X.env)::f_ es X.env:=by rfl)(aC:(K0 pos (f_ es X.env)).any (·.1)=false:=by rfl):
  ED X B (.Call (.Name "max" p) (e::es) [] pos) (fn1 maxF t):=rV (Ep hc) (λds d e B G I H U Γ xs Q r h k=>by
 unfold maxF at e;split at e
 ·cases e;obtain⟨x,y,rfl,hx,hy⟩:=h.two;exact⟨_,_,by rw[pq hx,pq hy],k.now r (Is.int _)⟩
 ·cases e) hg hm boot_max ha (by decide) (by decide) he aC
noncomputable def tupF(ds:List D):Option D:=match ds with
 | [.lst xs]=>some (.tup xs)
 | [.tup xs]=>some (.tup xs)
 | _=>none
noncomputable def lstF(ds:List D):Option (List D):=match ds with
 | [.lst xs]=>some xs
 | [.tup xs]=>some xs
 | _=>none
theorem tw{p:Pos}{t:M (List D)}(hg:Gl X "list")(hm:X.mg "list"=none)(ha:AD X B [e] t)(he:f_ [e] X.env=(false,KR e X.env)::f_ [] X.env:=by rfl)(aC:(K0 pos (f_ [] X.env)).any (·.1)=false:=by rfl):
  EO X B (.Call (.Name "list" p) [e] [] pos) (fn1 lstF t):=EB DQ (λds d e B G I H U Γ xs Q r h k=>by
 unfold lstF at e;split at e
 ·cases e;obtain⟨x,rfl,hx⟩:=h.one;obtain⟨q,zs,rfl,h3,h4⟩:=pF hx;exact⟨q,zs,rfl,.inl ((Same.rdK r.iH h3).sq),λp' hp=>k.new r hp h4⟩
 ·cases e;obtain⟨x,rfl,hx⟩:=h.one;obtain⟨q,zs,rfl,h3,h4⟩:=pG hx;exact⟨q,zs,rfl,.inr (Same.sqT r.iH h3),λp' hp=>k.new r hp h4⟩
 ·cases e) hg hm RA ha (by decide) (by decide) he aC
noncomputable def isN(d:D):Bool:=match d with
 | .non=>true
 | _=>false
noncomputable def isNF(neg:Bool)(a b:D):Option D:=match b with
 | .non=>some (.bl (if neg then !isN a else isN a))
 | _=>none
theorem Au{K:PySem.W.Frag}{a:D}{x:V}(h:Is K I a x):decide (x=V.non)=isN a:=by
 cases a with
 | non=>rw[qz h];rfl
 | bl _=>rw[qj h];rfl
 | int _=>rw[pq h];rfl
 | str _=>rw[qv h];rfl
 | tup _=>obtain⟨_,_,rfl,_⟩:=pG h;rfl
 | lst _=>obtain⟨_,_,rfl,_⟩:=pF h;rfl
 | dct _=>obtain⟨_,_,_,rfl,_⟩:=rO h;rfl
theorem AG{K:PySem.W.Frag}:OpD K (λx y H Q=>y=.non/\Q (.bl (decide (x=.non))) H) (isNF false):=λa b d e B G I H U Γ x y Q r hx hy k=>by
 unfold isNF at e;split at e
 ·cases e;exact⟨qz hy,by rw[Au hx];exact k.now r (Is.bl _)⟩
 ·cases e
theorem Dq{K:PySem.W.Frag}:OpD K (λx y H Q=>y=.non/\Q (.bl (!decide (x=.non))) H) (isNF true):=λa b d e B G I H U Γ x y Q r hx hy k=>by
 unfold isNF at e;split at e
 ·cases e;exact⟨qz hy,by rw[Au hx];exact k.now r (Is.bl _)⟩
 ·cases e
theorem zz(ha:ED X B a ga)(hb:ED X B b gb):ED X B (.Compare a [.Is] [b] pos) (op2 (isNF false) ga gb):=vE xJ AG ha hb (nomark _)
theorem wj(ha:ED X B a ga)(hb:ED X B b gb):TD X B (.Compare a [.Is] [b] pos) (tst (op2 (isNF false) ga gb)):=rj xJ AG ha hb (nomark _)
theorem Dt(ha:ED X B a ga)(hb:ED X B b gb):TD X B (.Compare a [.IsNot] [b] pos) (tst (op2 (isNF true) ga gb)):=rj F8 Dq ha hb (nomark _)
end
structure Kd where
 it:KM->h_->h_->Nat->Prop
 sq:KM->h_->Array b_->Prop
 nm:String
structure KdOk(k:Kd):Prop where
 itAt:∀{h h':KM}{i l:h_}{n:Nat},k.it h i l n->(∀o,h.get? i=some o->h'.get? i=some o)->k.it h' i l n
 sqAt:∀{h h':KM}{l:h_}{xs:Array b_},k.sq h l xs->(∀o,h.get? l=some o->h'.get? l=some o)->k.sq h' l xs
 itLt:∀{h:KM}{i l:h_}{n:Nat},k.it h i l n->i < h.objs.size
 sqLt:∀{h:KM}{l:h_}{xs:Array b_},k.sq h l xs->l < h.objs.size
 itObj:∀{h:KM}{i l:h_}{n:Nat},k.it h i l n->∃o,h.get? i=some o/\∀v,o.data≠.cell v
 iter:∀{prog:z_}{w:I_}{A:Mc}{E:b_->d_->Prop}{s:d_}{l:h_}{xs:Array b_}{Q:b_->d_->Prop},k.sq s.heap l xs →
  Q (.ref s.heap.objs.size) { s with heap:=s.heap.push { cls:=.type k.nm,data:=.fields #[.ref l,.int 0 0] } }->w_ (n_ prog w) A (QH (.ref l)) Q E s
 new:∀{h:KM}{l:h_},k.it (h.push { cls:=.type k.nm,data:=.fields #[.ref l,.int 0 0] }) h.objs.size l 0
 item:∀{prog:z_}{w:I_}{A:Mc}{E:b_->d_->Prop}{s:d_}{i l:h_}{n:Nat}{xs:Array b_}{x:b_}{Q:b_->d_->Prop},k.it s.heap i l n->k.sq s.heap l xs->xs[n]?=some x →
  (∀h',k.it h' i l (n+1)->KM.SameBut i s.heap h'->Q x { s with heap:=h' })->w_ (n_ prog w) A (QT (.ref i)) Q E s
 stop:∀{prog:z_}{w:I_}{A:Mc}{E:b_->d_->Prop}{s:d_}{i l:h_}{n:Nat}{xs:Array b_}{Q:b_->d_->Prop},A.handled=none->k.it s.heap i l n->k.sq s.heap l xs->xs[n]?=none →
  (∀h' e,KM.ExtBut i s.heap h'->(∃o,h'.get? e=some o/\o.cls=.type "StopIteration")->E (.ref e) { s with heap:=h' })->w_ (n_ prog w) A (QT (.ref i)) Q E s
noncomputable def kdL:Kd:=⟨λh i l n=>h.IsListIter i l n,λh l xs=>h.IsList l xs, "list_iterator"⟩
noncomputable def kdT:Kd:=⟨λh i l n=>h.IsTupleIter i l n,λh l xs=>h.IsTuple l xs, "tuple_iterator"⟩
theorem qP:KdOk kdL where
 itAt:=λh k=>h.at k
 sqAt:=λh k=>h.at k
 itLt:=λh=>by obtain⟨_,e,_⟩:=h;exact F_ e
 sqLt:=λh=>by obtain⟨_,e,_⟩:=h;exact F_ e
 itObj:=λh=>by obtain⟨o,e,_,d⟩:=h;exact⟨o,e,λv z=>by rw[d] at z;cases z⟩
 iter:=λh q=>Nx h q
 new:=⟨_,t_ _ rfl,rfl,rfl⟩
 item:=λh1 h2 h3 q=>wpAny_nextOf_list_item h1 h2 h3 q
 stop:=λhh h1 h2 h3 q=>wpAny_nextOf_list_end hh h1 h2 h3 q
section
variable{prog:z_}{w:I_}{E:b_->d_->Prop}{s:d_}
theorem ET{α:Type}{Q:α->d_->Prop}(hh:A.handled=none)(k:∀(g:KM) (x:h_),(∀b o,s.heap.get? b=some o->g.get? b=some o)->(∃o,g.get? x=some o/\o.cls=.type "StopIteration")->E (.ref x) { s with heap:=g }):
  w_ (n_ prog w) A (stopIteration (α:=α)) Q E s:=by
 unfold stopIteration newExc newTuple;refine a_ (a_ (KY (a_ (LH (a:=b_.none) (by first | rfl | (simp only[P7];rfl)) (KY ?_ (by size_fits)))) (by size_fits)));unfold raiseNew;refine a_ (wpAny_handled ?_);rw[hh];exact a_ (e_ (wpAny_throw (k _ _ (λb o e=>c_ _ (c_ _ e)) ⟨_,t_ _ rfl,rfl⟩)))
theorem yL{aI tp:h_}{i:Nat}{Q:b_->d_->Prop}(hi:s.heap.IsTupleIter aI tp i)(hT:s.heap.IsTuple tp cells)(one:∀v,cells[i]?=some v->∀g:KM,g.IsTupleIter aI tp (i+1)->KM.SameBut aI s.heap g->Q v { s with heap:=g })(non:cells[i]?=none->A.handled=none/\∀(g:KM) (x:h_),KM.ExtBut aI s.heap g->(∃o,g.get? x=some o/\o.cls=.type "StopIteration")->E (.ref x) { s with heap:=g }):
  w_ (n_ prog w) A (QT (.ref aI)) Q E s:=by
 have ty:=hi.typeIs;obtain⟨oi,gi,ci,di⟩:=hi;obtain⟨ot,gt,ct,nt,dt⟩:=hT;unfold QT;refine a_ (K8 (name:=Mu "__next__") ty OB (K_ OB ty F.entry_tuple_iterator_next ?_ (F.args_tuple_iterator_next_1 _)));refine a_ (LH (a:=(b_.ref aI,[])) rfl ?_);refine a_ (LF (i:=0) gi di (x:=.ref tp) rfl (wpAny_ite_split (λno=>absurd no v_) λ_=>?_));refine a_ (LF (i:=1) gi di (x:=.int i 0) rfl (a_ (Ln gt dt ?_)));dsimp only;rw[Nf];cases hv:cells[i]? with
 | some v =>
  refine a_ (Ny gi di (by simp) (e_ ⟨v,rfl,e_ (one v hv _ ?_ (KM.SameBut.update ..))⟩));have low:=Nz di;exact⟨_,KL _ gi (NH (low _)),(OM ..).trans ci,by rw[low];simp[Md]⟩
 | none =>
  obtain⟨hh,k⟩:=non hv;refine a_ (LM (a_ (Ny gi di (by simp) (ET hh λg x keep is=>k g x (λb o ne e=>keep b o ((KM.SameBut.update ..).extBut b o ne e)) is))))
end
theorem yV:KdOk kdT where
 itAt:=λh k=>by obtain⟨o,e,r⟩:=h;exact⟨o,k o e,r⟩
 sqAt:=λh k=>by obtain⟨o,e,r⟩:=h;exact⟨o,k o e,r⟩
 itLt:=λh=>by obtain⟨_,e,_⟩:=h;exact F_ e
 sqLt:=λh=>by obtain⟨_,e,_⟩:=h;exact F_ e
 itObj:=λh=>by obtain⟨o,e,_,d⟩:=h;exact⟨o,e,λv z=>by rw[d] at z;cases z⟩
 iter:=λh q=>QQ h q
 new:=⟨_,t_ _ rfl,rfl,rfl⟩
 item:=λh1 h2 h3 q=>yL h1 h2 (λv e g=>by rw[h3] at e;cases e;exact q g) λe=>by rw[h3] at e;cases e
 stop:=λhh h1 h2 h3 q=>yL h1 h2 (λv e=>by rw[h3] at e;cases e) λ_=>⟨hh,q⟩
theorem u5{H:Hp}{s:d_}{T:h_}(I:Inv X aa U H s)(bx:∀b∈ch,FpOk X aa H b)(k:∀b u,b∉ch->s.heap.get? b=some u->h'.get? b=some u)(hT:s.heap.objs.size<=T)(new:ObjOk X.prog X.w (upd H T o) h' T o):Inv X aa U (upd H T o) { s with heap:=h',toks:=t' }:=by
 have hf:=I.hok.fresh hT;have ne:∀{b u},H b=some u->b≠T:=λ{b u} e=>qi e hf
 have cW:∀{b u},H b=some u->b∉ch:=λ{b u} e z=>by have:=(bx b z).1;rw[e] at this;cases this
 refine I.step (g':=s.gens) (d':=s.drawn) (ch:=ch) (λb hb=>⟨(bx b hb).2.2.2.1,(bx b hb).2.1,(bx b hb).2.2.2.2.1,(bx b hb).2.2.2.2.2⟩) (λb u _ _ hc e _=>k b u hc e) (λb u _ _ hc e _=>⟨u.slots,k b u hc e⟩) (λb u hc e n=>?_)
  (λb u hc e=>⟨u,k b u hc e⟩) (λb xs e=>by rw[po (ne e)];exact e) (λb u v e=>by rw[po (ne e)];exact e) (λb q e=>by rw[po (ne e)];exact e) (λm hm=>?_) (λb u e=>?_) I.bare
 ·have nb:b≠T:=λz=>by have:=F_ e;rw[z] at this;exact absurd (J_ this hT) (MG _)
  rw[po nb];exact n
 ·obtain⟨ob,es,ep,ho,r⟩:=hm;exact⟨ob,es,ep,k _ ob (λz=>(bx _ z).2.1 rfl) ho,r⟩
 ·by_cases hb:b=T
  ·subst hb;rw[pA] at e;cases e;exact new
  ·rw[po hb] at e;refine(I.hok b u e).stay (λc v hc q=>k c v ?_ q) (λc q=>by rw[po (ne q)];exact q) (λc xs q=>by rw[po (ne q)];exact q) λc o u q=>by rw[po (ne q)];exact q
   rcases hc with z | z
   ·rw[z];exact cW e
   ·exact cW z
theorem rT{H:Hp}{s:d_}(I:Inv X aa U H s)(bx:∀b∈ch,FpOk X aa H b)(k:∀b u,b∉ch->s.heap.get? b=some u->h'.get? b=some u):Inv X aa U H { s with heap:=h',toks:=t' }:=by
 have cW:∀{b u},H b=some u->b∉ch:=λ{b u} e z=>by have:=(bx b z).1;rw[e] at this;cases this
 refine I.step (g':=s.gens) (d':=s.drawn) (ch:=ch) (λb hb=>⟨(bx b hb).2.2.2.1,(bx b hb).2.1,(bx b hb).2.2.2.2.1,(bx b hb).2.2.2.2.2⟩) (λb u _ _ hc e _=>k b u hc e) (λb u _ _ hc e _=>⟨u.slots,k b u hc e⟩) (λb u hc e n=>n)
  (λb u hc e=>⟨u,k b u hc e⟩) (λb xs e=>e) (λb u v e=>e) (λ_ _ e=>e) (λm hm=>?_) (λb u e=>?_) I.bare
 ·obtain⟨ob,es,ep,ho,r⟩:=hm;exact⟨ob,es,ep,k _ ob (λz=>(bx _ z).2.1 rfl) ho,r⟩
 ·refine(I.hok b u e).stay (λc v hc q=>k c v ?_ q) (λc q=>q) (λc xs q=>q) λc o u q=>q
  rcases hc with z | z
  ·rw[z];exact cW e
  ·exact cW z
section
variable{prog:z_}{w:I_}{E:b_->d_->Prop}{s:d_}{k:Kd}
theorem tW(ok:KdOk k){z ta p q u v:h_}{xs ys:Array b_}{c0 c1:b_}{Q:PySem.Fin->d_->Prop}(D:R5 z ta aG p q u v)(Z:PP s.heap z ta aG .none)(Ta:MB s.heap ta (.ref p) (.ref q))(To:MB s.heap aG c0 c1)(P:k.it s.heap p u m)(P':k.it s.heap q v n)(pj:k.sq s.heap u xs)(U':k.sq s.heap v ys)(dG:∀x y,xs[m]?=some x->ys[n]?=some y->∀g:KM,g.objs.size=s.heap.objs.size+1/\MB g s.heap.objs.size x y->PP g z ta aG (Md s.heap.objs.size)->MB g aG x y->k.it g p u (m+1)/\k.it g q v (n+1) →
   (∀c o,(c≠z/\c≠aG/\c≠p/\c≠q)->s.heap.get? c=some o->g.get? c=some o)->Q (.done (.ret (.ref s.heap.objs.size))) { s with heap:=g })(ee:(xs[m]?=none\/ys[n]?=none)->A.handled=none/\∀(g:KM) (x:h_),(∀c o,(c≠z/\c≠aG/\c≠p/\c≠q)->s.heap.get? c=some o->g.get? c=some o)->(∃o,g.get? x=some o/\o.cls=.type "StopIteration")->E (.ref x) { s with heap:=g }):
  w_ (n_ prog w) A (Me.«zip.__next__» ⟨[.ref z],[]⟩) Q E s:=by
 refine a_ (LH (a:=(b_.ref z,[])) rfl (a_ (LF (i:=2) Z rfl (x:=.bool false) rfl (a_ (LF (i:=3) Z rfl (x:=.ref ta) rfl (a_ (Ln Ta rfl ?_)))))));refine a_ (m:=O9 (.ref z)) (a_ (LF (i:=0) Z rfl (x:=.none) rfl (e_ ?_)));rw[if_pos rfl];refine a_ (LM (a_ (LF (i:=4) Z rfl (x:=.ref aG) rfl (a_ (MP Z (by simp) λg1 Z1 b1=>?_)))));replace Z1:PP g1 z ta aG .ellipsis:=Z1
 have jH:∀(g:KM) (x:h_),PP g z ta aG .ellipsis->(∃o,g.get? x=some o/\o.cls=.type "StopIteration")->(∀g':KM,KM.SameBut z g g'->(∃o,g'.get? x=some o/\o.cls=.type "StopIteration")->E (.ref x) { s with heap:=g' }) →
   w_ (n_ prog w) A (setField (.ref z) 0 .none) (λ_ s'=>E (.ref x) s') E { s with heap:=g }:=λg x Zg is kk=>by
  obtain⟨o,e1,e2⟩:=is;refine MP Zg (by simp) λg' _ b'=>kk g' b' ⟨o,b'.extBut _ _ (λsame=>?_) e1,e2⟩
  rw[same,Zg] at e1;cases e1;simp at e2
 have f1:∀c o,c≠z->s.heap.get? c=some o->g1.get? c=some o:=λc o ne e=>b1.extBut _ _ ne e
 refine a_ ?_;rw[O',O',List.zipIdx_nil,Pu];refine a_ (a_ (wpAny_onRaise (a_ (m:=QT (.ref p)) ?_)));have P1:=ok.itAt P λo e=>f1 _ o D.i1z e
 have U1:=ok.sqAt pj λo e=>f1 _ o D.l1z e
 cases hx:xs[m]? with
 | none =>
  obtain⟨hh,ak⟩:=ee (.inl hx);exact ok.stop hh P1 U1 hx λg2 x b2 is=>jH g2 x (b2 _ _ D.i1z.symm Z1) is λg' b' jI=>ak g' x (λc o ne e=>b'.extBut _ _ ne.1 (b2 _ _ ne.2.2.1 (f1 c o ne.1 e))) jI
 | some x =>
  refine ok.item P1 U1 hx λg2 P2 b2=>e_ ?_
  have kZ:MB g2 aG c0 c1:=b2.extBut _ _ D.TOi1 (f1 _ _ D.TOz To);refine a_ (Ln kZ rfl (a_ (P8 kZ λg3 jJ b3=>a_ (Lp (e_ ?_)))));replace jJ:MB g3 aG x c1:=jJ;have f3:∀c o,c≠aG->c≠p->g1.get? c=some o->g3.get? c=some o:=λc o n1 n2 e=>b3.extBut _ _ n1 (b2.extBut _ _ n2 e)
  have Z3:PP g3 z ta aG .ellipsis:=f3 _ _ D.TOz.symm D.i1z.symm Z1;dsimp only;rw[Pu];refine a_ (a_ (wpAny_onRaise (a_ (m:=QT (.ref q)) ?_)));have Q3:=ok.itAt P' λo e=>f3 _ o D.TOi2.symm D.i12.symm (f1 _ o D.i2z e)
  have V3:=ok.sqAt U' λo e=>f3 _ o D.l2TO D.l2i1 (f1 _ o D.l2z e)
  cases hy:ys[n]? with
  | none =>
   obtain⟨hh,ak⟩:=ee (.inr hy);exact ok.stop hh Q3 V3 hy λg4 x b4 is=>jH g4 x (b4 _ _ D.i2z.symm Z3) is λg' b' jI=>ak g' x (λc o ne e=>b'.extBut _ _ ne.1 (b4 _ _ ne.2.2.2 (f3 c o ne.2.1 ne.2.2.1 (f1 c o ne.1 e)))) jI
  | some y =>
   refine ok.item Q3 V3 hy λg4 Q4 b4=>e_ ?_
   have k6:MB g4 aG x c1:=b4.extBut _ _ D.TOi2 jJ;refine a_ (Ln k6 rfl (a_ (P8 k6 λg5 io b5=>a_ (Lp (e_ ?_)))));replace io:MB g5 aG x y:=io;have f5:∀c o,c≠aG->c≠q->g3.get? c=some o->g5.get? c=some o:=λc o n1 n2 e=>b5.extBut _ _ n1 (b4.extBut _ _ n2 e)
   dsimp only;rw[forIn_nil];refine e_ (a_ (Ln io rfl (a_ (NA ?_))));have same:g5.objs.size=s.heap.objs.size:=b5.1.trans (b4.1.trans (b3.1.trans (b2.1.trans b1.1)));have Z5:PP g5 z ta aG .ellipsis:=f5 _ _ D.TOz.symm D.i2z.symm Z3;have k7:g5.objs.size≠z:=Nb (F_ Z5);have Z6:PP (g5.push { cls:=.type "tuple", data:=.seq #[x,y] }) z ta aG .ellipsis:=c_ _ Z5;refine a_ (m:=Me.SmallTypes.ownedTupleHandOut (.ref z) (.ref g5.objs.size)) (a_ (MP Z6 (by simp) λg7 Z7 b7=>?_));refine MP Z7 (by simp) λg8 Z8 b8=>e_ ?_
   replace Z8:PP g8 z ta aG (Md g5.objs.size):=Z8;have f8:∀c o,c≠z->g5.get? c=some o->g8.get? c=some o:=λc o ne e=>b8.extBut _ _ ne (b7.extBut _ _ ne (c_ _ e))
   have T8:MB g8 g5.objs.size x y:=b8.extBut _ _ k7 (b7.extBut _ _ k7 (t_ _ rfl));have gz:g8.objs.size=g5.objs.size+1:=b8.1.trans (b7.1.trans (LY ..));show Q (.done (.ret (.ref g5.objs.size))) { s with heap:=g8 };rw[same] at Z8 T8 gz ⊢
   exact dG x y hx hy g8 ⟨gz,T8⟩ Z8 (f8 _ _ D.TOz io) ⟨ok.itAt P2 λo e=>f8 _ o D.i1z (f5 _ o D.TOi1.symm D.i12 (b3.extBut _ _ D.TOi1.symm e)),ok.itAt Q4 λo e=>f8 _ o D.i2z (b5.extBut _ _ D.TOi2.symm e)⟩
    λc o ne e=>f8 c o ne.1 (f5 c o ne.2.1 ne.2.2.2 (f3 c o ne.2.1 ne.2.2.1 (f1 c o ne.1 e)))
noncomputable abbrev zk1(k:Kd)(h:KM)(l1:h_):KM:=h.push { cls:=.type k.nm,data:=.fields #[.ref l1,.int 0 0] }
noncomputable abbrev zk2(k:Kd)(h:KM)(l1 l2:h_):KM:=(zk1 k h l1).push { cls:=.type k.nm,data:=.fields #[.ref l2,.int 0 0] }
noncomputable abbrev zk3(k:Kd)(h:KM)(l1 l2:h_):KM:=(zk2 k h l1 l2).push { cls:=.type "tuple", data:=.seq #[.ref h.objs.size,.ref (zk1 k h l1).objs.size] }
noncomputable abbrev zk4(k:Kd)(h:KM)(l1 l2:h_):KM:=(zk3 k h l1 l2).push { cls:=.type "tuple", data:=.seq #[.none,.none] }
noncomputable abbrev zk5(k:Kd)(h:KM)(l1 l2:h_):KM:=(zk4 k h l1 l2).push { cls:=.type "zip", data:=.fields #[.none,.bool false,.bool false,.ref (zk2 k h l1 l2).objs.size,.ref (zk3 k h l1 l2).objs.size] }
theorem Eo(ok:KdOk k)(l1 l2:h_)(xs ys:Array b_):
  Meets (Me.«zip.__new__» ⟨[.type "zip", .ref l1,.ref l2],[]⟩) (λ_ R s=>k.sq s.heap l1 xs/\k.sq s.heap l2 ys ∧
   ∀h',PP h' (s.heap.objs.size+4) (s.heap.objs.size+2) (s.heap.objs.size+3) .none->MB h' (s.heap.objs.size+2) (.ref s.heap.objs.size) (.ref (s.heap.objs.size+1)) →
    MB h' (s.heap.objs.size+3) .none .none->k.it h' s.heap.objs.size l1 0->k.it h' (s.heap.objs.size+1) l2 0->(∀c o,s.heap.get? c=some o->h'.get? c=some o)->R (.ok (.ret (.ref (s.heap.objs.size+4)))) { s with heap:=h' }):=
 .of_wp λprog w A R s h=>by
  obtain⟨hp,gn,dw,tk,os⟩:=s;obtain⟨dR,dY,h⟩:=h;have gA:=sub_zip;have nE:k.sq (d_.heap ⟨hp,gn,dw,tk,os⟩) l1 xs:=dR;have nG:k.sq (d_.heap ⟨zk1 k hp l1,gn,dw,tk,os⟩) l2 ys:=ok.sqAt dY λo e=>c_ _ e
  wp_walk using ok.iter nE,ok.iter nG
  refine⟨_,rfl,?_⟩;have z1:(zk1 k hp l1).objs.size=hp.objs.size+1:=LY ..;have z2:(zk2 k hp l1 l2).objs.size=hp.objs.size+2:=by rw[LY,z1]
  have z3:(zk3 k hp l1 l2).objs.size=hp.objs.size+3:=by rw[LY,z2]
  have z4:(zk4 k hp l1 l2).objs.size=hp.objs.size+4:=by rw[LY,z3]
  have g5:(zk5 k hp l1 l2).get? (zk4 k hp l1 l2).objs.size=some { cls:=.type "zip", data:=.fields #[.none,.bool false,.bool false,.ref (zk2 k hp l1 l2).objs.size,.ref (zk3 k hp l1 l2).objs.size] }:=t_ _ rfl;have g4:(zk5 k hp l1 l2).get? (zk3 k hp l1 l2).objs.size=some { cls:=.type "tuple", data:=.seq #[.none,.none] }:=c_ _ (t_ _ rfl);have g3:(zk5 k hp l1 l2).get? (zk2 k hp l1 l2).objs.size=some { cls:=.type "tuple", data:=.seq #[.ref hp.objs.size,.ref (zk1 k hp l1).objs.size] }:=c_ _ (c_ _ (t_ _ rfl));have n2:k.it (zk2 k hp l1 l2) (zk1 k hp l1).objs.size l2 0:=ok.new;have n1:k.it (zk1 k hp l1) hp.objs.size l1 0:=ok.new;have i2:k.it (zk5 k hp l1 l2) (zk1 k hp l1).objs.size l2 0:=ok.itAt n2 λo e=>c_ _ (c_ _ (c_ _ e))
  have i1:k.it (zk5 k hp l1 l2) hp.objs.size l1 0:=ok.itAt n1 λo e=>c_ _ (c_ _ (c_ _ (c_ _ e)))
  show R (.ok (.ret (.ref (zk4 k hp l1 l2).objs.size))) { heap:=zk5 k hp l1 l2,gens:=gn,drawn:=dw,toks:=tk,os:=os };rw[z2,z3,z4] at g5;rw[z1,z2] at g3;rw[z3] at g4;rw[z1] at i2;rw[z4];exact h (zk5 k hp l1 l2) g5 g3 g4 i1 i2 λc o e=>c_ _ (c_ _ (c_ _ (c_ _ (c_ _ e))))
theorem Ai(ok:KdOk k){xs ys:Array b_}{Q:b_->d_->Prop}(dR:k.sq s.heap l1 xs)(dY:k.sq s.heap l2 ys)(made:∀n h',n=s.heap.objs.size->PP h' (n+4) (n+2) (n+3) .none->MB h' (n+2) (.ref n) (.ref (n+1))->MB h' (n+3) .none .none->k.it h' n l1 0->k.it h' (n+1) l2 0->(∀c o,s.heap.get? c=some o->h'.get? c=some o)->Q (.ref (n+4)) { s with heap:=h' }):
  w_ (n_ prog w) A (call (type "zip") ([l1,l2].map b_.ref)) Q E s:=
 callType_new F.called_zip (by decide) (F.typeCall_zip_2 _ _) (F.newCall_zip_2 _ _) (λobj=>F.args_object_init_3 obj _ _) F.entry_zip_new (Eo ok l1 l2 xs ys) ⟨dR,dY,λh' b1 b2 b3 b4 b5 b6=>⟨⟨_,b1,rfl⟩,made _ h' rfl b1 b2 b3 b4 b5 b6⟩⟩
end
section
variable{k:Kd}
noncomputable def Itz(rd:Hp->h_->List V->Prop)(l1 l2:h_):It:=
 ⟨λi H=>∃xs ys x y,rd H l1 xs/\rd H l2 ys/\xs[i]?=some x/\ys[i]?=some y,
  λi H v H'=>∃p x y,H p=none/\v=.ref p/\H'=upd H p (.tup [x,y])/\(∀xs,rd H l1 xs->xs[i]?=some x)/\(∀ys,rd H l2 ys->ys[i]?=some y),
  λi H=>∃xs ys,rd H l1 xs/\rd H l2 ys/\(xs.length<=i\/ys.length<=i)⟩
structure KdRd(K:PySem.W.Frag)(k:Kd)(rd:Hp->h_->List V->Prop):Prop where
 of:∀{X:Cx}{aa:List (h_×Obj)}{U:L2.St}{H:Hp}{s:d_}{a:h_}{xs:List V},X.K=K->Inv X aa U H s->rd H a xs->∃af:List b_,Vals xs af/\k.sq s.heap a af.toArray
 inj:∀{X:Cx}{aa:List (h_×Obj)}{U:L2.St}{H:Hp}{s:d_}{a:h_}{xs ys:List V},X.K=K->Inv X aa U H s->rd H a xs->rd H a ys->xs=ys
theorem yc(K:PySem.W.Frag):KdRd K kdL (λH a xs=>SqL K H a xs) where
 of:=λe I h=>by subst e;obtain⟨af,r,t,_⟩:=I.list h;exact⟨af,r,t.isList⟩
 inj:=λe I h h'=>by subst e;exact I.list_inj h h'
theorem z8(K:PySem.W.Frag):KdRd K kdT (λH a xs=>SqT K H a xs) where
 of:=λe I h=>by subst e;obtain⟨af,r,t,_⟩:=I.tuple h;exact⟨af,r,t⟩
 inj:=λe I h h'=>by subst e;exact I.tuple_inj h h'
theorem FC{P:z_}{w:I_}{K:PySem.W.Frag}{rd:Hp->h_->List V->Prop}(ok:KdOk k)(kr:KdRd K k rd){z TI TO i1 i2:h_}(D:R5 z TI TO i1 i2 l1 l2):
  Turn P w K (.Tuple bB x1 tp) (Itz rd l1 l2) [z,TI,TO,i1,i2] z (λi h=>PP h z TI TO .none/\MB h TI (.ref i1) (.ref i2)/\(∃a b,MB h TO a b)/\k.it h i1 l1 i/\k.it h i2 l2 i) where
 mem:=by simp
 obj:=λi h st b hb=>by
  obtain⟨a1,a2,⟨x,y,a3⟩,a4,a5⟩:=st;rw[m_,m_,m_,m_,A_] at hb
  rcases hb with rfl | rfl | rfl | rfl | rfl
  ·exact⟨_,a1,λv q=>by cases(show fields _=Qn v from q)⟩
  ·exact⟨_,a2,λv q=>by cases(show seq _ _=Qn v from q)⟩
  ·exact⟨_,a3,λv q=>by cases(show seq _ _=Qn v from q)⟩
  ·exact ok.itObj a4
  ·exact ok.itObj a5
 keep:=λi h h' st kk=>by
  obtain⟨a1,a2,⟨x,y,a3⟩,a4,a5⟩:=st;exact⟨kk _ (by simp) _ a1,kk _ (by simp) _ a2,⟨x,y,kk _ (by simp) _ a3⟩,ok.itAt a4 λo e=>kk _ (by simp) o e,ok.itAt a5 λo e=>kk _ (by simp) o e⟩
 item:=by
  intro X hP hw hK hc i aa s U H E I hf st hg;subst hP hw;obtain⟨a1,a2,⟨av,bv,a3⟩,a4,a5⟩:=st;obtain⟨xs,ys,x,y,g1,g2,g3,g4⟩:=hg;obtain⟨af,r1,t1⟩:=kr.of hK I g1;obtain⟨bh,r2,t2⟩:=kr.of hK I g2;obtain⟨u1,e1,e2⟩:=r1.get g3;obtain⟨u2,e3,e4⟩:=r2.get g4;have hT:s.TypeIs (.ref z) "zip":=⟨_,a1,rfl⟩;unfold Mn;refine a_ (Mg (K8 (name:=Mu "__next__") hT Ma (K_ Ma hT NM (tW ok D a1 a2 a3 a4 a5 t1 t2 ?_ ?_) (NB _))))
  case refine_2 =>
   intro non;have f1:af.toArray[i]?=some u1:=by simpa using e1
   have f2:bh.toArray[i]?=some u2:=by simpa using e3
   rw[f1,f2] at non
   rcases non with non | non<;>cases non
  intro y1 y2 k1 k2 h' ⟨_,b5⟩ b1 b2 ⟨b3,b4⟩ b7;have f1:af.toArray[i]?=some u1:=by simpa using e1
  have f2:bh.toArray[i]?=some u2:=by simpa using e3
  rw[f1] at k1;cases k1;rw[f2] at k2;cases k2;refine⟨_,rfl,e_ ⟨.ref s.heap.objs.size,rfl,wpAny_letOwnedTupleGo_zip b1 λh2 c1 c2=>?_⟩⟩;have lt:∀{b o},s.heap.get? b=some o->b≠s.heap.objs.size:=λ{b o} e=>KI (F_ e)
  have dk:=lt a1;have k8:=lt a2;have k9:=lt a3
  have kk:∀b u,b∉[z,TI,TO,i1,i2]->s.heap.get? b=some u->h2.get? b=some u:=λb u hb e=>by
   simp only[m_,LR,or_false,not_or] at hb;exact c2.extBut _ _ hb.1 (b7 b u ⟨hb.1,hb.2.2.1,hb.2.2.2.1,hb.2.2.2.2⟩ e)
  have pT:MB h2 s.heap.objs.size u1 u2:=c2.extBut _ _ (Kx dk) b5;have I1:Inv X aa U (upd H s.heap.objs.size (.tup [x,y])) { s with heap:=h2 }:=u5 (t':=s.toks) I hf kk (B_ _) ⟨by show 2<=x_;rw[Lb];decide,[u1,u2],.cons e2 (.cons e4 .nil),⟨_,pT,rfl,_,rfl⟩⟩;have fr:=I.hok.fresh (B_ s.heap.objs.size);refine⟨.ref s.heap.objs.size,_,I1,rfl,⟨s.heap.objs.size,x,y,fr,rfl,rfl,λzs hz=>by rw[kr.inj hK I hz g1];exact g3,λzs hz=>by rw[kr.inj hK I hz g2];exact g4⟩,⟨c1,c2.extBut _ _ D.TIz (b7 _ _ ⟨D.TIz,D.TITO,D.TIi1,D.TIi2⟩ a2),⟨u1,u2,c2.extBut _ _ D.TOz b2⟩,ok.itAt b3 λo e=>c2.extBut _ _ D.i1z e,ok.itAt b4 λo e=>c2.extBut _ _ D.i2z e⟩,λb hb=>?_⟩;have jK:=(hf b hb).1
  have nb:b≠s.heap.objs.size:=by
   rw[m_,m_,m_,m_,A_] at hb
   rcases hb with rfl | rfl | rfl | rfl | rfl
   ·exact dk
   ·exact k8
   ·exact k9
   ·exact KI (ok.itLt a4)
   ·exact KI (ok.itLt a5)
  rw[po nb];exact jK
 done:=by
  intro X hP hw hK hc i aa s U H E I hf st hg;subst hP hw;obtain⟨a1,a2,⟨av,bv,a3⟩,a4,a5⟩:=st;obtain⟨xs,ys,g1,g2,g3⟩:=hg;obtain⟨af,r1,t1⟩:=kr.of hK I g1;obtain⟨bh,r2,t2⟩:=kr.of hK I g2;have dR:=r1.length;have dY:=r2.length;have hT:s.TypeIs (.ref z) "zip":=⟨_,a1,rfl⟩;unfold Mn;refine a_ (Mg (K8 (name:=Mu "__next__") hT Ma (K_ Ma hT NM (tW ok D a1 a2 a3 a4 a5 t1 t2 ?_ λ_=>⟨I.ok.hd hc,λh' e hk he=>?_⟩) (NB _))))
  ·intro y1 y2 k1 k2;have m1:=(K5.mp k1).1;have m2:=(K5.mp k2).1;simp at m1 m2;omega
  ·obtain⟨o,ho,gC⟩:=he;refine a_ (M5 (T:= "StopIteration") (b:=true) ⟨o,ho,gC⟩ OC ?_);refine e_ ⟨rfl,rT (t':=s.toks) I hf λb u hb e=>?_⟩;simp only[m_,LR,or_false,not_or] at hb;exact hk b u ⟨hb.1,hb.2.2.1,hb.2.2.2.1,hb.2.2.2.2⟩ e
 self:=λ_ _ _ _ _ st h=>O_ st.1 h
end
section
variable{B:BB}{a b c:KQ}{es:List KQ}{ga gb gc:M D}
noncomputable def iZip(K:PySem.W.Frag)(ta:TA):TI:=λU H R=>ta U H λvs H1=>(∃l1 l2 xs ys,vs=[.ref l1,.ref l2]/\SqL K H1 l1 xs/\SqL K H1 l2 ys/\R (Itz (λH a xs=>SqL K H a xs) l1 l2) H1)\/(∃l1 l2 xs ys,vs=[.ref l1,.ref l2]/\SqT K H1 l1 xs/\SqT K H1 l2 ys/\R (Itz (λH a xs=>SqT K H a xs) l1 l2) H1)
theorem xG{k:Kd}{rd:Hp->h_->List V->Prop}(ok:KdOk k)(kr:KdRd X.K k rd){H:Hp}{s:d_}{R:It->Hp->Prop}{ys:List V}(I:Inv X aa U H s)(h1:rd H l1 xs)(h2:rd H l2 ys)(q:R (Itz rd l1 l2) H):
  w_ (n_ X.prog X.w) X.A (call (.type "zip") [.ref l1,.ref l2]) (λv s1=>w_ (n_ X.prog X.w) X.A (QH v) (PIE X aa U (.Tuple bB x1 tp) R) X.xe s1) X.xe s:=by
 obtain⟨af,r1,t1⟩:=kr.of rfl I h1;obtain⟨bh,r2,t2⟩:=kr.of rfl I h2;refine Ai ok t1 t2 λn h' hn a1 a2 a3 a4 a5 a6=>O_ a1 ?_
 subst hn;have I1:Inv X aa U H { s with heap:=h' }:=I.kept (t':=s.toks) a6;refine⟨s.heap.objs.size+4,[s.heap.objs.size+4,s.heap.objs.size+2,s.heap.objs.size+3,s.heap.objs.size,s.heap.objs.size+1],_,_,H,rfl,I1,FC ok kr (zipApart_new (ok.sqLt t1) (ok.sqLt t2)),⟨a1,a2,⟨_,_,a3⟩,a4,a5⟩,λb hb=>?_,q⟩;rw[m_,m_,m_,m_,A_] at hb;have up:∀n,FpOk X aa H (s.heap.objs.size+n):=λn=>I.fpOk (K6 _ _) (I.hok.fresh (K6 _ _))
 rcases hb with rfl | rfl | rfl | rfl | rfl
 ·exact up 4
 ·exact up 2
 ·exact up 3
 ·exact up 0
 ·exact up 1
theorem Hb{p:Pos}(hg:Gl X "zip")(hm:X.mg "zip"=none)(ha:PA X [a,b] ta)(hs:f_ [a,b] X.env=[(false,KR a X.env),(false,KR b X.env)]:=by rfl)(bM:f_ [b] X.env=[(false,KR b X.env)]:=by rfl):
  PI X (.Tuple bB x1 tp) (.Call (.Name "zip" p) [a,b] [] pos) (iZip X.K ta):=by
 intro aa s U H R I h;refine RT (qc I hg hm boot_zip (KF (thn (ha pos aa s U H _ I h) λus s1 ⟨vs,H1,I1,r1,q1⟩=>?_) (by rw[hs,bM]) (by rw[bM];rfl)))
 rcases q1 with⟨l1,l2,xs,ys,e,h1,h2,q⟩ | ⟨l1,l2,xs,ys,e,h1,h2,q⟩
 ·subst e;obtain⟨u1,u2,rfl,e1,e2⟩:=r1.two;cases e1;cases e2;exact xG qP (yc _) I1 h1 h2 q
 ·subst e;obtain⟨u1,u2,rfl,e1,e2⟩:=r1.two;cases e1;cases e2;exact xG yV (z8 _) I1 h1 h2 q
noncomputable def pairsD(xs ys:List D):List D:=(xs.zip ys).map λp=>.tup [p.1,p.2]
noncomputable def zipI(ds:List D):Option (List D):=match ds with
 | [.lst xs,.lst ys]=>some (pairsD xs ys)
 | [.tup xs,.tup ys]=>some (pairsD xs ys)
 | _=>none
theorem Ae{K:PySem.W.Frag}{rd:Hp->h_->List V->Prop}{ys:List V}{es:List D}(mono:∀{H a xs},Same I H->rd I a xs->rd H a xs)(inj:∀{H},Same I H->(∀zs,rd H l1 zs->zs=xs)/\(∀zs,rd H l2 zs->zs=ys)\/True)(h1:rd I l1 xs)(h2:rd I l2 ys)(i1:IsA K I ds xs)(i2:IsA K I es ys):Yields K I (pairsD ds es) (Itz rd l1 l2):=λi H s=>by
 have L1:=i1.length;have L2:=i2.length;refine⟨λd hd=>?_,λhi=>⟨xs,ys,mono s h1,mono s h2,?_⟩⟩
 ·unfold pairsD at hd;obtain⟨q,e1,rfl⟩:=getMap hd;obtain⟨e2,e3⟩:=OJ.mp e1;obtain⟨x,f1,f2⟩:=i1.get e2;obtain⟨y,f3,f4⟩:=i2.get e3;refine⟨⟨xs,ys,x,y,mono s h1,mono s h2,f1,f3⟩,λv H2 hy=>?_⟩;obtain⟨p,x',y',g1,g2,g3,g4,g5⟩:=hy;have k1:=g4 xs (mono s h1);have k2:=g5 ys (mono s h2);rw[f1] at k1;cases k1;rw[f3] at k2;cases k2;exact .inr ⟨p,[q.1,q.2],[x,y],rfl,g2,g1,g3,IsA.cons f2 (IsA.cons f4 IsA.nil)⟩
 ·unfold pairsD at hi;rw[y_,R6] at hi;omega
theorem vx{p:Pos}{t:M (List D)}(hg:Gl X "zip")(hm:X.mg "zip"=none)(ha:AD X B [a,b] t)(hs:f_ [a,b] X.env=[(false,KR a X.env),(false,KR b X.env)]:=by rfl)(bM:f_ [b] X.env=[(false,KR b X.env)]:=by rfl):
  ITD X B (.Tuple bB x1 tp) (.Call (.Name "zip" p) [a,b] [] pos) (fn1 zipI t):=PI.imp (Hb hg hm ha hs bM) λU H R q=>by
 obtain⟨G,I,Γ,ds,ah,r,e1,k⟩:=q;obtain⟨d,ae,e2,e3⟩:=oK e1;obtain⟨e4,rfl⟩:=pD e3;refine⟨G,I,Γ,d,_,r,e2,λvs H1 I1 r1 g1 hd=>?_⟩;unfold zipI at e4;split at e4
 ·cases e4;obtain⟨x,y,rfl,hx,hy⟩:=hd.two;obtain⟨l1,xs,rfl,h1,h2⟩:=pF hx;obtain⟨l2,ys,rfl,h3,h4⟩:=pF hy;exact .inl ⟨l1,l2,xs,ys,rfl,(Same.rdK r1.iH h1).sq,(Same.rdK r1.iH h3).sq,k _ _ _ r1 g1 (Ae (λs h=>by rcases h with h | h;exact .inl (Same.rd s h);exact .inr h) (λ_=>.inr trivial) h1.sq h3.sq h2 h4)⟩
 ·cases e4;obtain⟨x,y,rfl,hx,hy⟩:=hd.two;obtain⟨l1,xs,rfl,h1,h2⟩:=pG hx;obtain⟨l2,ys,rfl,h3,h4⟩:=pG hy;exact .inr ⟨l1,l2,xs,ys,rfl,Same.sqT r1.iH h1,Same.sqT r1.iH h3,k _ _ _ r1 g1 (Ae (λs h=>Same.sqT s h) (λ_=>.inr trivial) h1 h3 h2 h4)⟩
 ·cases e4
section
variable {k:Kd}
theorem drawsK(ok:KdOk k){prog:z_}{w:I_}(hh:A.handled=none)(it l:h_)(gy:l≠it)(items:Array b_):Draws prog w A it [it,l] items.size (λi v=>items[i]?=some v) (λi h=>k.it h it l i/\k.sq h l items) where
 live:=λi h st=>by obtain⟨o,e,_⟩:=ok.itObj st.1;exact⟨o,e⟩
 frame:=λi h h' st kk=>⟨ok.itAt st.1 λo e=>kk _ (by simp) o e,ok.sqAt st.2 λo e=>kk _ (by simp) o e⟩
 item:=λi s Q E hi st hQ=>ok.item st.1 st.2 (x:=items[i]) (by simp[hi]) λh' h1 h2=>hQ _ h' s.toks (by simp[hi]) ⟨h1,ok.sqAt st.2 λo e=>h2.extBut _ _ gy e⟩ h2
 done:=λs Q E st hE=>ok.stop hh st.1 st.2 (by simp) hE
theorem IM(ok:KdOk k)(l:h_)(items:Array b_):
  Meets (Me.«enumerate.__new__» ⟨[.type "enumerate", .ref l],[]⟩) (λ_ R s=>k.sq s.heap l items ∧
   R (.ok (.ret (.ref (s.heap.push { cls:=.type k.nm,data:=.fields #[.ref l,.int 0 0] }).objs.size)))
    { s with heap:=(s.heap.push { cls:=.type k.nm,data:=.fields #[.ref l,.int 0 0] }).push { cls:=.type "enumerate", data:=.fields #[.none,.bool false,.ref s.heap.objs.size,Md 0,.none,.none] } }):=
 .of_wp λprog w A R s h=>by
  obtain⟨hp,gn,dw,tk,os⟩:=s;obtain⟨hl,h⟩:=h;have gA:=sub_enumerate;have hL:k.sq (d_.heap ⟨hp,gn,dw,tk,os⟩) l items:=hl
  wp_walk using ok.iter hL
  refine wpAny_stack_any λframes=>e_ ?_
  split
  next c _ _ _ _ _=>cases c == type "enumerate"<;>(wp_walk using ok.iter hL;exact⟨_,rfl,h⟩)
  next=>wp_walk using ok.iter hL;exact⟨_,rfl,h⟩
end
end
section
variable{prog:z_}{w:I_}{E:b_->d_->Prop}{s:d_}{k:Kd}
noncomputable abbrev en1(k:Kd)(h:KM)(l:h_):KM:=h.push { cls:=.type k.nm,data:=.fields #[.ref l,.int 0 0] }
noncomputable abbrev en2(k:Kd)(h:KM)(l:h_):KM:=(en1 k h l).push { cls:=.type "enumerate", data:=.fields #[.none,.bool false,.ref h.objs.size,Md 0,.none,.none] }
theorem Cw(ok:KdOk k){l:h_}{Q:b_->d_->Prop}(hL:k.sq s.heap l items)(made:∀n g,n=s.heap.objs.size->IsEnum g (n+1) n 0 .none->k.it g n l 0->(∀b o,s.heap.get? b=some o->g.get? b=some o)->Q (.ref (n+1)) { s with heap:=g }):
  w_ (n_ prog w) A (call (type "enumerate") ([l].map b_.ref)) Q E s:=by
 have bC:(en1 k s.heap l).objs.size=s.heap.objs.size+1:=LY ..;have ir:(en2 k s.heap l).get? (en1 k s.heap l).objs.size=some _:=t_ _ rfl;rw[bC] at ir;refine callType_new F.called_enumerate (by decide) (F.typeCall_enumerate_1 _) (F.newCall_enumerate_1 _) (λobj=>F.args_object_init_2 obj _) F.entry_enumerate_new (IM ok l items) ⟨hL,?_⟩;have put:Q (.ref (s.heap.objs.size+1)) { s with heap:=en2 k s.heap l }:=made _ _ rfl ir (ok.itAt ok.new λo e=>c_ _ e) λb o x=>c_ _ (c_ _ x)
 rw[←bC] at put ir;exact⟨⟨_,ir,rfl⟩,put⟩
end
section
variable{B:BB}{a b c:KQ}{es:List KQ}{ga gb gc:M D}{k:Kd}
noncomputable def Ite(rd:Hp->h_->List V->Prop)(l:h_):It:=
 ⟨λi H=>∃xs x,rd H l xs/\xs[i]?=some x,λi H v H'=>∃p x,H p=none/\v=.ref p/\H'=upd H p (.tup [.int i,x])/\(∀xs,rd H l xs->xs[i]?=some x),λi H=>∃xs,rd H l xs/\xs.length<=i⟩
theorem DE{P:z_}{w:I_}{K:PySem.W.Frag}{rd:Hp->h_->List V->Prop}(ok:KdOk k)(kr:KdRd K k rd){z it l:h_}(jL:z≠it)(lc:l≠it)(nH:z≠l):
  Turn P w K (.Tuple bB x1 tp) (Ite rd l) [z,it] z (λi h=>(∃old,IsEnum h z it i old)/\k.it h it l i) where
 mem:=by simp
 obj:=λi h st b hb=>by
  obtain⟨⟨old,a1⟩,a2⟩:=st;rw[m_,A_] at hb
  rcases hb with rfl | rfl
  ·exact⟨_,a1,λv q=>by cases(show fields _=Qn v from q)⟩
  ·exact ok.itObj a2
 keep:=λi h h' st kk=>by
  obtain⟨⟨old,a1⟩,a2⟩:=st;exact⟨⟨old,kk _ (by simp) _ a1⟩,ok.itAt a2 λo e=>kk _ (by simp) o e⟩
 item:=by
  intro X hP hw hK hc i aa s U H E I hf st hg;subst hP hw;obtain⟨⟨old,a1⟩,a2⟩:=st;obtain⟨xs,x,g1,g3⟩:=hg;obtain⟨af,r1,t1⟩:=kr.of hK I g1;obtain⟨u1,e1,e2⟩:=r1.get g3
  have aY:i < af.toArray.size:=by
   have:=(D_.mp e1).1;simpa using this
  have D:=drawsK ok (prog:=X.prog) (w:=X.w) (A:=X.A.in1) (I.ok.hd hc) it l lc af.toArray;refine wpAny_pyNext_enum_itemD D a1 ⟨a2,t1⟩ aY jL (by simp[jL,nH]) λy h' tk b0 b1 b2 b3 b4 b5=>?_
  have hy:y=u1:=by
   have eQ:af.toArray[i]?=some u1:=by simpa using e1
   have lf:af.toArray[i]?=some y:=b0;rw[eQ] at lf;cases lf;rfl
  subst hy;refine⟨.ref s.heap.objs.size,rfl,wpAny_letOwnedTupleGo_enum b1 λh2 c1 c2=>?_⟩;have dk:z≠s.heap.objs.size:=KI (F_ a1);have nJ:it≠s.heap.objs.size:=KI (ok.itLt a2)
  have kk:∀b u,b∉[z,it]->s.heap.get? b=some u->h2.get? b=some u:=λb u hb e=>by
   simp only[m_,LR,or_false,not_or] at hb;exact c2.extBut _ _ hb.1 (b5 b u hb.1 hb.2 e)
  have pT:=c2.extBut _ _ (Kx dk) b3;have I1:Inv X aa U (upd H s.heap.objs.size (.tup [.int i,x])) { s with heap:=h2,toks:=tk+1 }:=u5 (t':=tk+1) I hf kk (B_ _) ⟨by show 2<=x_;rw[Lb];decide,[.int i tk,y],.cons ⟨_,rfl⟩ (.cons e2 .nil),⟨_,pT,rfl,_,rfl⟩⟩;have fr:=I.hok.fresh (B_ s.heap.objs.size);refine⟨.ref s.heap.objs.size,_,I1,rfl,⟨s.heap.objs.size,x,fr,rfl,rfl,λzs hz=>by rw[kr.inj hK I hz g1];exact g3⟩,⟨⟨y,c1⟩,ok.itAt b2.1 λo e=>c2.extBut _ _ jL.symm e⟩,λb hb=>?_⟩;have jK:=(hf b hb).1
  have nb:b≠s.heap.objs.size:=by
   rw[m_,A_] at hb
   rcases hb with rfl | rfl
   ·exact dk
   ·exact nJ
  rw[po nb];exact jK
 done:=by
  intro X hP hw hK hc i aa s U H E I hf st hg;subst hP hw;obtain⟨⟨old,a1⟩,a2⟩:=st;obtain⟨xs,g1,g3⟩:=hg;obtain⟨af,r1,t1⟩:=kr.of hK I g1;have dR:=r1.length;have hT:s.TypeIs (.ref z) "enumerate":=⟨_,a1,rfl⟩;have hx:af.toArray[i]?=none:=by simp;omega
  unfold Mn;refine a_ (Mg (K8 (name:=Mu "__next__") hT PV (K_ PV hT F.entry_enumerate_next (a_ (LH (a:=(b_.ref z,[])) rfl (a_ (LF (i:=2) a1 rfl (x:=.ref it) rfl ?_)))) (F.args_enumerate_next_1 _))));refine a_ (ok.stop (I.ok.hd hc) a2 t1 hx λh' x fF jA=>?_);obtain⟨o,ho,gC⟩:=jA;refine a_ (M5 (T:= "StopIteration") (b:=true) ⟨o,ho,gC⟩ OC ?_);refine e_ ⟨rfl,rT (t':=s.toks) I hf λb u hb e=>?_⟩;simp only[m_,LR,or_false,not_or] at hb;exact fF b u hb.2 e
 self:=λ_ _ _ _ _ st h=>by obtain⟨⟨old,a1⟩,_⟩:=st;exact Ri a1 h
noncomputable def iEnum(K:PySem.W.Frag)(ta:TA):TI:=λU H R=>ta U H λvs H1=>(∃l xs,vs=[.ref l]/\SqL K H1 l xs/\R (Ite (λH a xs=>SqL K H a xs) l) H1)\/(∃l xs,vs=[.ref l]/\SqT K H1 l xs/\R (Ite (λH a xs=>SqT K H a xs) l) H1)
theorem yq{rd:Hp->h_->List V->Prop}(ok:KdOk k)(kr:KdRd X.K k rd){H:Hp}{s:d_}{R:It->Hp->Prop}{l:h_}(I:Inv X aa U H s)(h1:rd H l xs)(q:R (Ite rd l) H):
  w_ (n_ X.prog X.w) X.A (call (.type "enumerate") [.ref l]) (λv s1=>w_ (n_ X.prog X.w) X.A (QH v) (PIE X aa U (.Tuple bB x1 tp) R) X.xe s1) X.xe s:=by
 obtain⟨af,r1,t1⟩:=kr.of rfl I h1;refine Cw ok t1 λn h' hn a1 a4 a6=>Ri a1 ?_
 subst hn;have I1:Inv X aa U H { s with heap:=h' }:=I.kept (t':=s.toks) a6;have lt:=ok.sqLt t1;refine⟨s.heap.objs.size+1,[s.heap.objs.size+1,s.heap.objs.size],_,_,H,rfl,I1,DE ok kr (NN _) (KI lt) (Nb (MX lt)),⟨⟨_,a1⟩,a4⟩,λb hb=>?_,q⟩;rw[m_,A_] at hb;have up:∀n,FpOk X aa H (s.heap.objs.size+n):=λn=>I.fpOk (K6 _ _) (I.hok.fresh (K6 _ _))
 rcases hb with rfl | rfl
 ·exact up 1
 ·exact up 0
theorem DS{p:Pos}(hg:Gl X "enumerate")(hm:X.mg "enumerate"=none)(ha:PA X [a] ta)(hs:f_ [a] X.env=[(false,KR a X.env)]:=by rfl):
  PI X (.Tuple bB x1 tp) (.Call (.Name "enumerate" p) [a] [] pos) (iEnum X.K ta):=by
 intro aa s U H R I h;refine RT (qc I hg hm boot_enumerate (KF (thn (ha pos aa s U H _ I h) λus s1 ⟨vs,H1,I1,r1,q1⟩=>?_) hs rfl))
 rcases q1 with⟨l1,xs,e,h1,q⟩ | ⟨l1,xs,e,h1,q⟩
 ·subst e;obtain⟨u1,rfl,e1⟩:=r1.one;cases e1;exact yq qP (yc _) I1 h1 q
 ·subst e;obtain⟨u1,rfl,e1⟩:=r1.one;cases e1;exact yq yV (z8 _) I1 h1 q
noncomputable def numD:Nat->List D->List D
 | _,[]=>[]
 | n,d::ds=>.tup [.int n,d]::numD (n+1) ds
theorem tM:∀{ds:List D}{n i:Nat}{d:D},(numD n ds)[i]?=some d->∃x,ds[i]?=some x/\d=.tup [.int ((n+i:Nat):Int),x]
 | [],n,i,d,h=>by rw[numD] at h;simp at h
 | c::ds,n,0,d,h=>by rw[numD] at h;simp at h;exact⟨c,rfl,h.symm⟩
 | c::ds,n,i+1,d,h=>by
  rw[numD] at h;obtain⟨x,e1,e2⟩:=tM (i:=i) (by simpa using h);refine⟨x,by simpa using e1,?_⟩;rw[e2,show n+1+i=n+(i+1) from by omega]
theorem xt:∀(ds:List D) (n:Nat),(numD n ds).length=ds.length
 | [],n=>by rw[numD]
 | c::ds,n=>by rw[numD,Lc,Lc,xt ds]
noncomputable def enumI(ds:List D):Option (List D):=match ds with
 | [.lst xs]=>some (numD 0 xs)
 | [.tup xs]=>some (numD 0 xs)
 | _=>none
theorem Ad{K:PySem.W.Frag}{rd:Hp->h_->List V->Prop}{l:h_}(mono:∀{H a xs},Same I H->rd I a xs->rd H a xs)(h1:rd I l xs)(i1:IsA K I ds xs):Yields K I (numD 0 ds) (Ite rd l):=λi H s=>by
 refine⟨λd hd=>?_,λhi=>⟨xs,mono s h1,?_⟩⟩
 ·obtain⟨y,e1,rfl⟩:=tM hd;obtain⟨x,f1,f2⟩:=i1.get e1;refine⟨⟨xs,x,mono s h1,f1⟩,λv H2 hy=>?_⟩;obtain⟨p,x',g1,g2,g3,g4⟩:=hy;have k1:=g4 xs (mono s h1);rw[f1] at k1;cases k1;refine .inr ⟨p,_,[.int i,x],rfl,g2,g1,g3,IsA.cons ?_ (IsA.cons f2 IsA.nil)⟩;rw[MV];exact Is.int _
 ·rw[xt,i1.length] at hi;exact hi
theorem Ed{p:Pos}{t:M (List D)}(hg:Gl X "enumerate")(hm:X.mg "enumerate"=none)(ha:AD X B [a] t)(hs:f_ [a] X.env=[(false,KR a X.env)]:=by rfl):
  ITD X B (.Tuple bB x1 tp) (.Call (.Name "enumerate" p) [a] [] pos) (fn1 enumI t):=PI.imp (DS hg hm ha hs) λU H R q=>by
 obtain⟨G,I,Γ,ds,ah,r,e1,k⟩:=q;obtain⟨d,ae,e2,e3⟩:=oK e1;obtain⟨e4,rfl⟩:=pD e3;refine⟨G,I,Γ,d,_,r,e2,λvs H1 I1 r1 g1 hd=>?_⟩;unfold enumI at e4;split at e4
 ·cases e4;obtain⟨x,rfl,hx⟩:=hd.one;obtain⟨l1,xs,rfl,h1,h2⟩:=pF hx;exact .inl ⟨l1,xs,rfl,(Same.rdK r1.iH h1).sq,k _ _ _ r1 g1 (Ad (λs h=>by rcases h with h | h;exact .inl (Same.rd s h);exact .inr h) h1.sq h2)⟩
 ·cases e4;obtain⟨x,rfl,hx⟩:=hd.one;obtain⟨l1,xs,rfl,h1,h2⟩:=pG hx;exact .inr ⟨l1,xs,rfl,Same.sqT r1.iH h1,k _ _ _ r1 g1 (Ad (λs h=>Same.sqT s h) h1 h2)⟩
 ·cases e4
noncomputable def reprF(ds:List D):Option D:=match ds with
 | [.bl b]=>some (.str (if b then "True" else "False"))
 | _=>none
end
theorem CompScope.of{cB sc:Nu}{N N':List Str}(h:decide (sc.kind=.function/\(∀y∈sc.names,y.2≠.cell)/\(∀y∈sc.names,y.2=.local->sc.names.lookup y.1=some .local)/\(∀y∈sc.names,y.2=.free->cB.names.lookup y.1=some .cell\/cB.names.lookup y.1=some .free)/\N'.Nodup/\N'.length=m+N.length ∧
   (∀p∈(N'.drop m).zip N,((relab sc cB).names.lookup p.1=none)\/(p.1=p.2/\(relab sc cB).names.lookup p.1≠some .local)))=true):CompScope cB sc N N' m:=by
 obtain⟨h1,h2,h3,h4,h5,h6,h7⟩:=of_decide_eq_true h;exact⟨h1,h2,h3,h4,h5,h6,h7⟩
theorem GR{P:z_}{w:I_}{K:PySem.W.Frag}{k:Nat}:FnOk P w K mg base CX0 k f fd ps (spD K λ_=>none):=by
 have no:∀vs H Q E,¬spD K (λ_=>none) vs H Q E:=λvs H Q E h=>by
  obtain⟨_,_,_,_,_,_,_,h,_⟩:=h;cases h
 exact⟨λvs H Q E h=>absurd h (no vs H Q E),λA outer s H args us vs Q E _ _ _ _ h=>absurd h (no vs H Q E)⟩
theorem GA{K:PySem.W.Frag}{H:Hp}{a:h_}{g:List R->Option (R×List R)}(kF:RdK K H a (ns.map V.int))(hg:∃rs,g [.val (.lst (ns.map D.int))]=some (.val (.bl true),rs)):spD K g [.ref a] H (λv _=>v=.bl true) λ_ _ _=>False:=by
 obtain⟨rs,hg⟩:=hg
 have lh:∀ns:List Int,IsA K H (ns.map D.int) (ns.map V.int):=λns=>by
  induction ns with
  | nil=>exact IsA.nil
  | cons n ns ih=>exact IsA.cons (Is.int n) ih
 refine⟨H,H,[.val (.lst (ns.map D.int))],.val (.bl true),rs,?_,rfl,hg,λv H' I' r g' hv=>qj (K:=K) (I:=I') hv⟩;refine⟨Same.refl _,Same.refl _,rfl,λi r e=>?_,λi j r r' v e e' m=>?_,λi ds e=>rfl⟩
 ·match i,e with
  | 0,e=>cases e;exact⟨_,rfl,Is.lst kF (lh ns)⟩
 ·match i,e with
  | 0,e=>cases e;cases m
noncomputable def hT(K:PySem.W.Frag)(H:Hp):Hp:=λb=>match Nt K "few_of" with
 | some (_,P)=>if b=P then some (.tbl "few_of.<locals>.<lambda>") else H b
 | none=>H b
theorem uW{K:PySem.W.Frag}{H:Hp}{c P:h_}(h:Nt K "few_of"=some (c,P)):hT K H P=some (.tbl "few_of.<locals>.<lambda>"):=by
 unfold hT;rw[h];exact if_pos rfl
theorem uL{K:PySem.W.Frag}{H:Hp}{b:h_}:hT K H b=H b\/∃c,Nt K "few_of"=some (c,b):=by
 unfold hT;cases e:Nt K "few_of" with
 | none=>exact .inl rfl
 | some q =>
  obtain⟨c,P⟩:=q;dsimp only;by_cases h:b=P
  ·subst h;exact .inr ⟨c,rfl⟩
  ·exact .inl (if_neg h)
theorem BH{P:z_}{w:I_}{K:PySem.W.Frag}{mb:Str->Option b_}{CX:CXT}{k:Nat}{a:h_}{x:Str}(KX:K.In aw.heap)(fC:aw.heap.Ns Lj mg)(hb:aw.heap.Ns NK mb)(nK:∀x:Str,x ≠ "__name__"->mb x=Mb x)(fm:aw.heap.NoLimit)(hg:aw.gens=#[])(nM:∃bm ob,mg "__builtins__"=some (.ref bm)/\bm≠NK/\aw.heap.get? bm=some ob/\ob.cls=.type "module"/\ob.dict=some NK/\ob.data=.plain)(dH:∀c P,Nt K "few_of"=some (c,P)->PySem.W.CodeHd aw.heap c P/\aw.heap.get? P=some (PySem.W.tabObj #[]))(gD:noTabs K=true)(ha:aw.heap.get? a=some { cls:=.type "list", data:=.seq vs.toArray })(hi:LZ vs ns)(hl:ns.length<=x_)(hr:Room k Qo)(F:∀base:KM,K.In base->base.Ns Lj mg->FnOk P w K mg base CX k fa fd [x] sp)(eU:∀(s:d_) (u:b_),Q9 s fd ⟨[u],[]⟩ [(x,u)])(dE:∀H:Hp,RdK K H a (ns.map V.int)->sp [.ref a] H (λv _=>v=.bl true) λ_ _ _=>False)(jM:∀H e s',CX [] H aw (λ_ _ _=>False) e s'->False):
  Ml (n_ P w) Qo (.call (.ref fa) ⟨[.ref a],[]⟩) (λr s'=>r=.ok (.ret (.bool true))/\OldK aw.heap s'.heap/\s'.os=aw.os/\OL s'.gens) aw:=by
 have rv:=z5 hi;have lm:=hi.length
 have nN:∀{c b:h_}{o:Obj},Nt K "few_of"=some (c,b)->K.lookup b=some o->False:=λ{c b o} e lk=>by
  have e1:=KX b o lk;rw[(dH c b e).2] at e1;cases e1;have:=LI.mp gD (b,_) (PySem.W.mem_of_lookupK lk);exact absurd (show false=true from this) v_
 -- from an abstract heap in which nothing but the script and the table may be cX
 have ja:∀H0:Hp,Only H0->RdK K (hT K H0) a (ns.map V.int)->HOk P w (hT K H0) aw.heap->(∀b,H0 b≠none->b=a)->(H0 a≠none->K.lookup a=none) →
   Ml (n_ P w) Qo (.call (.ref fa) ⟨[.ref a],[]⟩) (λr s'=>r=.ok (.ret (.bool true))/\OldK aw.heap s'.heap/\s'.os=aw.os/\OL s'.gens) aw:=by
  intro H0 hO hS hok hA hK;obtain⟨H,eH⟩:∃H,H=hT K H0:=⟨_,rfl⟩;have jN:∀b,H b=H0 b\/∃c,Nt K "few_of"=some (c,b):=λb=>by rw[eH];exact uL
  rw[←eH] at hS hok;have cx:∀{b:h_}{o:Obj},aw.heap.get? b=some o->H b=none->(hidT aw.heap H).get? b=some o:=λe n=>DZ e n
  have free:∀{b:h_}{o:Obj},aw.heap.get? b=some o->o.cls≠.type "list"\/(∀xs n,o.data≠.seq xs n)->o.cls≠.none\/(∀vs,o.data≠.fields vs)->H b=none:=λ{b o} e n1 n2=>by
   rcases jN b with q | ⟨c,q⟩
   ·rw[q];cases z:H0 b with
    | none=>rfl
    | some u =>
     have e':b=a:=hA b (by rw[z];simp);subst e';rw[ha] at e;cases e
     rcases n1 with n1 | n1
     ·exact absurd rfl n1
     ·exact absurd rfl (n1 _ _)
   ·rw[(dH c b q).2] at e;cases e
    rcases n2 with n2 | n2
    ·exact absurd rfl n2
    ·exact absurd rfl (n2 _)
  have iu:∀{b:h_}{m:Str->Option b_},aw.heap.Ns b m->(hidT aw.heap H).Ns b m:=λ{b m} ⟨o,es,ep,e,d,r⟩=>⟨o,es,ep,cx e (free e (.inr λxs n z=>by rw[d] at z;cases z) (.inr λvs z=>by rw[d] at z;cases z)),d,r⟩
  have lq:K.In (hidT aw.heap H):=λb o e=>cx (KX b o e) (by
   rcases jN b with q | ⟨c,q⟩
   ·rw[q];cases z:H0 b with
    | none=>rfl
    | some u =>
     have e':b=a:=hA b (by rw[z];simp);subst e';rw[hK (by rw[z];simp)] at e;cases e
   ·exact(nN q e).elim)
  have hM:Mod K mg (hidT aw.heap H):=⟨lq,iu fC,⟨mb,iu hb,nK⟩,let ⟨mc,h1,h2⟩:=fm;⟨mc,iu h1,h2⟩,by
   obtain⟨bm,ob,b1,b2,b3,b4,b5,b6⟩:=nM;exact⟨bm,ob,b1,b2,cx b3 (free b3 (.inl (by rw[b4];decide)) (.inl (by rw[b4];decide))),b4,b5,b6⟩,λc P q=>by
   obtain⟨o,vs,jb,tf,gE,tg,inF,jd,tt,e1,e2,e3,r⟩:=(dH c P q).1
   exact⟨o,vs,jb,tf,gE,tg,inF,jd,tt,cx e1 (free e1 (.inl (by rw[e2];decide)) (.inl (by rw[e2];decide))),e2,e3,r⟩⟩
  have e0:Env0 P w K mg (hidT aw.heap H) Qo [] aw H:=⟨rfl,hM,λb o e=>Gv e,Rh (HN _ _),trivial,λb hb=>absurd (show b∈([]:List h_) from hb) (by simp),hok,.of_eq hg,λc P q=>by rw[eH];exact uW q⟩;refine M4 ((F _ lq (iu fC)).run Qo [] aw H ⟨[.ref a],[]⟩ [.ref a] [.ref a] _ _ hr e0 (eU aw (.ref a)) (.cons rfl .nil) (dE H hS)) λr s' h=>?_
  cases r with
  | error e=>exact(jM H e s' h).elim
  | ok fl =>
   cases fl with
   | next=>exact Sh h
   | brk=>exact Sh h
   | cont=>exact Sh h
   | ret u =>
    obtain⟨v,H',os,bare,un,je,r',q⟩:=h;have q':v=.bl true:=q;subst q';obtain rfl:u=b_.bool true:=r';refine⟨rfl,⟨λb o e=>?_,λb o e=>un.there b o e (by simp)⟩,os,bare⟩
    rcases jN b with q | ⟨c,q⟩
    ·cases z:H0 b with
     | none=>exact .inl (un.keep b o e (by rw[q];exact z) (by intro z;exact absurd (show b∈([]:List h_) from z) (by simp)) (by simp))
     | some u =>
      rcases hO b with z' | ⟨ob,xs,z'⟩
      ·rw[z] at z';cases z'
      ·rw[←q] at z';have z2:=un.frzs b ob _ z';obtain⟨e1,_⟩:=hok b _ z';obtain⟨e2,_⟩:=je b _ z2;rw[e] at e1;cases e1;exact .inl e2
    ·have z2:=un.tbls b _ (e0.tb c b q);obtain⟨ps,e2,_⟩:=je b _ z2;obtain⟨⟨oc,gF,jb,tf,gE,tg,inF,jd,tt,c1,c2,c3,c4,_⟩,e3⟩:=dH c b q;rw[e3] at e;cases e;exact .inr (.inl ⟨⟨c,oc,gF,c1,c2,c3,c4⟩,rfl,#[],ps,rfl,by rw[Array.empty_append];exact e2⟩)
 have gG:∀{H0:Hp}{c b:h_},Nt K "few_of"=some (c,b)->ObjOk P w (hT K H0) aw.heap b (.tbl "few_of.<locals>.<lambda>"):=λ{H0 c b} q=>⟨#[],(dH c b q).2,trivial,λpos cv z=>by cases z⟩
 have nO:∀{c:h_},Nt K "few_of"≠some (c,a):=λ{c} q=>by
  have:=(dH c a q).2;rw[ha] at this;cases this
 cases hk:K.lookup a with
 | some o =>
  -- the script is one of the module's own objects
  have e:=KX a o hk;rw[ha] at e;cases e;refine ja (λ_=>none) (λ_=>.inl rfl) (.inr ⟨vs,_,hk,rv,by rw[lm];exact hl⟩) (λb u z=>?_) (λb z=>absurd rfl z) λz=>absurd rfl z
  rcases uL (K:=K) (H:=λ_=>none) (b:=b) with q | ⟨c,q⟩
  ·rw[q] at z;cases z
  ·rw[uW q] at z;cases z;exact gG q
 | none =>
  have aJ:hT K (λb=>if b=a then some (.frz { cls:=.type "list", data:=.seq vs.toArray } (.lst (ns.map V.int))) else none) a=some (.frz { cls:=.type "list", data:=.seq vs.toArray } (.lst (ns.map V.int))):=by
   rcases uL (K:=K) (H:=λb=>if b=a then some (.frz { cls:=.type "list", data:=.seq vs.toArray } (.lst (ns.map V.int))) else none) (b:=a) with q | ⟨c,q⟩
   ·rw[q];exact if_pos rfl
   ·exact absurd q nO
  refine ja (λb=>if b=a then some (.frz { cls:=.type "list", data:=.seq vs.toArray } (.lst (ns.map V.int))) else none) (λb=>?_) (.inl (.inr ⟨_,aJ⟩)) (λb u z=>?_) (λb z=>?_) λ_=>hk
  ·by_cases hb:b=a
   ·exact .inr ⟨_,_,if_pos hb⟩
   ·exact .inl (if_neg hb)
  ·rcases uL (K:=K) (H:=λb=>if b=a then some (.frz { cls:=.type "list", data:=.seq vs.toArray } (.lst (ns.map V.int))) else none) (b:=b) with q | ⟨c,q⟩
   ·rw[q] at z;by_cases hb:b=a
    ·have z':=(if_pos hb).symm.trans z;cases z';subst hb;exact⟨ha,by rw[y_];exact hl,vs,_,rv,ha⟩
    ·have z':=(if_neg hb).symm.trans z;cases z'
   ·rw[uW q] at z;cases z;exact gG q
  ·by_cases hb:b=a
   ·exact hb
   ·exact absurd (if_neg hb) z
theorem A4{l:PySem.W.OpenLaw}{k:Nat}{XP:(Str->Option b_)->KM->Prop}{YP:I_->KM->Prop}{d:DefRec}{K:Params->PySem.W.Frag}{CX:I_->CXT}{sp:I_->Sp}{x:Str}(hn:l.most=some n)(nQ:n<=x_)(fU:d.params.defaults=[])(hr:Room k Qo)(cu:∃d',(recsOf q).find? (λe=>e.name == ("few_of":Str))=some d')(gD:∀p,noTabs (K p)=true)(hY:∀(w:I_) (h:KM),YP w h->(K w.params).In h)(F:∀(w:I_) (mg:Str->Option b_) (fa:h_) (h:KM),(K w.params).In h->h.Ns Lj mg->mg d.name=some (.ref fa) →
   ∃fd:NW,(∀(s:d_) (u:b_),Q9 s fd ⟨[u],[]⟩ [(x,u)]) ∧
    ∀base:KM,(K w.params).In base->base.Ns Lj mg->FnOk l.prog w (K w.params) mg base (CX w) k fa fd [x] (sp w))(dE:∀(w:I_) (H:Hp) (a:h_) (ns:List Int),ns.length<=n->RdK (K w.params) H a (ns.map V.int)->sp w [.ref a] H (λv _=>v=.bl true) λ_ _ _=>False)(jM:∀(w:I_) (H:Hp) (s:d_) (e:b_) (s':d_),CX w [] H s (λ_ _ _=>False) e s'->False):
  PySem.W.WalkO q cA XP YP l.row.toRowW d [] (λf vs=>PySem.call f vs):=by
 refine Att.IR hn fU λw s₀ aw mg mb fa o pm cd bO a vs ns G Y ho hd aW fV fW eG aY hg=>?_
 have KX:=hY w _ Y;obtain⟨fd,hb,hF⟩:=F w mg fa _ KX G.T.g fV;obtain⟨d',br⟩:=cu;exact BH KX G.T.g G.T.b G.T.builtins G.T.nolimit hg G.T.bmain (λc P q=>PySem.W.tab_of G.T KX br q) (gD _) fW eG (LL aY nQ) hr hF hb (λH hS=>dE w H a ns aY hS) λH e s'=>jM w H aw e s'
noncomputable def un1{α:Type}(F:D->Option α)(g:M D):M α:=bnd g λd=>lft (F d)
inductive Ki where
 | iT | sT | bT | tT | lT
noncomputable def Ki.nm:Ki->String
 | .iT => "int"
 | .sT => "str"
 | .bT => "bool"
 | .tT => "tuple"
 | .lT => "list"
noncomputable def isiB:Ki->D->Bool
 | .iT,.int _=>true
 | .iT,.bl _=>true
 | .sT,.str _=>true
 | .bT,.bl _=>true
 | .tT,.tup _=>true
 | .lT,.lst _=>true
 | _,_=>false
noncomputable def isX:D->Bool
 | .dct _=>true
 | _=>false
noncomputable def isiF(k:Ki)(d:D):Option D:=if isX d then none else some (.bl (isiB k d))
section
variable{B:BB}{ga:M D}
theorem Cb{k:Ki}{h:KM}{a:h_}{af:Array b_}{prog:z_}{w:I_}{E:b_->d_->Prop}{s:d_}{Q:b_->d_->Prop}(hl:s.heap.IsList a af)(q:∀t,Q (.bool (isiB k (.lst ds))) { s with toks:=t }):w_ (n_ prog w) A (call (.builtin "isinstance") [.ref a,.type k.nm]) Q E s:=by
 cases k
 ·exact PySem.IsiPair.isList_int hl (λ_ _ z=>z) (q _)
 ·exact PySem.IsiPair.isList_str hl (λ_ _ z=>z) (q _)
 ·exact PySem.IsiPair.isList_bool hl (λ_ _ z=>z) (q _)
 ·exact PySem.IsiPair.isList_tuple hl (λ_ _ z=>z) (q _)
 ·exact PySem.IsiPair.isList_list hl (λ_ _ z=>z) (q _)
theorem E5{k:Ki}{h:KM}{a:h_}{af:Array b_}{prog:z_}{w:I_}{E:b_->d_->Prop}{s:d_}{Q:b_->d_->Prop}(hl:s.heap.IsTuple a af)(q:∀t,Q (.bool (isiB k (.tup ds))) { s with toks:=t }):w_ (n_ prog w) A (call (.builtin "isinstance") [.ref a,.type k.nm]) Q E s:=by
 cases k
 ·exact PySem.IsiPair.isTuple_int hl (λ_ _ z=>z) (q _)
 ·exact PySem.IsiPair.isTuple_str hl (λ_ _ z=>z) (q _)
 ·exact PySem.IsiPair.isTuple_bool hl (λ_ _ z=>z) (q _)
 ·exact PySem.IsiPair.isTuple_tuple hl (λ_ _ z=>z) (q _)
 ·exact PySem.IsiPair.isTuple_list hl (λ_ _ z=>z) (q _)
theorem GE(k:Ki):CallR X (.builtin "isinstance") (λxs H Q=>∃d x,isX d=false/\xs=[x,.ty k.nm]/\Is X.K H d x/\Q (.bl (isiB k d)) H):=by
 intro aa s U H xs us Q I r h;obtain⟨d,x,hX,rfl,hd,q⟩:=h;cases r with
 | cons rx r =>
  cases r with
  | cons rt r =>
   cases r;cases rt;have fin:∀t,EP X aa U Q (.bool (isiB k d)) { s with toks:=t }:=λt=>⟨.bl _,H,I.tok _,rfl,q⟩
   cases d with
   | dct _=>cases hX
   | non =>
    cases(show x=.non from by rw[Is] at hd;exact hd)
    cases rx;cases k
    ·exact PySem.IsiPair.NoneType_int (fin _)
    ·exact PySem.IsiPair.NoneType_str (fin _)
    ·exact PySem.IsiPair.NoneType_bool (fin _)
    ·exact PySem.IsiPair.NoneType_tuple (fin _)
    ·exact PySem.IsiPair.NoneType_list (fin _)
   | bl b =>
    cases qj hd;cases rx;cases k
    ·exact bool_int (fin _)
    ·exact bool_str (fin _)
    ·exact bool_bool (fin _)
    ·exact PySem.IsiPair.bool_tuple (fin _)
    ·exact bool_list (fin _)
   | int i =>
    cases pq hd;obtain⟨t,rfl⟩:=rx;cases k
    ·exact PySem.IsiPair.int_int (fin _)
    ·exact int_str (fin _)
    ·exact int_bool (fin _)
    ·exact int_tuple (fin _)
    ·exact int_list (fin _)
   | str y =>
    cases(show x=.str y from by rw[Is] at hd;exact hd)
    obtain⟨t,rfl⟩:=rx;cases k
    ·exact str_int (fin _)
    ·exact str_str (fin _)
    ·exact str_bool (fin _)
    ·exact str_tuple (fin _)
    ·exact str_list (fin _)
   | tup ds =>
    obtain⟨a,xs,rfl,h1,h2⟩:=pG hd;cases rx;obtain⟨af,_,t,_⟩:=I.tuple h1;exact E5 (h:=s.heap) t fin
   | lst ds =>
    obtain⟨a,xs,rfl,h1,h2⟩:=pF hd;cases rx;obtain⟨af,_,t,_⟩:=I.list h1.sq;exact Cb (h:=s.heap) t.isList fin
theorem BV{k:Ki}:∀U H Q,tD X.K B (un1 (isiF k) ga) U H Q->tCB (λxs H Q=>∃d x,isX d=false/\xs=[x,.ty k.nm]/\Is X.K H d x/\Q (.bl (isiB k d)) H) (tCons (tD X.K B ga) (tCons (tC (.ty k.nm)) tNil)) U H Q:=λU H Q q=>by
 obtain⟨G,I,Γ,d,ah,r,e1,k⟩:=q;obtain⟨d1,ae,e2,e3⟩:=oK e1;obtain⟨e4,rfl⟩:=pD e3;unfold isiF at e4;cases hX:isX d1 with
 | true=>rw[hX] at e4;cases e4
 | false =>
 rw[hX] at e4;cases e4;exact⟨G,I,Γ,d1,_,r,e2,λv H1 I1 r1 g1 h1=>⟨d1,v,hX,rfl,h1.mono r1.iH,k _ _ _ r1 g1 (Is.bl _)⟩⟩
theorem sP{k:Ki}{t:Str}{p:Pos}(hv:Mb t=some (.type k.nm))(hn:t ≠ "__name__")(hd:(t == ("__debug__":Str))=false)(hg:Gl X "isinstance")(hm:X.mg "isinstance"=none)(dm:Gl X t)(cy:X.mg t=none)(ha:ED X B e ga)(he:f_ [e,.Name t p2] X.env=(false,KR e X.env)::f_ [.Name t p2] X.env:=by rfl)(cE:f_ [.Name t p2] X.env=(false,KR (.Name t p2) X.env)::f_ [] X.env:=by rfl)(aC:(K0 pos (f_ [.Name t p2] X.env)).any (·.1)=false:=by rfl):
  ED X B (.Call (.Name "isinstance" p) [e,.Name t p2] [] pos) (un1 (isiF k) ga):=
 PE.imp (vH (GE k) hg hm boot_isinstance (qI ha (qI (FL (v:=.ty k.nm) dm cy hv rfl hn hd) sU cE) he) (by decide) (by decide) he aC) BV
theorem uE{p:Pos}(hg:Gl X "isinstance")(hm:X.mg "isinstance"=none)(dm:Gl X "int")(cy:X.mg "int"=none)(ha:ED X B e ga)(he:f_ [e,.Name "int" p2] X.env=(false,KR e X.env)::f_ [.Name "int" p2] X.env:=by rfl)(cE:f_ [.Name "int" p2] X.env=(false,KR (.Name "int" p2) X.env)::f_ [] X.env:=by rfl)(aC:(K0 pos (f_ [.Name "int" p2] X.env)).any (·.1)=false:=by rfl):
  ED X B (.Call (.Name "isinstance" p) [e,.Name "int" p2] [] pos) (un1 (isiF .iT) ga):=sP (k:=.iT) boot_int (by decide) (by decide) hg hm dm cy ha he cE aC
theorem Gy{p:Pos}(hg:Gl X "isinstance")(hm:X.mg "isinstance"=none)(dm:Gl X "str")(cy:X.mg "str"=none)(ha:ED X B e ga)(he:f_ [e,.Name "str" p2] X.env=(false,KR e X.env)::f_ [.Name "str" p2] X.env:=by rfl)(cE:f_ [.Name "str" p2] X.env=(false,KR (.Name "str" p2) X.env)::f_ [] X.env:=by rfl)(aC:(K0 pos (f_ [.Name "str" p2] X.env)).any (·.1)=false:=by rfl):
  ED X B (.Call (.Name "isinstance" p) [e,.Name "str" p2] [] pos) (un1 (isiF .sT) ga):=sP (k:=.sT) boot_str (by decide) (by decide) hg hm dm cy ha he cE aC
theorem sy{p:Pos}(hg:Gl X "isinstance")(hm:X.mg "isinstance"=none)(dm:Gl X "bool")(cy:X.mg "bool"=none)(ha:ED X B e ga)(he:f_ [e,.Name "bool" p2] X.env=(false,KR e X.env)::f_ [.Name "bool" p2] X.env:=by rfl)(cE:f_ [.Name "bool" p2] X.env=(false,KR (.Name "bool" p2) X.env)::f_ [] X.env:=by rfl)(aC:(K0 pos (f_ [.Name "bool" p2] X.env)).any (·.1)=false:=by rfl):
  ED X B (.Call (.Name "isinstance" p) [e,.Name "bool" p2] [] pos) (un1 (isiF .bT) ga):=sP (k:=.bT) boot_bool (by decide) (by decide) hg hm dm cy ha he cE aC
theorem uF{p:Pos}(hg:Gl X "isinstance")(hm:X.mg "isinstance"=none)(dm:Gl X "tuple")(cy:X.mg "tuple"=none)(ha:ED X B e ga)(he:f_ [e,.Name "tuple" p2] X.env=(false,KR e X.env)::f_ [.Name "tuple" p2] X.env:=by rfl)(cE:f_ [.Name "tuple" p2] X.env=(false,KR (.Name "tuple" p2) X.env)::f_ [] X.env:=by rfl)(aC:(K0 pos (f_ [.Name "tuple" p2] X.env)).any (·.1)=false:=by rfl):
  ED X B (.Call (.Name "isinstance" p) [e,.Name "tuple" p2] [] pos) (un1 (isiF .tT) ga):=sP (k:=.tT) boot_tuple (by decide) (by decide) hg hm dm cy ha he cE aC
theorem vL{p:Pos}(hg:Gl X "isinstance")(hm:X.mg "isinstance"=none)(dm:Gl X "list")(cy:X.mg "list"=none)(ha:ED X B e ga)(he:f_ [e,.Name "list" p2] X.env=(false,KR e X.env)::f_ [.Name "list" p2] X.env:=by rfl)(cE:f_ [.Name "list" p2] X.env=(false,KR (.Name "list" p2) X.env)::f_ [] X.env:=by rfl)(aC:(K0 pos (f_ [.Name "list" p2] X.env)).any (·.1)=false:=by rfl):
  ED X B (.Call (.Name "isinstance" p) [e,.Name "list" p2] [] pos) (un1 (isiF .lT) ga):=sP (k:=.lT) RA (by decide) (by decide) hg hm dm cy ha he cE aC
noncomputable def negI(d:D):Option D:=match d with
 | .int i=>some (.int (-i))
 | _=>none
theorem IS:∀U H Q,tD X.K B (un1 negI ga) U H Q->tUn (rU λi=>.int (-i)) (tD X.K B ga) U H Q:=λU H Q q=>by
 obtain⟨G,I,Γ,d,ah,r,e1,k⟩:=q;obtain⟨d1,ae,e2,e3⟩:=oK e1;obtain⟨e4,rfl⟩:=pD e3;unfold negI at e4;split at e4
 ·cases e4;exact⟨G,I,Γ,_,_,r,e2,λv H1 I1 r1 g1 h1=>⟨_,pq h1,k _ _ _ r1 g1 (Is.int _)⟩⟩
 ·cases e4
theorem vF(ha:ED X B e ga):ED X B (.UnaryOp .USub e pos) (un1 negI ga):=PE.imp (Cp EA ha) IS
end
end DL
namespace PySem.SeqAt
def RcLtAt(A:Mc)(s:d_)(y x:b_)(b:Bool):Prop:=
 ∀(prog:z_) (w:I_) (E:b_->d_->Prop) (Q:b_->d_->Prop),Q (.bool b) s->w_ (n_ prog w) A (P9 .Lt y x) Q E s
noncomputable def ltFrom(e lt:Nat->Bool)(d:Bool):List Nat->Bool
 | []=>d
 | i::r=>if e i then ltFrom e lt d r else lt i
theorem Ex(u v:h_)(us vs:Array b_)(p q:Nat)(du dv:Option h_)(ku kv:Array (Option b_))(e lt:Nat->Bool):
  Meets (Me.«tuple.__lt__» ⟨[.ref u,.ref v],[]⟩) (λA ak s=>(s.heap.get? u=some ⟨.type "tuple", du,.seq us p,ku⟩/\s.heap.get? v=some ⟨.type "tuple", dv,.seq vs q,kv⟩) ∧
    (∀j (h1:j < us.size) (h2:j < vs.size),Sq A.in1 s us[j] vs[j] (e j)/\(e j=false->RcLtAt A.in1 s us[j] vs[j] (lt j)))/\ak (.ok (.ret (.bool (ltFrom e lt (decide (us.size < vs.size)) (Mm (min us.size vs.size)))))) s):=
 .of_wp λprog w A ak s given=>by
  obtain⟨hp,gn,dw,tk,os⟩:=s;obtain⟨⟨gu,gv⟩,gI,ls⟩:=given;obtain⟨gJ,hs⟩:∃gJ:Nat->Prop,gJ=λi=>ak (.ok (.ret (.bool (ltFrom e lt (decide (us.size < vs.size)) ((Mm (min us.size vs.size)).drop i))))) ⟨hp,gn,dw,tk,os⟩:=⟨_,rfl⟩
  have dG:=AutoSeq1.sub_tuple_tuple;have len:(us.toList.zip vs.toList).length=min us.size vs.size:=by rw[R6];rfl
  wp_walk using O1 gu,O1 gv,wpAny_forIn_list _ (λleft eP now=>eP.1=none/\now=⟨hp,gn,dw,tk,os⟩/\∃i,left=(us.toList.zip vs.toList).drop i/\gJ i) _
  case turn =>
   rintro⟨y,x⟩ left eP now ⟨aK,rfl,i,aI,say⟩
   have aJ:i < min us.size vs.size:=by
    rw[←len];exact Nat.lt_of_not_le λno=>by rw[LN no] at aI;exact List.cons_ne_nil _ _ aI
   have k1:i < us.size:=by omega
   have k2:i < vs.size:=by omega
   have cut:=KC (l:=us.toList.zip vs.toList) (i:=i) (len▸aJ);rw[←aI,List.getElem_zip] at cut;obtain⟨yx,cM⟩:=List.cons.inj cut;obtain⟨rfl,rfl⟩:=Prod.mk.inj yx;rw[hs] at say;have jf:=KC (l:=Mm (min us.size vs.size)) (i:=i) (by simpa using aJ);rw[OZ] at jf;rw[jf,ltFrom] at say;have two:=gI i k1 k2;refine a_ (two.1 prog w _ _ ?_);cases like:e i with
   | true =>
    rw[like,if_pos rfl] at say
    wp_walk
    exact⟨rfl,rfl,i+1,cM,by rw[hs];exact say⟩
   | false =>
    rw[like,if_neg v_] at say;refine a_ (LM (a_ (two.2 like prog w _ _ ?_)))
    wp_walk
    exact⟨_,rfl,say⟩
  case fin =>
   rintro⟨eP,_⟩ now ⟨aK,rfl,i,aI,say⟩;cases aK
   have past:min us.size vs.size<=i:=by
    rw[←len];exact P_.mp aI.symm
   rw[hs] at say;rw[LN (by simpa using past),ltFrom] at say
   wp_walk
   exact⟨_,rfl,by simpa[Me.Tuple.tupleCompareSizes] using say⟩
  case h=>exact⟨rfl,rfl,0,rfl,by rw[hs];exact ls⟩
theorem RcLtAt.tuples{s:d_}{u v:h_}{us vs:Array b_}{e lt:Nat->Bool}(hu:s.heap.IsTuple u us)(hv:s.heap.IsTuple v vs)(room:A.units < MN)(gI:∀j (h1:j < us.size) (h2:j < vs.size),Sq A.in1 s us[j] vs[j] (e j)/\(e j=false->RcLtAt A.in1 s us[j] vs[j] (lt j))):RcLtAt A s (.ref u) (.ref v) (ltFrom e lt (decide (us.size < vs.size)) (Mm (min us.size vs.size))):=by
 obtain⟨⟨_,du,_,ku⟩,gu,rfl,p,rfl⟩:=hu;obtain⟨⟨_,dv,_,kv⟩,gv,rfl,q,rfl⟩:=hv;exact λprog w E Q h=>richCompare_meets_room (op:=.Lt) ⟨_,gu,rfl⟩ ⟨_,gv,rfl⟩ F.slot_tuple_lt F.entry_tuple_lt (F.args_tuple_lt_2 _ _) (Ex u v us vs p q du dv ku kv e lt) ⟨⟨gu,gv⟩,gI,b_.noConfusion,h⟩ room
theorem RcLtAt.int_int{s:d_}(a:Int)(t:Tok)(b:Int)(u:Tok):RcLtAt A s (.int a t) (.int b u) (decide (a < b)):=λprog w E Q h=>PyProof.Rows.lt_int h
end PySem.SeqAt
namespace DL
open PySem PySem.Spec PyProof.Rows L2
section
variable{B:BB}{a b c:KQ}{es:List KQ}
theorem sA:∀{xs:List V}{us:List b_},xs.length=us.length->(∀(i:Nat) x u,xs[i]?=some x->us[i]?=some u->RelV x u)->Vals xs us
 | [],[],_,_=>.nil
 | [],_::_,h,_=>by cases h
 | _::_,[],h,_=>by cases h
 | x::xs,u::us,h,k=>.cons (k 0 x u rfl rfl) (sA (NC h) λi y v e f=>k (i+1) y v e f)
end
section
variable{B:BB}{a b c:KQ}{es:List KQ}{kr:Nat}
noncomputable def prD(p:Int×Int):D:=.tup [.int p.1,.int p.2]
open PySem.SeqAt in
end
end DL
namespace DL
open PySem PySem.W PyProof.Rows
structure Ord(lt:Nat->Nat->Bool):Prop where
 as:∀a b,lt a b=true->lt b a=false
 tr:∀a b c,lt b a=false->lt c b=false->lt c a=false
section
variable{lt:Nat->Nat->Bool}{s:d_}
def askIn(n:Nat)(lt:Nat->Nat->Bool):Nat->Nat->(Bool->d_->Prop)->d_->Prop:=λi j C s=>i < n/\j < n/\C (lt i j) s
noncomputable def gt(p:Array Nat)(i:Nat):Nat:=p.getD i 0
def Pm(n:Nat)(p:Array Nat):Prop:=p.Perm (Mm n).toArray
def Dn(lt:Nat->Nat->Bool)(p:Array Nat)(m:Nat):Prop:=∀i j,i < j->j < m->lt (gt p i) (gt p j)=false
def Up(lt:Nat->Nat->Bool)(p:Array Nat)(m:Nat):Prop:=∀i j,i < j->j < m->lt (gt p j) (gt p i)=false
def Eqs(lt:Nat->Nat->Bool)(p:Array Nat)(a b:Nat):Prop:=∀i j,a<=i->i < b->a<=j->j < b->lt (gt p i) (gt p j)=false
theorem Pm.size{p:Array Nat}(h:Pm n p):p.size=n:=by
 have:=h.size_eq;simpa using this
theorem Pm.bd{p:Array Nat}(h:Pm n p)(pos:0 < n)(i:Nat):gt p i < n:=by
 unfold gt;by_cases hi:i < p.size
 ·have:p[i]∈(Mm n).toArray:=h.mem_iff.mp (ON hi);rw[Sr,dif_pos hi];simpa using this
 ·rw[Sr,dif_neg hi];exact pos
theorem tH{p:Array Nat}{i:Nat}:gt p i=p[i]?.getD 0:=by
 unfold gt;exact LV ..
theorem qV{p:Array Nat}{i:Nat}(hj:j<=p.size)(k:Nat):gt (Rj p i j) k=if i<=k/\k < j then gt p (i+j - 1 - k) else gt p k:=by
 rw[tH,tH,tH];unfold Rj;rw[Qs hj];split<;>rfl
theorem zD{p:Array Nat}{cC d:Nat}(hs:cC < p.size)(hd:d<=cC)(k:Nat):gt (bubble p cC d) k=if k=cC - d then gt p cC else if cC - d < k/\k<=cC then gt p (k - 1) else gt p k:=by
 simp only[tH];rw[getElem?_bubble hs d hd];split
 ·rfl
 ·split<;>rfl
theorem Pm.rev{p:Array Nat}(h:Pm n p)(i j:Nat):Pm n (Rj p i j):=Pz.trans (mirror_perm _ _ _ _) h
theorem sK{α:Type}{lu:Nat->Nat->(Bool->d_->Prop)->d_->Prop}{Q:α->d_->Prop}{P:α->Prop}(hc:∀i j C,i < n->j < n->C (lt i j) s->lu i j C s)(hq:∀a,P a->Q a s):∀t:KasT α,t.kasWp (askIn n lt) (λa _=>P a) s->t.kasWp lu Q s
 | .ret a,h=>hq a h
 | .ask i j k,⟨h1,h2,h3⟩=>hc i j _ h1 h2 (sK hc hq (k (lt i j)) h3)
theorem sv{α β:Type}{t:KasT α}{f:α->KasT β}{P:α->Prop}{Q:β->Prop}(h:t.kasWp (askIn n lt) (λa _=>P a) s)(k:∀a,P a->(f a).kasWp (askIn n lt) (λb _=>Q b) s):(t.bind f).kasWp (askIn n lt) (λb _=>Q b) s:=by
 rw[KasT.kasWp_bind];exact sK (λi j C h1 h2 h3=>⟨h1,h2,h3⟩) (λa ha=>k a ha) t h
variable (O:Ord lt)(two:2<=n)
include O
theorem Ord.irr(a:Nat):lt a a=false:=by
 cases h:lt a a with
 | false=>rfl
 | true=>rw[←h];exact O.as a a h
theorem Ord.lt_le{a b c:Nat}(h1:lt a b=true)(h2:lt c b=false):lt a c=true:=by
 cases h:lt a c with
 | true=>rfl
 | false =>
  -- c<=a,b<=c
  have:=O.tr b c a h2 h;rw[this] at h1;cases h1
include two
theorem vm{p:Array Nat}(hp:Pm n p):∀(f m:Nat),1<=m->(kas_asc p f m).kasWp (askIn n lt) (λm' _=>m<=m'/\m'<=m+f/\(∀k,m<=k->k < m'->lt (gt p k) (gt p (k - 1))=false)/\(m' < m+f->lt (gt p m') (gt p (m' - 1))=true)) s
 | 0,m,_=>by
  rw[kas_asc];exact⟨B_ _,B_ _,λk h1 h2=>by omega,λh=>by omega⟩
 | f+1,m,hm=>by
  rw[kas_asc];refine⟨hp.bd (by omega) m,hp.bd (by omega) (m - 1),?_⟩;cases h:lt (p.getD m 0) (p.getD (m - 1) 0) with
  | true =>
   dsimp only;rw[if_pos rfl];exact⟨B_ _,by omega,λk h1 h2=>by omega,λ_=>h⟩
  | false =>
   dsimp only;rw[if_neg v_];refine sK (λi j C h1 h2 h3=>⟨h1,h2,h3⟩) (λm' h'=>?_) _ (vm hp f (m+1) (by omega));obtain⟨a1,a2,a3,a4⟩:=h';refine⟨by omega,by omega,λk h1 h2=>?_,λh'=>a4 (by omega)⟩;by_cases z:k=m
   ·rw[z];exact h
   ·exact a3 k (by omega) h2
omit two in
theorem Up.of_steps{p:Array Nat}{m':Nat}(hm:Up lt p m)(st:∀k,m<=k->k < m'->1<=k->lt (gt p k) (gt p (k - 1))=false):Up lt p m':=by
 intro i j
 induction j with
 | zero=>intro h;omega
 | succ j ih =>
  intro bu hj;by_cases z:j+1 < m
  ·exact hm i (j+1) bu z
  ·have s1:=st (j+1) (by omega) hj (by omega);rw[Nat.add_sub_cancel] at s1;by_cases e:i=j
   ·rw[e];exact s1
   ·exact O.tr _ _ _ (ih (by omega) (by omega)) s1
omit two O in
theorem Dn.up{p:Array Nat}(hm:m<=p.size)(h:Dn lt p m):Up lt (Rj p 0 m) m:=by
 intro i j bu hj;rw[qV hm,qV hm,if_pos ⟨K' _,hj⟩,if_pos ⟨K' _,by omega⟩];exact h _ _ (by omega) (by omega)
omit two O in
theorem Dn.turn{p:Array Nat}{a:Nat}(hm:m<=p.size)(h:Dn lt p m)(e:Eqs lt p a m):Dn lt (Rj p a m) m:=by
 intro i j bu hj;rw[qV hm,qV hm];by_cases h1:a<=i
 ·rw[if_pos ⟨h1,by omega⟩,if_pos ⟨by omega,hj⟩];exact e _ _ (by omega) (by omega) (by omega) (by omega)
 ·rw[if_neg (by omega)];by_cases h2:a<=j
  ·rw[if_pos ⟨h2,hj⟩];exact h _ _ (by omega) (by omega)
  ·rw[if_neg (by omega)];exact h _ _ bu hj
omit two in
theorem Dn.next{p:Array Nat}(h:Dn lt p m)(hm:1<=m)(st:lt (gt p (m - 1)) (gt p m)=false):Dn lt p (m+1):=by
 intro i j bu hj;by_cases z:j < m
 ·exact h i j bu z
 ·have:j=m:=by omega
  subst this;by_cases e:i=j - 1
  ·rw[e];exact st
  ·exact O.tr _ _ _ st (h i (j - 1) (by omega) (by omega))
theorem ud:∀(f:Nat) (p:Array Nat) (m q:Nat),Pm n p->1<=m->m+f<=n->q < m->Dn lt p m->Eqs lt p (m - (q+1)) m →
  (kas_desc f p m q).kasWp (askIn n lt) (λr _=>Pm n r.1/\1<=r.2.1/\r.2.1<=n/\r.2.2 < r.2.1/\Dn lt r.1 r.2.1/\Eqs lt r.1 (r.2.1 - (r.2.2+1)) r.2.1) s
 | 0,p,m,q,hp,h1,h2,h3,h4,h5=>by
  rw[kas_desc];exact⟨hp,h1,(by show m<=n;omega),h3,h4,h5⟩
 | f+1,p,m,q,hp,h1,h2,h3,h4,h5=>by
  rw[kas_desc]
  have one:∀(p':Array Nat),Pm n p'->Eqs lt p' (m+1 - (0+1)) (m+1):=λp' _ i j a b c d=>by
   have:i=m:=by omega
   have:j=m:=by omega
   subst i;subst j;exact O.irr _
  refine⟨hp.bd (by omega) m,hp.bd (by omega) (m - 1),?_⟩;cases h:lt (p.getD m 0) (p.getD (m - 1) 0) with
  | true =>
   dsimp only;rw[if_pos rfl];have st:lt (gt p (m - 1)) (gt p m)=false:=O.as _ _ h;split
   ·have sz:m<=p.size:=by rw[hp.size];omega
    refine ud f _ (m+1) 0 (hp.rev _ _) (by omega) (by omega) (by omega) (Dn.next O (h4.turn sz h5) h1 ?_) (one _ (hp.rev _ _));rw[qV sz,qV sz,if_pos ⟨by omega,by omega⟩,if_neg (by omega)];refine O.tr _ _ _ st ?_;exact h5 _ _ (by omega) (by omega) (by omega) (by omega)
   ·exact ud f _ (m+1) 0 hp (by omega) (by omega) (by omega) (Dn.next O h4 h1 st) (one _ hp)
  | false =>
   dsimp only;rw[if_neg v_];refine⟨hp.bd (by omega) (m - 1),hp.bd (by omega) m,?_⟩;cases h':lt (p.getD (m - 1) 0) (p.getD m 0) with
   | true =>
    dsimp only;rw[if_pos rfl];exact⟨hp,h1,(by show m<=n;omega),h3,h4,h5⟩
   | false =>
    dsimp only;rw[if_neg v_];refine ud f p (m+1) (q+1) hp (by omega) (by omega) (by omega) (Dn.next O h4 h1 h') λi j a b c d=>?_
    have up:∀i,m - (q+1)<=i->i < m->lt (gt p i) (gt p m)=false:=λi x y=>O.tr _ _ _ h' (h5 i (m - 1) x y (by omega) (by omega))
    have dn:∀i,m - (q+1)<=i->i < m->lt (gt p m) (gt p i)=false:=λi x y=>O.tr _ _ _ (h5 (m - 1) i (by omega) (by omega) x y) h
    by_cases zi:i=m
    ·by_cases zj:j=m
     ·rw[zi,zj];exact O.irr _
     ·rw[zi];exact dn j (by omega) (by omega)
    ·by_cases zj:j=m
     ·rw[zj];exact up i (by omega) (by omega)
     ·exact h5 i j (by omega) (by omega) (by omega) (by omega)
theorem xI{p:Array Nat}(hp:Pm n p)(h1:1<=m)(h2:m<=n)(h:Dn lt p m):(kas_tail3 m n p).kasWp (askIn n lt) (λr _=>1<=r.1/\r.1<=n/\Pm n r.2/\Up lt r.2 r.1) s:=by
 unfold kas_tail3;refine sv (vm O two (hp.rev 0 m) (n - m) m h1) λm' ⟨a1,a2,a3,_⟩=>?_
 have up:=h.up (by rw[hp.size];exact h2);exact⟨by omega,by omega,hp.rev 0 m,Up.of_steps O up λk x y _=>a3 k x y⟩
theorem zM{p:Array Nat}(hp:Pm n p)(h1:1<=m)(h2:m < n)(h:Dn lt p (m+1)):(kas_descPart m n p).kasWp (askIn n lt) (λr _=>1<=r.1/\r.1<=n/\Pm n r.2/\Up lt r.2 r.1) s:=by
 unfold kas_descPart;refine sv (ud O two (n - (m+1)) p (m+1) 0 hp (by omega) (by omega) (by omega) h λi j a b c d=>?_) λr ⟨b1,b2,b3,b4,b5,b6⟩=>?_
 ·have:i=m:=by omega
  have:j=m:=by omega
  subst i;subst j;exact O.irr _
 ·split
  ·exact xI O two (b1.rev _ _) b2 b3 (b5.turn (by rw[b1.size];exact b3) b6)
  ·exact xI O two b1 b2 b3 b5
theorem v9{p:Array Nat}(hp:Pm n p):(kas_count n p).kasWp (askIn n lt) (λr _=>1<=r.1/\r.1<=n/\Pm n r.2/\Up lt r.2 r.1) s:=by
 unfold kas_count;refine sv (vm O two hp (n - 1) 1 (B_ _)) λm ⟨a1,a2,a3,a4⟩=>?_
 have up1:Up lt p m:=Up.of_steps O (m:=1) (λi j x y=>by omega) λk x y z=>a3 k x y
 split
 ·exact⟨a1,by omega,hp,up1⟩
 ·rename_i ne;have ne:m≠n:=by simpa using ne
  have last:=a4 (by omega);split
  ·refine⟨hp.bd (by omega) 0,hp.bd (by omega) (m - 1),?_⟩;cases h:lt (p.getD 0 0) (p.getD (m - 1) 0) with
   | true =>
    dsimp only;rw[if_pos rfl];exact⟨a1,by omega,hp,up1⟩
   | false =>
    dsimp only;rw[if_neg v_]
    have all:Eqs lt p 0 m:=λi j x1 x2 y1 y2=>by
     -- the first is not less than the last,and they rise
     have l0:∀i,i < m->lt (gt p i) (gt p 0)=false:=λi x=>by
      by_cases z:i=0
      ·rw[z];exact O.irr _
      ·exact up1 0 i (by omega) x
     have lz:∀j,j < m->lt (gt p (m - 1)) (gt p j)=false:=λj x=>by
      by_cases z:j=m - 1
      ·rw[z];exact O.irr _
      ·exact up1 j (m - 1) (by omega) (by omega)
     -- i against j: i<=last<=first<=j,whichever
     have f1:lt (gt p i) (gt p (m - 1))=false:=O.tr _ _ _ h (l0 i x2);exact O.tr _ _ _ (lz j y2) f1
    have sz:m<=p.size:=by rw[hp.size];omega
    have all2:Dn lt (Rj p 0 m) m:=Dn.turn sz (λi j x y=>all i j (K' _) (by omega) (K' _) y) all;refine zM O two (hp.rev _ _) a1 (by omega) (Dn.next O all2 a1 ?_);rw[qV sz,qV sz,if_pos ⟨K' _,by omega⟩,if_neg (by omega)];refine O.tr _ _ _ (O.as _ _ last) ?_;exact all _ _ (K' _) (by omega) (K' _) (by omega)
  ·have:m=1:=by omega
   subst this;exact zM O two hp (B_ _) (by omega) (Dn.next O (λi j x y=>by omega) (B_ _) (O.as _ _ last))
theorem vG{p:Array Nat}{k:Nat}(hp:Pm n p)(hk:k < n)(up:Up lt p k):∀(f l r:Nat),l<=r->r<=k->r - l<=f->(∀i,i < l->lt (gt p k) (gt p i)=false)->(∀i,r<=i->i < k->lt (gt p k) (gt p i)=true) →
  (kas_place p k f l r).kasWp (askIn n lt) (λl' _=>l'<=k/\(∀i,i < l'->lt (gt p k) (gt p i)=false)/\∀i,l'<=i->i < k->lt (gt p k) (gt p i)=true) s
 | 0,l,r,h1,h2,h3,h4,h5=>by
  rw[kas_place];exact⟨by omega,h4,λi x y=>h5 i (by omega) y⟩
 | f+1,l,r,h1,h2,h3,h4,h5=>by
  rw[kas_place];split
  ·exact⟨by omega,h4,λi x y=>h5 i (by omega) y⟩
  ·refine⟨hp.bd (by omega) k,hp.bd (by omega) _,?_⟩;cases h:lt (p.getD k 0) (p.getD ((l+r) / 2) 0) with
   | true =>
    dsimp only;rw[if_pos rfl];refine vG hp hk up f l ((l+r) / 2) (by omega) (by omega) (by omega) h4 λi x y=>?_
    by_cases z:i=(l+r) / 2
    ·rw[z];exact h
    ·exact O.lt_le h (up _ _ (by omega) y)
   | false =>
    dsimp only;rw[if_neg v_];refine vG hp hk up f ((l+r) / 2+1) r (by omega) (by omega) (by omega) (λi x=>?_) h5;by_cases z:i=(l+r) / 2
    ·rw[z];exact h
    ·exact O.tr _ _ _ (up i ((l+r) / 2) (by omega) (by omega)) h
theorem xV:∀(f:Nat) (p:Array Nat) (k:Nat),Pm n p->Up lt p k->1<=k->k+f=n->(kas_bin f p k).kasWp (askIn n lt) (λp' _=>Pm n p'/\Up lt p' n) s
 | 0,p,k,hp,up,h1,h2=>by
  rw[kas_bin];have:k=n:=by omega
  subst this;exact⟨hp,up⟩
 | f+1,p,k,hp,up,h1,h2=>by
  rw[kas_bin];refine sv (vG O two hp (by omega) up k 0 k (K' _) (B_ _) (by omega) (λi h=>by omega) λi x y=>by omega) λl ⟨c1,c2,c3⟩=>?_
  refine xV f _ (k+1) (Pz.trans (bubble_perm _ _ _) hp) (λi j bu hj=>?_) (by omega) (by omega);have hk:k < p.size:=by rw[hp.size];omega
  rw[zD hk (by omega),zD hk (by omega),show k - (k - l)=l by omega];by_cases j1:j=l
  ·rw[if_pos j1,if_neg (by omega),if_neg (by omega)];exact c2 i (by omega)
  ·rw[if_neg j1];by_cases j2:l < j/\j<=k
   ·rw[if_pos j2];by_cases i1:i=l
    ·rw[if_pos i1];exact O.as _ _ (c3 (j - 1) (by omega) (by omega))
    ·rw[if_neg i1];by_cases i2:l < i/\i<=k
     ·rw[if_pos i2];exact up _ _ (by omega) (by omega)
     ·rw[if_neg i2];exact up _ _ (by omega) (by omega)
   ·rw[if_neg j2,if_neg (by omega),if_neg (by omega)];exact up _ _ bu (by omega)
theorem vX:(R7 n).kasWp (askIn n lt) (λp _=>Pm n p/\Up lt p n) s:=by
 unfold R7;refine sv (v9 O two (p:=(Mm n).toArray) (Pz.refl _)) λr ⟨a1,a2,a3,a4⟩=>?_
 split
 ·refine xV O two _ _ _ a3 ?_ (by omega) (by omega);rw[Nat.max_eq_left a1];exact a4
 ·have:r.1=n:=by omega
  rw[this] at a4;exact⟨a3,a4⟩
end
end DL
namespace DL
open PySem PySem.W PySem.Spec PyProof.Rows
section
variable{prog:z_}{w:I_}{E:b_->d_->Prop}{s:d_}
noncomputable def byP(vs:List b_)(p:Array Nat):List b_:=p.toList.map λi=>vs.getD i b_.none
theorem y6(vs:List b_):byP vs (Mm vs.length).toArray=vs:=by
 unfold byP;refine OO (by simp) λi h1 h2=>?_
 simp[h2]
theorem FT{p:Array Nat}(h:Pm vs.length p):(byP vs p).length=vs.length:=by
 unfold byP;rw[y_,Ky,h.size]
def KeptBut(a:h_)(h h':KM):Prop:=∀b o,b≠a->h.get? b=some o->h'.get? b=some o
theorem EI{a:h_}{e:Nat}{κ:SortKind}{lt:Nat->Nat->Bool}{P:PySem.Fin->d_->Prop}(ho:s.heap.get? a=some (K9 "list" vs.toArray e))(bX:vs.length < 64)(O:Ord lt)(kind:∀h' Q,KeptBut a s.heap h'->2<=vs.length->Q κ { s with heap:=h' }->w_ (n_ prog w) A (R8 vs.toArray) Q E { s with heap:=h' })(less:∀h' i j C,KeptBut a s.heap h'->i < vs.length->j < vs.length->C (lt i j) { s with heap:=h' }->w_ (n_ prog w) A (keyLt' κ (vs.getD i b_.none) (vs.getD j b_.none)) C (λ_ _=>False) { s with heap:=h' })(fin:∀p h' c,Pm vs.length p->Up lt p vs.length->KeptBut a s.heap h'->h'.get? a=some (K9 "list" (byP vs p).toArray c)->P (.done (.ret .none)) { s with heap:=h' }):
  w_ (n_ prog w) A (Me.«list.sort» ⟨[.ref a],[]⟩) P E s:=by
 have line:64<=x_:=by rw[Lb];decide
 obtain⟨g1,cg⟩:∃g1,g1=s.heap.update a (L4 λ_=>(#[]:Array b_)):=⟨_,rfl⟩;obtain⟨e1,o1⟩:∃e1,g1.get? a=some (K9 "list" #[] e1):=⟨_,by rw[cg];exact Mp ho _⟩;have k1:KeptBut a s.heap g1:=λb o ne x=>by rw[cg];exact(C_ _ _ (Kx ne)).trans x
 obtain⟨g2,cj⟩:∃g2,g2=(g1.push (K9 "tuple" vs.toArray 0)).push (K9 "list" #[] 0):=⟨_,rfl⟩;have o2:g2.get? a=some (K9 "list" #[] e1):=by rw[cj];exact c_ _ (c_ _ o1)
 have k2:KeptBut a s.heap g2:=λb o ne x=>by rw[cj];exact c_ _ (c_ _ (k1 b o ne x))
 have ef:∀eV,(2<=vs.length->eV=κ)->w_ (n_ prog w) A ((if vs.toArray.size < 2 then pure () else RB).run (mk' eV (vs.toArray.zip vs.toArray) #[] 7 none))
   (λr s'=>s'={ s with heap:=g2 }/\∃p,Pm vs.length p/\Up lt p vs.length/\(p_ r.2).map (·.2)=(byP vs p).toArray/\NY r.2=none) E { s with heap:=g2 }:=λeV jO=>by
  rcases MW vs.length 2 with cn | big
  ·rw[if_pos (by rw[l_];exact cn)];refine e_ ⟨rfl,(Mm vs.length).toArray,Pz.refl _,λi j x y=>by omega,?_,rfl⟩;rw[y6];show((vs.toArray.zip vs.toArray).map (·.2))=_;refine RC (by simp) λi h1 h2=>by simp
  ·rw[if_neg (by rw[l_];omega),jO big];refine kat_run (ks:=vs) (vs:=vs) (G:=λp s'=>(Pm vs.length p/\Up lt p vs.length)/\s'={ s with heap:=g2 }) (Q:=λst s'=>s'={ s with heap:=g2 }/\∃p,Pm vs.length p/\Up lt p vs.length/\(p_ st).map (·.2)=(byP vs p).toArray/\NY st=none) rfl big bX ?_ ?_
   ·rintro p st s' hz aV aK ⟨⟨hp,up⟩,rfl⟩;exact⟨rfl,p,hp,up,kat_snds rfl aV,aK⟩
   ·exact sK (P:=λp=>Pm vs.length p/\Up lt p vs.length) (λi j C h1 h2 h3=>less g2 i j C k2 h1 h2 h3) (λp hp=>⟨hp,rfl⟩) _ (vX O big)
 rw[list_sort_plain];refine a_ (PB ho rfl (a_ (MC ho rfl ?_ (by rw[l_];omega) (K' _))));rw[←cg];refine a_ (NZ o1 rfl (a_ (NA (a_ (Ng (Kz ?_) (K' _))) (by show vs.length<=_;omega))));show w_ (n_ prog w) A _ P E { s with heap:=(g1.push (K9 "tuple" vs.toArray 0)).push (K9 "list" #[] 0) };rw[←cj];dsimp only
 rcases MW vs.length 2 with cn | big
 all_goals
  first
   | (rw[if_pos (by rw[l_];exact cn)];refine a_ (e_ ?_);have step:=ef general' λh=>by omega)
   | (rw[if_neg (by rw[l_];omega)];refine a_ (kind g2 _ k2 big ?_);have step:=ef κ λ_=>rfl)
  refine a_ (Lk step (λr s' h=>?_) λ_ _ x=>x);obtain⟨rfl,p,hp,up,aV,aK⟩:=h;rw[aV,aK];refine a_ (NZ o2 rfl (a_ (MC o2 rfl ?_ (K' _) ?_)))
  ·dsimp only;rw[bne_self_eq_false,if_neg v_];exact e_ (fin p _ _ hp up (λb o ne x=>(C_ _ _ (Kx ne)).trans (k2 b o ne x)) (Mp o2 λ_=>(byP vs p).toArray))
  ·show(byP vs p).toArray.size<=_;rw[l_,FT hp];omega
theorem vQ{l:h_}{κ:SortKind}{lt:Nat->Nat->Bool}{Q:b_->d_->Prop}(bX:vs.length < 64)(O:Ord lt)(col:∀Q':List b_->d_->Prop,(∀h' tk,(∀b o,s.heap.get? b=some o->h'.get? b=some o)->s.heap.objs.size<=h'.objs.size->Q' vs { s with heap:=h',toks:=tk })->w_ (n_ prog w) A.in1 (RP (.ref l)) Q' E s)(kind:∀h' tk Q,(∀b o,s.heap.get? b=some o->h'.get? b=some o)->2<=vs.length->Q κ { s with heap:=h',toks:=tk }->w_ (n_ prog w) A.in1.in1 (R8 vs.toArray) Q (λ_ _=>False) { s with heap:=h',toks:=tk })(less:∀h' tk i j C,(∀b o,s.heap.get? b=some o->h'.get? b=some o)->i < vs.length->j < vs.length->C (lt i j) { s with heap:=h',toks:=tk }->w_ (n_ prog w) A.in1.in1 (keyLt' κ (vs.getD i b_.none) (vs.getD j b_.none)) C (λ_ _=>False) { s with heap:=h',toks:=tk })(fin:∀p h' tk D c,Pm vs.length p->Up lt p vs.length->(∀b o,s.heap.get? b=some o->h'.get? b=some o)->s.heap.objs.size<=D->h'.get? D=some (K9 "list" (byP vs p).toArray c)->Q (.ref D) { s with heap:=h',toks:=tk }):
  w_ (n_ prog w) A (call (.builtin "sorted") [b_.ref l]) Q E s:=by
 have line:64<=x_:=by rw[Lb];decide
 refine OK RH Rk Rl (args_sorted1 _) ?_;refine a_ (m:=R9 "sorted" 1 1 _) (e_ (a_ (col _ λg tk kg above=>a_ (Ng ?_ (by omega)))));have aI:(g.push (K9 "list" vs.toArray 0)).get? g.objs.size=some (K9 "list" vs.toArray 0):=t_ _ rfl
 have old:∀(h':KM),KeptBut g.objs.size (g.push (K9 "list" vs.toArray 0)) h'->∀b o,s.heap.get? b=some o->h'.get? b=some o:=λh' k b o x =>
  k b o (KI (J_ (F_ x) above)) (c_ _ (kg b o x))
 refine a_ (Kz (K_ Om ⟨_,aI,rfl⟩ Oc ?_ (args_list_sort _)));refine EI (s:={ s with heap:=g.push (K9 "list" vs.toArray 0),toks:=tk }) (lt:=lt) (κ:=κ) aI bX O (λh' Q' k two q=>Lk (kind h' tk Q' (old h' k) two q) (λ_ _ x=>x) λ_ _ x=>x.elim) (λh' i j C k=>less h' tk i j C (old h' k)) λp h' c hp up k aJ=>?_
 exact⟨_,rfl,e_ ⟨_,rfl,fin p h' tk _ c hp up (old h' k) above aJ⟩⟩
end
end DL
namespace DL
open PySem PySem.W PySem.Spec PyProof.Rows L2
noncomputable def rk:D->Nat
 | .non=>0
 | .bl _=>1
 | .int _=>2
 | .str _=>3
 | .tup _=>4
 | .lst _=>5
 | .dct _=>6
noncomputable def cI(a b:Int):Ordering:=if a < b then .lt else if b < a then .gt else .eq
mutual
noncomputable def cO:D->D->Ordering
 | .int a,.int b=>cI a b
 | .tup xs,.tup ys=>cOA xs ys
 | a,b=>cI (rk a) (rk b)
noncomputable def cOA:List D->List D->Ordering
 | [],[]=>.eq
 | [],_::_=>.lt
 | _::_,[]=>.gt
 | x::xs,y::ys=>(cO x y).then (cOA xs ys)
end
theorem qZ(a b:Int):cI b a=(cI a b).swap:=by
 unfold cI;by_cases h1:a < b
 ·rw[if_pos h1,if_neg (by omega),if_pos h1];rfl
 ·by_cases h2:b < a
  ·rw[if_pos h2,if_neg h1,if_pos h2];rfl
  ·rw[if_neg h2,if_neg h1,if_neg h1,if_neg h2];rfl
theorem Aq{a b:D}(h:rk a≠rk b):cO a b=cI (rk a) (rk b):=by
 cases a<;>cases b<;>first | rfl | (exact absurd rfl h) | (simp[cO];done)
mutual
theorem wy:∀a b:D,cO b a=(cO a b).swap
 | .int a,b=>by
  cases b<;>simp only[cO]<;>exact qZ _ _
 | .tup xs,b=>by
  cases b<;>simp only[cO]<;>first | exact qZ _ _ | exact AX _ _
 | .non,b=>by cases b<;>simp only[cO]<;>exact qZ _ _
 | .bl _,b=>by cases b<;>simp only[cO]<;>exact qZ _ _
 | .str _,b=>by cases b<;>simp only[cO]<;>exact qZ _ _
 | .lst _,b=>by cases b<;>simp only[cO]<;>exact qZ _ _
 | .dct _,b=>by cases b<;>simp only[cO]<;>exact qZ _ _
theorem AX:∀xs ys:List D,cOA ys xs=(cOA xs ys).swap
 | [],[]=>by simp[cOA]
 | [],_::_=>by simp[cOA]
 | _::_,[]=>by simp[cOA]
 | x::xs,y::ys=>by
  rw[cOA,cOA,wy x y,AX xs ys];cases cO x y<;>rfl
end
noncomputable def dl(a b:D):Bool:=cO a b == .lt
noncomputable def dlA(xs ys:List D):Bool:=cOA xs ys == .lt
theorem we(a b:Int):(cI a b == Ordering.lt)=decide (a < b):=by
 unfold cI;by_cases h1:a < b
 ·rw[if_pos h1];simp[h1]
 ·rw[if_neg h1];split<;>simp[h1]
theorem rB{a b:Int}:dl (.int a) (.int b)=decide (a < b):=by
 unfold dl;rw[cO,we]
theorem rF{xs:List D}:dl (.tup xs) (.tup ys)=dlA xs ys:=by
 unfold dl dlA;rw[cO]
theorem tJ:dlA [] []=false:=by unfold dlA;simp[cOA]
theorem rG{y:D}:dlA [] (y::ys)=true:=by unfold dlA;simp[cOA]
theorem sH{y:D}:dlA (y::ys) []=false:=by unfold dlA;simp[cOA]
theorem sh{x y:D}{xs:List D}:dlA (x::xs) (y::ys)=(dl x y||(!dl y x&&dlA xs ys)):=by
 unfold dlA dl;rw[cOA,wy x y];cases cO x y<;>simp[Ordering.then,Ordering.swap]
theorem yQ{a b:D}(h:rk a < rk b):dl a b=true:=by
 unfold dl;rw[Aq (KI h),we];simp;omega
theorem Dx{a b:D}(h:rk b < rk a):dl a b=false:=by
 unfold dl;rw[Aq (Nb h),we];simp;omega
theorem sL{a b:D}(h:rk a=rk b)(h1:rk a≠2)(h2:rk a≠4):dl a b=false:=by
 unfold dl;cases a<;>cases b<;>first | (simp[rk] at h;done) | (exact absurd rfl h1) | (exact absurd rfl h2) | (simp[cO,cI,rk];done)
mutual
theorem sM:∀a b c:D,dl b a=false->dl c b=false->dl c a=false:=λa b c h1 h2=>by
 have r1:rk a<=rk b:=O6 λh=>by rw[yQ h] at h1;cases h1
 have r2:rk b<=rk c:=O6 λh=>by rw[yQ h] at h2;cases h2
 rcases MW (rk a) (rk c) with h | h
 ·exact Dx h
 ·have e1:rk b=rk a:=by omega
  have e2:rk c=rk a:=by omega
  match a,b,c with
  | .int a,.int b,.int c =>
   rw[rB] at h1 h2 ⊢;simp at h1 h2 ⊢;omega
  | .tup xs,.tup ys,.tup zs =>
   rw[rF] at h1 h2 ⊢;exact yJ xs ys zs h1 h2
  | .non,_,_=>exact sL e2 (by rw[e2];decide) (by rw[e2];decide)
  | .bl _,_,_=>exact sL e2 (by rw[e2];simp[rk]) (by rw[e2];simp[rk])
  | .str _,_,_=>exact sL e2 (by rw[e2];simp[rk]) (by rw[e2];simp[rk])
  | .lst _,_,_=>exact sL e2 (by rw[e2];simp[rk]) (by rw[e2];simp[rk])
  | .dct _,_,_=>exact sL e2 (by rw[e2];simp[rk]) (by rw[e2];simp[rk])
termination_by a b c=>sizeOf a+sizeOf b+sizeOf c
decreasing_by all_goals (simp_wf;omega)
theorem yJ:∀xs ys zs:List D,dlA ys xs=false->dlA zs ys=false->dlA zs xs=false
 | [],_,[],_,_=>tJ
 | [],_,z::zs,_,_=>sH
 | x::xs,[],_,h1,_=>by rw[rG] at h1;cases h1
 | x::xs,y::ys,[],_,h2=>by rw[rG] at h2;cases h2
 | x::xs,y::ys,z::zs,h1,h2=>by
  simp only[sh,Bool.or_eq_false_iff,Bool.and_eq_false_iff,O2] at h1 h2 ⊢;obtain⟨a1,a2⟩:=h1;obtain⟨b1,b2⟩:=h2;refine⟨sM x y z a1 b1,?_⟩;cases hx:dl x z with
  | true=>exact .inl rfl
  | false =>
   right
   rcases a2 with a2 | a2
   ·have:=sM y z x b1 hx;rw[a2] at this;cases this
   ·rcases b2 with b2 | b2
    ·have:=sM z x y hx a1;rw[b2] at this;cases this
    ·exact yJ xs ys zs a2 b2
termination_by xs ys zs=>sizeOf xs+sizeOf ys+sizeOf zs
decreasing_by all_goals (simp_wf;omega)
end
theorem zt(a b:D)(h:dl a b=true):dl b a=false:=by
 unfold dl at h ⊢;rw[wy a b];cases e:cO a b<;>rw[e] at h<;>first | rfl | (cases h;done)
theorem wf(ds:List D):Ord λi j=>dl (ds.getD i .non) (ds.getD j .non):=⟨λa b h=>zt _ _ h,λa b c h1 h2=>sM _ _ _ h1 h2⟩
mutual
noncomputable def cmB:D->D->Bool
 | .int _,.int _=>true
 | .tup xs,.tup ys=>cmA xs ys
 | _,_=>false
noncomputable def cmA:List D->List D->Bool
 | x::xs,y::ys=>cmB x y&&cmA xs ys
 | _,_=>true
end
mutual
theorem ub:∀a b:D,cmB a b=true->deq a b=(!dl a b&&!dl b a)
 | .int a,.int b,_=>by
  rw[rB,rB];by_cases h:a=b
  ·simp[deq,h]
  ·rcases Int.lt_or_gt_of_ne h with h' | h'
   ·simp[deq,h,h']
   ·simp[deq,h,h']
 | .tup xs,.tup ys,h=>by
  rw[cmB] at h;rw[deq,rF,rF];exact ye xs ys h
 | .non,_,h=>by simp[cmB] at h
 | .bl _,_,h=>by simp[cmB] at h
 | .str _,_,h=>by simp[cmB] at h
 | .lst _,_,h=>by simp[cmB] at h
 | .dct _,_,h=>by simp[cmB] at h
 | .int _,.dct _,h=>by simp[cmB] at h
 | .tup _,.dct _,h=>by simp[cmB] at h
 | .int _,.non,h=>by simp[cmB] at h
 | .int _,.bl _,h=>by simp[cmB] at h
 | .int _,.str _,h=>by simp[cmB] at h
 | .int _,.tup _,h=>by simp[cmB] at h
 | .int _,.lst _,h=>by simp[cmB] at h
 | .tup _,.non,h=>by simp[cmB] at h
 | .tup _,.bl _,h=>by simp[cmB] at h
 | .tup _,.str _,h=>by simp[cmB] at h
 | .tup _,.int _,h=>by simp[cmB] at h
 | .tup _,.lst _,h=>by simp[cmB] at h
theorem ye:∀xs ys:List D,cmA xs ys=true->deqA xs ys=(!dlA xs ys&&!dlA ys xs)
 | [],[],_=>by simp[deqA,tJ]
 | [],_::_,_=>by simp[deqA,rG,sH]
 | _::_,[],_=>by simp[deqA,rG,sH]
 | x::xs,y::ys,h=>by
  rw[cmA,LQ] at h;rw[deqA,ub x y h.1,ye xs ys h.2,sh,sh];cases h1:dl x y<;>cases h2:dl y x<;>simp
end
mutual
theorem yW:∀a b:D,cmB a b=true->deq a b=true->a=b
 | .int a,.int b,_,h=>by simp[deq] at h;rw[h]
 | .tup xs,.tup ys,c,h=>by
  rw[cmB] at c;rw[deq] at h;rw[yR xs ys c h]
 | .non,_,h,_=>by simp[cmB] at h
 | .bl _,_,h,_=>by simp[cmB] at h
 | .str _,_,h,_=>by simp[cmB] at h
 | .lst _,_,h,_=>by simp[cmB] at h
 | .dct _,_,h,_=>by simp[cmB] at h
 | .int _,.dct _,h,_=>by simp[cmB] at h
 | .tup _,.dct _,h,_=>by simp[cmB] at h
 | .int _,.non,h,_=>by simp[cmB] at h
 | .int _,.bl _,h,_=>by simp[cmB] at h
 | .int _,.str _,h,_=>by simp[cmB] at h
 | .int _,.tup _,h,_=>by simp[cmB] at h
 | .int _,.lst _,h,_=>by simp[cmB] at h
 | .tup _,.non,h,_=>by simp[cmB] at h
 | .tup _,.bl _,h,_=>by simp[cmB] at h
 | .tup _,.str _,h,_=>by simp[cmB] at h
 | .tup _,.int _,h,_=>by simp[cmB] at h
 | .tup _,.lst _,h,_=>by simp[cmB] at h
theorem yR:∀xs ys:List D,cmA xs ys=true->deqA xs ys=true->xs=ys
 | [],[],_,_=>rfl
 | [],_::_,_,h=>by simp[deqA] at h
 | _::_,[],_,h=>by simp[deqA] at h
 | x::xs,y::ys,c,h=>by
  rw[cmA,LQ] at c;rw[deqA,LQ] at h;rw[yW x y c.1 h.1,yR xs ys c.2 h.2]
end
open PySem.SeqAt in
theorem yn(e lt:Nat->Bool)(d:Bool)(f:Nat->Nat):∀l:List Nat,ltFrom e lt d (l.map f)=ltFrom (λi=>e (f i)) (λi=>lt (f i)) d l
 | []=>rfl
 | i::l=>by rw[KB,ltFrom,ltFrom,yn e lt d f l]
open PySem.SeqAt in
theorem y9:∀xs ys:List D,cmA xs ys=true->ltFrom (λj=>deq (xs.getD j .non) (ys.getD j .non)) (λj=>dl (xs.getD j .non) (ys.getD j .non)) (decide (xs.length < ys.length)) (Mm (min xs.length ys.length))=dlA xs ys
 | [],[],_=>by simp[ltFrom,tJ]
 | [],_::_,_=>by simp[ltFrom,rG]
 | _::_,[],_=>by simp[ltFrom,sH]
 | x::xs,y::ys,c=>by
  rw[cmA,LQ] at c;have ih:=y9 xs ys c.2;rw[Lc,Lc,Nat.succ_min_succ,Px,ltFrom,yn,sh]
  have e:ltFrom (λi=>deq ((x::xs).getD i.succ .non) ((y::ys).getD i.succ .non)) (λi=>dl ((x::xs).getD i.succ .non) ((y::ys).getD i.succ .non)) (decide (xs.length+1 < ys.length+1)) (Mm (min xs.length ys.length))=dlA xs ys:=by
   rw[←ih]
   congr 1
   simp
  rw[e];show(if deq x y=true then dlA xs ys else dl x y)=_;rw[ub x y c.1];cases h1:dl x y<;>cases h2:dl y x<;>simp
theorem xX:∀(xs ys:List D),cmA xs ys=true->∀j,j < xs.length->j < ys.length->cmB (xs.getD j .non) (ys.getD j .non)=true
 | [],_,_,j,h,_=>by simp at h
 | _::_,[],_,j,_,h=>by simp at h
 | x::xs,y::ys,c,j,h1,h2=>by
  rw[cmA,LQ] at c;cases j with
  | zero=>exact c.1
  | succ j=>exact xX xs ys c.2 j (by simpa using h1) (by simpa using h2)
section
variable{H:Hp}{s:d_}
open PySem.SeqAt in
theorem IG(I:Inv X aa U H s):∀(n:Nat) (A:Mc),A.units+n < MN->n < 900->∀(a b:D) (x y:V) (u v:b_),(dep a<=n/\dep b<=n)->cmB a b=true->Is X.K H a x->Is X.K H b y->RelV x u->RelV y v->RcLtAt A s u v (dl a b):=by
 intro n
 induction n with
 | zero =>
  intro A hu hn a b x y u v hd c ha hb ru rv;cases a<;>cases b<;>simp[cmB] at c
  ·rename_i i j;rw[pq ha] at ru;rw[pq hb] at rv;obtain⟨t1,rfl⟩:=ru;obtain⟨t2,rfl⟩:=rv;rw[rB];exact RcLtAt.int_int _ _ _ _
  ·rw[dep] at hd;omega
 | succ n ih =>
  intro A hu hn a b x y u v hd c ha hb ru rv;cases a<;>cases b<;>simp[cmB] at c
  ·rename_i i j;rw[pq ha] at ru;rw[pq hb] at rv;obtain⟨t1,rfl⟩:=ru;obtain⟨t2,rfl⟩:=rv;rw[rB];exact RcLtAt.int_int _ _ _ _
  ·rename_i ds es;have eR:A.in1.units+n < MN:=by show A.units+1+n < MN;omega
   obtain⟨p,xs,rfl,h1,h2⟩:=pG ha;obtain⟨q,ys,rfl,h3,h4⟩:=pG hb;cases ru;cases rv;obtain⟨af,r1,t1,_⟩:=I.tuple h1;obtain⟨bh,r2,t2,_⟩:=I.tuple h3;have l1:af.toArray.size=ds.length:=by rw[l_,←r1.length,h2.length]
   have l2:bh.toArray.size=es.length:=by rw[l_,←r2.length,h4.length]
   have two:∀j (g1:j < af.toArray.size) (g2:j < bh.toArray.size),Sq A.in1 s af.toArray[j] bh.toArray[j] (deq (ds.getD j .non) (es.getD j .non))/\(deq (ds.getD j .non) (es.getD j .non)=false->RcLtAt A.in1 s af.toArray[j] bh.toArray[j] (dl (ds.getD j .non) (es.getD j .non))):=λj g1 g2=>by
    obtain⟨v1,q1,q2⟩:=h2.getU r1 g1;obtain⟨v2,q3,q4⟩:=h4.getU r2 g2
    have m1:ds.getD j .non∈ds:=by
     rw[q_,i_ (by omega)];exact LG _
    have m2:es.getD j .non∈es:=by
     rw[q_,i_ (by omega)];exact LG _
    have k1:=qt m1;have k2:=qt m2;rw[dep,dep] at hd;exact⟨(sS I n A.in1 eR (by omega) _ _ _ _ _ _ (by omega) q2 q4 q1 q3).2.1,λ_=>ih A.in1 eR (by omega) _ _ _ _ _ _ (by omega) (xX ds es c j (by omega) (by omega)) q2 q4 q1 q3⟩
   have R1:=RcLtAt.tuples (A:=A) t1 t2 (by omega) two;rw[l1,l2,y9 ds es c] at R1;rw[rF];exact R1
end
end DL
namespace DL
open PySem PySem.W PySem.Spec PyProof.Rows L2
noncomputable def leD(a b:D):Bool:=!dl b a
noncomputable def sortD(ds:List D):List D:=ds.mergeSort leD
theorem uT(a b c:D)(h1:leD a b=true)(h2:leD b c=true):leD a c=true:=by
 unfold leD at *;simp only[Mw] at *;exact sM a b c h1 h2
theorem vh(a b:D):(leD a b||leD b a)=true:=by
 unfold leD;cases h:dl b a with
 | false=>rfl
 | true=>rw[zt b a h];rfl
theorem CT(ds:List D):(sortD ds).Perm ds:=Oh ds leD
theorem BW(ds:List D):(sortD ds).Pairwise λa b=>leD a b=true:=Np uT vh ds
theorem xh:∀(l m:List D),l.Perm m->(l.Pairwise λa b=>leD a b=true)->(m.Pairwise λa b=>leD a b=true)->(∀a∈l,∀b∈l,leD a b=true->leD b a=true->a=b)->l=m
 | [],m,p,_,_,_=>by rw[List.nil_perm.mp p]
 | a::l,[],p,_,_,_=>by have:=p.length_eq;simp at this
 | a::l,b::m,p,h1,h2,an=>by
  have e:a=b:=by
   have ia:a∈b::m:=p.mem_iff.mp g_;have ib:b∈a::l:=p.mem_iff.mpr g_
   rcases m_.mp ia with h | h
   ·exact h
   ·rcases m_.mp ib with h' | h'
    ·exact h'.symm
    ·exact an a g_ b ib ((G_.mp h1).1 b h') ((G_.mp h2).1 a h)
  subst e;rw[xh l m ((List.perm_cons a).mp p) (G_.mp h1).2 (G_.mp h2).2 λx hx y hy=>an x (j_ _ hx) y (j_ _ hy)]
noncomputable def permD(p:Array Nat)(ds:List D):List D:=p.toList.map λi=>ds.getD i .non
noncomputable def permV(p:Array Nat)(zs:List V):List V:=p.toList.map λi=>zs.getD i .non
noncomputable def cmAll(ds:List D):Bool:=ds.all λa=>ds.all λb=>cmB a b
theorem EE{p:Array Nat}(hp:Pm ds.length p)(up:Up (λi j=>dl (ds.getD i .non) (ds.getD j .non)) p ds.length)(cm:cmAll ds=true):permD p ds=sortD ds:=by
 have pm:(permD p ds).Perm ds:=by
  have h1:p.toList.Perm (Mm ds.length):=by
   have:=Ld.mp hp;simpa using this
  have h2:=h1.map λi=>ds.getD i .non
  have h3:((Mm ds.length).map λi=>ds.getD i .non)=ds:=by
   refine OO (by simp) λi h1 h2=>?_
   simp[h2]
  rw[h3] at h2;exact h2
 have nR:∀a∈permD p ds,∀b∈permD p ds,cmB a b=true:=λa ha b hb=>by
  have:=LI.mp cm a (pm.mem_iff.mp ha);exact LI.mp this b (pm.mem_iff.mp hb)
 refine xh _ _ (pm.trans (CT ds).symm) ?_ (BW ds) λa ha b hb h1 h2=>?_
 ·rw[Mx];intro i j hi hj bu;unfold permD at hi hj ⊢;rw[y_,Ky,hp.size] at hi hj;have:=up i j bu hj;simp only[N0,Qa];unfold gt at this;rw[Sr,dif_pos (by rw[hp.size];exact hj),Sr,dif_pos (by rw[hp.size];exact hi)] at this;unfold leD;rw[Mw];exact this
 ·have c:=nR a ha b hb;refine yW a b c ?_;rw[ub a b c];unfold leD at h1 h2;rw[h1,h2];rfl
section
variable{H:Hp}{s:d_}
noncomputable def fstI:D->Bool
 | .tup (.int _::_)=>true
 | _=>false
noncomputable def fstT:D->Bool
 | .tup (.tup _::_)=>true
 | _=>false
noncomputable def isInt:D->Bool
 | .int _=>true
 | _=>false
theorem zP(I:Inv X aa U H s){prog:z_}{w:I_}{n:Nat}{b fin:Bool}{Q:Bool->d_->Prop}(hu:A.units+n < MN)(hn:n < 900):∀(ds es:List D) (xs ys:List V) (us vs:List b_) (i:Nat),IsA X.K H ds xs->IsA X.K H es ys->Vals xs us->Vals ys vs →
  (depA ds<=n/\depA es<=n)->cmA ds es=true->fin=decide (ds.length < es.length)->(b=true->i=0->∀d e r r',ds=d::r->es=e::r'->isInt d=true/\isInt e=true)->Q (dlA ds es) s->KatLex prog w A b fin Q (us.zip vs) i s
 | [],es,xs,ys,us,vs,i,h1,h2,h3,h4,hd,c,hf,fl,q=>by
  have:=h1.nil_inv;subst this;cases h3;rw[List.zip_nil_left];refine kat_nil ?_;rw[hf];cases es with
  | nil=>rw[tJ] at q;exact q
  | cons e es=>rw[rG] at q;simpa using q
 | d::ds,[],xs,ys,us,vs,i,h1,h2,h3,h4,hd,c,hf,fl,q=>by
  have:=h2.nil_inv;subst this;cases h4;rw[List.zip_nil_right];refine kat_nil ?_;rw[hf];rw[sH] at q;simpa using q
 | d::ds,e::es,xs,ys,us,vs,i,h1,h2,h3,h4,hd,c,hf,fl,q=>by
  obtain⟨x,xr,rfl,a1,a2⟩:=h1.cons_inv;obtain⟨y,yr,rfl,b1,b2⟩:=h2.cons_inv;cases h3 with
  | cons r1 r2 =>
   cases h4 with
   | cons s1 s2 =>
    rename_i u nU v gF;rw[depA,depA] at hd;rw[cmA,LQ] at c;rw[sh] at q;have eq:=(sS I n A hu hn d e x y u v (by omega) a1 b1 r1 s1).2.1;have lt:=IG I n A hu hn d e x y u v (by omega) c.1 a1 b1 r1 s1;have ed:=ub d e c.1;rw[NS];refine kat_cons (eq prog w _ _ (kat_go (λh=>kat_yes ?_) λh=>kat_no ?_))
    ·refine zP I hu hn ds es xr yr nU gF (i+1) a2 b2 r2 s2 (by omega) c.2 (by rw[hf];simp) (λ_ z=>by omega) ?_;rw[h] at ed;have ed:=ed.symm;simp only[LQ,Mw] at ed;rw[ed.1,ed.2] at q;simpa using q
    ·have q':Q (dl d e) s:=by
      rw[h] at ed;cases h1:dl d e with
      | true=>rw[h1] at q;simpa using q
      | false =>
       rw[h1] at ed q;cases h2:dl e d with
       | true=>rw[h2] at q;simpa using q
       | false=>rw[h2] at ed;cases ed
     by_cases z:b=true/\i=0
     ·obtain⟨zb,zi⟩:=z;obtain⟨f1,f2⟩:=fl zb zi d e ds es rfl rfl;subst zb;subst zi;cases d<;>simp[isInt] at f1
      cases e<;>simp[isInt] at f2
      rw[pq a1] at r1;rw[pq b1] at s1;obtain⟨t1,rfl⟩:=r1;obtain⟨t2,rfl⟩:=s1;show w_ _ _ (oneLt' true _ _) _ _ _;rw[←keyLt'_oneType];rw[rB] at q';exact R' q'
     ·have:(b&&i == 0)=false:=by
       cases b
       ·rfl
       ·simp at z ⊢;exact z
      rw[this];exact kat_one _ _ (lt prog w _ _ q')
theorem at_k(h:IsA X.K H ds zs)(r:Vals zs vs){k:Nat}(hk:k < vs.length):∃x,Is X.K H (ds.getD k .non) x/\RelV x (vs.getD k .none)/\ds.getD k .non∈ds/\zs[k]?=some x:=by
 have l1:=h.length;have l2:=r.length;have eu:k < ds.length:=by omega
 obtain⟨x,e1,e2⟩:=h.get (i_ eu);obtain⟨u,e3,e4⟩:=r.get e1;refine⟨x,?_,?_,?_,e1⟩
 ·rw[q_,i_ eu];exact e2
 ·rw[q_,e3];exact e4
 ·rw[q_,i_ eu];exact LG _
theorem wT(I:Inv X aa U H s)(prog:z_)(w:I_)(P:D->Bool)(T:b_)(hP:∀d,P d=true->∃f r,d=.tup (f::r)/\∀x u,Is X.K H f x->RelV x u->Ss (n_ prog w) s.heap (Sj u) T):
  ∀(ds:List D) (zs:List V) (vs:List b_),IsA X.K H ds zs->Vals zs vs->ds.all P=true->∃fs,KatTups s.heap vs fs/\fs.length=vs.length/\∀v∈fs,Ss (n_ prog w) s.heap (Sj v) T
 | [],zs,vs,h,r,_=>by
  have:=h.nil_inv;subst this;cases r;exact⟨[],KatTups.nil,rfl,λv hv=>nomatch hv⟩
 | d::ds,zs,vs,h,r,ok=>by
  obtain⟨x,zr,rfl,h1,h2⟩:=h.cons_inv;rw[R4,LQ] at ok;cases r with
  | cons r1 r2 =>
   obtain⟨fs,k1,k2,k3⟩:=wT I prog w P T hP ds zr _ h2 r2 ok.2;obtain⟨f,ax,rfl,look⟩:=hP d ok.1;obtain⟨a,ys,rfl,g1,g2⟩:=pG h1;cases r1;obtain⟨af,q1,q2,_⟩:=I.tuple g1;obtain⟨y,yr,rfl,g3,g4⟩:=g2.cons_inv;cases q1 with
   | cons q3 q4 =>
    obtain⟨o,e1,e2,n,e3⟩:=q2;refine⟨_::fs,KatTups.cons e1 e2 e3 rfl k1,by simp[k2],λv hv=>?_⟩
    rcases m_.mp hv with rfl | hv
    ·exact look y _ g3 q3
    ·exact k3 v hv
def SortOk(ds:List D):Prop:=ds.length < 64/\cmAll ds=true/\depA ds<=50/\(ds.all isInt=true\/ds.all fstI=true\/ds.all fstT=true)
theorem IQ(hu:X.A.units+100 < MN){l:h_}{Q:VK}(I:Inv X aa U H s)(ha:IsA X.K H ds zs)(rv:Vals zs af)(ok:SortOk ds)(col:∀Q':List b_->d_->Prop,(∀h' tk,(∀b o,s.heap.get? b=some o->h'.get? b=some o)->s.heap.objs.size<=h'.objs.size->Q' af { s with heap:=h',toks:=tk })->w_ (n_ X.prog X.w) X.A.in1 (RP (.ref l)) Q' X.xe s)(k:∀l q,Pm ds.length q->permD q ds=sortD ds->H l=none->Q (.ref l) (upd H l (.lst (permV q zs)))):w_ (n_ X.prog X.w) X.A (call (.builtin "sorted") [.ref l]) (EP X aa U Q) X.xe s:=by
 obtain⟨bX,cm,dp,kd⟩:=ok;have l1:=ha.length;have l2:=rv.length;have n1:af.length=ds.length:=by omega
 have lA:∀i j,i < af.length->j < af.length->cmB (ds.getD i .non) (ds.getD j .non)=true:=λi j hi hj=>by
  obtain⟨_,_,_,mi,_⟩:=at_k ha rv hi;obtain⟨_,_,_,mj,_⟩:=at_k ha rv hj;exact LI.mp (LI.mp cm _ mi) _ mj
 have ak:∀q h' tk D c,Pm af.length q->Up (λi j=>dl (ds.getD i .non) (ds.getD j .non)) q af.length->(∀b o,s.heap.get? b=some o->h'.get? b=some o)->s.heap.objs.size<=D->h'.get? D=some (K9 "list" (byP af q).toArray c)->EP X aa U Q (.ref D) { s with heap:=h',toks:=tk }:=λq h' tk D c hp up keep above aJ=>by
  rw[n1] at hp up
  have hv:Vals (permV q zs) (byP af q):=by
   refine sA (by simp[permV,byP]) λi x u e1 e2=>?_
   obtain⟨j,f1,rfl⟩:=getMap e1;obtain⟨j',f2,rfl⟩:=getMap e2;rw[f1] at f2;cases f2
   have hj:j < ds.length:=by
    have h1:j∈q.toList:=LB f1;have h2:=(Ld.mp hp).mem_iff.mp h1;simpa using h2
   obtain⟨x,_,e4,_,e5⟩:=at_k ha rv (k:=j) (by omega);rw[q_,e5];exact e4
  refine⟨.ref D,_,I.laid (t':=tk) keep above (o:=.lst (permV q zs)) ⟨?_,byP af q,c,hv,aJ⟩,rfl,k D q hp (EE hp up cm) (I.hok.fresh above)⟩;show(permV q zs).length<=x_;rw[permV,y_,Ky,hp.size,Lb];omega
 have gK:∀(b:Bool) (P:D->Bool),(∀d,P d=true->∃f r,d=.tup (f::r)/\(b=true->isInt f=true))->ds.all P=true->∀h' tk i j C,(∀b o,s.heap.get? b=some o->h'.get? b=some o)->i < af.length->j < af.length->C (dl (ds.getD i .non) (ds.getD j .non)) { s with heap:=h',toks:=tk } →
   w_ (n_ X.prog X.w) X.A.in1.in1 (keyLt' (tuples' b) (af.getD i b_.none) (af.getD j b_.none)) C (λ_ _=>False) { s with heap:=h',toks:=tk }:=λb P hP all h' tk i j C keep hi hj hc=>by
  have I':Inv X aa U H { s with heap:=h',toks:=tk }:=I.kept (t':=tk) keep;obtain⟨x,a1,a2,a3,_⟩:=at_k ha rv hi;obtain⟨y,b1,b2,b3,_⟩:=at_k ha rv hj;have cc:=lA i j hi hj;have dq:=qt a3;have lB:=qt b3;obtain⟨f1,r1,e1,g1⟩:=hP _ (LI.mp all _ a3);obtain⟨f2,r2,e2,g2⟩:=hP _ (LI.mp all _ b3);rw[e1] at a1 cc hc dq;rw[e2] at b1 cc hc lB;obtain⟨pa,xs,rfl,x1,x2⟩:=pG a1;obtain⟨pb,ys,rfl,y1,y2⟩:=pG b1;generalize af.getD i b_.none=ui at a2;generalize af.getD j b_.none=uj at b2;cases a2;cases b2;obtain⟨us,q1,q2,_⟩:=I'.tuple x1;obtain⟨vs,q3,q4,_⟩:=I'.tuple y1;obtain⟨oa,m1,m2,na,m3⟩:=q2;obtain⟨ob,m4,m5,nb,m6⟩:=q4;rw[rF] at hc;rw[cmB] at cc;rw[dep] at dq lB;refine kat_lt m1 m3 m4 m6 (zP I' (n:=50) (by show X.A.units+1+1+50 < MN;omega) (by decide) _ _ xs ys _ _ 0 x2 y2 q1 q3 (by omega) cc ?_ (λzb _ d e rr o5 z1 z2=>?_) hc)
  ·have:=x2.length;have:=y2.length;have:=q1.length;have:=q3.length;simp only[l_]
   congr 1
   apply propext
   constructor<;>intro _<;>omega
  ·cases z1;cases z2;exact⟨g1 zb,g2 zb⟩
 rcases kd with kd | kd | kd
 ·-- bt numbers
  have jP:∀k,k < af.length->∃i t,af.getD k b_.none=.int i t/\ds.getD k .non=.int i:=λk hk=>by
   obtain⟨x,a1,a2,a3,_⟩:=at_k ha rv hk;have:=LI.mp kd _ a3;cases e:ds.getD k .non<;>rw[e] at this a1<;>simp[isInt] at this
   rw[pq a1] at a2;obtain⟨t,a2⟩:=a2;exact⟨_,t,a2,rfl⟩
  refine vQ (κ:=LO) (lt:=λi j=>dl (ds.getD i .non) (ds.getD j .non)) (by omega) (wf ds) col (λh' tk Q' keep two q=>?_) (λh' tk i j C keep hi hj hc=>?_) ak
  ·refine kas_kind (T:=.type "int") two (λv hv=>?_) (by decide) (by decide) q;obtain⟨k,hk,rfl⟩:=Qt hv;obtain⟨i,t,e,_⟩:=jP k hk;rw[q_,i_ hk] at e
   change af[k]=_ at e
   rw[e];exact Ss.now
  ·obtain⟨a,t1,e1,f1⟩:=jP i hi;obtain⟨b,t2,e2,f2⟩:=jP j hj;rw[f1,f2,rB] at hc;rw[e1,e2];exact R' hc
 ·-- tuples that begin with a bt number
  refine vQ (κ:=tuples' true) (lt:=λi j=>dl (ds.getD i .non) (ds.getD j .non)) (by omega) (wf ds) col (λh' tk Q' keep two q=>?_) (λh' tk i j C keep hi hj hc=>gK true fstI (λd hd=>?_) kd h' tk i j C keep hi hj hc) ak
  ·have I':Inv X aa U H { s with heap:=h',toks:=tk }:=I.kept (t':=tk) keep
   obtain⟨fs,k1,k2,k3⟩:=wT I' X.prog X.w fstI (.type "int") (λd hd=>by
    unfold fstI at hd;split at hd
    ·refine⟨_,_,rfl,λx u hx hr=>?_⟩;rw[pq hx] at hr;obtain⟨t,rfl⟩:=hr;exact Ss.now
    ·cases hd) ds zs af ha rv kd
   exact kat_kind k1 (by omega) k3 (by decide) q
  ·unfold fstI at hd;split at hd
   ·exact⟨_,_,rfl,λ_=>rfl⟩
   ·cases hd
 ·-- tuples that begin with a tuple
  refine vQ (κ:=tuples' false) (lt:=λi j=>dl (ds.getD i .non) (ds.getD j .non)) (by omega) (wf ds) col (λh' tk Q' keep two q=>?_) (λh' tk i j C keep hi hj hc=>gK false fstT (λd hd=>?_) kd h' tk i j C keep hi hj hc) ak
  ·have I':Inv X aa U H { s with heap:=h',toks:=tk }:=I.kept (t':=tk) keep
   obtain⟨fs,k1,k2,k3⟩:=wT I' X.prog X.w fstT (.type "tuple") (λd hd=>by
    unfold fstT at hd;split at hd
    ·refine⟨_,_,rfl,λx u hx hr=>?_⟩;obtain⟨a,ys,rfl,g1,g2⟩:=pG hx;cases hr;obtain⟨bh,q1,q2,_⟩:=I'.tuple g1;obtain⟨o,e1,e2,n,e3⟩:=q2;have look:Ss (n_ X.prog X.w) h' (Sj (.ref a)) o.cls:=(Ss.ld e1).andThen .now;rw[e2] at look;exact look
    ·cases hd) ds zs af ha rv kd
   exact kat_kind k1 (by omega) k3 (by decide) q
  ·unfold fstT at hd;split at hd
   ·exact⟨_,_,rfl,λh=>by cases h⟩
   ·cases hd
theorem E8(hu:X.A.units+100 < MN):CallR X (.builtin "sorted") (λxs H Q=>∃(p:h_) (zs:List V) (ds:List D),xs=[.ref p]/\SqL X.K H p zs/\IsA X.K H ds zs/\SortOk ds/\∀l q,Pm ds.length q->permD q ds=sortD ds->H l=none->Q (.ref l) (upd H l (.lst (permV q zs)))):=by
 intro aa s U H xs us Q I r h;obtain⟨p,zs,ds,rfl,hq,ha,ok,k⟩:=h;obtain⟨u,rfl,ru⟩:=vals1 r;cases ru;obtain⟨af,rv,t,hz⟩:=I.list hq;have l1:=ha.length;have l2:=rv.length;have line:64<=x_:=by rw[Lb];decide
 refine IQ hu I ha rv ok (λQ' q=>collect_list t.isList (q _ s.toks (λb o x=>?_) ?_) (by have:=ok.1;omega)) k
 ·exact(C_ _ _ (Kx (KI (F_ x)))).trans (c_ _ x)
 ·rw[Qb,size_push'];exact Qp _
end
section
variable{B:BB}{kr:Nat}
noncomputable def sortF(ds:List D):Option (List D):=match ds with
 | [.lst xs]=>if xs.length < 64/\cmAll xs=true/\depA xs<=50/\(xs.all isInt=true\/xs.all fstI=true\/xs.all fstT=true) then some (sortD xs) else none
 | _=>none
theorem IsA.perm{K:PySem.W.Frag}{q:Array Nat}(h:IsA K I ds zs)(hp:Pm ds.length q):IsA K I (permD q ds) (permV q zs):=by
 have low:∀j∈q.toList,j < ds.length:=λj hj=>by
  have:=(Ld.mp hp).mem_iff.mp hj;simpa using this
 unfold permD permV;clear hp;generalize q.toList=js at low
 induction js with
 | nil=>exact IsA.nil
 | cons j js ih =>
  rw[KB,KB];refine IsA.cons ?_ (ih λi hi=>low i (j_ _ hi));have hj:=low j g_;obtain⟨x,e1,e2⟩:=h.get (i_ hj);rw[q_,q_,e1,i_ hj];exact e2
theorem ya{p:Pos}{t:M (List D)}(hr:Room kr X.A)(hg:Gl X "sorted")(hm:X.mg "sorted"=none)(ha:AD X B [e] t)(he:f_ [e] X.env=(false,KR e X.env)::f_ [] X.env:=by rfl)(aC:(K0 pos (f_ [] X.env)).any (·.1)=false:=by rfl):
  EO X B (.Call (.Name "sorted" p) [e] [] pos) (fn1 sortF t):=DJ (E8 (hu100 hr)) (λds d e B G I H U Γ xs Q r h k=>by
 unfold sortF at e;split at e
 ·obtain⟨ok,rfl⟩:=pK e;obtain⟨x,rfl,hx⟩:=h.one;obtain⟨q,zs,rfl,h3,h4⟩:=pF hx;refine⟨q,zs,_,rfl,(Same.rdK r.iH h3).sq,h4.mono r.iH,ok,λl q' hp es hl=>?_⟩;refine k.new r hl ?_;rw[←es];exact h4.perm hp
 ·cases e) hg hm RI ha (by decide) (by decide) he aC
end
end DL
namespace DL
open PySem PySem.SetTable
def Ris(xs:Array Nat):Prop:=∀i j (hi:i < xs.size) (hj:j < xs.size),i < j->xs[i] < xs[j]
theorem wa{xs:Array Nat}(R:Ris xs)(j:Nat):∀(f lo hi:Nat),hi<=xs.size->lo<=hi->hi - lo<=f->(∀i (h:i < xs.size),i < lo->xs[i] < j)->(∀i (h:i < xs.size),hi<=i->j<=xs[i]) →
  (NI.go xs j f lo hi<=xs.size/\(∀i (h:i < xs.size),i < NI.go xs j f lo hi->xs[i] < j)/\∀i (h:i < xs.size),NI.go xs j f lo hi<=i->j<=xs[i])
 | 0,lo,hi,h1,h2,h3,h4,h5=>by
  rw[NI.go];exact⟨by omega,h4,λi h x=>h5 i h (by omega)⟩
 | f+1,lo,hi,h1,h2,h3,h4,h5=>by
  rw[NI.go];split
  ·have hm:(lo+hi) / 2 < xs.size:=by omega
   have e:xs.getD ((lo+hi) / 2) j=xs[(lo+hi) / 2]:=by rw[Sr,dif_pos hm];rfl
   dsimp only;rw[e];split
   ·rename_i lt;refine wa R j f ((lo+hi) / 2+1) hi h1 (by omega) (by omega) (λi h x=>?_) h5;by_cases z:i=(lo+hi) / 2
    ·subst z;exact lt
    ·exact Rg (R i _ h hm (by omega)) lt
   ·rename_i o6;refine wa R j f lo ((lo+hi) / 2) (by omega) (by omega) (by omega) h4 λi h x=>?_
    by_cases z:i=(lo+hi) / 2
    ·subst z;omega
    ·have:=R _ i hm h (by omega);omega
  ·exact⟨by omega,h4,λi h x=>h5 i h (by omega)⟩
theorem tN{xs:Array Nat}(R:Ris xs)(j:Nat):NI xs j<=xs.size/\(∀i (h:i < xs.size),i < NI xs j->xs[i] < j)/\∀i (h:i < xs.size),NI xs j<=i->j<=xs[i]:=
 wa R j xs.size 0 xs.size (B_ _) (K' _) (B_ _) (λi h x=>by omega) λi h x=>by omega
theorem Bh{xs:Array Nat}(R:Ris xs){i:Nat}(h:i < xs.size):NI xs xs[i]=i:=by
 obtain⟨b1,b2,b3⟩:=tN R xs[i]
 rcases Rm (NI xs xs[i]) i with l | l | l
 ·have:=b3 (NI xs xs[i]) (by omega) (B_ _);have:=R _ i (by omega) h l;omega
 ·exact l
 ·have:=b2 i h l;omega
section
variable {t:LJ}
theorem EY(R:Ris t.place){i:Nat}(h:i < t.place.size):t.slot t.place[i]=.live i:=by
 unfold slot;dsimp only;rw[Bh R h,u_ h];simp
theorem Bw(R:Ris t.place)(hd:t.dummies=#[])(h:j∉t.place):t.slot j=.empty:=by
 unfold slot;dsimp only
 have e:¬(t.place[NI t.place j]? == some j)=true:=by
  intro z;have z:t.place[NI t.place j]?=some j:=by simpa using z
  exact h (NJ z)
 rw[if_neg e];unfold has;rw[hd];simp
noncomputable def hd(m i p:Nat):Probe:=⟨i,MY m i - i,i,p,none⟩
noncomputable def adv(m:Nat)(p:Probe):Probe:=match p with
 | ⟨j,k+1,i,q,d⟩=>⟨j+1,k,i,q,d⟩
 | ⟨_,0,i,q,d⟩=>⟨(RM m i q).1,MY m (RM m i q).1 - (RM m i q).1,(RM m i q).1,(RM m i q).2,d⟩
noncomputable def pth(m:Nat)(h:Int):Nat->Probe
 | 0=>hd m (Qu h % (m+1)) (Qu h)
 | k+1=>adv m (pth m h k)
theorem Gf(h:Int):t.probeStart h=pth t.mask h 0:=rfl
theorem A7(h:Int)(k:Nat):t.advance (pth t.mask h k)=pth t.mask h (k+1):=by
 rw[pth]
 rcases pth t.mask h k with⟨j,more,i,q,d⟩
 cases more<;>rfl
theorem w4(m:Nat)(h:Int):∀k,(pth m h k).dummy=none
 | 0=>rfl
 | k+1=>by
  have ih:=w4 m h k;rw[pth]
  revert ih
  rcases pth m h k with⟨j,more,i,q,d⟩
  intro ih;cases more<;>exact ih
noncomputable def sl(m:Nat)(h:Int)(k:Nat):Nat:=(pth m h k).j
theorem uS{m:Nat}{h:Int}{c i p:Nat}(e:pth m h c=hd m i p):∀d,d<=MY m i - i->pth m h (c+d)=⟨i+d,MY m i - i - d,i,p,none⟩
 | 0,_=>e
 | d+1,br=>by
  have ih:=uS e d (by omega);rw[←Nat.add_assoc,pth,ih];obtain⟨k,hk⟩:∃k,MY m i - i - d=k+1:=⟨MY m i - i - d - 1,by omega⟩;rw[hk,show MY m i - i - (d+1)=k by omega];rfl
theorem Az{h:Int}{c i p:Nat}(e:pth m h c=hd m i p):pth m h (c+(MY m i - i)+1)=hd m (RM m i p).1 (RM m i p).2:=by
 have:=uS e (MY m i - i) (B_ _);rw[pth,this,Ro];rfl
theorem BK(m i:Nat):MY m i - i<=9:=by
 unfold MY;split<;>omega
noncomputable def lp(m:Nat):Nat->Nat->Nat->Nat×Nat
 | 0,i,p=>(i,p)
 | n+1,i,p=>lp m n (RM m i p).1 (RM m i p).2
theorem yO{m:Nat}{h:Int}:∀(n c i p:Nat),pth m h c=hd m i p->∃c',c<=c'/\c'<=c+10*n/\pth m h c'=hd m (lp m n i p).1 (lp m n i p).2
 | 0,c,i,p,e=>⟨c,B_ _,by omega,e⟩
 | n+1,c,i,p,e=>by
  obtain⟨c',h1,h2,h3⟩:=yO n _ _ _ (Az e);have:=BK m i;exact⟨c',by omega,by omega,h3⟩
theorem rE(m:Nat):∀(a b i p:Nat),lp m (a+b) i p=lp m b (lp m a i p).1 (lp m a i p).2
 | 0,b,i,p=>by rw[MV];rfl
 | a+1,b,i,p=>by rw[Nat.succ_add,lp,rE m a b];rfl
theorem wL(m:Nat):∀(n i p:Nat),(lp m n i p).2=p / 32 ^ n
 | 0,i,p=>by simp[lp]
 | n+1,i,p=>by
  rw[lp,wL m n];show(p / 32) / 32 ^ n=_;rw[Nat.div_div_eq_div_mul,Nat.pow_succ,Nat.mul_comm]
theorem AH{m:Nat}:∀(n i p:Nat),i < m+1->(lp m n i p).1 < m+1
 | 0,i,p,h=>h
 | n+1,i,p,h=>by
  rw[lp];exact AH n _ _ (Sm _ (R_ _))
theorem BC(h:Int):Qu h < 2 ^ 64:=by
 unfold Qu;have h1:=ND h (b:=2 ^ 64) (by decide);have h2:=OP h (b:=2 ^ 64) (by decide);omega
def Round(m:Nat):Prop:=∀i,i < m+1->∀j,j < m+1->∃n,n < m+1/\(lp m n i 0).1=j
theorem round7:Round 7:=by
 have:∀i,i < 8->∀j,j < 8->∃n,n < 8/\(lp 7 n i 0).1=j:=by decide +kernel
 exact this
theorem round31:Round 31:=by
 have:∀i,i < 32->∀j,j < 32->∃n,n < 32/\(lp 31 n i 0).1=j:=by decide +kernel
 exact this
theorem zo(R:Round m)(h:Int)(hj:j < m+1):∃n,n < m+14/\(lp m n (Qu h % (m+1)) (Qu h)).1=j:=by
 have p0:(lp m 13 (Qu h % (m+1)) (Qu h)).2=0:=by
  rw[wL];refine Nat.div_eq_of_lt (J_ (BC h) ?_);decide
 have l0:=AH (m:=m) 13 (Qu h % (m+1)) (Qu h) (Sm _ (R_ _));obtain⟨n,h1,h2⟩:=R _ l0 j hj;refine⟨13+n,by omega,?_⟩;rw[rE,p0];exact h2
theorem Dw(R:Round m)(h:Int)(hj:j < m+1):∃k,k < 10*(m+14)/\sl m h k=j:=by
 obtain⟨n,h1,h2⟩:=zo R h hj;obtain⟨c,h3,h4,h5⟩:=yO (m:=m) (h:=h) n 0 _ _ rfl;refine⟨c,by omega,?_⟩;unfold sl;rw[h5];exact h2
end
noncomputable def orb(m:Nat):Nat->Nat->List Nat
 | 0,_=>[]
 | k+1,i=>i::orb m k (RM m i 0).1
theorem DH(m i:Nat):(RM m i 0).2=0:=by
 show 0 / 32=0;rfl
theorem Ev(m n i:Nat):lp m (n+1) i 0=lp m n (RM m i 0).1 0:=by
 rw[lp,DH]
theorem uz(m n i:Nat):(lp m n i 0).2=0:=by rw[wL];simp
theorem yi(m:Nat):∀(k i n:Nat),n < k->(orb m k i)[n]?=some (lp m n i 0).1
 | 0,_,_,h=>by omega
 | k+1,i,0,_=>rfl
 | k+1,i,n+1,h=>by
  rw[orb,MK,yi m k _ n (by omega),Ev]
theorem AV{k i:Nat}(h:j∈orb m k i)(hl:(orb m k i).length=k):∃n,n < k/\(lp m n i 0).1=j:=by
 obtain⟨n,hn,e⟩:=Qt h;refine⟨n,by omega,?_⟩;have:=yi m k i n (by omega);rw[i_ hn,e] at this;exact(KH this).symm
theorem v7(m:Nat):∀(k i:Nat),(orb m k i).length=k
 | 0,_=>rfl
 | k+1,i=>by rw[orb,Lc,v7 m k]
theorem round127:Round 127:=by
 have all:∀j,j < 128->∃n,n < 128/\(lp 127 n 0 0).1=j:=λj hj=>by
  have c:∀j,j < 128->j∈orb 127 128 0:=by decide +kernel
  exact AV (c j hj) (v7 _ _ _)
 have turn:(lp 127 128 0 0).1=0:=by decide +kernel
 intro i hi j hj;obtain⟨a,ha,ea⟩:=all i hi;obtain⟨b,hb,eb⟩:=all j hj;have dz:∀n,lp 127 n i 0=lp 127 (a+n) 0 0:=λn=>by rw[rE,ea,uz]
 rcases MW b a with z | z
 ·refine⟨b+128 - a,by omega,?_⟩;rw[dz,show a+(b+128 - a)=128+b by omega,rE,turn,uz,eb]
 ·exact⟨b - a,by omega,by rw[dz,show a+(b - a)=b by omega,eb]⟩
theorem round511:Round 511:=by
 have all:∀j,j < 512->∃n,n < 512/\(lp 511 n 0 0).1=j:=λj hj=>by
  have c:∀j,j < 512->j∈orb 511 512 0:=by decide +kernel
  exact AV (c j hj) (v7 _ _ _)
 have turn:(lp 511 512 0 0).1=0:=by decide +kernel
 intro i hi j hj;obtain⟨a,ha,ea⟩:=all i hi;obtain⟨b,hb,eb⟩:=all j hj;have dz:∀n,lp 511 n i 0=lp 511 (a+n) 0 0:=λn=>by rw[rE,ea,uz]
 rcases MW b a with z | z
 ·refine⟨b+512 - a,by omega,?_⟩;rw[dz,show a+(b+512 - a)=512+b by omega,rE,turn,uz,eb]
 ·exact⟨b - a,by omega,by rw[dz,show a+(b - a)=b by omega,eb]⟩
structure TabOk(t:LJ)(es:Array (Int×b_)):Prop where
 nd:t.dummies=#[]
 ris:Ris t.place
 sz:t.place.size=es.size
 low:∀i (h:i < t.place.size),t.place[i]<=t.mask
 few:t.place.size<=300/\(t.mask=511\/(t.mask=127/\t.place.size<=76)\/(t.mask=31/\t.place.size<=18)\/(t.mask=7/\t.place.size<=4))
 pl:t.plain=true
 reach:∀i (h:i < es.size) (h':i < t.place.size),∃k,sl t.mask es[i].1 k=t.place[i]/\∀k',k' < k->sl t.mask es[i].1 k'∈t.place
theorem wm:∀(n:Nat) (l:List Nat),(∀j,j < n->j∈l)->n<=l.length
 | 0,_,_=>K' _
 | n+1,l,h=>by
  have:=wm n (l.erase n) λj hj=>(List.mem_erase_of_ne (by omega)).mpr (h j (by omega))
  rw[O3 (h n (by omega))] at this;have:0 < l.length:=List.length_pos_of_mem (h n (by omega));omega
section
variable {t:LJ}{es:Array (Int×b_)}
theorem TabOk.round(T:TabOk t es):Round t.mask:=by
 rcases T.few.2 with h | h | h | h
 ·rw[h];exact round511
 ·rw[h.1];exact round127
 ·rw[h.1];exact round31
 ·rw[h.1];exact round7
theorem TabOk.free(T:TabOk t es)(h:Int):∃K,K < 10*(t.mask+14)/\sl t.mask h K∉t.place/\∀k,k < K->sl t.mask h k∈t.place:=by
 have ex:∃k,k < 10*(t.mask+14)/\sl t.mask h k∉t.place:=by
  apply Od
  intro no
  have:t.mask+1<=t.place.toList.length:=wm (t.mask+1) _ λj hj=>by
   obtain⟨k,k1,k2⟩:=Dw T.round h hj
   apply Od
   intro nj;exact no ⟨k,k1,by rw[k2];simpa using nj⟩
  rw[Ky] at this;have:=T.few;omega
 obtain⟨k,k1,k2⟩:=ex
 induction k using Nat.strongRecOn with
 | ind k ih =>
  by_cases z:∃k',k' < k/\sl t.mask h k'∉t.place
  ·obtain⟨k',a,b⟩:=z;exact ih k' a (by omega) b
  ·refine⟨k,k1,k2,λk' dg=>?_⟩
   apply Od
   intro nj;exact z ⟨k',dg,nj⟩
theorem yX{i:Nat}(h:i<=m):i+(MY m i - i)<=m:=by
 unfold MY;split<;>omega
theorem uo(m:Nat)(h:Int):∀k,(pth m h k).j+(pth m h k).more<=m/\(pth m h k).i<=m
 | 0=>by
  have:Qu h % (m+1)<=m:=Rp (Sm _ (R_ _));exact⟨yX this,this⟩
 | k+1=>by
  have ih:=uo m h k;rw[pth]
  revert ih
  rcases pth m h k with⟨j,more,i,q,d⟩
  intro ih;cases more with
  | zero =>
   have:(RM m i q).1<=m:=Rp (Sm _ (R_ _));exact⟨yX this,this⟩
  | succ more =>
   dsimp only at ih;exact⟨by show j+1+more<=m;omega,ih.2⟩
theorem Bv{xs:Array Nat}(h:j∈xs):∃i,∃h:i < xs.size,xs[i]=j:=by
 obtain⟨i,hi,e⟩:=Qc h;exact⟨i,hi,e⟩
theorem rD{α:Type}{xs:Array α}{p:Nat}(hp:p<=xs.size)(x:α)(i:Nat):(Lq xs p x)[i]?=if i < p then xs[i]? else if i=p then some x else xs[i - 1]?:=by
 unfold Lq;rw[Array.getElem?_append,Oe,Oo];have e:min p xs.size - 0=p:=by omega
 rw[e];by_cases h1:i < p
 ·rw[if_pos (by omega),if_pos h1,Qv,Oo,e,if_neg (by omega),M6,if_pos (by omega),MV]
 ·rw[if_neg h1];by_cases h2:i=p
  ·rw[if_pos (by omega),if_pos h2,Qv,Oo,e,if_pos h2]
  ·rw[if_neg (by omega),if_neg h2,M6];by_cases h3:i - (p+1) < min xs.size xs.size - p
   ·rw[if_pos h3]
    congr 1
    omega
   ·rw[if_neg h3]
    symm
    rw[M7];omega
theorem wK{α:Type}{xs:Array α}{p:Nat}(hp:p<=xs.size)(x:α):(Lq xs p x).size=xs.size+1:=by
 unfold Lq;rw[Array.size_append,Oe,Oo,Oo];omega
theorem xZ{α:Type}{xs:Array α}{p:Nat}(hp:p<=xs.size)(x y:α):y∈Lq xs p x↔y=x\/y∈xs:=by
 constructor
 ·intro h;obtain⟨i,e⟩:=M8.mp h;rw[rD hp] at e;split at e
  ·exact .inr (NJ e)
  ·split at e
   ·cases e;exact .inl rfl
   ·exact .inr (NJ e)
 ·rintro(rfl | h)
  ·refine M8.mpr ⟨p,?_⟩;rw[rD hp,if_neg (by omega),if_pos rfl]
  ·obtain⟨i,e⟩:=M8.mp h;by_cases z:i < p
   ·exact M8.mpr ⟨i,by rw[rD hp,if_pos z];exact e⟩
   ·exact M8.mpr ⟨i+1,by rw[rD hp,if_neg (by omega),if_neg (by omega)];exact e⟩
theorem Dr(T:TabOk t es){h:Int}{x:b_}{K:Nat}(hK:sl t.mask h K∉t.place)(hk:∀k,k < K->sl t.mask h k∈t.place):
  let q:=t.put (sl t.mask h K)
  q.1.dummies=#[]/\Ris q.1.place/\q.1.place.size=(Lq es q.2 (h,x)).size/\(∀i (h:i < q.1.place.size),q.1.place[i]<=q.1.mask)/\q.1.mask=t.mask/\q.1.plain=t.plain/\q.1.led=t.led/\q.1.moves=t.moves/\q.1.place.size=t.place.size+1/\q.2<=es.size ∧
   (∀i (h1:i < (Lq es q.2 (h,x)).size) (h2:i < q.1.place.size),∃k,sl q.1.mask (Lq es q.2 (h,x))[i].1 k=q.1.place[i]/\∀k',k' < k->sl q.1.mask (Lq es q.2 (h,x))[i].1 k'∈q.1.place):=by
 intro q;obtain⟨b1,b2,b3⟩:=tN T.ris (sl t.mask h K);have q2:q.2=NI t.place (sl t.mask h K):=rfl;have q1:q.1.place=Lq t.place (NI t.place (sl t.mask h K)) (sl t.mask h K):=rfl;have hp:q.2<=es.size:=by rw[q2,←T.sz];exact b1
 have nh:has t.dummies (sl t.mask h K)=false:=by rw[T.nd];rfl
 have qd:q.1.dummies=#[]:=by
  show(if has t.dummies (sl t.mask h K)=true then _ else t.dummies)=_;rw[nh,if_neg v_];exact T.nd
 have get:∀i (h2:i < q.1.place.size),(i < q.2/\∃hi:i < t.place.size,q.1.place[i]=t.place[i])\/(i=q.2/\q.1.place[i]=sl t.mask h K)\/(q.2 < i/\∃hi:i - 1 < t.place.size,q.1.place[i]=t.place[i - 1]):=λi h2=>by
  have e:=rD (x:=sl t.mask h K) b1 i;rw[←q1,←q2,u_ h2] at e;by_cases z1:i < q.2
  ·rw[if_pos z1] at e;obtain⟨hi,e⟩:=K5.mp e.symm;exact .inl ⟨z1,hi,e.symm⟩
  ·rw[if_neg z1] at e;by_cases z2:i=q.2
   ·rw[if_pos z2] at e;exact .inr (.inl ⟨z2,KH e⟩)
   ·rw[if_neg z2] at e;obtain⟨hi,e⟩:=K5.mp e.symm;exact .inr (.inr ⟨by omega,hi,e.symm⟩)
 have sz:q.1.place.size=t.place.size+1:=by rw[q1];exact wK b1 _
 have ne:∀i (hi:i < t.place.size),t.place[i]≠sl t.mask h K:=λi hi z=>hK (by rw[←z];exact ON hi)
 refine⟨qd,?_,by rw[sz,wK hp,T.sz],?_,rfl,rfl,rfl,rfl,sz,hp,?_⟩
 ·intro i j hi hj lt
  rcases get i hi with⟨a1,a2,a3⟩ | ⟨a1,a3⟩ | ⟨a1,a2,a3⟩<;>rcases get j hj with⟨c1,c2,c3⟩ | ⟨c1,c3⟩ | ⟨c1,c2,c3⟩
  ·rw[a3,c3];exact T.ris i j a2 c2 lt
  ·rw[a3,c3];exact b2 i a2 (by omega)
  ·rw[a3,c3];have:=b2 i a2 (by omega);have:=b3 (j - 1) c2 (by omega);omega
  ·omega
  ·omega
  ·rw[a3,c3];have:=b3 (j - 1) c2 (by omega);have:=ne (j - 1) c2;omega
  ·omega
  ·omega
  ·rw[a3,c3];exact T.ris (i - 1) (j - 1) a2 c2 (by omega)
 ·intro i hi;show _<=t.mask
  rcases get i hi with⟨a1,a2,a3⟩ | ⟨a1,a3⟩ | ⟨a1,a2,a3⟩
  ·rw[a3];exact T.low _ _
  ·rw[a3];have:=(uo t.mask h K).1;unfold sl;omega
  ·rw[a3];exact T.low _ _
 ·intro i h1 h2;have dI:∀y,y∈t.place->y∈q.1.place:=λy hy=>by rw[q1];exact(xZ b1 _ _).mpr (.inr hy)
  have e:=rD (x:=(h,x)) hp i;rw[u_ h1] at e;show ∃k,sl t.mask _ k=_/\∀k',k' < k->sl t.mask _ k'∈_
  rcases get i h2 with⟨a1,a2,a3⟩ | ⟨a1,a3⟩ | ⟨a1,a2,a3⟩
  ·rw[if_pos a1] at e;obtain⟨hi,e⟩:=K5.mp e.symm;obtain⟨k,k1,k2⟩:=T.reach i hi a2;rw[←e,a3];exact⟨k,k1,λk' dg=>dI _ (k2 k' dg)⟩
  ·rw[if_neg (by omega),if_pos a1] at e;rw[KH e,a3];exact⟨K,rfl,λk' dg=>dI _ (hk k' dg)⟩
  ·rw[if_neg (by omega),if_neg (by omega)] at e;obtain⟨hi,e⟩:=K5.mp e.symm;obtain⟨k,k1,k2⟩:=T.reach (i - 1) hi a2;rw[←e,a3];exact⟨k,k1,λk' dg=>dI _ (k2 k' dg)⟩
end
noncomputable def tak(o:Array (Option Nat))(j:Nat):Bool:=(o.getD j (some 0)).isSome
theorem zG{m:Nat}{o:Array (Option Nat)}{h:Int}:∀(f c i p:Nat),pth m h c=hd m i p →
  (∃k,c<=k/\NU m o f i p=some (sl m h k)/\tak o (sl m h k)=false/\∀k',c<=k'->k' < k->tak o (sl m h k')=true)\/(∀n,n < f->tak o (lp m n i p).1=true)
 | 0,c,i,p,e=>.inr λn h=>by omega
 | f+1,c,i,p,e=>by
  have run:=λd br=>uS e d br
  have aI:∀d,d<=MY m i - i->sl m h (c+d)=i+d:=λd br=>by unfold sl;rw[run d br]
  have up:i<=MY m i:=by unfold MY;split<;>omega
  rw[NU];cases hf:(Mm (MY m i+1 - i)).find? λk=>(o.getD (i+k) (some 0)).isNone with
  | some d =>
   obtain⟨d1,d2,d3⟩:=List.find?_range_eq_some.mp hf;rw[M3] at d2;left;refine⟨c+d,by omega,?_,?_,λk' a b=>?_⟩
   ·dsimp only;rw[aI d (by omega)]
   ·rw[aI d (by omega)];unfold tak;cases x:o.getD (i+d) (some 0) with
    | none=>rfl
    | some v=>rw[x] at d1;cases d1
   ·obtain⟨d',rfl⟩:∃d',k'=c+d':=⟨k' - c,by omega⟩;rw[aI d' (by omega)];have:=d3 d' (by omega);unfold tak;cases x:o.getD (i+d') (some 0) with
    | none=>rw[x] at this;cases this
    | some v=>rfl
  | none =>
   have no:=List.find?_range_eq_none.mp hf
   have all:∀k',c<=k'->k' < c+(MY m i - i)+1->tak o (sl m h k')=true:=λk' a b=>by
    obtain⟨d',rfl⟩:∃d',k'=c+d':=⟨k' - c,by omega⟩;rw[aI d' (by omega)];have:=no d' (by omega);unfold tak;cases x:o.getD (i+d') (some 0) with
    | none=>rw[x] at this;cases this
    | some v=>rfl
   dsimp only
   rcases zG (o:=o) f _ _ _ (Az e) with⟨k,k1,k2,k3,k4⟩ | ax
   ·left;refine⟨k,by omega,k2,k3,λk' a b=>?_⟩;by_cases z:k' < c+(MY m i - i)+1
    ·exact all k' a z
    ·exact k4 k' (by omega) b
   ·right;intro n hn;cases n with
    | zero =>
     have:=all c (B_ _) (by omega);rw[←Nat.add_zero c,aI 0 (by omega)] at this;exact this
    | succ n =>
     rw[lp];exact ax n (by omega)
theorem uP:∀(k:Nat) (l:List Nat),l.Nodup->(∀x∈l,x < k)->l.length<=k
 | 0,l,_,h=>by
  cases l with
  | nil=>exact B_ _
  | cons x l=>exact absurd (h x g_) (Qd _)
 | k+1,l,nd,h=>by
  by_cases z:k∈l
  ·have:=uP k (l.erase k) (nd.erase k) λx hx=>by
    have h1:=h x (List.mem_of_mem_erase hx)
    have h2:x≠k:=λe=>by
     subst e;exact(Sa.not_mem_erase nd) hx
    omega
   rw[O3 z] at this;omega
  ·have:=uP k l nd λx hx=>by
    have h1:=h x hx;have h2:x≠k:=λe=>z (e▸hx)
    omega
   omega
structure Laid(m:Nat)(hs:List Int)(o:Array (Option Nat))(k:Nat):Prop where
 sz:o.size=m+1
 old:∀(j v:Nat),o[j]?=some (some v)->v < k
 one:∀(j j' v:Nat),o[j]?=some (some v)->o[j']?=some (some v)->j=j'
 way:∀(v:Nat),v < k->∃(j c:Nat),o[j]?=some (some v)/\sl m (hs.getD v 0) c=j/\∀c',c' < c->tak o (sl m (hs.getD v 0) c')=true
theorem Laid.room{o:Array (Option Nat)}{k:Nat}(L:Laid m hs o k)(hk:k<=m):∃j,j < m+1/\tak o j=false:=by
 apply Od
 intro no
 have all:∀j,j < m+1->∃v,o[j]?=some (some v):=λj hj=>by
  have t:tak o j=true:=by
   cases x:tak o j with
   | true=>rfl
   | false=>exact absurd ⟨j,hj,x⟩ no
  unfold tak at t;rw[Sr,dif_pos (by rw[L.sz];exact hj)] at t;rw[u_ (by rw[L.sz];exact hj)];cases x:o[j]'(by rw[L.sz];exact hj) with
  | none=>simp[x] at t
  | some v=>exact⟨v,rfl⟩
 have nd:((Mm (m+1)).map λj=>((o[j]?).bind id).getD 0).Nodup:=by
  unfold Sa;rw[PD];refine Sb ?_ List.nodup_range;intro a b ha hb ne e;obtain⟨v,hv⟩:=all a (M3.mp ha);obtain⟨v',lC⟩:=all b (M3.mp hb);rw[hv,lC] at e;have e:v=v':=e;subst e;exact ne (L.one a b v hv lC)
 have:=uP k _ nd λx hx=>by
  obtain⟨j,hj,rfl⟩:=LS.mp hx;obtain⟨v,hv⟩:=all j (M3.mp hj);rw[hv];exact L.old j v hv
 rw[y_,Ol] at this;omega
theorem Laid.step(R:Round m){o:Array (Option Nat)}{k:Nat}(L:Laid m hs o k)(hk:k<=m):∃j,NU m o (Su m) (Qu (hs.getD k 0) % (m+1)) (Qu (hs.getD k 0))=some j/\Laid m hs (o.setIfInBounds j (some k)) (k+1):=by
 rcases zG (m:=m) (o:=o) (h:=hs.getD k 0) (Su m) 0 _ _ rfl with⟨K,_,k2,k3,k4⟩ | full
 ·refine⟨_,k2,?_⟩
  have hj:sl m (hs.getD k 0) K < o.size:=by
   rw[L.sz];have:=(uo m (hs.getD k 0) K).1;unfold sl;omega
  have free:o[sl m (hs.getD k 0) K]?=some none:=by
   unfold tak at k3;rw[LV,u_ hj] at k3;rw[u_ hj];cases x:o[sl m (hs.getD k 0) K] with
   | none=>rfl
   | some v=>rw[x] at k3;cases k3
  have get:∀i,(o.setIfInBounds (sl m (hs.getD k 0) K) (some k))[i]?=if sl m (hs.getD k 0) K=i then some (some k) else o[i]?:=λi=>by
   rw[Array.getElem?_setIfInBounds];split
   ·rename_i e;subst e;simp[hj]
   ·rfl
  have more:∀i,tak o i=true->tak (o.setIfInBounds (sl m (hs.getD k 0) K) (some k)) i=true:=λi hi=>by
   unfold tak at hi ⊢;rw[LV] at hi ⊢;rw[get];split
   ·rfl
   ·exact hi
  refine⟨by rw[Array.size_setIfInBounds];exact L.sz,λj v e=>?_,λj j' v e e'=>?_,λv hv=>?_⟩
  ·rw[get] at e;split at e
   ·cases e;omega
   ·have:=L.old j v e;omega
  ·rw[get] at e e';split at e
   ·cases e;split at e'
    ·omega
    ·have:=L.old j' k e';omega
   ·split at e'
    ·cases e';have:=L.old j k e;omega
    ·exact L.one j j' v e e'
  ·by_cases z:v=k
   ·subst z;exact⟨_,K,by rw[get,if_pos rfl],rfl,λc' bW=>more _ (k4 c' (K' _) bW)⟩
   ·obtain⟨j,c,e1,e2,e3⟩:=L.way v (by omega);refine⟨j,c,?_,e2,λc' bW=>more _ (e3 c' bW)⟩;rw[get,if_neg ?_]
    ·exact e1
    ·intro e;subst e;rw[free] at e1;cases e1
 ·obtain⟨j,hj,tj⟩:=L.room hk;obtain⟨n,n1,n2⟩:=zo R (hs.getD k 0) hj;have:=full n (by unfold Su;omega);rw[n2,tj] at this;cases this
theorem Di(R:Round m)(hs:List Int)(hm:hs.length<=m):∃o,layClean m hs.toArray=some o/\Laid m hs o hs.length:=by
 unfold layClean;rw[←Array.foldl_toList]
 have key:∀(l pre:List Int) (o:Array (Option Nat)),hs=pre++l->Laid m hs o pre.length->∃o',List.foldl (λao h=>do
   let (owner,k) ←ao
   let j ←NU m owner (Su m) (Qu h % (m+1)) (Qu h)
   pure (owner.setIfInBounds j (some k),k+1)) (some (o,pre.length)) l=some (o',hs.length)/\Laid m hs o' hs.length:=by
  intro l
  induction l with
  | nil =>
   intro pre o e L;rw[LD] at e;subst e;exact⟨o,rfl,L⟩
  | cons h l ih =>
   intro pre o e L;have gk:hs.getD pre.length 0=h:=by rw[e,q_];simp
   have lk:pre.length<=m:=by
    have:=congrArg length e;simp at this;omega
   obtain⟨j,j1,j2⟩:=L.step R lk;rw[gk] at j1;obtain⟨o',h1,h2⟩:=ih (pre++[h]) (o.setIfInBounds j (some pre.length)) (by rw[e];simp) (by simpa using j2);refine⟨o',?_,h2⟩;rw[Mk,←h1]
   congr 1
   show(NU m o (Su m) (Qu h % (m+1)) (Qu h)).bind _=_;rw[j1];simp
 have aK:∀(j v:Nat),(Array.replicate (m+1) (none:Option Nat))[j]?=some (some v)->False:=λj v e=>by
  rw[Array.getElem?_replicate] at e;split at e
  ·cases e
  ·cases e
 obtain⟨o',h1,h2⟩:=key hs [] (Array.replicate (m+1) none) rfl ⟨by simp,λj v e=>(aK j v e).elim,λj j' v e=>(aK j v e).elim,λv hv=>absurd hv (Qd _)⟩
 exact⟨o',by
  have:=congrArg (Option.map (·.1)) h1
  exact this,h2⟩
theorem HU{es:Array (Int×b_)}(R:Round m)(few:(m=31/\es.size<=18)\/(m=127/\es.size<=76)\/(m=511/\es.size<=300))(finger moves:Nat)(led:Bool):∃t bR,laid m finger moves led true (es.map (·.1))=some (t,bR)/\(bR.filterMap (es[·]?)).size=es.size/\TabOk t (bR.filterMap (es[·]?))/\t.mask=m/\t.led=led ∧
  (∀x,x∈bR.filterMap (es[·]?)↔x∈es)/\bR.toList.Perm (Mm es.size):=by
 obtain⟨o,h1,L⟩:=Di R (es.map (·.1)).toList (by simp;omega);rw[N1] at h1;have nl:(es.map (·.1)).toList.length=es.size:=by simp
 rw[nl] at L;obtain⟨live,dS⟩:∃live:List (Nat×Nat),live=(Mm (m+1)).filterMap λj=>(o.getD j none).map (j,·):=⟨_,rfl⟩
 have mem:∀j v,(j,v)∈live↔o[j]?=some (some v):=λj v=>by
  rw[dS,Oy];constructor
  ·rintro⟨a,ha,e⟩;rw[LV] at e;cases x:o[a]? with
   | none=>rw[x] at e;cases e
   | some w =>
    rw[x] at e;cases w with
    | none=>cases e
    | some w=>cases e;exact x
  ·intro e;have:=(K5.mp e).1;refine⟨j,M3.mpr (by rw[L.sz] at this;exact this),?_⟩;rw[LV,e];rfl
 have ris:live.Pairwise λa b=>a.1 < b.1:=by
  rw[dS,List.pairwise_filterMap];refine Mf.imp ?_ PF;intro a b lt x hx y hy;cases e:o.getD a none with
  | none=>rw[e] at hx;cases hx
  | some v =>
   rw[e] at hx;cases hx;cases e':o.getD b none with
   | none=>rw[e'] at hy;cases hy
   | some v'=>rw[e'] at hy;cases hy;exact lt
 have jQ:(live.map (·.2)).Nodup:=by
  unfold Sa;rw[PD];refine Sb ?_ ris;intro a b ha hb lt e;have h1:=(mem a.1 a.2).mp ha;have h2:=(mem b.1 b.2).mp hb;rw[e] at h1;have:=L.one _ _ _ h1 h2;omega
 have lo:live.length=es.size:=by
  refine Nat.le_antisymm ?_ ?_
  ·have:=uP es.size (live.map (·.2)) jQ λx hx=>by
    obtain⟨q,hq,rfl⟩:=LS.mp hx;exact L.old q.1 q.2 ((mem _ _).mp hq)
   simpa using this
  ·have:=wm es.size (live.map (·.2)) λv hv=>by
    obtain⟨j,c,e,_⟩:=L.way v hv;exact LS.mpr ⟨(j,v),(mem j v).mpr e,rfl⟩
   simpa using this
 have low:∀q∈live,q.2 < es.size:=λq hq=>L.old q.1 q.2 ((mem _ _).mp hq)
 have ak:((live.map (·.2)).toArray.filterMap (es[·]?)).toList=live.map λq=>es[q.2]?.getD (0,b_.none):=by
  rw[Array.toList_filterMap];show(live.map (·.2)).filterMap (es[·]?)=_;clear lo jQ ris mem dS
  induction live with
  | nil=>rfl
  | cons q live ih =>
   have hq:=low q g_;rw[KB,Ow,u_ hq,KB,u_ hq];rw[ih λq hq=>low q (j_ _ hq)];rfl
 refine⟨{ mask:=m,place:=(live.map (·.1)).toArray,dummies:=#[],finger,led,moves,plain:=true },(live.map (·.2)).toArray,?_,?_,?_,rfl,rfl,λx=>?_,?_⟩
 ·unfold laid;rw[h1];show some _=some _;rw[dS]
 ·rw[←Ky,ak,y_,lo]
 ·have nV:((live.map (·.2)).toArray.filterMap (es[·]?)).size=live.length:=by rw[←Ky,ak,y_]
  have nW:∀i (h1:i < ((live.map (·.2)).toArray.filterMap (es[·]?)).size) (h2:i < live.length),((live.map (·.2)).toArray.filterMap (es[·]?))[i]=es[live[i].2]?.getD (0,b_.none):=λi h1 h2=>by
   rw[←Qa]
   have:((live.map (·.2)).toArray.filterMap (es[·]?)).toList[i]'(by rw[Ky];exact h1)=(live.map λq=>es[q.2]?.getD (0,b_.none))[i]'(by simpa using h2):=by
    congr 1
   rw[this,N0]
  refine⟨rfl,λi j hi hj lt=>?_,?_,λi hi=>?_,⟨?_,?_⟩,rfl,λi h1 h2=>?_⟩
  ·simp at hi hj;simp only[N2,N0];exact(Mx.mp ris) i j hi hj lt
  ·rw[nV];simp
  ·simp at hi;simp only[N2,N0];have:=(mem live[i].1 live[i].2).mp (LG hi);have:=(K5.mp this).1;rw[L.sz] at this;show _<=m;omega
  ·simp;omega
  ·have ll:(live.map (·.1)).toArray.size=live.length:=by simp
   show m=511\/(m=127/\(live.map (·.1)).toArray.size<=76)\/(m=31/\(live.map (·.1)).toArray.size<=18)\/(m=7/\_)
   rcases few with z | z | z
   ·exact .inr (.inr (.inl ⟨z.1,by rw[ll];omega⟩))
   ·exact .inr (.inl ⟨z.1,by rw[ll];omega⟩)
   ·exact .inl z.1
  ·have jR:i < live.length:=by simpa using h2
   rw[nW i h1 jR];simp only[N2,N0];have m1:=(mem live[i].1 live[i].2).mp (LG jR);have v1:=low live[i] (LG jR);obtain⟨j,c,e1,e2,e3⟩:=L.way live[i].2 v1;have:j=live[i].1:=L.one _ _ _ e1 m1;subst this
   have hh:(es.map (·.1)).toList.getD live[i].2 0=es[live[i].2].1:=by
    rw[q_];simp[v1]
   rw[hh] at e2 e3;rw[u_ v1];refine⟨c,e2,λc' bW=>?_⟩;have tk:=e3 c' bW;unfold tak at tk;have lt:=(uo m es[live[i].2].1 c').1;have lt:sl m es[live[i].2].1 c' < o.size:=by rw[L.sz];unfold sl;omega
   rw[Sr,dif_pos lt] at tk;show sl m es[live[i].2].1 c'∈_;cases x:o[sl m es[live[i].2].1 c'] with
   | none=>simp[x] at tk
   | some v =>
    have:(sl m es[live[i].2].1 c',v)∈live:=(mem _ _).mpr (by rw[u_ lt,x]);simp only[List.mem_toArray,LS];exact⟨_,this,rfl⟩
 ·rw[←Array.mem_toList_iff,ak,LS];constructor
  ·rintro⟨q,hq,rfl⟩;rw[u_ (low q hq)];exact ON _
  ·intro hx;obtain⟨v,hv,rfl⟩:=Qc hx;obtain⟨j,c,e,_⟩:=L.way v hv;refine⟨(j,v),(mem j v).mpr e,?_⟩;dsimp only;rw[u_ hv];rfl
 ·show(live.map (·.2)).Perm _;refine(List.perm_ext_iff_of_nodup jQ List.nodup_range).mpr λv=>⟨λh=>?_,λh=>?_⟩
  ·obtain⟨q,hq,rfl⟩:=LS.mp h;exact M3.mpr (low q hq)
  ·obtain⟨j,c,e,_⟩:=L.way v (M3.mp h);exact LS.mpr ⟨(j,v),(mem j v).mpr e,rfl⟩
end DL
namespace DL
open PySem PySem.W PySem.Spec PyProof.Rows L2
end DL
namespace DL
open PySem PySem.W PySem.Spec PyProof.Rows L2 PySem.SetTable
section
variable{prog:z_}{w:I_}{E:b_->d_->Prop}{s:d_}
theorem TabOk.fits{t:LJ}{es:Array (Int×b_)}(T:TabOk t es):t.fits es.size=true:=by
 have:=T.few;have:=T.sz;unfold LJ.fits LJ.fill;rw[T.nd];simp[T.sz];omega
end
section
variable{prog:z_}{w:I_}{E:b_->d_->Prop}{s:d_}
def SetAt(h:KM)(a:h_)(led:Bool)(es:Array (Int×b_)):Prop:=∃o ep t,h.get? a=some o/\o.cls=.type "set"/\o.data=.set es ep t/\TabOk t es/\t.led=led
theorem yT{a:h_}{o:Obj}{es es':Array (Int×b_)}{t t':LJ}(ho:h.get? a=some o)(hd:o.data=.set es ep t):(h.update a (putSet es' t')).get? a=some { o with data:=.set es' (ep+1) t' }:=by
 have e:=putSet_of es' t' hd;have:=KL (putSet es' t') ho (by rw[e];rfl);rw[e] at this;exact this
end
section
variable{H:Hp}{s0 s:d_}{prog:z_}{w:I_}{E:b_->d_->Prop}
def Ext(s0 s:d_):Prop:=∃h tk,s={ s0 with heap:=h,toks:=tk }/\∀b o,s0.heap.get? b=some o->h.get? b=some o
theorem Ext.inv(I:Inv X aa U H s0)(e:Ext s0 s):Inv X aa U H s:=by
 obtain⟨h,tk,rfl,k⟩:=e;exact I.kept (t':=tk) k
theorem Ext.next(e:Ext s0 s)(k:∀b o,b < s0.heap.objs.size->s.heap.get? b=some o->h'.get? b=some o):Ext s0 { s with heap:=h',toks:=tk }:=by
 obtain⟨h,t,rfl,k0⟩:=e;exact⟨h',tk,rfl,λb o x=>k b o (F_ x) (k0 b o x)⟩
theorem SetAt.kept{a:h_}{led:Bool}{es:Array (Int×b_)}(S:SetAt h a led es)(k:∀o,h.get? a=some o->h'.get? a=some o):SetAt h' a led es:=by
 obtain⟨o,ep,t,r1,r2⟩:=S;exact⟨o,ep,t,k _ r1,r2⟩
end
theorem zH:Manifest.owners.lookup (String.ofList ['r','o','t','a','r','e','t','i','_','t','e','s'].reverse)=some Manifest.sig_set_iterator:=by kernel_rfl
theorem rP:Slot "set_iterator" "__next__" "set_iterator.__next__":=.of (owner:= "set_iterator") (n:= "__next__") (by rw[Of,MZ];kernel_rfl) (by decide +kernel) (by decide +kernel) (by decide +kernel) (by first | exact .inl (by decide +kernel) | exact .inr (by decide +kernel)) (by rw[isSubtype_type];kernel_rfl)
theorem xP:Sc table "set_iterator.__next__"=some Me.«set_iterator.__next__»:=entryFor_of_tree (by kernel_rfl)
theorem yE(a:b_):QV "set_iterator.__next__" ⟨[a],[]⟩:=by
 unfold QV;rw[signature?_of (id:= "set_iterator.__next__") (n:=['_','_','t','x','e','n','_','_']) (o:=['r','o','t','a','r','e','t','i','_','t','e','s']) (by kernel_rfl) zH]
 kernel_rfl
theorem Dz:Sc table "set.__iter__"=some Me.«frozenset.__iter__»:=entryFor_alias (id':= "frozenset.__iter__") (by kernel_rfl) rfl (by decide +kernel) (by kernel_rfl)
theorem xa{α:Type}:∀(l:List α) (i:Nat) (h:i < l.length),(l[i]::l.eraseIdx i).Perm l
 | a::l,0,h=>NE _
 | a::l,i+1,h=>by
  rw[List.eraseIdx_cons_succ,List.getElem_cons_succ];exact(List.Perm.swap a _ _).trans ((xa l i (by simpa using h)).cons a)
theorem zV{α:Type}(next:Nat->Nat):∀(f k:Nat) (left:List α) (ak:Array α),left.length=f->(Pa.go next f k left ak).toList.Perm (ak.toList++left)
 | 0,k,left,ak,h=>by
  rw[Pa.go,LX.mp h,LD]
 | f+1,k,left,ak,h=>by
  have lt:next k % left.length < left.length:=Sm _ (by omega);rw[Pa.go,i_ lt];dsimp only;refine(zV next f (k+1) _ _ (by rw[List.length_eraseIdx_of_lt lt];omega)).trans ?_;rw[N3,LC];exact OQ _ (xa left _ lt)
theorem Ik{α:Type}(next:Nat->Nat)(xs:Array α):(Pa next xs).toList.Perm xs.toList:=by
 have:=zV next xs.size 0 xs.toList #[] (by simp);simpa[Pa] using this
section
variable{prog:z_}{w:I_}{E:b_->d_->Prop}{s:d_}
noncomputable def byTx(w:I_):Bool:=w.params.followText "set-order"
noncomputable def walkOf(w:I_)(S:h_)(ep:Nat)(es:Array (Int×b_)):Array (Int×b_):=if byTx w=true then Pa (w.params.setOrder S ep) es else es
theorem AO(w:I_)(S:h_)(ep:Nat)(es:Array (Int×b_)):(walkOf w S ep es).toList.Perm es.toList:=by
 unfold walkOf;split
 ·exact Ik _ _
 ·exact NE _
theorem ue(w:I_)(S:h_)(ep:Nat)(es:Array (Int×b_)):(walkOf w S ep es).size=es.size:=by
 have:=(AO w S ep es).length_eq;simpa using this
noncomputable def slotAt(w:I_)(t:LJ)(k:Nat):Nat:=if byTx w=true then 0 else match k with
 | 0=>0
 | k+1=>t.place.getD k 0+1
def SitAt(h:KM)(I S:h_)(slot k n ep:Nat):Prop:=∃o,h.get? I=some o/\o.cls=.type "set_iterator"/\o.data=.fields #[.int slot 0,.int k 0,.ref S,.int n 0,.int ep 0]
def SetIs(h:KM)(S:h_)(es:Array (Int×b_))(ep:Nat)(t:LJ):Prop:=∃o,h.get? S=some o/\o.cls=.type "set"/\o.data=.set es ep t
theorem BQ{w:I_}{t:LJ}{es:Array (Int×b_)}(T:TabOk t es)(hb:byTx w=false){k:Nat}(hk:k<=es.size):NI t.place (slotAt w t k)=k:=by
 unfold slotAt;rw[hb,if_neg v_];have sz:=T.sz;cases k with
 | zero =>
  dsimp only;obtain⟨b1,b2,b3⟩:=tN T.ris 0
  rcases QW (NI t.place 0) with h | h
  ·exact h
  ·have:=b2 0 (by omega) h;omega
 | succ k =>
  dsimp only;have lt:k < t.place.size:=by omega
  rw[Sr,dif_pos lt]
  change NI t.place (t.place[k]+1)=k+1
  obtain⟨b1,b2,b3⟩:=tN T.ris (t.place[k]+1)
  rcases Rm (NI t.place (t.place[k]+1)) (k+1) with l | l | l
  ·have:=b3 k lt (by omega);omega
  ·exact l
  ·have h1:k+1 < t.place.size:=by omega
   have:=b2 (k+1) h1 l;have:=T.ris k (k+1) lt h1 (by omega);omega
theorem vk{Q:Bool->d_->Prop}(q:Q (byTx w) s):w_ (n_ prog w) A setsByText Q E s:=a_ (Pb (e_ q))
theorem xk{es:Array (Int×b_)}{t:LJ}(T:TabOk t es)(led:t.led=!byTx w)(hS:SetIs s.heap S es ep t){k:Nat}(hk:k<=es.size){Q:Option (b_×Nat)->d_->Prop}(q:Q ((walkOf w S ep es)[k]?.map λe=>(e.2,slotAt w t (k+1))) s):w_ (n_ prog w) A (Sn S (slotAt w t k) k ep) Q E s:=by
 obtain⟨o,ho,hc,hd⟩:=hS;unfold Sn;refine a_ (M0 ho hd T.fits ?_);dsimp only;refine a_ (vk ?_);cases hb:byTx w with
 | true =>
  rw[if_pos rfl,bne_self_eq_false,if_neg v_];have z:∀k,slotAt w t k=0:=λk=>by unfold slotAt;rw[hb,if_pos rfl]
  rw[z];rw[z] at q;refine a_ ?_;unfold setWalk;refine a_ (M0 ho hd T.fits ?_);dsimp only;refine a_ (vk ?_);rw[hb,if_pos rfl];refine a_ (Pb (e_ (e_ ?_)));unfold walkOf at q;rw[hb,if_pos rfl] at q;exact q
 | false =>
  rw[if_neg v_];show w_ _ _ (if(!t.plain&&decide (es.size > 1))=true then _ else _) _ _ _;rw[T.pl,Bool.not_true,P0,if_neg v_];refine a_ ?_;show w_ _ _ (if(!t.led&&!es.isEmpty)=true then _ else _) _ _ _;rw[led,hb,Bool.not_false,Bool.not_true,P0,if_neg v_];refine e_ (e_ ?_);rw[BQ T hb hk];unfold walkOf at q;rw[hb,if_neg v_] at q;have sz:=T.sz;by_cases lt:k < es.size
  ·have lt':k < t.place.size:=by omega
   rw[u_ lt,u_ lt'];rw[u_ lt] at q;unfold slotAt at q;rw[hb,if_neg v_] at q;simp only[map_some,Sr,lt',dif_pos] at q;exact q
  ·rw[M7 (by omega)];rw[M7 (by omega)] at q;exact q
end
section
variable{prog:z_}{w:I_}{E:b_->d_->Prop}{s:d_}
theorem Am:Slot "set_iterator" "__iter__" "set_iterator.__iter__":=.of (owner:= "set_iterator") (n:= "__iter__") (by rw[Of,MZ];kernel_rfl) (by decide +kernel) (by decide +kernel) (by decide +kernel) (by first | exact .inl (by decide +kernel) | exact .inr (by decide +kernel)) (by rw[isSubtype_type];kernel_rfl)
theorem Ga:Sc table "set_iterator.__iter__"=some Me.«dict_keyiterator.__iter__»:=entryFor_alias (id':= "dict_keyiterator.__iter__") (by kernel_rfl) rfl (by decide +kernel) (by kernel_rfl)
theorem CS(a:b_):QV "set_iterator.__iter__" ⟨[a],[]⟩:=by
 unfold QV;rw[signature?_of (id:= "set_iterator.__iter__") (n:=['_','_','r','e','t','i','_','_']) (o:=['r','o','t','a','r','e','t','i','_','t','e','s']) (by kernel_rfl) zH]
 kernel_rfl
theorem SitAt.type{I:h_}{slot k:Nat}(h:SitAt s.heap I S slot k n ep):s.TypeIs (.ref I) "set_iterator":=by
 obtain⟨o,h1,h2,_⟩:=h;exact⟨o,h1,h2⟩
theorem SetIs.type{es:Array (Int×b_)}{t:LJ}(h:SetIs s.heap S es ep t):s.TypeIs (.ref S) "set":=by
 obtain⟨o,h1,h2,_⟩:=h;exact⟨o,h1,h2⟩
theorem DA{es:Array (Int×b_)}{t:LJ}(T:TabOk t es)(hS:SetIs s.heap S es ep t){Q:b_->d_->Prop}(q:Q (.ref s.heap.objs.size) { s with heap:=s.heap.push { cls:=.type "set_iterator", data:=.fields #[.int 0 0,.int 0 0,.ref S,.int es.size 0,.int ep 0] } }):w_ (n_ prog w) A (QH (.ref S)) Q E s:=by
 have hT:=hS.type;obtain⟨o,ho,hc,hd⟩:=hS;refine Rq hT F.slot_set_iter (K_ F.slot_set_iter hT Dz ?_ (F.args_set_iter_1 _));refine a_ (m:=slot0 "__iter__" ⟨[.ref S],[]⟩) (a_ (e_ (e_ ?_)));refine a_ (m:=Me.Frozenset.sizeOf S) (a_ (Oi ho hd T.fits (e_ ?_)));refine a_ (m:=setDrawn S) ?_;unfold setDrawn;refine a_ (M0 ho hd T.fits ?_);dsimp only;refine a_ (vk (e_ ?_));have z:(!byTx w&&(!t.plain&&decide (es.size > 1)))=false:=by rw[T.pl];simp
 show w_ _ _ (if(!byTx w&&(!t.plain&&decide (es.size > 1)))=true then _ else _) _ _ _;rw[z,if_neg v_];refine a_ (e_ (a_ ?_));unfold setEpoch;refine a_ (M0 ho hd T.fits (e_ ?_));exact a_ (KY (e_ ⟨_,rfl, "set_iterator", _,⟨_,t_ _ rfl,rfl⟩,rP.lookup,q⟩))
theorem Eb(hh:A.handled=none){Q:Option b_->d_->Prop}(q:∀h',(∀b o,s.heap.get? b=some o->h'.get? b=some o)->Q none { s with heap:=h' }):
  w_ (n_ prog w) A (newExc (.type "StopIteration") [] >>= λe=>(raiseNew e:Sem PySem.Fin)) (λ_ _=>False) (λe s'=>w_ (n_ prog w) A (isInstance e (.type "StopIteration")) (λb fz=>b=true/\Q none fz) (λ_ _=>False) s') s:=by
 refine a_ ?_;unfold newExc newTuple;refine a_ (KY (a_ (m:=P7 _ _) (LH (a:=b_.none) (by first | rfl | (simp only[P7];rfl)) (KY ?_ (by size_fits)))) (by size_fits));unfold raiseNew;refine a_ (wpAny_handled ?_);rw[hh];refine a_ (e_ (wpAny_throw ?_));refine M5 (T:= "StopIteration") (b:=true) ⟨_,t_ _ rfl,rfl⟩ OC ⟨rfl,q _ λb o x=>?_⟩;exact c_ _ (c_ _ x)
theorem Cg{I:h_}{es:Array (Int×b_)}{k:Nat}{t:LJ}(T:TabOk t es)(led:t.led=!byTx w)(hI:SitAt s.heap I S (slotAt w t k) k es.size ep)(hS:SetIs s.heap S es ep t)(hk:k < es.size){Q:Option b_->d_->Prop}(q:∀v h',(walkOf w S ep es)[k]?.map (·.2)=some v->SitAt h' I S (slotAt w t (k+1)) (k+1) es.size ep->KeptBut I s.heap h'->Q (some v) { s with heap:=h' }):w_ (n_ prog w) A (Mn (.ref I)) Q E s:=by
 have hT:=hI.type;obtain⟨o,ho,hc,hd⟩:=hI;obtain⟨oS,jS,nX,jT⟩:=id hS;unfold Mn;refine a_ (Mg (K8 (name:=Mu "__next__") hT rP (K_ rP hT xP ?_ (yE _))));refine a_ (m:=slotArgs "__next__" 0 ⟨[.ref I],[]⟩) (e_ ?_);refine a_ (wpAny_fieldsOf ho hd ?_);refine a_ (Oi jS jT T.fits ?_);rw[if_neg (by simp)];dsimp only;have lt:k < (walkOf w S ep es).size:=by rw[ue];exact hk
 refine a_ (m:=Sn S _ _ _) ?_;simp only[Nf];refine xk T led hS (Nv hk) ?_;rw[u_ lt,map_some];dsimp only;refine a_ (Ny ho hd (by simp) ?_);obtain⟨h1,e1⟩:∃h1,h1=s.heap.update I (Obj.mapFields (·.setIfInBounds 0 (Md ((slotAt w t (k+1):Nat):Int)))):=⟨_,rfl⟩;have jU:=KL (Obj.mapFields (·.setIfInBounds 0 (Md ((slotAt w t (k+1):Nat):Int)))) ho (NH (Nz hd _));have jV:=Nz hd (·.setIfInBounds 0 (Md ((slotAt w t (k+1):Nat):Int)));have k1:KeptBut I s.heap h1:=λb o ne x=>by rw[e1];exact(C_ _ _ (Kx ne)).trans x
 rw[←e1] at jU ⊢;refine a_ (Ny jU jV (by simp) (e_ ⟨_,rfl,e_ (q _ _ (by rw[u_ lt];rfl) ⟨_,KL _ jU (NH (Nz jV _)),?_,?_⟩ λb o ne x=>(C_ _ _ (Kx ne)).trans (k1 b o ne x))⟩))
 ·exact((OM ..).trans (OM ..)).trans hc
 ·rw[Nz jV];simp[Md]
theorem AZ(hh:A.handled=none){I:h_}{es:Array (Int×b_)}{t:LJ}(T:TabOk t es)(led:t.led=!byTx w)(hI:SitAt s.heap I S (slotAt w t es.size) es.size es.size ep)(hS:SetIs s.heap S es ep t){Q:Option b_->d_->Prop}(q:∀h',KeptBut I s.heap h'->Q none { s with heap:=h' }):w_ (n_ prog w) A (Mn (.ref I)) Q E s:=by
 have hT:=hI.type;obtain⟨o,ho,hc,hd⟩:=hI;obtain⟨oS,jS,nX,jT⟩:=id hS;unfold Mn;refine a_ (Mg (K8 (name:=Mu "__next__") hT rP (K_ rP hT xP ?_ (yE _))));refine a_ (m:=slotArgs "__next__" 0 ⟨[.ref I],[]⟩) (e_ ?_);refine a_ (wpAny_fieldsOf ho hd ?_);refine a_ (Oi jS jT T.fits ?_);rw[if_neg (by simp)];dsimp only;refine a_ (m:=Sn S _ _ _) ?_;simp only[Nf];refine xk T led hS (B_ _) ?_;rw[M7 (by rw[ue];exact B_ _),Option.map_none];dsimp only;refine a_ (Ny ho hd (by simp) ?_);refine Lk (Eb (A:=A.in1) (s:={ s with heap:=_ }) (Q:=Q) hh λh' keep=>q h' λb o ne x=>keep b o ((C_ _ _ (Kx ne)).trans x)) (λ_ _ x=>x.elim) λe s' h=>?_
 refine a_ (Lk (wpAny_of_in1 h) (λb fz hb=>?_) λ_ _ x=>x.elim);obtain⟨rfl,hq⟩:=hb;exact e_ hq
theorem EU(hh:A.handled=none){I:h_}(ne:S≠I){es:Array (Int×b_)}{t:LJ}(T:TabOk t es)(led:t.led=!byTx w):
  RS prog w A I [I,S] [I] es.size (λk v=>(walkOf w S ep es)[k]?.map (·.2)=some v) (λk h=>SitAt h I S (slotAt w t k) k es.size ep/\SetIs h S es ep t) where
 sub:=λb hb=>by
  rw[A_.mp hb];exact g_
 frame:=λk h h' st keep=>by
  obtain⟨⟨o,a1,a2⟩,⟨o',b1,b2⟩⟩:=st;exact⟨⟨o,keep I (by simp) o a1,a2⟩,⟨o',keep S (by simp) o' b1,b2⟩⟩
 item:=λk s Q E hk st q=>Cg T led st.1 st.2 hk λv h' e si kb=>by
  refine q v h' s.toks e ⟨si,?_⟩ λb o nb x=>kb b o (λz=>nb (by rw[z];simp)) x
  obtain⟨o',b1,b2⟩:=st.2;exact⟨o',kb S o' ne b1,b2⟩
 done:=λs Q E st q=>AZ hh T led st.1 st.2 λh' kb=>q h' s.toks λb o nb x=>kb b o (λz=>nb (by rw[z];simp)) x
 self:=λk s Q E st q=>by
  have hT:=st.1.type;exact Rq hT Am (K_ Am hT Ga (e_ ⟨_,rfl, "set_iterator", _,hT,rP.lookup,q⟩) (CS _))
end
section
variable{prog:z_}{w:I_}{E:b_->d_->Prop}{s:d_}
theorem G'{xs:Array b_}(h:ItemsOf (λk v=>xs[k]?=some v) ao xs.size):ao=xs:=by
 refine RC h.1 λi h1 h2=>?_
 have:=h.2 i ao[i] (u_ h1)
 change xs[i]?=some ao[i] at this
 rw[u_ h2] at this;exact Eq.symm (KH this)
theorem IL{Q:Bool->d_->Prop}(hT:s.TypeIs (.ref S) "set")(q:Q false s):w_ (n_ prog w) A (listLengthHint (.ref S)) Q E s:=by
 unfold listLengthHint;refine a_ (PQ hT F.slot_set_len.lookup ?_);have sp:splitId "set.__len__"=some ("set", "__len__"):=by decide +kernel
 dsimp only;rw[sp];dsimp only;refine a_ (M5 hT sub_set_self ?_);rw[if_neg (by decide)];exact a_ (Pp hT (e_ q))
theorem FM(hh:A.handled=none){es:Array (Int×b_)}{t:LJ}(T:TabOk t es)(led:t.led=!byTx w)(hS:SetIs s.heap S es ep t){Q:List b_->d_->Prop}(q:∀h' tk,(∀b o,s.heap.get? b=some o->h'.get? b=some o)->s.heap.objs.size<=h'.objs.size->Q ((walkOf w S ep es).toList.map (·.2)) { s with heap:=h',toks:=tk }):w_ (n_ prog w) A (RP (.ref S)) Q E s:=by
 have line:310<=x_:=by rw[Lb];decide
 have few:es.size<=300:=by have:=T.few;have:=T.sz;omega
 have gL:S < s.heap.objs.size:=by
  obtain⟨o,ho,_⟩:=hS;exact F_ ho
 unfold RP;refine a_ (wpAny_runValue (La F.entry_proto_collect ?_));rw[Lu F.plain_proto_collect _];refine a_ (m:=newList []) (KY (e_ ⟨KZ Rr _,La F.entry_list_iadd ?_⟩));rw[Lu Rr _];obtain⟨h1,e1⟩:∃h1,h1=s.heap.push { cls:=.type "list", data:=.seq ([]:List b_).toArray }:=⟨_,rfl⟩;have eZ:h1.objs.size=s.heap.objs.size+1:=by rw[e1,LY]
 have cN:∀b o,s.heap.get? b=some o->h1.get? b=some o:=λb o x=>by rw[e1];exact c_ _ x
 have dA:h1.get? s.heap.objs.size=some { cls:=.type "list", data:=.seq ([]:List b_).toArray }:=by rw[e1];exact t_ _ rfl
 rw[←e1]
 have fG:SetIs h1 S es ep t:=by
  obtain⟨o,ho,r⟩:=hS;exact⟨o,cN _ _ ho,r⟩
 have fv:s.heap.objs.size≠S:=Nb gL;show w_ _ A.in1 (Qe (.ref s.heap.objs.size) (.ref S) (.ref s.heap.objs.size)) _ _ { s with heap:=h1 };unfold Qe;refine a_ (Pp (s:={ s with heap:=h1 }) fG.type ?_);rw[if_neg (by simp[RJ,fv])];refine a_ (DA (s:={ s with heap:=h1 }) T fG ?_);obtain⟨I,eI⟩:∃I,I=h1.objs.size:=⟨_,rfl⟩;obtain⟨h2,e2⟩:∃h2,h2=h1.push { cls:=.type "set_iterator", data:=.fields #[.int 0 0,.int 0 0,.ref S,.int es.size 0,.int ep 0] }:=⟨_,rfl⟩;have gM:∀b o,h1.get? b=some o->h2.get? b=some o:=λb o x=>by rw[e2];exact c_ _ x
 have lD:SitAt h2 I S (slotAt w t 0) 0 es.size ep:=⟨_,by rw[e2,eI];exact t_ _ rfl,rfl,by unfold slotAt;split<;>rfl⟩
 have lE:SetIs h2 S es ep t:=by
  obtain⟨o,ho,r⟩:=fG;exact⟨o,gM _ _ ho,r⟩
 show w_ _ _ _ _ _ { s with heap:=h1.push _ };rw[←e2];rw[←eI];refine a_ (Kz (IL (s:={ s with heap:=h2 }) lE.type ?_));rw[if_pos (by decide +kernel)];refine a_ (LM (a_ (m:=listTouch (.ref s.heap.objs.size)) ?_));have dJ:=gM _ _ dA;refine a_ (m:=M9 s.heap.objs.size (·.push .none)) (K2 dJ rfl ?_ (by simp) (by simp));have ez:=KL (L4 (·.push b_.none)) dJ rfl;refine K2 ez rfl ?_ (by show(#[b_.none]:Array b_).size<=_;simp;omega) (by simp);have dL:=KL (L4 (·.pop)) ez rfl;obtain⟨h4,e4⟩:∃h4,h4=((h2.update s.heap.objs.size (L4 (·.push b_.none))).update s.heap.objs.size (L4 (·.pop))):=⟨_,rfl⟩;have dF:KeptBut s.heap.objs.size h2 h4:=λb o ne x=>by rw[e4];exact(C_ _ _ (Kx ne)).trans ((C_ _ _ (Kx ne)).trans x)
 rw[←e4] at dL;show w_ _ _ _ _ _ { s with heap:=KM.update (KM.update h2 _ _) _ _ };rw[←e4];have iw:s.heap.objs.size≠I:=by rw[eI,eZ];exact KI (NO _)
 have lF:S≠I:=by rw[eI,eZ];exact KI (MX gL)
 have W:=(EU (prog:=prog) (w:=w) (A:=A.in1) (ep:=ep) (by exact hh) lF T led).toS;refine e_ ⟨KZ MF _,codeAny_extend_loopS W (by omega) s.heap.objs.size (by simp[iw,fv]) _ es.size 0 _ _ _ rfl (K' _) ?_ dL (ItemsOf.nil _) λs' ao c mv aJ it=>?_⟩
 ·obtain⟨o,a1,a2⟩:=lD;obtain⟨o',b1,b2⟩:=lE;exact⟨⟨o,dF _ _ (Kx iw) a1,a2⟩,⟨o',dF _ _ (Kx fv) b1,b2⟩⟩
 ·obtain⟨h',g',d',bZ,fP⟩:=s';have eg:g'=s.gens:=mv.gens;have ed:d'=s.drawn:=mv.drawn;have eo:fP=s.os:=mv.os;subst eg;subst ed;subst eo;refine a_ (wpAny_load aJ (e_ ?_));have size:es.size=((walkOf w S ep es).map (·.2)).size:=by rw[Array.size_map,ue]
  have all:ao=(walkOf w S ep es).map (·.2):=G' (by
   rw[←size];refine⟨it.1,λj v hj=>?_⟩;have:=it.2 j v hj;show((walkOf w S ep es).map (·.2))[j]?=some v;rw[Array.getElem?_map]
   exact this)
  have lt':s.heap.objs.size < h'.objs.size:=F_ aJ;have:=q h' bZ (λb o x=>mv.heap b o (λhb=>?_) (dF b o (KI (F_ x)) (gM _ _ (cN _ _ x)))) (Nv lt')
  ·rw[all];simpa using this
  ·have lb:=F_ x
   rcases m_.mp hb with z | z
   ·exact KI lb z
   ·rw[A_.mp z,eI,eZ] at lb;exact absurd lb (So.mpr (Qp _))
end
section
variable{prog:z_}{w:I_}{E:b_->d_->Prop}{s:d_}
noncomputable def fresh0(w:I_):Obj:={ cls:=.type "set", dict:=none,data:=.set #[] 0 (.fresh 0 0 (!byTx w)) }
theorem Do(a:b_){Q:b_->d_->Prop}(q:Q (.ref s.heap.objs.size) { s with heap:=s.heap.push (fresh0 w) }):
  Ml (n_ prog w) A (.call (.builtin "set.__new__") ⟨[.type "set", a],[]⟩) (wants Q E) s:=by
 refine codeAny_of_tree (a_ (m:=Pc "set.__new__" ⟨[.type "set", a],[]⟩) (LH (PySem.F.newCall_set_1 a) (e_ ⟨KZ F.plain_set_new _,La F.entry_set_new ?_⟩)));rw[Lu F.plain_set_new _];unfold Me.«set.__new__» newClass;have gA:=sub_set_self;obtain⟨hp,g,d,tk,os⟩:=s;dsimp only
 wp_walk
 refine Pb (e_ (a_ (wpAny_alloc (e_ (e_ q)))))
theorem ES(w:I_):TabOk (.fresh 0 0 (!byTx w)) #[]:=by
 refine⟨rfl,λi j hi=>?_,rfl,λi hi=>?_,⟨K' _,.inr (.inr (.inr ⟨rfl,K' _⟩))⟩,rfl,λi hi=>?_⟩
 all_goals exact absurd hi (Qd _)
variable{H:Hp}
end
section
variable{H:Hp}{s:d_}
theorem u6{α:Type}:∀(l m:List α),l.Nodup->(∀x∈l,x∈m)->m.length<=l.length->l.Perm m
 | [],m,_,_,h=>by rw[LX.mp (Nat.le_zero.mp h)]
 | x::l,m,nd,h,len=>by
  obtain⟨a,b,rfl⟩:=OD (h x g_);rw[M1] at nd
  have p:=u6 l (a++b) nd.2 (λy hy=>by
   have:=h y (j_ _ hy)
   rcases Lg.mp this with z | z
   ·exact(MT _ z)
   ·rcases m_.mp z with z | z
    ·subst z;exact absurd hy nd.1
    ·exact KW _ z) (by simp at len ⊢;omega)
  exact(p.cons x).trans List.perm_middle.symm
end
end DL
namespace DL
open PySem PySem.W PySem.Spec PyProof.Rows L2
section
variable{B:BB}{a st:KQ}{es:List KQ}{p:Pos}{x:Str}{k:Nat}{g:List R->Option (R×List R)}{t:M (List D)}{ga gs:M D}
noncomputable def scal:D->Bool
 | .tup _=>false
 | .lst _=>false
 | .dct _=>false
 | _=>true
end
section
variable{B:BB}{a st:KQ}{p:Pos}{ga gs:M D}
theorem Vals.rev:∀{xs:List V}{us:List b_},Vals xs us->Vals xs.reverse us.reverse:=λ{xs us} h=>by
 refine sA (by simp[h.length]) λi x u e f=>?_
 have l:=h.length
 have hi:i < xs.length:=by
  rcases MW i xs.length with z | z
  ·exact z
  ·rw[LU (by simpa using z)] at e;cases e
 rw[PX hi] at e;rw[PX (by omega)] at f;obtain⟨u',e1,e2⟩:=h.get e;rw[l,f] at e1;cases e1;exact e2
end
end DL
namespace DL
open PySem
end DL
namespace DL
open PySem PySem.W PySem.Spec PyProof.Rows L2
section
variable{B:BB}{c:KQ}{st:L9}{ss sa sb body:List L9}{g h:M Fl}{tc:M Bool}{ga:M D}
@[irreducible] def SI(X:Cx)(B:BB)(st:L9)(g:M Fl):Prop:=SD X B st g
@[irreducible] def SIs(X:Cx)(B:BB)(ss:List L9)(g:M Fl):Prop:=SDs X B ss g
theorem pz(k:SD X B st g):SI X B st g:=by unfold SI;exact k
theorem pX(k:SIs X B ss g):SDs X B ss g:=by unfold SIs at k;exact k
theorem pU:SIs X B [] (ret .nx):=by unfold SIs;exact He
theorem pt(k:SI X B st g):SIs X B [st] g:=by unfold SI at k;unfold SIs;exact Fa k
theorem pp(k:SI X B st g)(t:SIs X B ss h):SIs X B (st::ss) (seqS g h):=by unfold SI at k;unfold SIs at t ⊢;exact Cn k t
theorem pR(hc:TD X B c tc)(ha:SIs X B sa g)(hb:SIs X B sb h):SI X B (.If c sa sb pos) (ifS tc g h):=by unfold SIs at ha hb;unfold SI;exact Ef hc ha hb
theorem qF(hp:PassesOwn (n_ X.prog X.w) X.A X.env X.xe)(hc:X.calm=true)(hi:ITD X B tg iter it)(hg:GD X B m tg aE)(hb:SIs X B body g)(hs:∀x,L8 iter X.env x=pure x:=by intros;rfl):SI X B (.For tg iter body [] pos) (forS it aE g):=by unfold SIs at hb;unfold SI;exact G9 hp hc hi hg hb hs
theorem pE{i:Nat}{x:Str}(hN:X.N.Nodup)(he:ED X B e ga)(hi:X.N[i]?=some x:=by rfl)(hx:locB X.env.scope x=true:=by rfl)(hs:Mo e (some (.Name x aA)) pos.line X.env=pure false:=by rfl)(hf:fnB X x=true:=by rfl):SI X B (.Assign [.Name x aA] e pos) (setV i ga):=by unfold SI;exact CA hN he hi hx hs hf
end
noncomputable def valD:List (Int×D)->Int->Option D
 | [],_=>none
 | p::r,k=>if p.1=k then some p.2 else valD r k
section
variable{K:PySem.W.Frag}
theorem IsK.nil:IsK K I [] []:=⟨rfl,IsA.nil⟩
theorem IsK.cons_inv{p:Int×D}{aj:List (Int×D)}{xs:List (Key×V)}(h:IsK K I (p::aj) xs):∃v r,xs=(KU p.1,v)::r/\Is K I p.2 v/\IsK K I aj r:=by
 obtain⟨h1,h2⟩:=h;cases xs with
 | nil=>simp at h1
 | cons x r =>
  obtain⟨a,v⟩:=x;simp only[KB,List.cons.injEq] at h1;obtain⟨rfl,h1⟩:=h1;rw[KB,KB] at h2;obtain⟨y,r',e,g1,g2⟩:=h2.cons_inv;cases e;exact⟨v,r,rfl,g1,h1,g2⟩
theorem IsK.nil_inv{xs:List (Key×V)}(h:IsK K I [] xs):xs=[]:=by
 have:=h.1;simpa using this
theorem IsK.val{k:Int}:∀{aj:List (Int×D)}{xs:List (Key×V)},IsK K I aj xs->(∃d v,valD aj k=some d/\valV xs (KU k)=some v/\Is K I d v)\/(valD aj k=none/\valV xs (KU k)=none)
 | [],xs,h=>by rw[h.nil_inv];exact .inr ⟨rfl,rfl⟩
 | p::aj,xs,h=>by
  obtain⟨v,r,rfl,h1,h2⟩:=h.cons_inv;by_cases e:p.1=k
  ·refine .inl ⟨p.2,v,by rw[valD,if_pos e],?_,h1⟩;exact uH (by show KU p.1=KU k;rw[e])
  ·have e':¬((KU p.1:Key)=KU k):=λz=>e (KU.inj z)
   rw[valD,if_neg e,ut e'];exact IsK.val h2
theorem IsK.snoc{k:Int}{v:V}:∀{aj:List (Int×D)}{xs:List (Key×V)},IsK K I aj xs->Is K I d v->IsK K I (aj++[(k,d)]) (xs++[(KU k,v)])
 | aj,xs,h,hd=>by
  refine⟨by simp[h.1],?_⟩;rw[MD,MD];exact IsA.append h.2 (IsA.cons hd IsA.nil)
theorem IsK.len{aj:List (Int×D)}{xs:List (Key×V)}(h:IsK K I aj xs):xs.length=aj.length:=by
 have:=congrArg length h.1;simpa using this
end
section
variable{K:PySem.W.Frag}{B:BB}{H:Hp}
theorem Rep.writeK(r:Rep K B G I H U Γ){i:Nat}{aj gN:List (Int×D)}{p:h_}{ys:List (Key×V)}(hq:Γ[i]?=some (some (.dic aj)))(hs:U[i]?=some (some (.ref p)))(hd:IsK K I gN ys):
  Rep K B G I (upd H p (.dK ys)) U (Γ.set i (some (.dic gN))):=by
 obtain⟨v,e1,e2⟩:=r.slot i _ hq;obtain⟨p',bg,h1,h2,h3,h4,_⟩:=e2;have hp:p'=p:=by rw[hs] at e1;subst h1;cases e1;rfl
 subst hp;have cf:∀(j:Nat) (r':R),j≠i->Γ[j]?=some (some r')->r'.ptr=true->U[j]?≠some (some (.ref p')):=λj r' n z m s=>n (r.dist j i r' _ _ z hq m rfl s hs)
 have sI:Same I (upd H p' (.dK ys)):=λb u z=>by
  have ne:b≠p':=λe=>by subst e;rw[h3] at z;cases z
  rw[po ne];exact r.iH b u z
 have sG:Same G (upd H p' (.dK ys)):=λb u z=>by
  have ne:b≠p':=λe=>by subst e;rw[h4] at z;cases z
  rw[po ne];exact r.gH b u z
 have r1:Rep K B G I (upd H p' (.dK ys)) U (Γ.set i none):={
  iH:=sI,gH:=sG,len:=by rw[MA];exact r.len
  slot:=λj q1 e=>by
   rcases pI e with⟨_,z,_⟩ | ⟨n,z⟩
   ·cases z
   obtain⟨w,e3,e4⟩:=r.slot j q1 z;refine⟨w,e3,?_⟩
   have mt:q1.ptr=true->∀ds,Mt K G I H ds w->Mt K G I (upd H p' (.dK ys)) ds w:=λm ds hh=>by
    obtain⟨p2,eJ,g1,g2,g3,g4,g5⟩:=hh;refine⟨p2,eJ,g1,?_,g3,g4,g5⟩;have ne:p2≠p':=λz2=>cf j q1 n z m (by rw[e3,g1,z2])
    rw[po ne];exact g2
   cases q1 with
   | val d=>exact e4
   | dic ds =>
    obtain⟨p2,eJ,g1,g2,g3,g4,g5⟩:=e4;refine⟨p2,eJ,g1,?_,g3,g4,g5⟩;have ne:p2≠p':=λz2=>cf j _ n z rfl (by rw[e3,g1,z2])
    rw[po ne];exact g2
   | own ds=>exact mt rfl ds e4
   | bor ds=>exact mt rfl ds e4
   | fro ds=>exact e4
   | tfr ds=>exact e4
  dist:=(r.forget i).dist
  bor:=(r.forget i).bor }
 have r2:=r1.learn (i:=i) (q:=.dic gN) (v:=.ref p') hs ⟨p',ys,rfl,pA,h3,h4,hd⟩ (λm p2 e j r' n z m' s=>by
  cases e
  rcases pI z with⟨_,z',_⟩ | ⟨_,z'⟩
  ·cases z'
  ·exact cf j r' n z' m' s) (λds z=>nomatch z)
 rw[RO] at r2;exact r2
end
section
variable (K:PySem.W.Frag)(B:BB)
def KK(G I:Hp)(U:L2.St)(ah:Gm)(aj:List (Int×D))(Q:VK):Prop:=∀p xs H' I',Rep K B G I' H' U ah->Grow G I I'->H' p=some (.dK xs)->I' p=none->G p=none->Apart U ah p->IsK K I' aj xs->Q (.ref p) H'
noncomputable def tK(g:M (List (Int×D))):TE:=λU H Q=>∃G I Γ aj ah,Rep K B G I H U Γ/\g Γ=some (aj,ah)/\KK K B G I U ah aj Q
end
def EK(X:Cx)(B:BB)(e:KQ)(g:M (List (Int×D))):Prop:=PE X e (tK X.K B g)
section
variable{B:BB}{k v:KQ}{es:List KQ}{p:Pos}{g:M (List (Int×D))}
noncomputable def setK(i:Nat)(g:M (List (Int×D))):M Fl:=bnd g λd=>bnd (putS i (.dic d)) λ_=>ret .nx
theorem IV{K:PySem.W.Frag}{i:Nat}:∀E U H,tS K B (setK i g) E U H->tAsg (tK K B g) (gName i) E U H:=λE U H q=>by
 obtain⟨G,I,Γ,f,ah,r,e1,k⟩:=q;obtain⟨d1,ae,e2,e3⟩:=oK e1;obtain⟨d2,aq,e4,e5⟩:=oK e3;cases e5;obtain⟨hl,rfl⟩:=sw e4;exact⟨G,I,Γ,d1,ae,r,e2,λp xs H1 I1 r1 g1 h1 h2 h3 h4 h5=>k _ H1 _ (r1.store (by rw[r1.len];exact hl) ⟨p,xs,rfl,h1,h2,h3,h5⟩ (λ_ p' z=>by cases z;exact h4) (λ_ z=>nomatch z)) g1⟩
theorem Hn{i:Nat}{x:Str}(hN:X.N.Nodup)(he:EK X B e g)(hi:X.N[i]?=some x:=by rfl)(hx:locB X.env.scope x=true:=by rfl)(hs:Mo e (some (.Name x aA)) pos.line X.env=pure false:=by rfl)(hf:fnB X x=true:=by rfl):SD X B (.Assign [.Name x aA] e pos) (setK i g):=PS.imp (v5 hN hi (locI hx) he hs (fnI hf)) IV
noncomputable def tookK(i:Nat):M (List (Int×D)):=λΓ=>match Γ[i]? with
 | some (some (.dic aj))=>some (aj,Γ.set i none)
 | _=>none
theorem HP{i:Nat}{aj:List (Int×D)}(h:tookK i Γ=some (aj,ah)):ah=Γ.set i none/\Γ[i]?=some (some (.dic aj)):=by
 unfold tookK at h;split at h
 ·rename_i e;cases h;exact⟨rfl,e⟩
 ·cases h
noncomputable def retK(i:Nat):M Fl:=bnd (tookK i) λd=>ret (.rt (.dic d))
theorem FB{i:Nat}(he:PE X (.Name y p) (tVar i)):SD X B (.Return (some (.Name y p)) pos) (retK i):=PS.imp (sE he) λE U H q=>by
 obtain⟨G,I,Γ,f,ah,r,e1,k⟩:=q;obtain⟨d1,ae,e2,e3⟩:=oK e1;cases e3;obtain⟨rfl,aI⟩:=HP e2;obtain⟨v,h1,h2⟩:=r.slot i _ aI;obtain⟨p',bg,g1,g2,g3,g4,g5⟩:=h2;refine⟨v,h1,k U H I (r.forget i) (Grow.refl _ _) v ⟨p',bg,g1,g2,g3,g4,λj q z m s=>?_,g5⟩⟩
 rcases pI z with⟨_,z',_⟩ | ⟨n,z'⟩
 ·cases z'
 ·exact n (r.dist j i q _ _ z' aI m rfl s (by rw[h1,g1]))
noncomputable def lookK(i:Nat):M (List (Int×D)):=λΓ=>match Γ[i]? with
 | some (some (.dic aj))=>some (aj,Γ)
 | _=>none
theorem F4{K:PySem.W.Frag}{H:Hp}{i:Nat}{aj:List (Int×D)}(h:lookK i Γ=some (aj,ah))(r:Rep K B G I H U Γ):ah=Γ/\Γ[i]?=some (some (.dic aj))/\∃p xs,U[i]?=some (some (.ref p))/\H p=some (.dK xs)/\IsK K I aj xs:=by
 unfold lookK at h;split at h
 ·rename_i e;cases h;obtain⟨v,h1,p,xs,rfl,g1,_,_,g4⟩:=r.slot i _ e;exact⟨rfl,e,p,xs,h1,g1,g4⟩
 ·cases h
end
section
variable{B:BB}{k v f':KQ}{es:List KQ}{p:Pos}{g:M (List (Int×D))}{gx:M D}{kr:Nat}
noncomputable def wrK(i:Nat)(F:List (Int×D)->Option (List (Int×D))):M Fl:=λΓ=>match Γ[i]? with
 | some (some (.dic aj))=>match F aj with
  | some es=>some (.nx,Γ.set i (some (.dic es)))
  | none=>none
 | _=>none
theorem Cq{i:Nat}{F:List (Int×D)->Option (List (Int×D))}{f:Fl}(h:wrK i F Γ=some (f,ah)):f=.nx/\∃aj es,Γ[i]?=some (some (.dic aj))/\F aj=some es/\ah=Γ.set i (some (.dic es)):=by
 unfold wrK at h;split at h
 ·rename_i aj e;split at h
  ·rename_i es e2;cases h;exact⟨rfl,aj,es,e,e2,rfl⟩
  ·cases h
 ·cases h
noncomputable def ckF(h:List R->Option (R×List R))(ds:List D):Option (List (Int×D)):=match h (ds.map .val) with
 | some (.dic d,_)=>some d
 | _=>none
theorem t_ck{K:PySem.W.Frag}{E:XK}{h:List R->Option (R×List R)}{t:M (List D)}:∀U H Q,tK K B (fn1 (ckF h) t) U H Q->tCall (spD K h) [] E (tAD K B t) U H Q:=λU H Q q=>by
 obtain⟨G,I,Γ,d,ah,r,e1,kk⟩:=q;obtain⟨ds,ae,e2,e3⟩:=oK e1;obtain⟨e4,rfl⟩:=pD e3;refine⟨G,I,Γ,ds,_,r,e2,λvs H1 I1 r1 g1 h1=>?_⟩;show spD K h (vs++[]) H1 Q E;rw[LD];unfold ckF at e4;cases e5:h (ds.map .val) with
 | none=>rw[e5] at e4;cases e4
 | some q =>
  obtain⟨rr,a8⟩:=q;rw[e5] at e4;cases rr with
  | dic d' =>
   cases e4;refine⟨H1,I1,ds.map .val,.dic d,a8,rp r1 h1,qW ds,e5,λv H' I' r' g' hv=>?_⟩;obtain⟨r2,g2⟩:=tE r1 r' g';obtain⟨q,xs,rfl,b2,b3,b4,b5,b6⟩:=hv;exact kk q xs H' I' r2 (g1.trans g2) b2 b3 (r1.gFree b4) (r1.apart b4) b6
  | val _=>cases e4
  | own _=>cases e4
  | bor _=>cases e4
  | fro _=>cases e4
  | tfr _=>cases e4
theorem vI{x:Str}{h:List R->Option (R×List R)}{t:M (List D)}(F:FnOk X.prog X.w X.K X.mg X.base CX0 kn f fd ps (spD X.K h))(hr:Room kn X.A)(hg:Gl X x)(hm:X.mg x=some (.ref f))(hk:Oa X.K (.ref f)=true)(hb:Binds X.K fd ps [])(ha:AD X B (e::es) t)(bA:(x == ("__debug__":Str))=false:=by decide)(he:f_ (e::es) X.env=(false,KR e X.env)::f_ es X.env:=by rfl)(aC:(K0 pos (f_ es X.env)).any (·.1)=false:=by rfl):
  EK X B (.Call (.Name x p) (e::es) [] pos) (fn1 (ckF h) t):=PE.imp (rY F hr hg hm hk hb .nil pass0 ha bA he aC) t_ck
end
end DL
namespace DL
open PySem PySem.W PySem.Spec PyProof.Rows L2
open PySem.SeqAt
open PySem.AutoSeq1 (wpAny_loadPart')
open PySem.MeetsSeq PySem.MeetsSeq2 PySem.MeetsSeq3
end DL
namespace DL
open PySem PySem.W PySem.Spec PyProof.Rows L2
end DL
namespace DL
open PySem PySem.W PySem.Spec PyProof.Rows L2
open PySem.SeqAt
open PySem.AutoSeq1 (wpAny_loadPart')
open PySem.MeetsSeq PySem.MeetsSeq2 PySem.MeetsSeq3
noncomputable def isStar:KQ->Bool
 | .Starred ..=>true
 | _=>false
theorem Hf{ax:List KQ}(h:isStar e=false):f_ (e::ax) env=(false,KR e env)::f_ ax env:=by
 cases e<;>first | rfl | (simp[isStar] at h)
theorem gV{B:BB}{es:List KQ}{g:M D}{t:M (List D)}(ha:ED X B e g)(hr:AD X B es t)(h:isStar e=false):AD X B (e::es) (consA g t):=EH ha hr (Hf h)
end DL
namespace DL
open PySem PySem.Spec PyProof.Rows L2
section
variable{B:BB}
theorem uV{e1 e2 e3 e4:KQ}{es:List KQ}{g1 g2 g3 g4:M D}{t:M (List D)}(h1:ED X B e1 g1)(h2:ED X B e2 g2)(h3:ED X B e3 g3)(h4:ED X B e4 g4)(hr:AD X B es t)(s1:isStar e1=false)(s2:isStar e2=false)(s3:isStar e3=false)(s4:isStar e4=false):AD X B (e1::e2::e3::e4::es) (consA g1 (consA g2 (consA g3 (consA g4 t)))):=
 gV h1 (gV h2 (gV h3 (gV h4 hr s4) s3) s2) s1
end
end DL
namespace DL
open PySem PySem.W PySem.Spec PyProof.Rows L2 PySem.SetTable
section
variable{B:BB}{kr:Nat}
theorem sW:∀{ns:List Int}{af:List b_},Vals (ns.map V.int) af->LZ af ns
 | [],af,h=>by cases h;exact .nil
 | n::ns,af,h=>by
  cases h with
  | cons h1 h2=>obtain⟨t,rfl⟩:=h1;exact .cons _ _ (sW h2)
noncomputable def intsD:List D->Option (List Int)
 | []=>some []
 | .int i::ds=>match intsD ds with
  | some ns=>some (i::ns)
  | none=>none
 | _=>none
theorem tV:∀{ds:List D}{ns:List Int},intsD ds=some ns->ds=ns.map D.int
 | [],ns,h=>by cases h;rfl
 | d::ds,ns,h=>by
  cases d<;>try cases h
  rename_i i;rw[intsD] at h;cases e:intsD ds with
  | none=>rw[e] at h;cases h
  | some ms=>rw[e] at h;cases h;rw[KB,←tV e]
theorem tF:∀(ns:List Int),intsD (ns.map D.int)=some ns
 | []=>rfl
 | n::ns=>by rw[KB,intsD,tF ns]
theorem uw{K:PySem.W.Frag}{I:Hp}:∀{ns:List Int}{zs:List V},IsA K I (ns.map D.int) zs->zs=ns.map V.int
 | [],zs,h=>h.nil_inv
 | n::ns,zs,h=>by
  obtain⟨x,r,rfl,h1,h2⟩:=IsA.cons_inv h;rw[uw h2,pq h1];rfl
variable {a b c c':KQ}{ga gb gc gd:M D}
end
end DL
namespace TS
open PySem PyProof.Rows
noncomputable def gallop':Bool->o_->Array o_->Nat->Nat->Nat->StateT H_ Sem (Option Nat):=sortPriv% PySem.Builtin.gallop
noncomputable def mergeLo':Array o_->Array o_->StateT H_ Sem (Array o_):=sortPriv% PySem.Builtin.mergeLo
noncomputable def mergeHi':Array o_->Array o_->StateT H_ Sem (Array o_):=sortPriv% PySem.Builtin.mergeHi
noncomputable abbrev setGal(st:H_)(g:Nat):H_:=mk' (kindOf st) (p_ st) (r_ st) g (NY st)
abbrev G3:=Option (Option Nat)×Nat×Nat
noncomputable def past(l:Bool)(key:o_)(xs:Array o_)(b i:Nat):StateT H_ Sem (Option Bool):=do
 let p ←Nh xs (b+i)
 if l then lt' p key else do
  let r ←lt' key p
  pure (r.map (!·))
noncomputable def goR(l:Bool)(key:o_)(xs:Array o_)(b n h:Nat)(_:Nat)(c:G3):StateT H_ Sem (ForInStep G3):=
 if c.2.2>=n - h then pure (.done (none,c.2.1,c.2.2)) else do
  match ←past l key xs b (h+c.2.2) with
  | some q=>if(!q)=true then pure (.done (none,c.2.1,c.2.2)) else pure (.yield (none,c.2.2,2*c.2.2+1))
  | _=>pure (.done (some none,c.2.1,c.2.2))
noncomputable def goL(l:Bool)(key:o_)(xs:Array o_)(b h:Nat)(_:Nat)(c:G3):StateT H_ Sem (ForInStep G3):=
 if c.2.2>=h+1 then pure (.done (none,c.2.1,c.2.2)) else do
  match ←past l key xs b (h - c.2.2) with
  | some q=>if q=true then pure (.done (none,c.2.1,c.2.2)) else pure (.yield (none,c.2.2,2*c.2.2+1))
  | _=>pure (.done (some none,c.2.1,c.2.2))
noncomputable def goM(l:Bool)(key:o_)(xs:Array o_)(b:Nat)(_:Nat)(c:G3):StateT H_ Sem (ForInStep G3):=
 if c.2.1>=c.2.2 then pure (.done (none,c.2.1,c.2.2)) else do
  match ←past l key xs b (c.2.1+(c.2.2 - c.2.1) / 2) with
  | some q=>if q=true then pure (.yield (none,c.2.1+(c.2.2 - c.2.1) / 2+1,c.2.2)) else pure (.yield (none,c.2.1,c.2.1+(c.2.2 - c.2.1) / 2))
  | _=>pure (.done (some none,c.2.1,c.2.2))
noncomputable def goF(l:Bool)(key:o_)(xs:Array o_)(b n u v:Nat):StateT H_ Sem (Option Nat):=do
 let c ←forIn [0:n] ((none,u,v):G3) (goM l key xs b)
 match c.1 with
 | some r=>pure r
 | none=>pure (some c.2.2)
theorem GO(l:Bool)(key:o_)(xs:Array o_)(b n h:Nat):gallop' l key xs b n h=(do
 match ←past l key xs b h with
 | some q =>
  if q then do
   let c ←forIn [0:n] ((none,0,1):G3) (goR l key xs b n h)
   match c.1 with
   | some r=>pure r
   | none=>goF l key xs b n (h+c.2.1+1) (h+min c.2.2 (n - h))
  else do
   let c ←forIn [0:n] ((none,0,1):G3) (goL l key xs b h)
   match c.1 with
   | some r=>pure r
   | none=>goF l key xs b n (h+1 - min c.2.2 (h+1)) (h - c.2.1)
 | _=>pure none):=by kernel_rfl
def IsI(x:o_):Prop:=∃n t,x.1=.int n t
noncomputable def kN(x:o_):Int:=numOf x.1
section
variable{prog:z_}{w:I_}{E:b_->d_->Prop}{s:d_}{st:H_}
theorem sj{x y:o_}{Q:Option Bool->H_->Prop}(hk:kindOf st=LO)(hx:IsI x)(hy:IsI y)(h:Q (some (decide (kN x < kN y))) st):wpS (n_ prog w) A E s (lt' x y) Q st:=by
 obtain⟨a,t,ha⟩:=hx;obtain⟨b,u,hb⟩:=hy;rw[lt'_eq];refine k_ (Op ?_);rw[hk,keyLt'_oneType];unfold kN at h;rw[ha,hb] at h ⊢;exact k_ (Pe (Mg (oneLt_int ⟨rfl,s_ h⟩)))
theorem pM{i:Nat}{x:o_}{Q:o_->H_->Prop}(h:aV[i]?=some x)(q:Q x st):wpS (n_ prog w) A E s (Nh aV i) Q st:=by
 rw[elem'_eq,h];exact s_ q
def AllI(xs:Array o_):Prop:=∀(i:Nat) (x:o_),xs[i]?=some x->IsI x
theorem rM{xs:Array o_}{i:Nat}{x:o_}(h:xs[i]?=some x):K xs i=kN x:=by unfold K kN;rw[h]
theorem pO{xs:Array o_}{i:Nat}(h:i < xs.size):∃x,xs[i]?=some x/\K xs i=kN x:=⟨xs[i],getElem?_pos xs i h,rM (getElem?_pos xs i h)⟩
noncomputable def Bey(left:Bool)(key:o_)(aV:Array o_)(base i:Nat):Bool:=if left then decide (K aV (base+i) < kN key) else !decide (kN key < K aV (base+i))
theorem Fo{key:o_}{base i:Nat}{Q:Option Bool->H_->Prop}(hk:kindOf st=LO)(ha:AllI aV)(hx:IsI key)(hi:base+i < aV.size)(h:Q (some (Bey left key aV base i)) st):wpS (n_ prog w) A E s (past left key aV base i) Q st:=by
 obtain⟨x,e,ek⟩:=pO hi;unfold past;refine k_ (pM e ?_);unfold Bey at h;rw[ek] at h;cases left with
 | true=>exact sj hk (ha _ _ e) hx h
 | false=>exact k_ (sj hk hx (ha _ _ e) (s_ h))
section
variable{key:o_}{base:Nat}{P:Nat->Bool}(bo:∀{i:Nat}{Q:Option Bool->H_->Prop},i < n->Q (some (P i)) st->wpS (n_ prog w) A E s (past left key aV base i) Q st)(mono:∀i j,i<=j->j < n->P j=true->P i=true)
include bo mono
theorem zB{lo hi:Nat}{Q:Option Nat->H_->Prop}(h1:lo<=hi)(h2:hi<=n)(h3:∀i,i < lo->P i=true)(h4:∀i,hi<=i->i < n->P i=false)(h:∀k,k<=n->(∀i,i < k->P i=true)->(∀i,k<=i->i < n->P i=false)->Q (some k) st):wpS (n_ prog w) A E s (goF left key aV base n lo hi) Q st:=by
 unfold goF
 refine k_ (Lr (Ll (I:=λx c ag=>ag=st/\∃lo hi,c=(none,lo,hi)/\lo<=hi/\hi<=n/\hi - lo<=n - x/\(∀i,i < lo->P i=true)/\∀i,hi<=i->i < n->P i=false)
  (Q:=λc ag=>ag=st/\∃lo hi,c=(none,lo,hi)/\hi<=n/\(∀i,i < hi->P i=true)/\∀i,hi<=i->i < n->P i=false) ?_ ?_ ⟨rfl,lo,hi,rfl,h1,h2,by omega,h3,h4⟩) ?_)
 ·rintro x c ag - hx ⟨rfl,lo,hi,rfl,h1,h2,h5,h3,h4⟩;unfold goM;dsimp only;by_cases ge:lo>=hi
  ·rw[if_pos ge];have:lo=hi:=by omega
   subst this;exact s_ ⟨rfl,lo,lo,rfl,h2,h3,h4⟩
  ·rw[if_neg ge];refine k_ (bo (by omega) ?_);dsimp only;cases e:P (lo+(hi - lo) / 2) with
   | true =>
    rw[if_pos rfl];exact s_ ⟨rfl,_,_,rfl,by omega,h2,by omega,λi bY=>mono i _ (by omega) (by omega) e,h4⟩
   | false =>
    rw[if_neg v_];refine s_ ⟨rfl,_,_,rfl,by omega,by omega,by omega,h3,λi h6 h7=>?_⟩;cases e2:P i with
    | false=>rfl
    | true=>rw[mono _ i h6 h7 e2] at e;cases e
 ·rintro c ag ⟨rfl,lo,hi,rfl,h1,h2,h5,h3,h4⟩;have:lo=hi:=by omega
  subst this;exact⟨rfl,lo,lo,rfl,h2,h3,h4⟩
 ·rintro c ag ⟨rfl,lo,hi,rfl,h2,h3,h4⟩;exact s_ (h hi h2 h3 h4)
end
theorem rQ{key:o_}{base aZ:Nat}{Q:Option Nat->H_->Prop}(hk:kindOf st=LO)(ha:AllI aV)(hx:IsI key)(hn:base+n<=aV.size)(hh:aZ < n)(mono:∀i j,i<=j->j < n->Bey left key aV base j=true->Bey left key aV base i=true)(h:∀k,k<=n->(∀i,i < k->Bey left key aV base i=true)->(∀i,k<=i->i < n->Bey left key aV base i=false)->Q (some k) st):wpS (n_ prog w) A E s (gallop' left key aV base n aZ) Q st:=by
 obtain⟨P,hP⟩:∃P,P=Bey left key aV base:=⟨_,rfl⟩;have bo:∀{i:Nat}{Q:Option Bool->H_->Prop},i < n->Q (some (P i)) st->wpS (n_ prog w) A E s (past left key aV base i) Q st:=λ{i Q} hi q=>Fo hk ha hx (by omega) (by rw[←hP];exact q)
 rw[←hP] at mono h;clear hP hn;rw[GO];refine k_ (bo hh ?_);dsimp only;cases eh:P aZ with
 | true =>
  rw[if_pos rfl]
  refine k_ (Lr (Ll (I:=λx c ag=>ag=st/\∃last a9,c=(none,last,a9)/\last < a9/\x < a9/\last < n - aZ/\P (aZ+last)=true)
   (Q:=λc ag=>ag=st/\∃last a9,c=(none,last,a9)/\last < a9/\last < n - aZ/\P (aZ+last)=true/\(a9>=n - aZ\/(a9 < n - aZ/\P (aZ+a9)=false))) ?_ ?_ ⟨rfl,0,1,rfl,by omega,by omega,by omega,eh⟩) ?_)
  ·rintro x c ag - hx ⟨rfl,last,a9,rfl,h1,h2,h3,h4⟩;unfold goR;dsimp only;by_cases ge:a9>=n - aZ
   ·rw[if_pos ge];exact s_ ⟨rfl,_,_,rfl,h1,h3,h4,.inl ge⟩
   ·rw[if_neg ge];refine k_ (bo (by omega) ?_);dsimp only;cases e:P (aZ+a9) with
    | true =>
     rw[if_neg (by decide)];exact s_ ⟨rfl,_,_,rfl,by omega,by omega,by omega,e⟩
    | false =>
     rw[if_pos (by decide)];exact s_ ⟨rfl,_,_,rfl,h1,h3,h4,.inr ⟨by omega,e⟩⟩
  ·rintro c ag ⟨rfl,last,a9,rfl,h1,h2,h3,h4⟩;exact⟨rfl,last,a9,rfl,h1,h3,h4,.inl (by omega)⟩
  ·rintro c ag ⟨rfl,last,a9,rfl,h1,h3,h4,h5⟩;dsimp only;refine zB bo mono (by omega) (by omega) (λi hi=>mono i _ (by omega) (by omega) h4) (λi h6 h7=>?_) h
   rcases h5 with h5 | ⟨h5,h8⟩
   ·omega
   ·cases e2:P i with
    | false=>rfl
    | true=>rw[mono _ i (by omega) h7 e2] at h8;cases h8
 | false =>
  rw[if_neg v_]
  refine k_ (Lr (Ll (I:=λx c ag=>ag=st/\∃last a9,c=(none,last,a9)/\last < a9/\x < a9/\last < aZ+1/\P (aZ - last)=false)
   (Q:=λc ag=>ag=st/\∃last a9,c=(none,last,a9)/\last < a9/\last < aZ+1/\P (aZ - last)=false/\(a9>=aZ+1\/(a9 < aZ+1/\P (aZ - a9)=true))) ?_ ?_ ⟨rfl,0,1,rfl,by omega,by omega,by omega,eh⟩) ?_)
  ·rintro x c ag - hx ⟨rfl,last,a9,rfl,h1,h2,h3,h4⟩;unfold goL;dsimp only;by_cases ge:a9>=aZ+1
   ·rw[if_pos ge];exact s_ ⟨rfl,_,_,rfl,h1,h3,h4,.inl ge⟩
   ·rw[if_neg ge];refine k_ (bo (by omega) ?_);dsimp only;cases e:P (aZ - a9) with
    | true =>
     rw[if_pos rfl];exact s_ ⟨rfl,_,_,rfl,h1,h3,h4,.inr ⟨by omega,e⟩⟩
    | false =>
     rw[if_neg v_];exact s_ ⟨rfl,_,_,rfl,by omega,by omega,by omega,e⟩
  ·rintro c ag ⟨rfl,last,a9,rfl,h1,h2,h3,h4⟩;exact⟨rfl,last,a9,rfl,h1,h3,h4,.inl (by omega)⟩
  ·rintro c ag ⟨rfl,last,a9,rfl,h1,h3,h4,h5⟩;dsimp only;refine zB bo mono (by omega) (by omega) (λi hi=>?_) (λi h6 h7=>?_) h
   ·rcases h5 with h5 | ⟨h5,h8⟩
    ·omega
    ·exact mono i _ (by omega) (by omega) h8
   ·cases e2:P i with
    | false=>rfl
    | true=>rw[mono _ i (by omega) h7 e2] at h4;cases h4
end
noncomputable def setG(g:Nat):StateT H_ Sem Unit:=modify λst=>setGal st g
abbrev C1:=Option (Array o_)×Array o_×Nat×Nat×Nat×Nat
abbrev C2:=Option (Array o_)×Array o_×Nat×Nat×Nat×Nat×Nat
abbrev C0:=Option (Array o_)×Array o_×Nat×Nat×Nat
noncomputable def dnA(a b ak:Array o_)(ia ib:Nat):Array o_:=ak++a.extract ia a.size++b.extract ib b.size
noncomputable def lsA(a b ak:Array o_)(ia ib:Nat):Array o_:=ak++b.extract ib b.size++a.extract ia a.size
noncomputable def one1(a b:Array o_)(mg:Nat)(_:Nat)(c:C1):StateT H_ Sem (ForInStep C1):=do
 let y ←Nh b c.2.2.2.1
 let x ←Nh a c.2.2.1
 match ←lt' y x with
 | some bWins =>
  if bWins then do
   let y ←Nh b c.2.2.2.1
   if(c.2.2.2.1+1 == b.size)=true then pure (.done (some (dnA a b (c.2.1.push y) c.2.2.1 (c.2.2.2.1+1)),c.2.1.push y,c.2.2.1,c.2.2.2.1+1,0,c.2.2.2.2.2+1))
   else if c.2.2.2.2.2+1>=mg then pure (.done (none,c.2.1.push y,c.2.2.1,c.2.2.2.1+1,0,c.2.2.2.2.2+1))
   else pure (.yield (none,c.2.1.push y,c.2.2.1,c.2.2.2.1+1,0,c.2.2.2.2.2+1))
  else do
   let x ←Nh a c.2.2.1
   if(c.2.2.1+1+1 == a.size)=true then pure (.done (some (lsA a b (c.2.1.push x) (c.2.2.1+1) c.2.2.2.1),c.2.1.push x,c.2.2.1+1,c.2.2.2.1,c.2.2.2.2.1+1,0))
   else if c.2.2.2.2.1+1>=mg then pure (.done (none,c.2.1.push x,c.2.2.1+1,c.2.2.2.1,c.2.2.2.2.1+1,0))
   else pure (.yield (none,c.2.1.push x,c.2.2.1+1,c.2.2.2.1,c.2.2.2.2.1+1,0))
 | _=>pure (.done (some (dnA a b c.2.1 c.2.2.1 c.2.2.2.1),c.2.1,c.2.2.1,c.2.2.2.1,c.2.2.2.2.1,c.2.2.2.2.2))
noncomputable def gT2(a b ak:Array o_)(ia ib mg ac k:Nat):StateT H_ Sem (ForInStep C2):=do
 let x ←Nh a ia
 if(ia+1+1 == a.size)=true then pure (.done (some (lsA a b (ak.push x) (ia+1) ib),ak.push x,ia+1,ib,mg,ac,k))
 else if(decide (ac < 7)&&decide (k < 7))=true then pure (.done (none,ak.push x,ia+1,ib,mg,ac,k))
 else pure (.yield (none,ak.push x,ia+1,ib,mg,ac,k))
noncomputable def gT1(a b ak:Array o_)(ia ib mg ac bc:Nat):StateT H_ Sem (ForInStep C2):=do
 let y ←Nh b ib
 if(ib+1 == b.size)=true then pure (.done (some (dnA a b (ak.push y) ia (ib+1)),ak.push y,ia,ib+1,mg,ac,bc))
 else do
  let x ←Nh a ia
  match ←gallop' true x b (ib+1) (b.size - (ib+1)) 0 with
  | some k =>
   if k > 0 then
    if(ib+1+k == b.size)=true then pure (.done (some (dnA a b (ak.push y++b.extract (ib+1) (ib+1+k)) ia (ib+1+k)),ak.push y++b.extract (ib+1) (ib+1+k),ia,ib+1+k,mg,ac,k))
    else gT2 a b (ak.push y++b.extract (ib+1) (ib+1+k)) ia (ib+1+k) mg ac k
   else gT2 a b (ak.push y) ia (ib+1) mg ac k
  | _=>pure (.done (some (dnA a b (ak.push y) ia (ib+1)),ak.push y,ia,ib+1,mg,ac,bc))
noncomputable def gB(a b ak:Array o_)(ia ib mg ac bc:Nat):StateT H_ Sem (ForInStep C2):=do
 setG mg
 let y ←Nh b ib
 match ←gallop' false y a ia (a.size - ia) 0 with
 | some k =>
  if k > 0 then
   if(ia+k+1 == a.size)=true then pure (.done (some (lsA a b (ak++a.extract ia (ia+k)) (ia+k) ib),ak++a.extract ia (ia+k),ia+k,ib,mg,k,bc))
   else if(ia+k == a.size)=true then pure (.done (some (dnA a b (ak++a.extract ia (ia+k)) (ia+k) ib),ak++a.extract ia (ia+k),ia+k,ib,mg,k,bc))
   else gT1 a b (ak++a.extract ia (ia+k)) (ia+k) ib mg k bc
  else gT1 a b ak ia ib mg k bc
 | _=>pure (.done (some (dnA a b ak ia ib),ak,ia,ib,mg,ac,bc))
noncomputable def two1(a b:Array o_)(_:Nat)(c:C2):StateT H_ Sem (ForInStep C2):=
 if c.2.2.2.2.1 > 1 then gB a b c.2.1 c.2.2.1 c.2.2.2.1 (c.2.2.2.2.1 - 1) c.2.2.2.2.2.1 c.2.2.2.2.2.2
 else gB a b c.2.1 c.2.2.1 c.2.2.2.1 c.2.2.2.2.1 c.2.2.2.2.2.1 c.2.2.2.2.2.2
noncomputable def out1(a b:Array o_)(_:Nat)(c:C0):StateT H_ Sem (ForInStep C0):=do
 let s1 ←forIn [0:a.size+b.size] ((none,c.2.1,c.2.2.1,c.2.2.2.1,0,0):C1) (one1 a b c.2.2.2.2)
 match s1.1 with
 | some r=>pure (.done (some r,s1.2.1,s1.2.2.1,s1.2.2.2.1,c.2.2.2.2))
 | none=>do
  Q8 "list.sort.gallop"
  let s2 ←forIn [0:a.size+b.size] ((none,s1.2.1,s1.2.2.1,s1.2.2.2.1,c.2.2.2.2+1,s1.2.2.2.2.1,s1.2.2.2.2.2):C2) (two1 a b)
  match s2.1 with
  | some r=>pure (.done (some r,s2.2.1,s2.2.2.1,s2.2.2.2.1,s2.2.2.2.2.1))
  | none=>do
   setG (s2.2.2.2.2.1+1)
   pure (.yield (none,s2.2.1,s2.2.2.1,s2.2.2.2.1,s2.2.2.2.2.1+1))
theorem GG(a b:Array o_):mergeLo' a b=(do
 Q8 "list.sort.merge-lo"
 let y ←Nh b 0
 if(1 == b.size)=true then pure (dnA a b #[y] 0 1)
 else if(0+1 == a.size)=true then pure (lsA a b #[y] 0 1)
 else do
  let st ←get
  let s ←forIn [0:a.size+b.size] ((none,#[y],0,1,OE st):C0) (out1 a b)
  match s.1 with
  | some r=>pure r
  | none=>RK "internal:list.sort.merge-bound"):=by kernel_rfl
def SL(l:List o_):Prop:=l.Pairwise λx y=>kN x<=kN y
def Le(l m:List o_):Prop:=∀x∈l,∀y∈m,kN x<=kN y
theorem SL.app{l m:List o_}(h:SL l)(h':SL m)(c:Le l m):SL (l++m):=Og.mpr ⟨h,h',c⟩
theorem SL.take{l:List o_}(h:SL l)(k:Nat):SL (l.take k):=h.sublist (Po _ _)
theorem SL.drop{l:List o_}(h:SL l)(k:Nat):SL (l.drop k):=h.sublist (Rt _ _)
theorem SL.cut{l:List o_}(h:SL l)(k:Nat):Le (l.take k) (l.drop k):=λx hx y hy=>by
 have:=h;unfold SL at this;rw[←Li k l] at this;exact(Og.mp this).2.2 x hx y hy
structure MI(la lb o:List o_)(ia ib:Nat):Prop where
 perm:o.Perm (la.take ia++lb.take ib)
 srt:SL o
 toA:Le o (la.drop ia)
 toB:Le o (lb.drop ib)
theorem MI.a{o:List o_}(h:MI la lb o ia ib)(sa:SL la)(k:Nat)(c:Le ((la.drop ia).take k) (lb.drop ib)):MI la lb (o++(la.drop ia).take k) (ia+k) ib:=by
 have tk:la.take (ia+k)=la.take ia++(la.drop ia).take k:=List.take_add;refine⟨?_,h.srt.app ((sa.drop ia).take k) λx hx y hy=>h.toA x hx y (Lo hy),λx hx y hy=>?_,λx hx y hy=>?_⟩
 ·rw[tk];have:=h.perm.append_right ((la.drop ia).take k);refine this.trans ?_;rw[LC,LC];exact OQ _ Mi
 ·rw[←Ot] at hy
  rcases Lg.mp hx with hx | hx
  ·exact h.toA x hx y (Lv hy)
  ·exact(sa.drop ia).cut k x hx y hy
 ·rcases Lg.mp hx with hx | hx
  ·exact h.toB x hx y hy
  ·exact c x hx y hy
theorem MI.swap{o:List o_}(h:MI la lb o ia ib):MI lb la o ib ia:=⟨h.perm.trans Mi,h.srt,h.toB,h.toA⟩
theorem MI.b{o:List o_}(h:MI la lb o ia ib)(sb:SL lb)(k:Nat)(c:Le ((lb.drop ib).take k) (la.drop ia)):MI la lb (o++(lb.drop ib).take k) ia (ib+k):=(h.swap.a sb k c).swap
theorem MI.done{o:List o_}(h:MI la lb o ia ib)(sa:SL la)(sb:SL lb)(c:Le (la.drop ia) (lb.drop ib)):SL (o++la.drop ia++lb.drop ib)/\(o++la.drop ia++lb.drop ib).Perm (la++lb):=by
 refine⟨(h.srt.app (sa.drop ia) h.toA).app (sb.drop ib) λx hx y hy=>?_,?_⟩
 ·rcases Lg.mp hx with hx | hx
  ·exact h.toB x hx y hy
  ·exact c x hx y hy
 ·have e:la++lb=(la.take ia++la.drop ia)++(lb.take ib++lb.drop ib):=by rw[Li,Li]
  rw[e];refine((h.perm.append_right _).append_right _).trans ?_;simp only[LC];refine OQ _ ?_;rw[←LC,←LC];exact append_right _ Mi
theorem uJ(a:Array o_)(i:Nat):(a.extract i a.size).toList=a.toList.drop i:=by
 rw[N4,Na,K3 (by simp)]
theorem xl(a:Array o_)(i k:Nat):(a.extract i (i+k)).toList=(a.toList.drop i).take k:=by
 rw[N4,Na]
 congr 1
 omega
def Fin(a b r:Array o_):Prop:=SL r.toList/\r.toList.Perm (a.toList++b.toList)
structure Two(a b:Array o_):Prop where
 ai:AllI a
 bi:AllI b
 sa:SL a.toList
 sb:SL b.toList
 last:Le b.toList (a.toList.drop (a.size - 1))
theorem Two.fin1{a b o:Array o_}(T:Two a b)(mi:MI a.toList b.toList o.toList ia ib)(c:b.size<=ib\/a.size<=ia):Fin a b (dnA a b o ia ib):=by
 have:=mi.done T.sa T.sb λx hx y hy=>by
  rcases c with c | c
  ·rw[LN (by simpa using c)] at hy;cases hy
  ·rw[LN (by simpa using c)] at hx;cases hx
 unfold Fin dnA;rw[Lz,Lz,uJ,uJ];exact this
theorem Two.fin2{a b o:Array o_}(T:Two a b)(mi:MI a.toList b.toList o.toList ia ib)(c:ia+1=a.size):Fin a b (lsA a b o ia ib):=by
 have:=mi.swap.done T.sb T.sa λx hx y hy=>T.last x (Lv hx) y (by rw[show a.size - 1=ia by omega];exact hy)
 unfold Fin lsA;rw[Lz,Lz,uJ,uJ];exact⟨this.1,this.2.trans Mi⟩
theorem qg{a:Array o_}{i:Nat}{x:o_}(h:a[i]?=some x):a.toList.drop i=x::a.toList.drop (i+1)/\(a.toList.drop i).take 1=[x]:=by
 have hl:i < a.toList.length:=by
  rcases MW i a.toList.length with q | q
  ·exact q
  ·rw[←K4,LU q] at h;cases h
 have e:=KC hl
 have:a.toList[i]=x:=by
  rw[←K4,i_ hl] at h;exact KH h
 rw[this] at e;exact⟨e,by rw[e];rfl⟩
theorem sJ{a:Array o_}{i:Nat}{x:o_}(s:SL a.toList)(h:a[i]?=some x):∀y∈a.toList.drop i,kN x<=kN y:=by
 have:=s.drop i;rw[(qg h).1] at this ⊢;intro y hy
 rcases m_.mp hy with rfl | hy
 ·exact KN _
 ·exact(G_.mp this).1 y hy
theorem qM{a:Array o_}(s:SL a.toList){i:Nat}(h:i<=j)(hj:j < a.size):K a i<=K a j:=by
 obtain⟨x,ex,kx⟩:=pO (xs:=a) (i:=i) (by omega);obtain⟨y,ey,ky⟩:=pO hj;rw[kx,ky];refine sJ s ex y ?_;rw[←K4] at ey;have:(a.toList.drop i)[j - i]?=some y:=by rw[Nd,show i+(j - i)=j by omega];exact ey
 exact LB this
theorem uI{a:Array o_}{i k:Nat}{x:o_}(h:x∈(a.toList.drop i).take k):∃j,j < k/\i+j < a.size/\kN x=K a (i+j):=by
 obtain⟨j,hj,e⟩:=Ob.mp h;rw[K7,L3,Ky] at hj;refine⟨j,by omega,by omega,?_⟩
 have e2:a[i+j]?=some x:=by
  rw[←K4,←e,OR,PH];exact i_ _
 exact(rM e2).symm
theorem AL{a:Array o_}{i:Nat}{x:o_}(h:x∈a.toList.drop i):∃j,i<=j/\j < a.size/\kN x=K a j:=by
 obtain⟨j,hj,e⟩:=Ob.mp h;rw[L3,Ky] at hj;refine⟨i+j,by omega,by omega,?_⟩
 have e2:a[i+j]?=some x:=by
  rw[←K4,←e,PH];exact i_ _
 exact(rM e2).symm
section
variable{prog:z_}{w:I_}{E:b_->d_->Prop}{s:d_}{st:H_}{a b ak:Array o_}{n0:Nat}
structure On(a b ak:Array o_)(ia ib n0:Nat):Prop where
 mi:MI a.toList b.toList ak.toList ia ib
 ha:ia+1 < a.size
 hb:ib < b.size
 hn:n0<=ia+ib
def P2(a b:Array o_)(st:H_)(n0:Nat)(c:C2)(ag:H_):Prop:=(∃g,ag=setGal st g)/\((∃r,c.1=some r/\Fin a b r)\/(c.1=none/\On a b c.2.1 c.2.2.1 c.2.2.2.1 n0))
def R2(a b:Array o_)(st:H_)(n0:Nat)(r:ForInStep C2)(ag:H_):Prop:=match r with
 | .done c=>P2 a b st n0 c ag
 | .yield c=>c.1=none/\P2 a b st n0 c ag
theorem Ax{mg k g:Nat}(T:Two a b)(o:On a b ak ia ib n0)(c:Le ((a.toList.drop ia).take 1) (b.toList.drop ib)):wpS (n_ prog w) A E s (gT2 a b ak ia ib mg ac k) (R2 a b st n0) (setGal st g):=by
 obtain⟨mi,ha,hb,hn⟩:=o;obtain⟨x,ex,_⟩:=pO (xs:=a) (i:=ia) (by omega);have m1:=mi.a T.sa 1 c;rw[(qg ex).2,←N3] at m1;unfold gT2;refine k_ (pM ex ?_);by_cases e:ia+1+1=a.size
 ·rw[if_pos (by simpa using e)];exact s_ ⟨⟨g,rfl⟩,.inl ⟨_,rfl,T.fin2 m1 e⟩⟩
 ·rw[if_neg (by simpa using e)];have on:On a b (ak.push x) (ia+1) ib n0:=⟨m1,by omega,hb,by omega⟩;split
  ·exact s_ ⟨⟨g,rfl⟩,.inr ⟨rfl,on⟩⟩
  ·exact s_ ⟨rfl,⟨g,rfl⟩,.inr ⟨rfl,on⟩⟩
theorem AA{mg g:Nat}(hk:kindOf st=LO)(T:Two a b)(o:On a b ak ia ib n0)(c:Le ((b.toList.drop ib).take 1) (a.toList.drop ia)):wpS (n_ prog w) A E s (gT1 a b ak ia ib mg ac bc) (R2 a b st n0) (setGal st g):=by
 obtain⟨mi,ha,hb,hn⟩:=o;obtain⟨y,ey,_⟩:=pO (xs:=b) (i:=ib) (by omega);obtain⟨x,ex,kx⟩:=pO (xs:=a) (i:=ia) (by omega);have m1:=mi.b T.sb 1 c;rw[(qg ey).2,←N3] at m1;unfold gT1;refine k_ (pM ey ?_);by_cases e:ib+1=b.size
 ·rw[if_pos (by simpa using e)];exact s_ ⟨⟨g,rfl⟩,.inl ⟨_,rfl,T.fin1 m1 (.inl (by omega))⟩⟩
 ·rw[if_neg (by simpa using e)];refine k_ (pM ex ?_);refine k_ (rQ (by exact hk) T.bi (T.ai _ _ ex) (by omega) (by omega) (λi j h1 h2 h3=>?_) λk eu cq cz=>?_)
  ·simp only[Bey,if_true,decide_eq_true_eq] at h3 ⊢;have:=qM T.sb (i:=ib+1+i) (j:=ib+1+j) (by omega) (by omega);omega
  ·simp only[Bey,if_true,decide_eq_true_eq,decide_eq_false_iff_not] at cq cz;dsimp only;have lx:=sJ T.sa ex
   have after:∀i0,ib+1+k<=i0->Le ((a.toList.drop ia).take 1) (b.toList.drop i0):=λi0 h0 z hz v hv=>by
    rw[(qg ex).2,A_] at hz;subst hz;obtain⟨j,j1,j2,j3⟩:=AL hv;have:=cz (j - (ib+1)) (by omega) (by omega);rw[show ib+1+(j - (ib+1))=j by omega] at this;omega
   by_cases k0:k > 0
   ·rw[if_pos k0]
    have m2:=m1.b T.sb k λz hz v hv=>by
     obtain⟨j,j1,j2,j3⟩:=uI hz;have:=cq j j1;have:=lx v hv;omega
    rw[←xl,←Lz] at m2;by_cases e2:ib+1+k=b.size
    ·rw[if_pos (by simpa using e2)];exact s_ ⟨⟨g,rfl⟩,.inl ⟨_,rfl,T.fin1 m2 (.inl (by omega))⟩⟩
    ·rw[if_neg (by simpa using e2)];exact Ax T ⟨m2,ha,by omega,by omega⟩ (after _ (B_ _))
   ·rw[if_neg k0];exact Ax T ⟨m1,ha,by omega,by omega⟩ (after _ (by omega))
theorem HE{mg g:Nat}(hk:kindOf st=LO)(T:Two a b)(o:On a b ak ia ib n0):wpS (n_ prog w) A E s (gB a b ak ia ib mg ac bc) (R2 a b st n0) (setGal st g):=by
 obtain⟨mi,ha,hb,hn⟩:=o;obtain⟨y,ey,ky⟩:=pO (xs:=b) (i:=ib) (by omega);unfold gB setG;refine k_ (MQ ?_);show wpS _ _ _ _ _ _ (setGal st mg);refine k_ (pM ey ?_);refine k_ (rQ (by exact hk) T.ai (T.bi _ _ ey) (by omega) (by omega) (λi j h1 h2 h3=>?_) λk eu cq cz=>?_)
 ·simp only[Bey,LK,if_false,Mw,decide_eq_false_iff_not] at h3 ⊢;have:=qM T.sa (i:=ia+i) (j:=ia+j) (by omega) (by omega);omega
 ·simp only[Bey,LK,if_false,Mw,O2,decide_eq_true_eq,decide_eq_false_iff_not] at cq cz;dsimp only;have ly:=sJ T.sb ey
  have after:∀i0,ia+k<=i0->Le ((b.toList.drop ib).take 1) (a.toList.drop i0):=λi0 h0 z hz v hv=>by
   rw[(qg ey).2,A_] at hz;subst hz;obtain⟨j,j1,j2,j3⟩:=AL hv;have:=cz (j - ia) (by omega) (by omega);rw[show ia+(j - ia)=j by omega] at this;omega
  by_cases k0:k > 0
  ·rw[if_pos k0]
   have m2:=mi.a T.sa k λz hz v hv=>by
    obtain⟨j,j1,j2,j3⟩:=uI hz;have:=cq j j1;have:=ly v hv;omega
   rw[←xl,←Lz] at m2;by_cases e1:ia+k+1=a.size
   ·rw[if_pos (by simpa using e1)];exact s_ ⟨⟨mg,rfl⟩,.inl ⟨_,rfl,T.fin2 m2 e1⟩⟩
   ·rw[if_neg (by simpa using e1)];by_cases e2:ia+k=a.size
    ·rw[if_pos (by simpa using e2)];exact s_ ⟨⟨mg,rfl⟩,.inl ⟨_,rfl,T.fin1 m2 (.inr (by omega))⟩⟩
    ·rw[if_neg (by simpa using e2)];exact AA hk T ⟨m2,by omega,hb,by omega⟩ (after _ (B_ _))
  ·rw[if_neg k0];exact AA hk T ⟨mi,ha,hb,hn⟩ (after _ (by omega))
end
section
variable{prog:z_}{w:I_}{E:b_->d_->Prop}{s:d_}{st:H_}{a b ak:Array o_}{n0:Nat}
def P1(a b:Array o_)(st:H_)(n0:Nat)(c:C1)(ag:H_):Prop:=(∃g,ag=setGal st g)/\((∃r,c.1=some r/\Fin a b r)\/(c.1=none/\On a b c.2.1 c.2.2.1 c.2.2.2.1 n0))
theorem GP{mg x g:Nat}(hk:kindOf st=LO)(T:Two a b)(o:On a b ak ia ib n0):wpS (n_ prog w) A E s (one1 a b mg x (none,ak,ia,ib,ac,bc)) (λr ag=>match r with
  | .done c=>P1 a b st (n0+1) c ag
  | .yield c=>c.1=none/\P1 a b st (n0+1) c ag) (setGal st g):=by
 obtain⟨mi,ha,hb,hn⟩:=o;obtain⟨y,ey,ky⟩:=pO (xs:=b) (i:=ib) (by omega);obtain⟨x,ex,kx⟩:=pO (xs:=a) (i:=ia) (by omega);have lx:=sJ T.sa ex;have ly:=sJ T.sb ey;unfold one1;dsimp only;refine k_ (pM ey (k_ (pM ex (k_ (sj (by exact hk) (T.bi _ _ ey) (T.ai _ _ ex) ?_)))));dsimp only;by_cases l:kN y < kN x
 ·rw[if_pos (by simpa using l)]
  have m1:=mi.b T.sb 1 λz hz v hv=>by
   rw[(qg ey).2,A_] at hz;subst hz;have:=lx v hv;omega
  rw[(qg ey).2,←N3] at m1;refine k_ (pM ey ?_);by_cases e:ib+1=b.size
  ·rw[if_pos (by simpa using e)];exact s_ ⟨⟨g,rfl⟩,.inl ⟨_,rfl,T.fin1 m1 (.inl (by omega))⟩⟩
  ·rw[if_neg (by simpa using e)];have on:On a b (ak.push y) ia (ib+1) (n0+1):=⟨m1,ha,by omega,by omega⟩;split
   ·exact s_ ⟨⟨g,rfl⟩,.inr ⟨rfl,on⟩⟩
   ·exact s_ ⟨rfl,⟨g,rfl⟩,.inr ⟨rfl,on⟩⟩
 ·rw[if_neg (by simpa using l)]
  have m1:=mi.a T.sa 1 λz hz v hv=>by
   rw[(qg ex).2,A_] at hz;subst hz;have:=ly v hv;omega
  rw[(qg ex).2,←N3] at m1;refine k_ (pM ex ?_);by_cases e:ia+1+1=a.size
  ·rw[if_pos (by simpa using e)];exact s_ ⟨⟨g,rfl⟩,.inl ⟨_,rfl,T.fin2 m1 e⟩⟩
  ·rw[if_neg (by simpa using e)];have on:On a b (ak.push x) (ia+1) ib (n0+1):=⟨m1,by omega,hb,by omega⟩;split
   ·exact s_ ⟨⟨g,rfl⟩,.inr ⟨rfl,on⟩⟩
   ·exact s_ ⟨rfl,⟨g,rfl⟩,.inr ⟨rfl,on⟩⟩
theorem On.less(o:On a b ak ia ib n0)(h:m<=n0):On a b ak ia ib m:=⟨o.mi,o.ha,o.hb,by have:=o.hn;omega⟩
theorem EV{x mg g:Nat}(hk:kindOf st=LO)(T:Two a b)(o:On a b ak ia ib n0):wpS (n_ prog w) A E s (out1 a b x (none,ak,ia,ib,mg)) (λr ag=>match r with
  | .done c=>(∃g,ag=setGal st g)/\∃r,c.1=some r/\Fin a b r
  | .yield c=>c.1=none/\(∃g,ag=setGal st g)/\On a b c.2.1 c.2.2.1 c.2.2.2.1 (n0+1)) (setGal st g):=by
 have ha:=o.ha;have hb:=o.hb;unfold out1;dsimp only;refine k_ (Lr (Ll (I:=λx c ag=>(∃g,ag=setGal st g)/\c.1=none/\On a b c.2.1 c.2.2.1 c.2.2.2.1 (n0+x)) (Q:=P1 a b st (n0+1)) ?_ ?_ ⟨⟨g,rfl⟩,rfl,o⟩) ?_)
 ·rintro x ⟨r,o1,i1,j1,c1,d1⟩ ag - hx ⟨⟨g,rfl⟩,h1,h2⟩;dsimp only at h1 h2;subst h1;refine Lr (GP hk T h2) λr ag q=>?_
  cases r with
  | done c =>
   refine⟨q.1,?_⟩
   rcases q.2 with q | q
   ·exact .inl q
   ·exact .inr ⟨q.1,q.2.less (by omega)⟩
  | yield c =>
   obtain⟨q0,q1,q2⟩:=q;refine⟨q1,q0,?_⟩
   rcases q2 with⟨r,q2,_⟩ | ⟨_,q2⟩
   ·rw[q0] at q2;cases q2
   ·exact q2
 ·rintro⟨r,o1,i1,j1,c1,d1⟩ ag ⟨h0,h1,h2⟩;exact⟨h0,.inr ⟨h1,h2.less (by omega)⟩⟩
 ·rintro⟨r,o1,i1,j1,c1,d1⟩ ag ⟨⟨g,rfl⟩,h2⟩
  rcases h2 with⟨r',e,h2⟩ | ⟨e,h2⟩
  ·dsimp only at e;subst e;exact s_ ⟨⟨g,rfl⟩,r',rfl,h2⟩
  ·dsimp only at e h2;subst e;dsimp only;refine k_ (Pe (LM ⟨rfl,?_⟩));refine k_ (Lr (Ll (I:=λx c ag=>(∃g,ag=setGal st g)/\c.1=none/\On a b c.2.1 c.2.2.1 c.2.2.2.1 (n0+1)) (Q:=P2 a b st (n0+1)) ?_ ?_ ⟨⟨g,rfl⟩,rfl,h2⟩) ?_)
   ·rintro x ⟨r,o2,i2,j2,m2,c2,d2⟩ ag - hx ⟨⟨g,rfl⟩,h1,h2⟩;dsimp only at h1 h2;subst h1;unfold two1;dsimp only;split
    all_goals
     refine Lr (HE hk T h2) λr ag q=>?_
     cases r with
     | done c=>exact q
     | yield c =>
      obtain⟨q0,q1,q2⟩:=q;refine⟨q1,q0,?_⟩
      rcases q2 with⟨r,q2,_⟩ | ⟨_,q2⟩
      ·rw[q0] at q2;cases q2
      ·exact q2
   ·rintro⟨r,o2,i2,j2,m2,c2,d2⟩ ag ⟨h0,h1,h2⟩;exact⟨h0,.inr ⟨h1,h2⟩⟩
   ·rintro⟨r,o2,i2,j2,m2,c2,d2⟩ ag ⟨⟨g,rfl⟩,h2⟩
    rcases h2 with⟨r',e,h2⟩ | ⟨e,h2⟩
    ·dsimp only at e;subst e;exact s_ ⟨⟨g,rfl⟩,r',rfl,h2⟩
    ·dsimp only at e h2;subst e;dsimp only;unfold setG;exact k_ (MQ (s_ ⟨rfl,⟨m2+1,rfl⟩,h2⟩))
theorem ID{Q:Array o_->H_->Prop}(hk:kindOf st=LO)(T:Two a b)(na:1<=a.size)(nb:1<=b.size)(first:Le (b.toList.take 1) a.toList)(h:∀r g,Fin a b r->Q r (setGal st g)):
  wpS (n_ prog w) A E s (mergeLo' a b) Q st:=by
 obtain⟨y,ey,_⟩:=pO (xs:=b) (i:=0) (by omega);have m0:MI a.toList b.toList ([]:List o_) 0 0:=⟨by simp,Mf.nil,λx hx=>(by cases hx),λx hx=>(by cases hx)⟩;have m1:=m0.b T.sb 1 (by simpa using first);rw[(qg ey).2] at m1;have m1:MI a.toList b.toList (#[y]:Array o_).toList 0 1:=m1;rw[GG];refine k_ (Pe (LM ⟨rfl,?_⟩));refine k_ (pM ey ?_);by_cases e1:1=b.size
 ·rw[if_pos (by simpa using e1)];exact s_ (h _ (OE st) (T.fin1 m1 (.inl (by omega))))
 ·rw[if_neg (by simpa using e1)];by_cases e2:0+1=a.size
  ·rw[if_pos (by simpa using e2)];exact s_ (h _ (OE st) (T.fin2 m1 e2))
  ·rw[if_neg (by simpa using e2)];have o1:On a b #[y] 0 1 1:=⟨m1,by omega,by omega,by omega⟩;refine k_ (Op ?_);refine k_ (Lr (Ll (I:=λx c ag=>(∃g,ag=setGal st g)/\c.1=none/\On a b c.2.1 c.2.2.1 c.2.2.2.1 (x+1)) (Q:=λc ag=>(∃g,ag=setGal st g)/\∃r,c.1=some r/\Fin a b r) ?_ ?_ ⟨⟨OE st,rfl⟩,rfl,o1⟩) ?_)
   ·rintro x ⟨r,o1,i1,j1,m1⟩ ag - hx ⟨⟨g,rfl⟩,h1,h2⟩;dsimp only at h1 h2;subst h1;refine Lr (EV hk T h2) λr ag q=>?_
    cases r with
    | done c=>exact q
    | yield c=>exact⟨q.2.1,q.1,q.2.2⟩
   ·rintro⟨r,o1,i1,j1,m1⟩ ag ⟨h0,h1,h2⟩;have:=h2.ha;have:=h2.hb;have:=h2.hn;dsimp only at *;omega
   ·rintro⟨r,o1,i1,j1,m1⟩ ag ⟨⟨g,rfl⟩,r',e,h2⟩;dsimp only at e;subst e;exact s_ (h r' g h2)
end
abbrev D1:=Option (Array o_)×Nat×Nat×Array o_×Nat×Nat
abbrev D2:=Option (Array o_)×Nat×Nat×Array o_×Nat×Nat×Nat
abbrev D0:=Option (Array o_)×Nat×Nat×Array o_×Nat
noncomputable def dnH(a b ak:Array o_)(na nb:Nat):Array o_:=a.extract 0 na++b.extract 0 nb++ak.reverse
noncomputable def fsB(a b ak:Array o_)(na nb:Nat):Array o_:=b.extract 0 nb++a.extract 0 na++ak.reverse
noncomputable def oneH(a b:Array o_)(mg:Nat)(_:Nat)(c:D1):StateT H_ Sem (ForInStep D1):=do
 let y ←Nh b (c.2.2.1 - 1)
 let x ←Nh a (c.2.1 - 1)
 match ←lt' y x with
 | some aWins =>
  if aWins then do
   let x ←Nh a (c.2.1 - 1)
   if(c.2.1 - 1 == 0)=true then pure (.done (some (dnH a b (c.2.2.2.1.push x) (c.2.1 - 1) c.2.2.1),c.2.1 - 1,c.2.2.1,c.2.2.2.1.push x,c.2.2.2.2.1+1,0))
   else if c.2.2.2.2.1+1>=mg then pure (.done (none,c.2.1 - 1,c.2.2.1,c.2.2.2.1.push x,c.2.2.2.2.1+1,0))
   else pure (.yield (none,c.2.1 - 1,c.2.2.1,c.2.2.2.1.push x,c.2.2.2.2.1+1,0))
  else do
   let y ←Nh b (c.2.2.1 - 1)
   if(c.2.2.1 - 1 == 1)=true then pure (.done (some (fsB a b (c.2.2.2.1.push y) c.2.1 (c.2.2.1 - 1)),c.2.1,c.2.2.1 - 1,c.2.2.2.1.push y,0,c.2.2.2.2.2+1))
   else if c.2.2.2.2.2+1>=mg then pure (.done (none,c.2.1,c.2.2.1 - 1,c.2.2.2.1.push y,0,c.2.2.2.2.2+1))
   else pure (.yield (none,c.2.1,c.2.2.1 - 1,c.2.2.2.1.push y,0,c.2.2.2.2.2+1))
 | _=>pure (.done (some (dnH a b c.2.2.2.1 c.2.1 c.2.2.1),c.2.1,c.2.2.1,c.2.2.2.1,c.2.2.2.2.1,c.2.2.2.2.2))
noncomputable def hT2(a b ak:Array o_)(na nb mg ac bc:Nat):StateT H_ Sem (ForInStep D2):=do
 let x ←Nh a (na - 1)
 if(na - 1 == 0)=true then pure (.done (some (dnH a b (ak.push x) (na - 1) nb),na - 1,nb,ak.push x,mg,ac,bc))
 else if(decide (ac < 7)&&decide (bc < 7))=true then pure (.done (none,na - 1,nb,ak.push x,mg,ac,bc))
 else pure (.yield (none,na - 1,nb,ak.push x,mg,ac,bc))
noncomputable def hT1(a b ak:Array o_)(na nb mg ac bc:Nat):StateT H_ Sem (ForInStep D2):=do
 let y ←Nh b (nb - 1)
 if(nb - 1 == 1)=true then pure (.done (some (fsB a b (ak.push y) na (nb - 1)),na,nb - 1,ak.push y,mg,ac,bc))
 else do
  let x ←Nh a (na - 1)
  match ←gallop' true x b 0 (nb - 1) (nb - 1 - 1) with
  | some k =>
   if nb - 1 - k > 0 then
    if(k == 1)=true then pure (.done (some (fsB a b (ak.push y++(b.extract k (nb - 1)).reverse) na k),na,k,ak.push y++(b.extract k (nb - 1)).reverse,mg,ac,nb - 1 - k))
    else if(k == 0)=true then pure (.done (some (dnH a b (ak.push y++(b.extract k (nb - 1)).reverse) na k),na,k,ak.push y++(b.extract k (nb - 1)).reverse,mg,ac,nb - 1 - k))
    else hT2 a b (ak.push y++(b.extract k (nb - 1)).reverse) na k mg ac (nb - 1 - k)
   else hT2 a b (ak.push y) na (nb - 1) mg ac (nb - 1 - k)
  | _=>pure (.done (some (dnH a b (ak.push y) na (nb - 1)),na,nb - 1,ak.push y,mg,ac,bc))
noncomputable def hB(a b ak:Array o_)(na nb mg ac bc:Nat):StateT H_ Sem (ForInStep D2):=do
 setG mg
 let y ←Nh b (nb - 1)
 match ←gallop' false y a 0 na (na - 1) with
 | some k =>
  if na - k > 0 then
   if(k == 0)=true then pure (.done (some (dnH a b (ak++(a.extract k na).reverse) k nb),k,nb,ak++(a.extract k na).reverse,mg,na - k,bc))
   else hT1 a b (ak++(a.extract k na).reverse) k nb mg (na - k) bc
  else hT1 a b ak na nb mg (na - k) bc
 | _=>pure (.done (some (dnH a b ak na nb),na,nb,ak,mg,ac,bc))
noncomputable def twoH(a b:Array o_)(_:Nat)(c:D2):StateT H_ Sem (ForInStep D2):=
 if c.2.2.2.2.1 > 1 then hB a b c.2.2.2.1 c.2.1 c.2.2.1 (c.2.2.2.2.1 - 1) c.2.2.2.2.2.1 c.2.2.2.2.2.2
 else hB a b c.2.2.2.1 c.2.1 c.2.2.1 c.2.2.2.2.1 c.2.2.2.2.2.1 c.2.2.2.2.2.2
noncomputable def outH(a b:Array o_)(_:Nat)(c:D0):StateT H_ Sem (ForInStep D0):=do
 let s1 ←forIn [0:a.size+b.size] ((none,c.2.1,c.2.2.1,c.2.2.2.1,0,0):D1) (oneH a b c.2.2.2.2)
 match s1.1 with
 | some r=>pure (.done (some r,s1.2.1,s1.2.2.1,s1.2.2.2.1,c.2.2.2.2))
 | none=>do
  Q8 "list.sort.gallop"
  let s2 ←forIn [0:a.size+b.size] ((none,s1.2.1,s1.2.2.1,s1.2.2.2.1,c.2.2.2.2+1,s1.2.2.2.2.1,s1.2.2.2.2.2):D2) (twoH a b)
  match s2.1 with
  | some r=>pure (.done (some r,s2.2.1,s2.2.2.1,s2.2.2.2.1,s2.2.2.2.2.1))
  | none=>do
   setG (s2.2.2.2.2.1+1)
   pure (.yield (none,s2.2.1,s2.2.2.1,s2.2.2.2.1,s2.2.2.2.2.1+1))
theorem GH(a b:Array o_):mergeHi' a b=(do
 Q8 "list.sort.merge-hi"
 let x ←Nh a (a.size - 1)
 if(a.size - 1 == 0)=true then pure (dnH a b #[x] (a.size - 1) b.size)
 else if(b.size == 1)=true then pure (fsB a b #[x] (a.size - 1) b.size)
 else do
  let st ←get
  let s ←forIn [0:a.size+b.size] ((none,a.size - 1,b.size,#[x],OE st):D0) (outH a b)
  match s.1 with
  | some r=>pure r
  | none=>RK "internal:list.sort.merge-bound"):=by kernel_rfl
structure HI(la lb t:List o_)(na nb:Nat):Prop where
 perm:t.Perm (la.drop na++lb.drop nb)
 srt:SL t
 fromA:Le (la.take na) t
 fromB:Le (lb.take nb) t
theorem v4{l:List o_}(hj:j<=n)(hn:n<=l.length):(l.take n).drop j++l.drop n=l.drop j:=by
 have:=MO (l₁:=l.take n) (l₂:=l.drop n) (i:=j) (by rw[K7];omega);rw[Li] at this;exact this.symm
theorem HI.a{t:List o_}(h:HI la lb t na nb)(sa:SL la)(hn:na<=la.length)(hj:j<=na)(c:Le (lb.take nb) ((la.take na).drop j)):HI la lb ((la.take na).drop j++t) j nb:=by
 refine⟨?_,((sa.take na).drop j).app h.srt λx hx y hy=>h.fromA x (Lv hx) y hy,λx hx y hy=>?_,λx hx y hy=>?_⟩
 ·rw[←v4 hj hn,LC];exact OQ _ h.perm
 ·rcases Lg.mp hy with hy | hy
  ·have:=(sa.take na).cut j;rw[M',L5 hj] at this;exact this x hx y hy
  ·refine h.fromA x ?_ y hy;rw[show la.take j=(la.take na).take j by rw[M',L5 hj]] at hx;exact Lo hx
 ·rcases Lg.mp hy with hy | hy
  ·exact c x hx y hy
  ·exact h.fromB x hx y hy
theorem HI.swap{t:List o_}(h:HI la lb t na nb):HI lb la t nb na:=⟨h.perm.trans Mi,h.srt,h.fromB,h.fromA⟩
theorem HI.b{t:List o_}(h:HI la lb t na nb)(sb:SL lb)(hn:nb<=lb.length)(hj:j<=nb)(c:Le (la.take na) ((lb.take nb).drop j)):HI la lb ((lb.take nb).drop j++t) na j:=(h.swap.a sb hn hj c).swap
theorem HI.done{t:List o_}(h:HI la lb t na nb)(sa:SL la)(sb:SL lb)(c:Le (la.take na) (lb.take nb)):SL (la.take na++lb.take nb++t)/\(la.take na++lb.take nb++t).Perm (la++lb):=by
 refine⟨((sa.take na).app (sb.take nb) c).app h.srt λx hx y hy=>?_,?_⟩
 ·rcases Lg.mp hx with hx | hx
  ·exact h.fromA x hx y hy
  ·exact h.fromB x hx y hy
 ·have e:la++lb=(la.take na++la.drop na)++(lb.take nb++lb.drop nb):=by rw[Li,Li]
  rw[e];refine(h.perm.append_left _).trans ?_;simp only[LC];refine OQ (la.take na) ?_;have:=append_right (lb.drop nb) (Mi (l₁:=lb.take nb) (l₂:=la.drop na));simpa only[LC] using this
theorem rz(a:Array o_)(i n:Nat):(a.extract i n).toList=(a.toList.take n).drop i:=by
 rw[N4,Na,Ou]
theorem tx(a:Array o_)(n:Nat):(a.extract 0 n).toList=a.toList.take n:=by
 rw[rz,O7]
theorem uO{a:Array o_}{x:o_}(hn:1<=n)(h:a[n - 1]?=some x):(a.toList.take n).drop (n - 1)=[x]:=by
 rw[Ou,show n - (n - 1)=1 by omega];exact(qg h).2
theorem t9{a:Array o_}{x:o_}(h:x∈a.toList.take n):∃j,j < n/\j < a.size/\kN x=K a j:=by
 obtain⟨j,h1,h2,h3⟩:=uI (a:=a) (i:=0) (k:=n) (x:=x) (by simpa using h);rw[MV] at h2 h3;exact⟨j,h1,h2,h3⟩
theorem ql{a:Array o_}{i:Nat}{x:o_}(h:x∈(a.toList.take n).drop i):∃j,i<=j/\j < n/\j < a.size/\kN x=K a j:=by
 rw[Ou] at h;obtain⟨j,h1,h2,h3⟩:=uI h;exact⟨i+j,by omega,by omega,h2,h3⟩
structure TwoH(a b:Array o_):Prop where
 ai:AllI a
 bi:AllI b
 sa:SL a.toList
 sb:SL b.toList
 first:Le (b.toList.take 1) a.toList
section
variable{a b ak:Array o_}{n0:Nat}
abbrev HO(a b ak:Array o_)(na nb:Nat):Prop:=HI a.toList b.toList ak.toList.reverse na nb
theorem TwoH.fin1(T:TwoH a b)(mi:HO a b ak na nb)(c:na=0\/nb=0):Fin a b (dnH a b ak na nb):=by
 have:=mi.done T.sa T.sb λx hx y hy=>by
  rcases c with rfl | rfl
  ·cases hx
  ·cases hy
 unfold Fin dnH;rw[Lz,Lz,tx,tx,N5];exact this
theorem TwoH.fin2(T:TwoH a b)(mi:HO a b ak na nb)(c:nb=1):Fin a b (fsB a b ak na nb):=by
 have:=mi.swap.done T.sb T.sa λx hx y hy=>T.first x (by rw[←c];exact hx) y (Lo hy)
 unfold Fin fsB;rw[Lz,Lz,tx,tx,N5];exact⟨this.1,this.2.trans Mi⟩
theorem z9(ak:Array o_)(x:o_):(ak.push x).toList.reverse=[x]++ak.toList.reverse:=by simp
theorem xK(ak p:Array o_):(ak++p.reverse).toList.reverse=p.toList++ak.toList.reverse:=by simp
theorem HI.pa(T:TwoH a b)(mi:HO a b ak na nb)(h1:1<=na)(h2:na<=a.size){x:o_}(ex:a[na - 1]?=some x)(c:∀i,i < nb->i < b.size->K b i<=kN x):HO a b (ak.push x) (na - 1) nb:=by
 have:=mi.a (j:=na - 1) T.sa (by simpa using h2) (by omega) (by
  rw[uO h1 ex];intro y hy z hz;rw[A_] at hz;subst hz;obtain⟨j,j1,j2,j3⟩:=t9 hy;rw[j3]
  exact c j j1 j2)
 rw[uO h1 ex] at this;unfold HO;rw[z9];exact this
theorem HI.pb(T:TwoH a b)(mi:HO a b ak na nb)(h1:1<=nb)(h2:nb<=b.size){y:o_}(ey:b[nb - 1]?=some y)(c:∀i,i < na->i < a.size->K a i<=kN y):HO a b (ak.push y) na (nb - 1):=by
 have:=mi.b (j:=nb - 1) T.sb (by simpa using h2) (by omega) (by
  rw[uO h1 ey];intro x hx z hz;rw[A_] at hz;subst hz;obtain⟨j,j1,j2,j3⟩:=t9 hx;rw[j3]
  exact c j j1 j2)
 rw[uO h1 ey] at this;unfold HO;rw[z9];exact this
structure OnH(a b ak:Array o_)(na nb n0:Nat):Prop where
 mi:HO a b ak na nb
 a1:1<=na
 a2:na<=a.size
 b1:2<=nb
 b2:nb<=b.size
 hn:n0+na+nb<=a.size+b.size
variable{prog:z_}{w:I_}{E:b_->d_->Prop}{s:d_}{st:H_}
def Q2(a b:Array o_)(st:H_)(n0:Nat)(c:D2)(ag:H_):Prop:=(∃g,ag=setGal st g)/\((∃r,c.1=some r/\Fin a b r)\/(c.1=none/\OnH a b c.2.2.2.1 c.2.1 c.2.2.1 n0))
def S2(a b:Array o_)(st:H_)(n0:Nat)(r:ForInStep D2)(ag:H_):Prop:=match r with
 | .done c=>Q2 a b st n0 c ag
 | .yield c=>c.1=none/\Q2 a b st n0 c ag
theorem Ar{mg g:Nat}(T:TwoH a b)(o:OnH a b ak na nb n0)(c:∀x,a[na - 1]?=some x->∀i,i < nb->i < b.size->K b i<=kN x):wpS (n_ prog w) A E s (hT2 a b ak na nb mg ac bc) (S2 a b st n0) (setGal st g):=by
 obtain⟨mi,a1,a2,b1,b2,hn⟩:=o;obtain⟨x,ex,_⟩:=pO (xs:=a) (i:=na - 1) (by omega);have m1:=HI.pa T mi a1 a2 ex (c x ex);unfold hT2;refine k_ (pM ex ?_);by_cases e:na - 1=0
 ·rw[if_pos (by simpa using e)];exact s_ ⟨⟨g,rfl⟩,.inl ⟨_,rfl,T.fin1 m1 (.inl e)⟩⟩
 ·rw[if_neg (by simpa using e)];have on:OnH a b (ak.push x) (na - 1) nb n0:=⟨m1,by omega,by omega,b1,b2,by omega⟩;split
  ·exact s_ ⟨⟨g,rfl⟩,.inr ⟨rfl,on⟩⟩
  ·exact s_ ⟨rfl,⟨g,rfl⟩,.inr ⟨rfl,on⟩⟩
theorem xi{mg g:Nat}(hk:kindOf st=LO)(T:TwoH a b)(o:OnH a b ak na nb n0)(c:∀y,b[nb - 1]?=some y->∀i,i < na->i < a.size->K a i<=kN y):wpS (n_ prog w) A E s (hT1 a b ak na nb mg ac bc) (S2 a b st n0) (setGal st g):=by
 obtain⟨mi,a1,a2,b1,b2,hn⟩:=o;obtain⟨y,ey,_⟩:=pO (xs:=b) (i:=nb - 1) (by omega);obtain⟨x,ex,kx⟩:=pO (xs:=a) (i:=na - 1) (by omega);have m1:=HI.pb T mi (by omega) b2 ey (c y ey);unfold hT1;refine k_ (pM ey ?_);by_cases e:nb - 1=1
 ·rw[if_pos (by simpa using e)];exact s_ ⟨⟨g,rfl⟩,.inl ⟨_,rfl,T.fin2 m1 e⟩⟩
 ·rw[if_neg (by simpa using e)];refine k_ (pM ex ?_);refine k_ (rQ (by exact hk) T.bi (T.ai _ _ ex) (by omega) (by omega) (λi j h1 h2 h3=>?_) λk eu cq cz=>?_)
  ·simp only[Bey,if_true,decide_eq_true_eq,MV] at h3 ⊢;have:=qM T.sb (i:=i) (j:=j) (by omega) (by omega);omega
  ·simp only[Bey,if_true,decide_eq_true_eq,decide_eq_false_iff_not,MV] at cq cz;dsimp only
   have low:∀n,n<=k->∀x',a[na - 1]?=some x'->∀i,i < n->i < b.size->K b i<=kN x':=λn eE x' jk i h1 _=>by
    rw[ex] at jk;cases jk;have:=cq i (by omega);omega
   by_cases k0:nb - 1 - k > 0
   ·rw[if_pos k0]
    have m2:=m1.b (j:=k) T.sb (by simp;omega) (by omega) λz hz v hv=>by
     obtain⟨j,j1,j2,j3⟩:=t9 hz;obtain⟨i,i1,i2,i3,i4⟩:=ql hv;have:=cz i i1 i2;have:=qM T.sa (i:=j) (j:=na - 1) (by omega) (by omega);omega
    rw[←rz] at m2;have m2:HO a b (ak.push y++(b.extract k (nb - 1)).reverse) na k:=by unfold HO;rw[xK];exact m2
    by_cases e2:k=1
    ·rw[if_pos (by simpa using e2)];exact s_ ⟨⟨g,rfl⟩,.inl ⟨_,rfl,T.fin2 m2 e2⟩⟩
    ·rw[if_neg (by simpa using e2)];by_cases e3:k=0
     ·rw[if_pos (by simpa using e3)];exact s_ ⟨⟨g,rfl⟩,.inl ⟨_,rfl,T.fin1 m2 (.inr e3)⟩⟩
     ·rw[if_neg (by simpa using e3)];exact Ar T ⟨m2,a1,a2,by omega,by omega,by omega⟩ (low k (B_ _))
   ·rw[if_neg k0];exact Ar T ⟨m1,a1,a2,by omega,by omega,by omega⟩ (low (nb - 1) (by omega))
theorem GM{mg g:Nat}(hk:kindOf st=LO)(T:TwoH a b)(o:OnH a b ak na nb n0):wpS (n_ prog w) A E s (hB a b ak na nb mg ac bc) (S2 a b st n0) (setGal st g):=by
 obtain⟨mi,a1,a2,b1,b2,hn⟩:=o;obtain⟨y,ey,ky⟩:=pO (xs:=b) (i:=nb - 1) (by omega);unfold hB setG;refine k_ (MQ ?_);show wpS _ _ _ _ _ _ (setGal st mg);refine k_ (pM ey ?_);refine k_ (rQ (by exact hk) T.ai (T.bi _ _ ey) (by omega) (by omega) (λi j h1 h2 h3=>?_) λk eu cq cz=>?_)
 ·simp only[Bey,LK,if_false,Mw,decide_eq_false_iff_not,MV] at h3 ⊢;have:=qM T.sa (i:=i) (j:=j) (by omega) (by omega);omega
 ·simp only[Bey,LK,if_false,Mw,O2,decide_eq_true_eq,decide_eq_false_iff_not,MV] at cq cz;dsimp only
  have low:∀n,n<=k->∀y',b[nb - 1]?=some y'->∀i,i < n->i < a.size->K a i<=kN y':=λn eE y' lG i h1 _=>by
   rw[ey] at lG;cases lG;have:=cq i (by omega);omega
  by_cases k0:na - k > 0
  ·rw[if_pos k0]
   have m2:=mi.a (j:=k) T.sa (by simpa using a2) (by omega) λz hz v hv=>by
    obtain⟨j,j1,j2,j3⟩:=t9 hz;obtain⟨i,i1,i2,i3,i4⟩:=ql hv;have:=cz i i1 i2;have:=qM T.sb (i:=j) (j:=nb - 1) (by omega) (by omega);omega
   rw[←rz] at m2;have m2:HO a b (ak++(a.extract k na).reverse) k nb:=by unfold HO;rw[xK];exact m2
   by_cases e1:k=0
   ·rw[if_pos (by simpa using e1)];exact s_ ⟨⟨mg,rfl⟩,.inl ⟨_,rfl,T.fin1 m2 (.inl e1)⟩⟩
   ·rw[if_neg (by simpa using e1)];exact xi hk T ⟨m2,by omega,by omega,b1,b2,by omega⟩ (low k (B_ _))
  ·rw[if_neg k0];exact xi hk T ⟨mi,a1,a2,b1,b2,hn⟩ (low na (by omega))
def Q1(a b:Array o_)(st:H_)(n0:Nat)(c:D1)(ag:H_):Prop:=(∃g,ag=setGal st g)/\((∃r,c.1=some r/\Fin a b r)\/(c.1=none/\OnH a b c.2.2.2.1 c.2.1 c.2.2.1 n0))
theorem Cf{mg x g:Nat}(hk:kindOf st=LO)(T:TwoH a b)(o:OnH a b ak na nb n0):wpS (n_ prog w) A E s (oneH a b mg x (none,na,nb,ak,ac,bc)) (λr ag=>match r with
  | .done c=>Q1 a b st (n0+1) c ag
  | .yield c=>c.1=none/\Q1 a b st (n0+1) c ag) (setGal st g):=by
 obtain⟨mi,a1,a2,b1,b2,hn⟩:=o;obtain⟨y,ey,ky⟩:=pO (xs:=b) (i:=nb - 1) (by omega);obtain⟨x,ex,kx⟩:=pO (xs:=a) (i:=na - 1) (by omega);unfold oneH;dsimp only;refine k_ (pM ey (k_ (pM ex (k_ (sj (by exact hk) (T.bi _ _ ey) (T.ai _ _ ex) ?_)))));dsimp only;by_cases l:kN y < kN x
 ·rw[if_pos (by simpa using l)]
  have m1:=HI.pa T mi a1 a2 ex λi h1 h2=>by
   have:=qM T.sb (i:=i) (j:=nb - 1) (by omega) (by omega);omega
  refine k_ (pM ex ?_);by_cases e:na - 1=0
  ·rw[if_pos (by simpa using e)];exact s_ ⟨⟨g,rfl⟩,.inl ⟨_,rfl,T.fin1 m1 (.inl e)⟩⟩
  ·rw[if_neg (by simpa using e)];have on:OnH a b (ak.push x) (na - 1) nb (n0+1):=⟨m1,by omega,by omega,b1,b2,by omega⟩;split
   ·exact s_ ⟨⟨g,rfl⟩,.inr ⟨rfl,on⟩⟩
   ·exact s_ ⟨rfl,⟨g,rfl⟩,.inr ⟨rfl,on⟩⟩
 ·rw[if_neg (by simpa using l)]
  have m1:=HI.pb T mi (by omega) b2 ey λi h1 h2=>by
   have:=qM T.sa (i:=i) (j:=na - 1) (by omega) (by omega);omega
  refine k_ (pM ey ?_);by_cases e:nb - 1=1
  ·rw[if_pos (by simpa using e)];exact s_ ⟨⟨g,rfl⟩,.inl ⟨_,rfl,T.fin2 m1 e⟩⟩
  ·rw[if_neg (by simpa using e)];have on:OnH a b (ak.push y) na (nb - 1) (n0+1):=⟨m1,a1,a2,by omega,by omega,by omega⟩;split
   ·exact s_ ⟨⟨g,rfl⟩,.inr ⟨rfl,on⟩⟩
   ·exact s_ ⟨rfl,⟨g,rfl⟩,.inr ⟨rfl,on⟩⟩
theorem OnH.less(o:OnH a b ak na nb n0)(h:m<=n0):OnH a b ak na nb m:=⟨o.mi,o.a1,o.a2,o.b1,o.b2,by have:=o.hn;omega⟩
theorem DI{x mg g:Nat}(hk:kindOf st=LO)(T:TwoH a b)(o:OnH a b ak na nb n0):wpS (n_ prog w) A E s (outH a b x (none,na,nb,ak,mg)) (λr ag=>match r with
  | .done c=>(∃g,ag=setGal st g)/\∃r,c.1=some r/\Fin a b r
  | .yield c=>c.1=none/\(∃g,ag=setGal st g)/\OnH a b c.2.2.2.1 c.2.1 c.2.2.1 (n0+1)) (setGal st g):=by
 have h1:=o.a1;have h2:=o.a2;unfold outH;dsimp only;refine k_ (Lr (Ll (I:=λx c ag=>(∃g,ag=setGal st g)/\c.1=none/\OnH a b c.2.2.2.1 c.2.1 c.2.2.1 (n0+x)) (Q:=Q1 a b st (n0+1)) ?_ ?_ ⟨⟨g,rfl⟩,rfl,o⟩) ?_)
 ·rintro x ⟨r,i1,j1,o1,c1,d1⟩ ag - hx ⟨⟨g,rfl⟩,h1,h2⟩;dsimp only at h1 h2;subst h1;refine Lr (Cf hk T h2) λr ag q=>?_
  cases r with
  | done c =>
   refine⟨q.1,?_⟩
   rcases q.2 with q | q
   ·exact .inl q
   ·exact .inr ⟨q.1,q.2.less (by omega)⟩
  | yield c =>
   obtain⟨q0,q1,q2⟩:=q;refine⟨q1,q0,?_⟩
   rcases q2 with⟨r,q2,_⟩ | ⟨_,q2⟩
   ·rw[q0] at q2;cases q2
   ·exact q2
 ·rintro⟨r,i1,j1,o1,c1,d1⟩ ag ⟨h0,h1,h2⟩;exact⟨h0,.inr ⟨h1,h2.less (by omega)⟩⟩
 ·rintro⟨r,i1,j1,o1,c1,d1⟩ ag ⟨⟨g,rfl⟩,h2⟩
  rcases h2 with⟨r',e,h2⟩ | ⟨e,h2⟩
  ·dsimp only at e;subst e;exact s_ ⟨⟨g,rfl⟩,r',rfl,h2⟩
  ·dsimp only at e h2;subst e;dsimp only;refine k_ (Pe (LM ⟨rfl,?_⟩));refine k_ (Lr (Ll (I:=λx c ag=>(∃g,ag=setGal st g)/\c.1=none/\OnH a b c.2.2.2.1 c.2.1 c.2.2.1 (n0+1)) (Q:=Q2 a b st (n0+1)) ?_ ?_ ⟨⟨g,rfl⟩,rfl,h2⟩) ?_)
   ·rintro x ⟨r,i2,j2,o2,m2,c2,d2⟩ ag - hx ⟨⟨g,rfl⟩,h1,h2⟩;dsimp only at h1 h2;subst h1;unfold twoH;dsimp only;split
    all_goals
     refine Lr (GM hk T h2) λr ag q=>?_
     cases r with
     | done c=>exact q
     | yield c =>
      obtain⟨q0,q1,q2⟩:=q;refine⟨q1,q0,?_⟩
      rcases q2 with⟨r,q2,_⟩ | ⟨_,q2⟩
      ·rw[q0] at q2;cases q2
      ·exact q2
   ·rintro⟨r,i2,j2,o2,m2,c2,d2⟩ ag ⟨h0,h1,h2⟩;exact⟨h0,.inr ⟨h1,h2⟩⟩
   ·rintro⟨r,i2,j2,o2,m2,c2,d2⟩ ag ⟨⟨g,rfl⟩,h2⟩
    rcases h2 with⟨r',e,h2⟩ | ⟨e,h2⟩
    ·dsimp only at e;subst e;exact s_ ⟨⟨g,rfl⟩,r',rfl,h2⟩
    ·dsimp only at e h2;subst e;dsimp only;unfold setG;exact k_ (MQ (s_ ⟨rfl,⟨m2+1,rfl⟩,h2⟩))
theorem HV{Q:Array o_->H_->Prop}(hk:kindOf st=LO)(T:TwoH a b)(na:1<=a.size)(nb:1<=b.size)(last:Le b.toList (a.toList.drop (a.size - 1)))(h:∀r g,Fin a b r->Q r (setGal st g)):
  wpS (n_ prog w) A E s (mergeHi' a b) Q st:=by
 obtain⟨x,ex,kx⟩:=pO (xs:=a) (i:=a.size - 1) (by omega);have m0:HO a b #[] a.size b.size:=⟨by simp,Mf.nil,λx hx y hy=>(by cases hy),λx hx y hy=>(by cases hy)⟩
 have m1:HO a b #[x] (a.size - 1) b.size:=HI.pa T m0 na (B_ _) ex λi h1 h2=>by
  obtain⟨y,ey,ky⟩:=pO h2;rw[ky];refine last y ?_ x ?_
  ·rw[←K4] at ey;exact LB ey
  ·rw[(qg ex).1];exact g_
 rw[GH];refine k_ (Pe (LM ⟨rfl,?_⟩));refine k_ (pM ex ?_);by_cases e1:a.size - 1=0
 ·rw[if_pos (by simpa using e1)];exact s_ (h _ (OE st) (T.fin1 m1 (.inl e1)))
 ·rw[if_neg (by simpa using e1)];by_cases e2:b.size=1
  ·rw[if_pos (by simpa using e2)];exact s_ (h _ (OE st) (T.fin2 m1 e2))
  ·rw[if_neg (by simpa using e2)];have o1:OnH a b #[x] (a.size - 1) b.size 1:=⟨m1,by omega,by omega,by omega,by omega,by omega⟩;refine k_ (Op ?_);refine k_ (Lr (Ll (I:=λx c ag=>(∃g,ag=setGal st g)/\c.1=none/\OnH a b c.2.2.2.1 c.2.1 c.2.2.1 (x+1)) (Q:=λc ag=>(∃g,ag=setGal st g)/\∃r,c.1=some r/\Fin a b r) ?_ ?_ ⟨⟨OE st,rfl⟩,rfl,o1⟩) ?_)
   ·rintro x ⟨r,i1,j1,o1,m1⟩ ag - hx ⟨⟨g,rfl⟩,h1,h2⟩;dsimp only at h1 h2;subst h1;refine Lr (DI hk T h2) λr ag q=>?_
    cases r with
    | done c=>exact q
    | yield c=>exact⟨q.2.1,q.1,q.2.2⟩
   ·rintro⟨r,i1,j1,o1,m1⟩ ag ⟨h0,h1,h2⟩;have:=h2.a1;have:=h2.b1;have:=h2.hn;dsimp only at *;omega
   ·rintro⟨r,i1,j1,o1,m1⟩ ag ⟨⟨g,rfl⟩,r',e,h2⟩;dsimp only at e;subst e;exact s_ (h r' g h2)
end
noncomputable def layIn(xs:Array o_)(at_:Nat)(m:List o_):Array o_:=m.zipIdx.foldl (λa (p:o_×Nat)=>a.setIfInBounds (at_+p.2) p.1) xs
theorem xS(at_:Nat):∀(m:List o_) (n:Nat) (xs:Array o_),at_+n+m.length<=xs.size->((m.zipIdx n).foldl (λa (p:o_×Nat)=>a.setIfInBounds (at_+p.2) p.1) xs).toList=xs.toList.take (at_+n)++m++xs.toList.drop (at_+n+m.length)
 | [],n,xs,_=>by simp
 | x::m,n,xs,h=>by
  rw[Lc] at h;rw[O',Mk,xS at_ m (n+1) _ (by simp;omega)];dsimp only;rw[OF];have hl:at_+n < xs.toList.length:=by simp;omega
  rw[List.set_eq_take_append_cons_drop,if_pos hl]
  have e1:(xs.toList.take (at_+n)++x::xs.toList.drop (at_+n+1)).take (at_+(n+1))=xs.toList.take (at_+n)++[x]:=by
   rw[Qg,M'];have:(List.take (at_+n) xs.toList).length=at_+n:=by rw[K7];omega
   rw[this,show at_+(n+1) - (at_+n)=1 by omega,Pf (by omega)];rfl
  have e2:(xs.toList.take (at_+n)++x::xs.toList.drop (at_+n+1)).drop (at_+(n+1)+m.length)=xs.toList.drop (at_+n+(m.length+1)):=by
   have:(List.take (at_+n) xs.toList).length=at_+n:=by rw[K7];omega
   rw[Pg,this,LN (by rw[this];omega),Pw,show at_+(n+1)+m.length - (at_+n)=m.length+1 by omega,M2,Ot]
   congr 1
   omega
  rw[e1,e2];simp
theorem FX{xs:Array o_}{m:List o_}(h:at_+m.length<=xs.size):(layIn xs at_ m).toList=xs.toList.take at_++m++xs.toList.drop (at_+m.length):=xS at_ m 0 xs h
theorem FK(i:Nat):Ru i=(do
 let st ←get
 match (r_ st)[i]?,(r_ st)[i+1]? with
 | some u,some v=>do
  set (QX st (((r_ st).setIfInBounds i (u.1,u.2.1+v.2.1,u.2.2)).eraseIdxIfInBounds (i+1)))
  let y ←Nh (p_ st) v.1
  match ←gallop' false y (p_ st) u.1 u.2.1 0 with
  | some k =>
   if(u.2.1 - k == 0)=true then pure true else do
   let x ←Nh (p_ st) (u.1+k+(u.2.1 - k) - 1)
   match ←gallop' true x (p_ st) v.1 v.2.1 (v.2.1 - 1) with
   | some m =>
    if(m == 0)=true then pure true else do
    let r ←if u.2.1 - k<=m then mergeLo' ((p_ st).extract (u.1+k) v.1) ((p_ st).extract v.1 (v.1+m)) else mergeHi' ((p_ st).extract (u.1+k) v.1) ((p_ st).extract v.1 (v.1+m))
    modify λag=>Sd ag (layIn (p_ ag) (u.1+k) r.toList)
    let ag ←get
    pure (NY ag).isNone
   | _=>pure false
  | _=>pure false
 | _,_=>RK "internal:list.sort.pending"):=by kernel_rfl
structure SB(a₀:Array o_)(st:H_):Prop where
 perm:(p_ st).toList.Perm a₀.toList
 kind:kindOf st=LO
 failed:NY st=none
theorem AllI.mem{xs:Array o_}(h:AllI xs){x:o_}(hx:x∈xs.toList):IsI x:=by
 obtain⟨i,hi,e⟩:=Ob.mp hx;exact h i x (by rw[←K4,i_ hi,e])
theorem AllI.of{xs:Array o_}(h:∀x∈xs.toList,IsI x):AllI xs:=λi x e=>by
 rw[←K4] at e;exact h x (LB e)
section
variable{prog:z_}{w:I_}{E:b_->d_->Prop}{s:d_}{st:H_}{a₀:Array o_}
theorem SB.ints(B:SB a₀ st)(h0:AllI a₀):AllI (p_ st):=AllI.of λx hx=>h0.mem (B.perm.mem_iff.mp hx)
theorem SB.size(B:SB a₀ st):(p_ st).size=a₀.size:=by simpa using B.perm.length_eq
def Run(l:List o_)(i j:Nat):Prop:=SL ((l.take j).drop i)
theorem Run.K{xs:Array o_}{i j:Nat}(h:Run xs.toList i j)(hj:j<=xs.size){p q:Nat}(h1:i<=p)(h2:p<=q)(h3:q < j):K xs p<=K xs q:=by
 rw[Run,←rz] at h;have sz:(xs.extract i j).size=j - i:=by simp;omega
 have:=qM h (i:=p - i) (j:=q - i) (by omega) (by omega)
 have g:∀r,i<=r->r < j->TS.kN=TS.kN->NF (xs.extract i j) (r - i)=NF xs r:=λr r1 r2 _=>by
  refine K_congr ?_;rw[M6];rw[if_pos (by omega),show i+(r - i)=r by omega]
 rw[g p h1 (by omega) rfl,g q (by omega) h3 rfl] at this;exact this
theorem Run.of{xs:Array o_}{i:Nat}(hj:j<=xs.size)(h:∀p q,i<=p->p<=q->q < j->NF xs p<=NF xs q):Run xs.toList i j:=by
 unfold Run SL;rw[Mx];intro p q hp hq fE;rw[L3,K7,Ky] at hp hq
 have g:∀r (hr:r < ((xs.toList.take j).drop i).length),kN ((xs.toList.take j).drop i)[r]=NF xs (i+r):=λr hr=>by
  rw[L3,K7,Ky] at hr;refine(rM ?_).symm;rw[←K4,PH,OR];exact i_ _
 rw[g,g];exact h _ _ (by omega) (by omega) (by omega)
theorem Run.app{l:List o_}{i k:Nat}(h1:i<=j)(h2:j<=k)(h3:k<=l.length)(a:Run l i j)(b:Run l j k)(c:Le ((l.take j).drop i) ((l.take k).drop j)):Run l i k:=by
 unfold Run at *
 have:(l.take k).drop i=(l.take j).drop i++(l.take k).drop j:=by
  have:=v4 (l:=l.take k) (j:=i) (n:=j) h1 (by rw[K7];omega);rw[M',L5 h2] at this;exact this.symm
 rw[this];exact a.app b c
theorem Ee{i sa sb pw pw':Nat}{Q:Bool->H_->Prop}(B:SB a₀ st)(h0:AllI a₀)(p1:(r_ st)[i]?=some (sa,na,pw))(p2:(r_ st)[i+1]?=some (sb,nb,pw'))(e:sb=sa+na)(ha:1<=na)(hb:1<=nb)(hs:sb+nb<=a₀.size)(r1:Run (p_ st).toList sa sb)(r2:Run (p_ st).toList sb (sb+nb))(h:∀ag,SB a₀ ag->r_ ag=((r_ st).setIfInBounds i (sa,na+nb,pw)).eraseIdxIfInBounds (i+1)->(p_ ag).toList.take sa=(p_ st).toList.take sa->(p_ ag).toList.drop (sb+nb)=(p_ st).toList.drop (sb+nb)->Run (p_ ag).toList sa (sb+nb)->Q true ag):
  wpS (n_ prog w) A E s (Ru i) Q st:=by
 have ai:=B.ints h0;have sz:=B.size;have z2:sb+nb<=(p_ st).size:=by rw[sz];exact hs
 have z1:sb<=(p_ st).size:=LL (K6 sb nb) z2;rw[FK];refine k_ (Op ?_);rw[p1,p2];dsimp only;obtain⟨bD,e1⟩:∃bD,bD=QX st (((r_ st).setIfInBounds i (sa,na+nb,pw)).eraseIdxIfInBounds (i+1)):=⟨_,rfl⟩;have B1:SB a₀ bD:=by rw[e1];exact⟨B.perm,B.kind,B.failed⟩
 have ix:p_ bD=p_ st:=by rw[e1]
 have lH:r_ bD=((r_ st).setIfInBounds i (sa,na+nb,pw)).eraseIdxIfInBounds (i+1):=by rw[e1]
 have bt:Le (((p_ st).toList.take sb).drop sa) (((p_ st).toList.take (sb+nb)).drop sb)->Q true bD:=λc=>by
  refine h bD B1 lH (by rw[ix]) (by rw[ix]) ?_;rw[ix];exact Run.app (by rw[e];exact K6 sa na) (K6 sb nb) (by rw[Ky];exact z2) r1 r2 c
 refine k_ (m:=set _) (show wpS _ _ _ _ (modify λ_=>_) _ _ from MQ ?_);rw[←e1];obtain⟨y,ey,ky⟩:=pO (xs:=p_ st) (i:=sb) (J_ (Nat.lt_add_of_pos_right hb) z2);refine k_ (pM ey ?_);refine k_ (rQ B1.kind ai (ai _ _ ey) (by omega) (by omega) (λi j h1 h2 h3=>?_) λk eu cq cz=>?_)
 ·simp only[Bey,LK,if_false,Mw,decide_eq_false_iff_not] at h3 ⊢;have:=r1.K z1 (p:=sa+i) (q:=sa+j) (K6 sa i) (by omega) (by omega);omega
 simp only[Bey,LK,if_false,Mw,O2,decide_eq_true_eq,decide_eq_false_iff_not] at cq cz;have ly:∀q,sb<=q->q < sb+nb->kN y<=K (p_ st) q:=λq q1 q2=>by rw[←ky];exact r2.K z2 (B_ _) q1 q2
 dsimp only;by_cases k0:na - k=0
 ·rw[if_pos (by simpa using k0)];refine s_ (bt λz hz v hv=>?_);obtain⟨j,j1,j2,j3,j4⟩:=ql hz;obtain⟨i,i1,i2,i3,i4⟩:=ql hv;have:=cq (j - sa) (by omega);rw[Ni j1] at this;have:=ly i i1 i2;omega
 rw[if_neg (by simpa using k0)];obtain⟨x,ex,kx⟩:=pO (xs:=p_ st) (i:=sa+k+(na - k) - 1) (by omega);have lx:∀p,sa<=p->p < sb->K (p_ st) p<=kN x:=λp q1 q2=>by rw[←kx];exact r1.K z1 q1 (by omega) (by omega)
 refine k_ (pM ex ?_);refine k_ (rQ B1.kind ai (ai _ _ ex) (by omega) (by omega) (λi j h1 h2 h3=>?_) λm gj cy jW=>?_)
 ·simp only[Bey,if_true,decide_eq_true_eq] at h3 ⊢;have:=r2.K z2 (p:=sb+i) (q:=sb+j) (K6 sb i) (by omega) (by omega);omega
 simp only[Bey,if_true,decide_eq_true_eq,decide_eq_false_iff_not] at cy jW;dsimp only;by_cases m0:m=0
 ·rw[if_pos (by simpa using m0)];refine s_ (bt λz hz v hv=>?_);obtain⟨j,j1,j2,j3,j4⟩:=ql hz;obtain⟨i,i1,i2,i3,i4⟩:=ql hv;have:=jW (i - sb) (by omega) (by omega);rw[Ni i1] at this;have:=lx j j1 j2;omega
 rw[if_neg (by simpa using m0)];obtain⟨X,eX⟩:∃X,X=(p_ st).extract (sa+k) sb:=⟨_,rfl⟩;obtain⟨Y,eY⟩:∃Y,Y=(p_ st).extract sb (sb+m):=⟨_,rfl⟩;rw[←eX,←eY];have tX:X.toList=((p_ st).toList.take sb).drop (sa+k):=by rw[eX,rz]
 have tY:Y.toList=((p_ st).toList.take (sb+m)).drop sb:=by rw[eY,rz]
 have zX:X.size=sb - (sa+k):=by rw[eX];simp;omega
 have zY:Y.size=m:=by rw[eY];simp;omega
 have sX:SL X.toList:=by
  rw[tX,←Ot];exact SL.drop r1 k
 have sY:SL Y.toList:=by
  rw[tY];have:=SL.take r2 m;rw[Ou] at this ⊢;rw[M'] at this;rw[Nq,L5 gj] at this;rw[Nq];exact this
 have iX:AllI X:=AllI.of λz hz=>ai.mem (by rw[tX] at hz;exact Lo (Lv hz))
 have iY:AllI Y:=AllI.of λz hz=>ai.mem (by rw[tY] at hz;exact Lo (Lv hz))
 have first:Le (Y.toList.take 1) X.toList:=λz hz v hv=>by
  have e0:(Y.toList.take 1)=[y]:=by
   rw[tY,←rz,←O7 (l:=(Array.extract _ _ _).toList)];refine(qg ?_).2;rw[M6,if_pos (by omega)];exact ey
  rw[e0,A_] at hz;subst hz;rw[tX] at hv;obtain⟨j,j1,j2,j3,j4⟩:=ql hv;have:=cz (j - sa) (by omega) (by omega);rw[Ni (LL (K6 sa k) j1)] at this;omega
 have last:Le Y.toList (X.toList.drop (X.size - 1)):=λz hz v hv=>by
  have e0:X[X.size - 1]?=some x:=by
   rw[eX,M6,if_pos (by simp;omega),←ex]
   congr 1
   simp;omega
  rw[(qg e0).1,LN (by simp;omega),A_] at hv;subst hv;rw[tY] at hz;obtain⟨j,j1,j2,j3,j4⟩:=ql hz;have:=cy (j - sb) (by omega);rw[Ni j1] at this;omega
 have fin:∀r g,Fin X Y r->wpS (n_ prog w) A E s (do
   modify λag=>Sd ag (layIn (p_ ag) (sa+k) r.toList)
   let ag ←get
   pure (NY ag).isNone) Q (setGal bD g):=λr g ⟨f1,f2⟩=>by
  have lr:r.toList.length=sb - (sa+k)+m:=by rw[f2.length_eq];simp[zX,zY]
  have lo:=FX (xs:=p_ st) (at_:=sa+k) (m:=r.toList) (by omega);rw[lr,show sa+k+(sb - (sa+k)+m)=sb+m by omega] at lo;obtain⟨L,eL⟩:∃L,L=(p_ st).toList:=⟨_,rfl⟩;have ll:L.length=a₀.size:=by rw[eL];simp[sz]
  rw[←eL] at lo tX tY r1 r2;have tl:(L.take (sa+k)).length=sa+k:=by rw[K7];omega
  refine k_ (MQ (k_ (Op ?_)));show wpS _ _ _ _ (pure (NY bD).isNone) _ _;rw[B1.failed];refine s_ ?_
  have iy:p_ (Sd (setGal bD g) (layIn (p_ (setGal bD g)) (sa+k) r.toList))=layIn (p_ st) (sa+k) r.toList:=by
   show layIn (p_ bD) (sa+k) r.toList=_;rw[ix]
  refine h _ ⟨?_,B1.kind,B1.failed⟩ lH ?_ ?_ ?_
  ·rw[iy,lo];have p3:(L.take (sa+k)++r.toList++L.drop (sb+m)).Perm (L.take (sa+k)++(X.toList++Y.toList)++L.drop (sb+m)):=(f2.append_left _).append_right _;refine p3.trans ?_
   have:L.take (sa+k)++(X.toList++Y.toList)++L.drop (sb+m)=L:=by
    rw[tX,tY];have c1:=v4 (l:=L.take (sb+m)) (j:=sa+k) (n:=sb) (by omega) (by rw[K7];omega);rw[M',L5 (K6 sb m)] at c1;rw[c1];have c2:=Li (sa+k) (L.take (sb+m));rw[M',show min (sa+k) (sb+m)=sa+k by omega] at c2;rw[c2,Li]
   rw[this,eL];exact B.perm
  ·rw[iy,lo,LC,Qg,M',tl,Nat.sub_eq_zero_of_le (K6 sa k),take_zero,LD,L5 (K6 sa k),eL]
  ·rw[iy,lo,Pg,LN (by rw[KJ,tl,lr];omega),Pw,Ot,KJ,tl,lr,eL]
   congr 1
   omega
  ·rw[iy,lo];unfold Run
   have e4:(L.drop (sb+m)).take (sb+nb - (sa+k) - (sb - (sa+k)+m))=(L.take (sb+nb)).drop (sb+m):=by
    rw[Ou]
    congr 1
    omega
   have e3:(List.drop sa (List.take (sb+nb) (L.take (sa+k)++r.toList++L.drop (sb+m))))=(L.take (sa+k)).drop sa++(r.toList++(L.take (sb+nb)).drop (sb+m)):=by
    rw[LC,Qg,Qg,K3 (by rw[tl];omega),tl,K3 (l:=r.toList) (by omega),lr,e4,MO (by rw[tl];omega)]
   rw[e3]
   have A1:SL ((L.take (sa+k)).drop sa):=by
    have:=SL.take r1 k;rw[Ou] at this ⊢;rw[M'] at this;rw[show min k (sb - sa)=k by omega] at this;rw[Nq];exact this
   have B2:SL ((L.take (sb+nb)).drop (sb+m)):=by
    rw[←Ot];exact SL.drop r2 m
   have jg:∀z∈r.toList,(∃j,sa+k<=j/\j < sb/\kN z=K (p_ st) j)\/∃j,sb<=j/\j < sb+m/\kN z=K (p_ st) j:=λz hz=>by
    rcases Lg.mp (f2.mem_iff.mp hz) with q | q
    ·rw[tX,eL] at q;obtain⟨j,j1,j2,j3,j4⟩:=ql q;exact .inl ⟨j,j1,j2,j4⟩
    ·rw[tY,eL] at q;obtain⟨j,j1,j2,j3,j4⟩:=ql q;exact .inr ⟨j,j1,j2,j4⟩
   have lI:=r1;have lJ:=r2;rw[eL] at lI lJ;refine A1.app (SL.app f1 B2 λz hz v hv=>?_) λz hz v hv=>?_
   ·rw[eL] at hv;obtain⟨i,i1,i2,i3,i4⟩:=ql hv;have g1:=jW (i - sb) (by omega) (by omega);rw[Ni (LL (K6 sb m) i1)] at g1
    rcases jg z hz with⟨j,j1,j2,j3⟩ | ⟨j,j1,j2,j3⟩
    ·have:=lx j (by omega) j2;omega
    ·have:=lJ.K z2 (p:=j) (q:=i) j1 (by omega) i2;omega
   ·rw[eL] at hz;obtain⟨i,i1,i2,i3,i4⟩:=ql hz;have g1:=cq (i - sa) (by omega);rw[Ni i1] at g1
    rcases Lg.mp hv with hv | hv
    ·rcases jg v hv with⟨j,j1,j2,j3⟩ | ⟨j,j1,j2,j3⟩
     ·have:=lI.K z1 (p:=i) (q:=j) i1 (by omega) j2;omega
     ·have:=ly j j1 (by omega);omega
    ·rw[eL] at hv;obtain⟨j,j1,j2,j3,j4⟩:=ql hv;have:=ly j (by omega) j2;omega
 by_cases le:na - k<=m
 ·rw[if_pos le];exact k_ (ID B1.kind ⟨iX,iY,sX,sY,last⟩ (by omega) (by omega) first fin)
 ·rw[if_neg le];exact k_ (HV B1.kind ⟨iX,iY,sX,sY,first⟩ (by omega) (by omega) last fin)
end
abbrev A2:=Option (Option Nat)×Nat
abbrev A3:=Option (Option Nat)×Nat×Nat
noncomputable def upB(lo:Nat)(_:Nat)(c:A2):StateT H_ Sem (ForInStep A2):=do
 match ←ltAt' (lo+c.2) (lo+c.2 - 1) with
 | some q=>if q then pure (.done (none,c.2)) else pure (.yield (none,c.2+1))
 | _=>pure (.done (some none,c.2))
noncomputable def dnB(lo:Nat)(_:Nat)(c:A3):StateT H_ Sem (ForInStep A3):=do
 match ←ltAt' (lo+c.2.1) (lo+c.2.1 - 1) with
 | some q =>
  if q then
   if c.2.2 > 0 then do
    NV (lo+c.2.1 - (c.2.2+1)) (lo+c.2.1)
    pure (.yield (none,c.2.1+1,0))
   else pure (.yield (none,c.2.1+1,0))
  else do
   match ←ltAt' (lo+c.2.1 - 1) (lo+c.2.1) with
   | some q=>if q then pure (.done (none,c.2.1,c.2.2)) else pure (.yield (none,c.2.1+1,c.2.2+1))
   | _=>pure (.done (some none,c.2.1,c.2.2))
 | _=>pure (.done (some none,c.2.1,c.2.2))
noncomputable def upL(lo m n:Nat):StateT H_ Sem (Option Nat):=do
 let c ←forIn [n:m] ((none,n):A2) (upB lo)
 match c.1 with
 | some r=>pure r
 | none=>pure (some c.2)
noncomputable def endL(lo m n:Nat):StateT H_ Sem (Option Nat):=do
 NV lo (lo+n)
 upL lo m n
noncomputable def dnL(lo m n:Nat):StateT H_ Sem (Option Nat):=do
 Q8 "list.sort.descending-run"
 let c ←forIn [n+1:m] ((none,n+1,0):A3) (dnB lo)
 match c.1 with
 | some r=>pure r
 | none =>
  if c.2.2 > 0 then do
   NV (lo+c.2.1 - (c.2.2+1)) (lo+c.2.1)
   endL lo m c.2.1
  else endL lo m c.2.1
theorem A0(lo m:Nat):countRun' lo m=(do
 let c ←forIn [1:m] ((none,1):A2) (upB lo)
 match c.1 with
 | some r=>pure r
 | none =>
  if(c.2 == m)=true then pure (some c.2)
  else if c.2 > 1 then do
   match ←ltAt' lo (lo+c.2 - 1) with
   | some q=>if q then pure (some c.2) else do
    NV lo (lo+c.2)
    dnL lo m c.2
   | _=>pure none
  else dnL lo m c.2):=by kernel_rfl
section
variable{prog:z_}{w:I_}{E:b_->d_->Prop}{s:d_}{st bK:H_}{a₀:Array o_}{lo:Nat}
structure Kp(a₀:Array o_)(bK:H_)(lo:Nat)(st:H_):Prop where
 sb:SB a₀ st
 pe:r_ st=r_ bK
 lw:∀k,k < lo->(p_ st)[k]?=(p_ bK)[k]?
theorem sQ{i:Nat}{Q:Option Bool->H_->Prop}(h0:AllI a₀)(B:SB a₀ st)(hi:i < a₀.size)(hj:j < a₀.size)(h:Q (some (decide (K (p_ st) i < K (p_ st) j))) st):wpS (n_ prog w) A E s (ltAt' i j) Q st:=by
 have sz:=B.size;obtain⟨x,ex,kx⟩:=pO (xs:=p_ st) (i:=i) (by omega);obtain⟨y,ey,ky⟩:=pO (xs:=p_ st) (i:=j) (by omega);rw[kx,ky] at h;rw[ltAt'_eq];refine k_ (Op ?_);refine k_ (pM ex (k_ (pM ey ?_)));exact sj B.kind (B.ints h0 _ _ ex) (B.ints h0 _ _ ey) h
theorem Kp.set(k:Kp a₀ bK lo st){xs:Array o_}(p:xs.toList.Perm (p_ st).toList)(l:∀i,i < lo->xs[i]?=(p_ st)[i]?):Kp a₀ bK lo (Sd st xs):=⟨⟨p.trans k.sb.perm,k.sb.kind,k.sb.failed⟩,k.pe,λi hi=>(l i hi).trans (k.lw i hi)⟩
theorem Kp.rev(k:Kp a₀ bK lo st){i:Nat}(hi:lo<=i)(hj:j<=a₀.size):Kp a₀ bK lo (Sd st (PJ (p_ st) i j ((j - i) / 2))):=by
 refine k.set (Ld.mp (mirror_perm _ _ _ _)) λr hr=>?_
 rw[Qs (by rw[k.sb.size];exact hj),if_neg (by omega)]
theorem tQ{i:Nat}{Q:Unit->H_->Prop}(h:Q () (Sd st (PJ (p_ st) i j ((j - i) / 2)))):wpS (n_ prog w) A E s (NV i j) Q st:=by
 rw[reverseSlice'_eq];exact MQ h
def Up(xs:Array o_)(lo n:Nat):Prop:=∀i j,i<=j->j < n->K xs (lo+i)<=K xs (lo+j)
def Dn(xs:Array o_)(lo n:Nat):Prop:=∀i j,i<=j->j < n->K xs (lo+j)<=K xs (lo+i)
theorem zu{Q:A2->H_->Prop}(h0:AllI a₀)(hm:lo+m<=a₀.size)(h1:1<=n)(hn:n<=m)(B:SB a₀ st)(u:Up (p_ st) lo n)(h:∀k,n<=k->k<=m->Up (p_ st) lo k->(k < m->K (p_ st) (lo+k) < K (p_ st) (lo+k - 1))->Q (none,k) st):wpS (n_ prog w) A E s (forIn [n:m] ((none,n):A2) (upB lo)) Q st:=by
 refine Lr (Ll (I:=λx c ag=>ag=st/\c=(none,x)/\Up (p_ st) lo x) (Q:=λc ag=>ag=st/\∃k,c=(none,k)/\n<=k/\k<=m/\Up (p_ st) lo k/\(k < m->K (p_ st) (lo+k) < K (p_ st) (lo+k - 1))) ?_ ?_ ⟨rfl,rfl,u⟩) ?_
 ·rintro x c ag gO iz ⟨rfl,rfl,u⟩;unfold upB;dsimp only;refine k_ (sQ h0 B (by omega) (by omega) ?_);dsimp only;by_cases l:K (p_ ag) (lo+x) < K (p_ ag) (lo+x - 1)
  ·rw[if_pos (by simpa using l)];exact s_ ⟨rfl,x,rfl,gO,by omega,u,λ_=>l⟩
  ·rw[if_neg (by simpa using l)];refine s_ ⟨rfl,rfl,λi j bu hj=>?_⟩;by_cases e:j=x
   ·subst e;by_cases e2:i=j
    ·subst e2;exact KN _
    ·have:=u i (j - 1) (by omega) (by omega);rw[show lo+(j - 1)=lo+j - 1 by omega] at this;omega
   ·exact u i j bu (by omega)
 ·rintro c ag ⟨rfl,rfl,u⟩;rw[Nat.max_eq_right hn] at u ⊢;exact⟨rfl,m,rfl,hn,B_ _,u,λz=>by omega⟩
 ·rintro c ag ⟨rfl,k,rfl,k1,k2,k3,k4⟩;exact h k k1 k2 k3 k4
theorem FF{Q:Option Nat->H_->Prop}(h0:AllI a₀)(hm:lo+m<=a₀.size)(h1:1<=n)(hn:n<=m)(B:SB a₀ st)(u:Up (p_ st) lo n)(h:∀k,n<=k->k<=m->Up (p_ st) lo k->Q (some k) st):wpS (n_ prog w) A E s (upL lo m n) Q st:=by
 unfold upL;exact k_ (zu h0 hm h1 hn B u λk k1 k2 k3 _=>s_ (h k k1 k2 k3))
theorem AE{Q:Option Nat->H_->Prop}(h0:AllI a₀)(hm:lo+m<=a₀.size)(h1:1<=n)(hn:n<=m)(kp:Kp a₀ bK lo st)(d:Dn (p_ st) lo n)(h:∀k ag,1<=k->k<=m->Kp a₀ bK lo ag->Up (p_ ag) lo k->Q (some k) ag):wpS (n_ prog w) A E s (endL lo m n) Q st:=by
 unfold endL;refine k_ (tQ ?_);have lK:=kp.rev (i:=lo) (j:=lo+n) (B_ _) (by omega);have sz:=kp.sb.size;refine FF h0 hm h1 hn lK.sb (λi j bu hj=>?_) λk k1 k2 k3=>h k _ (by omega) k2 lK k3
 show K (PJ (p_ st) lo (lo+n) ((lo+n - lo) / 2)) _<=K (PJ (p_ st) lo (lo+n) ((lo+n - lo) / 2)) _;rw[K_mirror (by omega),K_mirror (by omega),if_pos (by omega),if_pos (by omega)];have:=d (n - 1 - j) (n - 1 - i) (by omega) (by omega);rw[show lo+(n - 1 - j)=lo+(lo+n) - 1 - (lo+j) by omega,show lo+(n - 1 - i)=lo+(lo+n) - 1 - (lo+i) by omega] at this;exact this
theorem yu{Q:Option Nat->H_->Prop}(h0:AllI a₀)(hm:lo+m<=a₀.size)(hn:n+1<=m)(kp:Kp a₀ bK lo st)(d:Dn (p_ st) lo (n+1))(h:∀k ag,1<=k->k<=m->Kp a₀ bK lo ag->Up (p_ ag) lo k->Q (some k) ag):wpS (n_ prog w) A E s (dnL lo m n) Q st:=by
 unfold dnL;refine k_ (Pe (LM ⟨rfl,?_⟩))
 have lL:∀{st:H_}{x q:Nat},Kp a₀ bK lo st->lo+x<=a₀.size->q+1<=x->(∀i,x - (q+1)<=i->i < x->K (p_ st) (lo+i)=K (p_ st) (lo+x - 1))->∀r,K (PJ (p_ st) (lo+x - (q+1)) (lo+x) ((lo+x - (lo+x - (q+1))) / 2)) r=K (p_ st) r:=λ{st x q} kp hx hq hh r=>by
  have sz:=kp.sb.size;refine K_mirror_equal (by omega) (λr r1 r2=>?_) r;have:=hh (r - lo) (by omega) (by omega);rw[show lo+(r - lo)=r by omega] at this;exact this
 refine k_ (Lr (Ll (I:=λx c ag=>Kp a₀ bK lo ag/\∃q,c=(none,x,q)/\q+1<=x/\x<=m/\Dn (p_ ag) lo x/\∀i,x - (q+1)<=i->i < x->K (p_ ag) (lo+i)=K (p_ ag) (lo+x - 1))
  (Q:=λc ag=>Kp a₀ bK lo ag/\∃x q,c=(none,x,q)/\q+1<=x/\x<=m/\Dn (p_ ag) lo x/\∀i,x - (q+1)<=i->i < x->K (p_ ag) (lo+i)=K (p_ ag) (lo+x - 1)) ?_ ?_ ⟨kp,0,rfl,by omega,hn,d,λi i1 i2=>by congr 1;omega⟩) ?_)
 ·rintro x c ag gO iz ⟨kp,q,rfl,hq,fH,d,tl⟩;have xm:x < m:=by omega
  clear gO iz hn;unfold dnB;dsimp only;refine k_ (sQ h0 kp.sb (by omega) (by omega) ?_);dsimp only;by_cases l:K (p_ ag) (lo+x) < K (p_ ag) (lo+x - 1)
  ·rw[if_pos (by simpa using l)]
   have go:∀(bN:H_),Kp a₀ bK lo bN->(∀r,K (p_ bN) r=K (p_ ag) r)->Kp a₀ bK lo bN/\∃q',(((none,x+1,0):A3))=(none,x+1,q')/\q'+1<=x+1/\x+1<=m/\Dn (p_ bN) lo (x+1)/\∀i,x+1 - (q'+1)<=i->i < x+1->K (p_ bN) (lo+i)=K (p_ bN) (lo+(x+1) - 1):=λbN fI same=>by
    refine⟨fI,0,rfl,by omega,by omega,λi j bu hj=>?_,λi i1 i2=>by congr 1;omega⟩;rw[same,same];by_cases e:j=x
    ·subst e;by_cases e2:i=j
     ·subst e2;exact KN _
     ·have:=d i (j - 1) (by omega) (by omega);rw[show lo+(j - 1)=lo+j - 1 by omega] at this;omega
    ·exact d i j bu (by omega)
   by_cases q0:q > 0
   ·rw[if_pos q0];exact k_ (tQ (s_ (go _ (kp.rev (by omega) (by omega)) (lL kp (by omega) hq tl))))
   ·rw[if_neg q0];exact s_ (go _ kp λr=>rfl)
  ·rw[if_neg (by simpa using l)];refine k_ (sQ h0 kp.sb (by omega) (by omega) ?_);dsimp only;by_cases l2:K (p_ ag) (lo+x - 1) < K (p_ ag) (lo+x)
   ·rw[if_pos (by simpa using l2)];exact s_ ⟨kp,x,q,rfl,hq,fH,d,tl⟩
   ·rw[if_neg (by simpa using l2)];have e:K (p_ ag) (lo+x)=K (p_ ag) (lo+x - 1):=by omega
    refine s_ ⟨kp,q+1,rfl,by omega,by omega,λi j bu hj=>?_,λi i1 i2=>?_⟩
    ·by_cases e1:j=x
     ·subst e1;by_cases e2:i=j
      ·subst e2;exact KN _
      ·have:=d i (j - 1) (by omega) (by omega);rw[show lo+(j - 1)=lo+j - 1 by omega] at this;omega
     ·exact d i j bu (by omega)
    ·rw[show lo+(x+1) - 1=lo+x by omega];by_cases e1:i=x
     ·subst e1;rfl
     ·rw[e];exact tl i (by omega) (by omega)
 ·rintro c ag ⟨kp,q,rfl,hq,fH,d,tl⟩;exact⟨kp,_,q,rfl,hq,fH,d,tl⟩
 ·rintro c ag ⟨kp,x,q,rfl,hq,fH,d,tl⟩;dsimp only;by_cases q0:q > 0
  ·rw[if_pos q0];refine k_ (tQ ?_);have same:=lL kp (by omega) hq tl;refine AE h0 hm (by omega) fH (kp.rev (by omega) (by omega)) (λi j bu hj=>?_) h;show K (PJ (p_ ag) _ _ _) _<=K (PJ (p_ ag) _ _ _) _;rw[same,same];exact d i j bu hj
  ·rw[if_neg q0];exact AE h0 hm (by omega) fH kp d h
theorem v9{Q:Option Nat->H_->Prop}(h0:AllI a₀)(hm:lo+m<=a₀.size)(h1:1<=m)(B:SB a₀ st)(h:∀k ag,1<=k->k<=m->Kp a₀ st lo ag->Up (p_ ag) lo k->Q (some k) ag):wpS (n_ prog w) A E s (countRun' lo m) Q st:=by
 have kp:Kp a₀ st lo st:=⟨B,rfl,λ_ _=>rfl⟩;have sz:=B.size;rw[A0];refine k_ (zu h0 hm (B_ 1) h1 B (λi j bu hj=>by rw[show i=j by omega];exact KN _) λk k1 k2 k3 k4=>?_);dsimp only;by_cases e:k=m
 ·rw[if_pos (by simpa using e)];exact s_ (h k st k1 k2 kp k3)
 ·rw[if_neg (by simpa using e)];have k5:=k4 (by omega);by_cases e1:k > 1
  ·rw[if_pos e1];refine k_ (sQ h0 B (by omega) (by omega) ?_);dsimp only;by_cases l:K (p_ st) lo < K (p_ st) (lo+k - 1)
   ·rw[if_pos (by simpa using l)];exact s_ (h k st k1 k2 kp k3)
   ·rw[if_neg (by simpa using l)];refine k_ (tQ ?_)
    have all:∀i,i < k->K (p_ st) (lo+i)=K (p_ st) (lo+k - 1):=λi hi=>by
     have a1:=k3 0 i (by omega) hi;have a2:=k3 i (k - 1) (by omega) (by omega);rw[show lo+(k - 1)=lo+k - 1 by omega] at a2;rw[Nat.add_zero] at a1;omega
    have same:∀r,K (PJ (p_ st) lo (lo+k) ((lo+k - lo) / 2)) r=K (p_ st) r:=λr=>by
     refine K_mirror_equal (by omega) (λr r1 r2=>?_) r;have:=all (r - lo) (by omega);rw[show lo+(r - lo)=r by omega] at this;exact this
    refine yu h0 hm (by omega) (kp.rev (B_ _) (by omega)) (λi j bu hj=>?_) h;show K (PJ (p_ st) _ _ _) _<=K (PJ (p_ st) _ _ _) _;rw[same,same];by_cases ej:j=k
    ·subst ej;by_cases ei:i=j
     ·subst ei;exact KN _
     ·rw[all i (by omega)];omega
    ·rw[all i (by omega),all j (by omega)];exact KN _
  ·rw[if_neg e1];have:k=1:=by omega
   subst this;refine yu h0 hm (by omega) kp (λi j bu hj=>?_) h;by_cases ej:i=j
   ·subst ej;exact KN _
   ·have hi:i=0:=by omega
    have hj:j=1:=by omega
    subst hi hj;rw[show lo+1 - 1=lo+0 by omega] at k5;omega
theorem EW{k:Nat}{Q:Bool->H_->Prop}(h0:AllI a₀)(hm:lo+m<=a₀.size)(hk:k<=m)(kp:Kp a₀ bK lo st)(u:Up (p_ st) lo k)(h:∀ag,Kp a₀ bK lo ag->Up (p_ ag) lo m->Q true ag):wpS (n_ prog w) A E s (binarySort' lo m k) Q st:=by
 rw[binarySort'_eq];refine k_ (Lr (Ll (I:=λx c ag=>c=(none,())/\Kp a₀ bK lo ag/\Up (p_ ag) lo (min x m)) (Q:=λc ag=>c=(none,())/\Kp a₀ bK lo ag/\Up (p_ ag) lo m) ?_ ?_ ⟨rfl,kp,?_⟩) ?_)
 ·rintro x c ag gO iz ⟨rfl,kp,u⟩;have xm:x < m:=by omega
  rw[L5 (Nv xm)] at u;have sz:=kp.sb.size;have lx:lo+x < (p_ ag).size:=by omega
  have la:lo+x < a₀.size:=by omega
  clear gO iz hk hm sz
  refine k_ (Lr (Ll (I:=λy c aS=>aS=ag/\∃l r,c=(none,l,r)/\l<=r/\r<=x/\r - l<=x - y/\(∀i,i < l->K (p_ ag) (lo+i)<=K (p_ ag) (lo+x))/\∀i,r<=i->i < x->K (p_ ag) (lo+x) < K (p_ ag) (lo+i))
   (Q:=λc aS=>aS=ag/\∃l r,c=(none,l,r)/\l<=x/\(∀i,i < l->K (p_ ag) (lo+i)<=K (p_ ag) (lo+x))/\∀i,l<=i->i < x->K (p_ ag) (lo+x) < K (p_ ag) (lo+i)) ?_ ?_ ⟨rfl,0,x,rfl,by omega,by omega,by omega,λi hi=>by omega,λi i1 i2=>by omega⟩) ?_)
  ·rintro y c aS - hy ⟨rfl,l,r,rfl,h1,h2,h3,h4,h5⟩;dsimp only;by_cases ge:l>=r
   ·rw[if_pos ge];have:l=r:=by omega
    subst this;exact s_ ⟨rfl,l,l,rfl,h2,h4,h5⟩
   ·rw[if_neg ge];refine k_ (sQ h0 kp.sb (by omega) (by omega) ?_);dsimp only;by_cases less:K (p_ aS) (lo+x) < K (p_ aS) (lo+(l+r) / 2)
    ·rw[if_pos (by simpa using less)];refine s_ ⟨rfl,l,(l+r) / 2,rfl,by omega,by omega,by omega,h4,λi i1 i2=>?_⟩;have:=u ((l+r) / 2) i i1 (by omega);omega
    ·rw[if_neg (by simpa using less)];refine s_ ⟨rfl,(l+r) / 2+1,r,rfl,by omega,by omega,by omega,λi i1=>?_,h5⟩;have:=u i ((l+r) / 2) (by omega) (by omega);omega
  ·rintro c aS ⟨rfl,l,r,rfl,h1,h2,h3,h4,h5⟩;have:l=r:=by omega
   subst this;exact⟨rfl,l,l,rfl,h2,h4,h5⟩
  ·rintro c aS ⟨rfl,l,r,rfl,h1,h4,h5⟩;show wpS _ _ _ _ (do moveDown' (lo+x) (lo+l);pure (Nl (none,()))) _ _;rw[moveDown'_eq];refine k_ (MQ (s_ ⟨rfl,kp.set (Ld.mp (bubble_perm _ _ _)) (λi hi=>?_),?_⟩))
   ·rw[getElem?_bubble (by omega) _ (by omega),if_neg (by omega),if_neg (by omega)]
   ·rw[L5 (by omega)];intro i j bu hj;show K (bubble (p_ aS) (lo+x) (lo+x - (lo+l))) (lo+i)<=K (bubble (p_ aS) (lo+x) (lo+x - (lo+l))) (lo+j)
    have g:∀q,q < x+1->K (bubble (p_ aS) (lo+x) (lo+x - (lo+l))) (lo+q)=if q=l then K (p_ aS) (lo+x) else if l < q then K (p_ aS) (lo+(q - 1)) else K (p_ aS) (lo+q):=λq hq=>by
     rw[K_bubble (by omega) (by omega)];by_cases e1:q=l
     ·rw[if_pos (by omega),if_pos e1]
     ·rw[if_neg (by omega),if_neg e1];by_cases e2:l < q
      ·rw[if_pos (by omega),if_pos e2]
       congr 1
       omega
      ·rw[if_neg (by omega),if_neg e2]
    rw[g i (by omega),g j hj];by_cases i1:i=l<;>by_cases j1:j=l
    ·rw[if_pos i1,if_pos j1];exact KN _
    ·rw[if_pos i1,if_neg j1,if_pos (by omega)];exact Py (h5 _ (by omega) (by omega))
    ·rw[if_neg i1,if_pos j1,if_neg (by omega)];exact h4 _ (by omega)
    ·rw[if_neg i1,if_neg j1];by_cases i2:l < i<;>by_cases j2:l < j
     ·rw[if_pos i2,if_pos j2];exact u _ _ (by omega) (by omega)
     ·omega
     ·rw[if_neg i2,if_pos j2];exact u _ _ (by omega) (by omega)
     ·rw[if_neg i2,if_neg j2];exact u _ _ (by omega) (by omega)
 ·rintro c ag ⟨rfl,kp,u⟩;rw[show min (max (max k 1) m) m=m by omega] at u;exact⟨rfl,kp,u⟩
 ·intro i j bu hj;by_cases z:k=0
  ·rw[show i=j by omega];exact KN _
  ·exact u i j bu (by omega)
 ·rintro c ag ⟨rfl,kp,u⟩;exact s_ (h ag kp u)
end
abbrev Pd:=Nat×Nat×Nat
def Rs(L:List o_):Nat->List Pd->Nat->Prop
 | s,[],e=>s=e
 | s,r::rs,e=>r.1=s/\1<=r.2.1/\Run L s (s+r.2.1)/\Rs L (s+r.2.1) rs e
theorem Rs.le{L:List o_}:∀{rs:List Pd}{s e:Nat},Rs L s rs e->s+rs.length<=e
 | [],s,e,h=>by rw[Rs] at h;simp;omega
 | r::rs,s,e,h=>by
  obtain⟨_,h1,_,h2⟩:=h;have:=Rs.le h2;simp;omega
theorem Run.same{i e:Nat}(h:L'.take e=L.take e)(hj:j<=e)(r:Run L i j):Run L' i j:=by
 unfold Run at *;have t:∀l:List o_,l.take j=(l.take e).take j:=λl=>by rw[M',L5 hj]
 rw[t L',h,←t L];exact r
theorem Run.same'{i q:Nat}(h:L'.drop q=L.drop q)(hi:q<=i)(r:Run L i j):Run L' i j:=by
 unfold Run at *;rw[Ou] at r ⊢;have t:∀l:List o_,l.drop i=(l.drop q).drop (i - q):=λl=>by rw[Ot];congr 1;omega
 rw[t L',h,←t L];exact r
theorem Rs.same{L L':List o_}:∀{rs:List Pd}{s e:Nat},L'.take e=L.take e->Rs L s rs e->Rs L' s rs e
 | [],s,e,_,h=>h
 | r::rs,s,e,t,⟨h1,h2,h3,h4⟩=>⟨h1,h2,h3.same t (by have:=h4.le;omega),Rs.same t h4⟩
theorem Rs.same'{L L':List o_}{q:Nat}(t:L'.drop q=L.drop q):∀{rs:List Pd}{s e:Nat},q<=s->Rs L s rs e->Rs L' s rs e
 | [],s,e,_,h=>h
 | r::rs,s,e,hq,⟨h1,h2,h3,h4⟩=>⟨h1,h2,h3.same' t hq,Rs.same' t (by omega) h4⟩
theorem Rs.snoc{L:List o_}:∀{rs:List Pd}{s e n p:Nat},Rs L s rs e->1<=n->Run L e (e+n)->Rs L s (rs++[(e,n,p)]) (e+n)
 | [],s,e,n,p,h,h1,h2=>by
  rw[Rs] at h;subst h;exact⟨rfl,h1,h2,rfl⟩
 | r::rs,s,e,n,p,⟨a1,a2,a3,a4⟩,h1,h2=>⟨a1,a2,a3,Rs.snoc a4 h1 h2⟩
theorem Rs.at{L:List o_}{u v:Pd}{l2:List Pd}:∀{l1:List Pd}{s e:Nat},Rs L s (l1++u::v::l2) e->s<=u.1/\1<=u.2.1/\1<=v.2.1/\v.1=u.1+u.2.1/\v.1+v.2.1<=e/\Run L u.1 v.1/\Run L v.1 (v.1+v.2.1)
 | [],s,e,⟨a1,a2,a3,b1,b2,b3,b4⟩=>by
  have:=b4.le;subst a1;refine⟨B_ _,a2,b2,b1,by omega,?_,?_⟩
  ·rw[b1];exact a3
  ·rw[b1];exact b3
 | r::l1,s,e,⟨a1,a2,a3,a4⟩=>by
  have:=Rs.at a4;exact⟨by omega,this.2⟩
theorem Rs.join{L L':List o_}{u v:Pd}{l2:List Pd}(t:L'.take u.1=L.take u.1)(d:L'.drop (v.1+v.2.1)=L.drop (v.1+v.2.1))(r:Run L' u.1 (v.1+v.2.1)):∀{l1:List Pd}{s e:Nat},Rs L s (l1++u::v::l2) e->Rs L' s (l1++(u.1,u.2.1+v.2.1,u.2.2)::l2) e
 | [],s,e,⟨a1,a2,a3,b1,b2,b3,b4⟩=>by
  subst a1;have e1:u.1+(u.2.1+v.2.1)=v.1+v.2.1:=by omega
  refine⟨rfl,by show 1<=u.2.1+v.2.1;omega,?_,?_⟩
  ·show Run L' u.1 (u.1+(u.2.1+v.2.1));rw[e1];exact r
  ·show Rs L' (u.1+(u.2.1+v.2.1)) l2 e;rw[e1];refine Rs.same' d (B_ _) ?_;rw[b1];exact b4
 | q::l1,s,e,⟨a1,a2,a3,a4⟩=>by
  have:=(Rs.at a4).1;exact⟨a1,a2,a3.same t (by omega),Rs.join t d r a4⟩
theorem Rs.power{L:List o_}{u:Pd}{p:Nat}{l2:List Pd}:∀{l1:List Pd}{s e:Nat},Rs L s (l1++u::l2) e->Rs L s (l1++(u.1,u.2.1,p)::l2) e
 | [],s,e,⟨a1,a2,a3,a4⟩=>⟨a1,a2,a3,a4⟩
 | q::l1,s,e,⟨a1,a2,a3,a4⟩=>⟨a1,a2,a3,Rs.power a4⟩
theorem EX(l:List Pd)(v:Pd)(f:Pd->Pd):(l++[v]).modify l.length f=l++[f v]:=by
 induction l with
 | nil=>rfl
 | cons x l ih=>rw[Ph,Lc,List.modify_succ_cons,ih];rfl
theorem Ii{c:Prop}[Decidable c]{a b:Nat}(h1:a+1 < n)(h2:b+1 < n):(if c then a else b)+1 < n:=by
 split<;>assumption
theorem CZ{l:List Pd}{i:Nat}(h:i+1 < l.length):∃l1 u v l2,l=l1++u::v::l2/\l1.length=i:=by
 refine⟨l.take i,l[i],l[i+1],l.drop (i+2),?_,by rw[K7];omega⟩;rw[←KC,←KC,Li]
abbrev E1:=Option PUnit×PUnit
abbrev E2:=Option PUnit×Nat
noncomputable def colB(pw:Nat)(_:Nat)(c:E1):StateT H_ Sem (ForInStep E1):=do
 let st ←get
 match (if(r_ st).size > 1 then(r_ st)[(r_ st).size - 2]? else none) with
 | some u=>if u.2.2<=pw then pure (.done (none,⟨⟩)) else do
  let ok ←Ru ((r_ st).size - 2)
  if(!ok)=true then pure (.done (some ⟨⟩,⟨⟩)) else pure (.yield (none,⟨⟩))
 | _=>pure (.done (none,⟨⟩))
noncomputable def addR(lo n:Nat):StateT H_ Sem (ForInStep E2):=do
 modify λst=>QX st ((r_ st).push (lo,n,0))
 pure (.yield (none,lo+n))
noncomputable def nextR(size lo n:Nat):StateT H_ Sem (ForInStep E2):=do
 let st ←get
 match (r_ st).back? with
 | some u=>do
  let c ←forIn [0:size] ((none,⟨⟩):E1) (colB (power' size (2*u.1+u.2.1) (2*u.1+u.2.1+u.2.1+n) size))
  match c.1 with
  | some r=>pure (.done (some r,lo))
  | none=>do
   modify λst=>QX st ((r_ st).modify ((r_ st).size - 1) λv=>(v.1,v.2.1,power' size (2*u.1+u.2.1) (2*u.1+u.2.1+u.2.1+n) size))
   addR lo n
 | _=>addR lo n
noncomputable def runB(size mr:Nat)(_:Nat)(c:E2):StateT H_ Sem (ForInStep E2):=
 if c.2>=size then pure (.done (none,c.2)) else do
  match ←countRun' c.2 (size - c.2) with
  | some f =>
   if f < mr then do
    Q8 "list.sort.binary-insertion"
    let ok ←binarySort' c.2 (min (size - c.2) mr) f
    if(!ok)=true then pure (.done (some ⟨⟩,c.2)) else nextR size c.2 (min (size - c.2) mr)
   else nextR size c.2 f
  | _=>pure (.done (some ⟨⟩,c.2))
noncomputable def which(p:Array Pd):Nat:=if(if p.size - 2 > 0 then p[p.size - 2 - 1]?.map (·.2.1) else none).any (· < (p[p.size - 2+1]?.elim 0 (·.2.1)))=true then p.size - 2 - 1 else p.size - 2
noncomputable def lastB(_:Nat)(c:E1):StateT H_ Sem (ForInStep E1):=do
 let st ←get
 if(r_ st).size<=1 then pure (.done (none,⟨⟩)) else do
  let ok ←Ru (which (r_ st))
  if(!ok)=true then pure (.done (some ⟨⟩,⟨⟩)) else pure (.yield (none,⟨⟩))
theorem Eu:RB=(do
 let st ←get
 let c ←forIn [0:(p_ st).size] ((none,0):E2) (runB (p_ st).size (minRun' (p_ st).size (p_ st).size 0))
 match c.1 with
 | some r=>pure r
 | none=>do
  let c ←forIn [0:(p_ st).size] ((none,⟨⟩):E1) lastB
  match c.1 with
  | some r=>pure r
  | none=>pure ⟨⟩):=by kernel_rfl
section
variable{prog:z_}{w:I_}{E:b_->d_->Prop}{s:d_}{st:H_}{a₀:Array o_}
theorem AB{i e:Nat}{Q:Bool->H_->Prop}(B:SB a₀ st)(h0:AllI a₀)(r:Rs (p_ st).toList 0 (r_ st).toList e)(he:e<=a₀.size)(hi:i+1 < (r_ st).size)(h:∀ag,SB a₀ ag->Rs (p_ ag).toList 0 (r_ ag).toList e->(r_ ag).size+1=(r_ st).size->(p_ ag).toList.drop e=(p_ st).toList.drop e->Q true ag):wpS (n_ prog w) A E s (Ru i) Q st:=by
 obtain⟨l1,u,v,l2,e1,e2⟩:=CZ (l:=(r_ st).toList) (i:=i) (by simpa using hi);rw[e1] at r;obtain⟨_,a1,a2,a3,a4,a5,a6⟩:=r.at
 have g1:(r_ st)[i]?=some u:=by
  rw[←K4,e1,Lx (by omega),e2,Ro];rfl
 have g2:(r_ st)[i+1]?=some v:=by
  rw[←K4,e1,Lx (by omega),e2,show i+1 - i=1 by omega];rfl
 refine Ee (sa:=u.1) (na:=u.2.1) (pw:=u.2.2) (sb:=v.1) (nb:=v.2.1) (pw':=v.2.2) B h0 g1 g2 a3 a1 a2 (by omega) a5 a6 λag B' pe tk dr rn=>?_
 have pl:(r_ ag).toList=l1++(u.1,u.2.1+v.2.1,u.2.2)::l2:=by
  rw[pe,Array.toList_eraseIdxIfInBounds,OF,e1,List.set_append,if_neg (by omega),e2,Ro];rw[List.set_cons_zero,List.eraseIdx_append_of_length_le (by omega),e2,show i+1 - i=1 by omega];rfl
 refine h ag B' ?_ ?_ ?_
 ·rw[pl];exact r.join tk dr rn
 ·have q1:=congrArg length pl;have q2:=congrArg length e1;simp at q1 q2;omega
 ·have t:∀l:List o_,l.drop e=(l.drop (v.1+v.2.1)).drop (e - (v.1+v.2.1)):=λl=>by rw[Ot];congr 1;omega
  rw[t,dr,←t]
theorem Ds{xs:Array o_}{lo:Nat}(h:Up xs lo n)(hn:lo+n<=xs.size):Run xs.toList lo (lo+n):=Run.of hn λp q h1 h2 h3=>by
 have:=h (p - lo) (q - lo) (by omega) (by omega);rw[show lo+(p - lo)=p by omega,show lo+(q - lo)=q by omega] at this;exact this
theorem Hy{xs ys:Array o_}{lo:Nat}(h:∀k,k < lo->xs[k]?=ys[k]?):xs.toList.take lo=ys.toList.take lo:=by
 apply List.ext_getElem?
 intro k;rw[QY,QY];split
 ·rename_i hk;rw[K4,K4];exact h k hk
 ·rfl
theorem Il{lo x:Nat}{Q:ForInStep E2->H_->Prop}(h0:AllI a₀)(B:SB a₀ st)(r:Rs (p_ st).toList 0 (r_ st).toList lo)(h1:1<=n)(h2:lo+n<=a₀.size)(rn:Run (p_ st).toList lo (lo+n))(h:∀ag,SB a₀ ag->Rs (p_ ag).toList 0 (r_ ag).toList (lo+n)->Q (.yield (none,lo+n)) ag):
  wpS (n_ prog w) A E s (nextR a₀.size lo n) Q st:=by
 have lM:∀ag,SB a₀ ag->Rs (p_ ag).toList 0 (r_ ag).toList lo->Run (p_ ag).toList lo (lo+n)->wpS (n_ prog w) A E s (addR lo n) Q ag:=λag B' r' fb=>by
  unfold addR;refine k_ (MQ (s_ (h _ ⟨B'.perm,B'.kind,B'.failed⟩ ?_)));show Rs (p_ ag).toList 0 ((r_ ag).push (lo,n,0)).toList (lo+n);rw[N3];exact r'.snoc h1 fb
 unfold nextR;refine k_ (Op ?_);cases eb:(r_ st).back? with
 | none=>exact lM st B r rn
 | some u =>
  dsimp only;generalize power' a₀.size (2*u.1+u.2.1) (2*u.1+u.2.1+u.2.1+n) a₀.size=pw
  have ps:1<=(r_ st).size:=by
   rcases QW (r_ st).size with z | z
   ·rw[Array.back?_eq_getElem?,M7 (by omega)] at eb;cases eb
   ·exact z
  refine k_ (Lr (Ll (I:=λx c ag=>c=(none,⟨⟩)/\SB a₀ ag/\Rs (p_ ag).toList 0 (r_ ag).toList lo/\Run (p_ ag).toList lo (lo+n)/\1<=(r_ ag).size)
   (Q:=λc ag=>c=(none,⟨⟩)/\SB a₀ ag/\Rs (p_ ag).toList 0 (r_ ag).toList lo/\Run (p_ ag).toList lo (lo+n)/\1<=(r_ ag).size) ?_ (λ_ _ z=>z) ⟨rfl,B,r,rn,ps⟩) ?_)
  ·rintro x c ag - hx ⟨rfl,B',r',fb,iA⟩;unfold colB;refine k_ (Op ?_);split
   ·rename_i v ev;split
    ·exact s_ ⟨rfl,B',r',fb,iA⟩
    ·have gt:(r_ ag).size > 1:=by
      rcases MW 1 (r_ ag).size with z | z
      ·exact z
      ·rw[if_neg (by omega)] at ev;cases ev
     refine k_ (AB B' h0 r' (by omega) (by omega) λbN B2 r2 z2 d2=>?_);rw[if_neg (by decide)];exact s_ ⟨rfl,B2,r2,fb.same' d2 (B_ _),by omega⟩
   ·exact s_ ⟨rfl,B',r',fb,iA⟩
  ·rintro c ag ⟨rfl,B',r',fb,iA⟩;dsimp only;refine k_ (MQ (lM _ ⟨B'.perm,B'.kind,B'.failed⟩ ?_ fb));show Rs (p_ ag).toList 0 ((r_ ag).modify ((r_ ag).size - 1) λv=>(v.1,v.2.1,pw)).toList lo;obtain⟨l1,v,ev⟩:∃l1 v,(r_ ag).toList=l1++[v]:=⟨_,_,(List.dropLast_concat_getLast (by intro z;have q:(r_ ag).toList.length=0:=(by rw[z];rfl);rw[Ky] at q;omega)).symm⟩
   have ln:l1.length=(r_ ag).size - 1:=by
    have:=congrArg length ev;simp at this;omega
   have e3:((r_ ag).modify ((r_ ag).size - 1) λv=>(v.1,v.2.1,pw)).toList=l1++[(v.1,v.2.1,pw)]:=by
    rw[Array.toList_modify,ev,←ln];exact EX l1 v _
   rw[e3];rw[ev] at r';exact r'.power
theorem CM{Q:Unit->H_->Prop}(h0:AllI a₀)(B:SB a₀ st)(pe:r_ st=#[])(h2:2<=a₀.size)(h:∀ag,SB a₀ ag->SL (p_ ag).toList->Q () ag):wpS (n_ prog w) A E s RB Q st:=by
 rw[Eu];refine k_ (Op ?_);rw[B.size];generalize minRun' a₀.size a₀.size 0=mr
 refine k_ (Lr (Ll (I:=λx c ag=>∃lo,c=(none,lo)/\x<=lo/\lo<=a₀.size/\SB a₀ ag/\Rs (p_ ag).toList 0 (r_ ag).toList lo)
  (Q:=λc ag=>c=(none,a₀.size)/\SB a₀ ag/\Rs (p_ ag).toList 0 (r_ ag).toList a₀.size) ?_ ?_ ⟨0,rfl,by omega,by omega,B,by rw[pe];exact rfl⟩) ?_)
 ·rintro x c ag - hx ⟨lo,rfl,h3,h4,B,r⟩;unfold runB;dsimp only;by_cases ge:lo>=a₀.size
  ·rw[if_pos ge];have:lo=a₀.size:=by omega
   subst this;exact s_ ⟨rfl,B,r⟩
  ·rw[if_neg ge];refine k_ (v9 h0 (by omega) (by omega) B λf bN f1 f2 kp u=>?_);dsimp only
   have go:∀n cS,1<=n->lo+n<=a₀.size->Kp a₀ ag lo cS->Up (p_ cS) lo n->wpS (n_ prog w) A E s (nextR a₀.size lo n) (λr aS=>match r with
     | .done c=>c=(none,a₀.size)/\SB a₀ aS/\Rs (p_ aS).toList 0 (r_ aS).toList a₀.size
     | .yield c=>∃lo,c=(none,lo)/\x+1<=lo/\lo<=a₀.size/\SB a₀ aS/\Rs (p_ aS).toList 0 (r_ aS).toList lo) cS:=λn cS n1 n2 kp u =>
    Il (x:=x) h0 kp.sb (by rw[kp.pe];exact r.same (Hy kp.lw)) n1 n2 (Ds u (by rw[kp.sb.size];exact n2)) λo7 B4 r4=>⟨lo+n,rfl,by omega,n2,B4,r4⟩
   by_cases lt:f < mr
   ·rw[if_pos lt];refine k_ (Pe (LM ⟨rfl,?_⟩));refine k_ (EW h0 (by omega) (by omega) kp u λcS nY u3=>?_);rw[if_neg (by decide)];exact Lr (go _ _ (by omega) (by omega) nY u3) λr aS z=>by cases r<;>exact z
   ·rw[if_neg lt];exact Lr (go _ _ f1 (by omega) kp u) λr aS z=>by cases r<;>exact z
 ·rintro c ag ⟨lo,rfl,h3,h4,B,r⟩;have:lo=a₀.size:=by omega
  subst this;exact⟨rfl,B,r⟩
 ·rintro c ag ⟨rfl,B,r⟩;dsimp only;have le:=r.le
  refine k_ (Lr (Ll (I:=λx c ag=>c=(none,⟨⟩)/\SB a₀ ag/\Rs (p_ ag).toList 0 (r_ ag).toList a₀.size/\(r_ ag).size<=max 1 (a₀.size - x))
   (Q:=λc ag=>c=(none,⟨⟩)/\SB a₀ ag/\Rs (p_ ag).toList 0 (r_ ag).toList a₀.size/\(r_ ag).size<=1) ?_ ?_ ⟨rfl,B,r,by simp at le;omega⟩) ?_)
  ·rintro x c ag - hx ⟨rfl,B',r',z'⟩;unfold lastB;refine k_ (Op ?_);by_cases one:(r_ ag).size<=1
   ·rw[if_pos one];exact s_ ⟨rfl,B',r',one⟩
   ·rw[if_neg one]
    have hw:which (r_ ag)+1 < (r_ ag).size:=by
     unfold which;exact Ii (by omega) (by omega)
    refine k_ (AB B' h0 r' (B_ _) hw λbN B2 r2 z2 d2=>?_);rw[if_neg (by decide)];exact s_ ⟨rfl,B2,r2,by omega⟩
  ·rintro c ag ⟨rfl,B',r',z'⟩;exact⟨rfl,B',r',by omega⟩
  ·rintro c ag ⟨rfl,B',r',z'⟩;refine s_ (h ag B' ?_);have ln:(r_ ag).toList.length<=1:=by simpa using z'
   have sz:=B'.size;cases e:(r_ ag).toList with
   | nil =>
    rw[e,Rs] at r';omega
   | cons u us =>
    cases us with
    | cons v vs=>rw[e] at ln;simp at ln
    | nil =>
     rw[e] at r';obtain⟨a1,a2,a3,a4⟩:=r';rw[Rs] at a4;rw[a4] at a3;unfold Run at a3;rw[O7,K3 (by simp;omega)] at a3;exact a3
end
end TS
namespace DL
open PySem PySem.W PySem.Spec PyProof.Rows L2 PySem.SetTable
def IE(es:Array (Int×b_)):Prop:=∀e∈es,∃j t,e=(NQ j,b_.int j t)
theorem yI{t:LJ}{es:Array (Int×b_)}(T:TabOk t es){h:Int}{K:Nat}(hK:sl t.mask h K∉t.place)(hk:∀k,k < K->sl t.mask h k∈t.place):∀(f k:Nat),k<=K->K - k < f →
  probe.go t (λ_=>h+1) h f (pth t.mask h k)=some (.empty (sl t.mask h K) none)
 | 0,k,h1,h2=>by omega
 | f+1,k,h1,h2=>by
  by_cases z:k=K
  ·subst z;rw[probe.go,show(pth t.mask h k).j=sl t.mask h k from rfl,Bw T.ris T.nd hK,w4]
  ·obtain⟨i,hi,e⟩:=Bv (hk k (by omega))
   have st:t.slot (pth t.mask h k).j=.live i:=by
    rw[show(pth t.mask h k).j=t.place[i] from e.symm];exact EY T.ris hi
   rw[probe.go,st];dsimp only;have ne:¬((h+1 == h)=true):=by simp;omega
   rw[if_neg ne,A7];exact yI T hK hk f (k+1) (by omega) (by omega)
section
variable{prog:z_}{w:I_}{E:b_->d_->Prop}{s:d_}
theorem IE.elems{es:Array (Int×b_)}(h:IE es):ElemsOf (Pl prog w) es.toList:=λe he=>by
 obtain⟨j,t,rfl⟩:=h e (by simpa using he);exact⟨⟨j,by simp[Pl,b_.isInt],rfl⟩,rfl⟩
theorem CW{a:h_}{led:Bool}{es:Array (Int×b_)}{i:Int}{Q:Bool->d_->Prop}(S:SetAt s.heap a led es)(ie:IE es)(few:(∀e∈es,∀tk,e.2≠b_.int i tk)->es.size<=299)(old:(∃e∈es,∃tk,e.2=b_.int i tk)->Q false s)(new:(∀e∈es,∀tk,e.2≠b_.int i tk)->∀h' es',SetAt h' a led es'->(∀e,e∈es'↔e=(NQ i,b_.int i tk)\/e∈es)->es'.size=es.size+1->KeptBut a s.heap h'->Q true { s with heap:=h' }):
  w_ (n_ prog w) A (setAddHashed a (.int i tk) (NQ i)) Q E s:=by
 have line:600<=x_:=by rw[Lb];decide
 obtain⟨o,ep,t,ho,hc,iB,T,tl⟩:=S;have le:es.size<=300:=by rw[←T.sz];exact T.few.1
 obtain⟨h,eh⟩:∃h,h=NQ i:=⟨_,rfl⟩;obtain⟨K,k1,k2,k3⟩:=T.free h;have fits:=T.fits;unfold setAddHashed;refine Kz ?_;unfold setAddHashedIn;refine a_ (M0 ho iB fits ?_);dsimp only;rw[byScan_of (knd:=Pl prog w) rfl (Nm le (by decide)) ie.elems,if_pos rfl];unfold setAddByScan;refine a_ (a_ (LM ?_));refine a_ (wpAny_setScan_of (knd:=Pl prog w) (k:=i) (by simp[Pl,b_.isInt]) ho iB fits ie.elems ?_);cases hr:List.findIdx? (λe:Int×b_=>(Pl prog w).is i e.2) es.toList with
 | some j =>
  dsimp only;obtain⟨hj,nZ,_⟩:=List.findIdx?_eq_some_iff_getElem.mp hr;refine e_ (e_ (old ⟨es.toList[j],by simpa using LG hj,?_⟩));exact b_.isInt_shape nZ
 | none =>
  dsimp only
  have aK:∀e∈es,∀tk,e.2≠b_.int i tk:=λe he tk z=>by
   have:=List.findIdx?_eq_none_iff.mp hr e (by simpa using he);rw[z] at this;simp[Pl,b_.isInt] at this
  have few:=few aK;obtain⟨p1,p2,p3,p4,p5,p6,p7,p8,p9,jX,lN⟩:=Dr T (h:=h) (x:=.int i tk) k2 k3
  have fs:t.freeSlot h=some (sl t.mask h K,false):=by
   unfold freeSlot probe;rw[Gf,yI T k2 k3 _ 0 (K' _) (by unfold Su;omega)];rfl
  obtain⟨q,lO⟩:∃q,q=t.put (sl t.mask h K):=⟨_,rfl⟩;rw[←lO] at p1 p2 p3 p4 p5 p6 p7 p8 p9 jX lN;have cr:(Lq es q.2 (h,b_.int i tk)).size=es.size+1:=wK jX _
  have fill:q.1.fill=es.size+1:=by
   unfold LJ.fill;rw[p1,p9,T.sz];rfl
  have gP:q.1.fits (Lq es q.2 (h,b_.int i tk)).size=true:=by
   unfold LJ.fits;rw[fill,cr,p5,p9,T.sz];have h1:=T.few.2;have h2:=T.sz;simp;omega
  have ln:layNew t es h (.int i tk)=(Lq es q.2 (h,b_.int i tk),q.1,false,false):=by
   unfold layNew;rw[fs];dsimp only;rw[←lO,gP,LJ.orStandIn,gP,if_pos rfl];rfl
  rw[←eh,ln];dsimp only;refine a_ (LH (a:=()) rfl ?_);rw[p6,T.pl,if_pos rfl];refine a_ (LH (a:=true) rfl ?_);rw[if_pos rfl];refine a_ (Rv ho iB ?_ (by rw[cr];omega));have g1:=yT (es':=Lq es q.2 (h,b_.int i tk)) (t':=q.1) ho iB;have cF:KeptBut a s.heap (s.heap.update a (putSet (Lq es q.2 (h,b_.int i tk)) q.1)):=λc u ne e=>(C_ _ _ (Kx ne)).trans e
  have dI:∀e,e∈Lq es q.2 (h,b_.int i tk)↔e=(NQ i,.int i tk)\/e∈es:=λe=>by rw[←eh];exact xZ jX _ e
  obtain⟨h1,n3⟩:∃h1,h1=s.heap.update a (putSet (Lq es q.2 (h,b_.int i tk)) q.1):=⟨_,rfl⟩;rw[←n3] at g1 cF ⊢;by_cases full:q.1.tooFull=true
  ·have m7:(t.mask=7/\es.size+1=5)\/(t.mask=31/\es.size+1=19)\/(t.mask=127/\es.size+1=77):=by
    unfold tooFull at full;rw[fill,p5] at full;simp only[ge_iff_le,decide_eq_true_eq] at full;have:=T.sz
    rcases T.few.2 with m | m | m | m
    ·rw[m] at full;omega
    ·rw[m.1] at full;omega
    ·rw[m.1] at full;omega
    ·rw[m.1] at full;omega
   obtain⟨nm,Rn,sa,fw⟩:∃nm,Round nm/\sizeAbove (grown (es.size+1))=nm+1/\((nm=31/\es.size+1<=18)\/(nm=127/\es.size+1<=76)\/(nm=511/\es.size+1<=300)):=by
    rcases m7 with z | z | z
    ·exact⟨31,round31,by rw[z.2];decide,.inl ⟨rfl,by omega⟩⟩
    ·exact⟨127,round127,by rw[z.2];decide,.inr (.inl ⟨rfl,by omega⟩)⟩
    ·exact⟨511,round511,by rw[z.2];decide,.inr (.inr ⟨rfl,by omega⟩)⟩
   rw[if_pos (by simp[full])];obtain⟨t2,bR,l1,l2,l3,l4,l5,l6,l7⟩:=HU (es:=Lq es q.2 (h,b_.int i tk)) Rn (by rw[cr];exact fw) q.1.finger (q.1.movedTo nm) q.1.led
   have aQ:relayAll q.1 (Lq es q.2 (h,b_.int i tk)) (grown (Lq es q.2 (h,b_.int i tk)).size)=(bR.filterMap ((Lq es q.2 (h,b_.int i tk))[·]?),t2,false):=by
    unfold relayAll
    have:q.1.relaid ((Lq es q.2 (h,b_.int i tk)).map (·.1)) (grown (Lq es q.2 (h,b_.int i tk)).size)=some (t2,bR):=by
     unfold relaid;rw[cr,sa,p6,T.pl];exact l1
    rw[this];dsimp only;have cv:coversAll bR (Lq es q.2 (h,b_.int i tk)).size=true:=List.isPerm_iff.mpr l7;rw[cv,l3.fits];rfl
   rw[aQ];dsimp only;refine a_ (LH (a:=()) rfl ?_);refine a_ (Rv (s:={ s with heap:=h1 }) g1 rfl ?_ (by rw[l2,cr];omega));exact e_ (e_ (new aK _ _ ⟨_,_,t2,yT g1 rfl,hc,rfl,l3,by rw[l5,p7,tl]⟩ (λe=>(l6 e).trans (dI e)) (by rw[l2,cr]) λc u ne e=>(C_ _ _ (Kx ne)).trans (cF c u ne e)))
  ·rw[if_neg (by simp[full])];refine e_ (e_ (new aK h1 _ ⟨_,_,q.1,g1,hc,rfl,⟨p1,p2,p3,p4,?_,by rw[p6];exact T.pl,lN⟩,by rw[p7,tl]⟩ dI cr cF));unfold tooFull at full;rw[fill,p5] at full;simp only[ge_iff_le,decide_eq_true_eq] at full;have:=T.sz;rw[p9,p5];refine⟨by omega,?_⟩
   rcases T.few.2 with m | m | m | m
   ·exact .inl m
   ·refine .inr (.inl ⟨m.1,?_⟩);rw[m.1] at full;omega
   ·refine .inr (.inr (.inl ⟨m.1,?_⟩));rw[m.1] at full;omega
   ·refine .inr (.inr (.inr ⟨m.1,?_⟩));rw[m.1] at full;omega
end
end DL
namespace DL
open PySem PySem.W PySem.Spec PyProof.Rows L2
section
variable{prog:z_}{w:I_}{E:b_->d_->Prop}{s:d_}
theorem Db(h:LZ vs ns):TS.AllI (Qq vs):=TS.AllI.of λx hx=>by
 rw[pairsOf_toList] at hx;obtain⟨e,m⟩:=mem_zip_self hx;obtain⟨n,t,e'⟩:=h.intKeys x (by rw[pairsOf_toList];exact hx);exact⟨n,t,e'⟩
theorem Bs{xs:Array o_}(h:TS.SL xs.toList):SortedTo xs xs.size:=by
 intro i j ij hj;have hi:i < xs.size:=by omega
 rw[TS.rM (getElem?_pos xs i hi),TS.rM (getElem?_pos xs j hj)]
 rcases MW i j with z | z
 ·have:=Mx.mp h i j (by simpa using hi) (by simpa using hj) z;simpa using this
 ·have:i=j:=by omega
  subst this;exact KN _
theorem CN{a:h_}{e:Nat}{P:PySem.Fin->d_->Prop}(ho:s.heap.get? a=some (K9 "list" vs.toArray e))(hz:vs.length<=x_)(hI:LZ vs ns)(fin:∀us ms h' c,LZ us ms->ms.Perm ns->ms.Pairwise (·<=·)->KeptBut a s.heap h'->h'.get? a=some (K9 "list" us.toArray c)->P (.done (.ret .none)) { s with heap:=h' }):
  w_ (n_ prog w) A (Me.«list.sort» ⟨[.ref a],[]⟩) P E s:=by
 obtain⟨g1,cg⟩:∃g1,g1=s.heap.update a (L4 λ_=>(#[]:Array b_)):=⟨_,rfl⟩;obtain⟨e1,o1⟩:∃e1,g1.get? a=some (K9 "list" #[] e1):=⟨_,by rw[cg];exact Mp ho _⟩;have k1:KeptBut a s.heap g1:=λb o ne x=>by rw[cg];exact(C_ _ _ (Kx ne)).trans x
 obtain⟨g2,cj⟩:∃g2,g2=(g1.push (K9 "tuple" vs.toArray 0)).push (K9 "list" #[] 0):=⟨_,rfl⟩;have o2:g2.get? a=some (K9 "list" #[] e1):=by rw[cj];exact c_ _ (c_ _ o1)
 have k2:KeptBut a s.heap g2:=λb o ne x=>by rw[cj];exact c_ _ (c_ _ (k1 b o ne x))
 have ef:∀eV,(2<=vs.length->eV=LO)->w_ (n_ prog w) A ((if vs.toArray.size < 2 then pure () else RB).run (mk' eV (vs.toArray.zip vs.toArray) #[] 7 none))
   (λr s'=>s'={ s with heap:=g2 }/\∃us ms,LZ us ms/\ms.Perm ns/\ms.Pairwise (·<=·)/\(p_ r.2).map (·.2)=us.toArray/\us.length=vs.length/\NY r.2=none) E { s with heap:=g2 }:=λeV jO=>by
  rcases MW vs.length 2 with cn | big
  ·rw[if_pos (by rw[l_];exact cn)];refine e_ ⟨rfl,vs,ns,hI,NE _,?_,?_,rfl,rfl⟩
   ·have:=hI.length
    match ns with
    | []=>exact Mf.nil
    | [x]=>exact Nr _ _
    | x::y::r=>simp at this;omega
   ·show((vs.toArray.zip vs.toArray).map (·.2))=_;refine RC (by simp) λi h1 h2=>by simp
  ·rw[if_neg (by rw[l_];omega),jO big];have two:2<=(Qq vs).size:=by rw[pairsOf_size];exact big
   refine Lk (TS.CM (s:={ s with heap:=g2 }) (a₀:=Qq vs) (Q:=λ_ ag=>TS.SB (Qq vs) ag/\TS.SL (p_ ag).toList) (Db hI) (st:=mk' LO (Qq vs) #[] 7 none) ⟨NE _,rfl,rfl⟩ rfl two λag b sl=>⟨b,sl⟩) (λr s' h=>?_) λ_ _ x=>x
   obtain⟨rfl,b,sl⟩:=h;have pm:(p_ r.2).Perm (Qq vs):=Ld.mpr b.perm;have sz:(p_ r.2).size=(Qq vs).size:=pm.size_eq;obtain⟨ms,m1,m2,m3⟩:=sorted_out hI pm (by rw[←sz];exact Bs sl);exact⟨rfl,_,ms,m1,m2,m3,by first | exact N1.symm | exact(N1 _).symm,by rw[Ky,Array.size_map,sz,pairsOf_size],b.failed⟩
 rw[list_sort_plain];refine a_ (PB ho rfl (a_ (MC ho rfl ?_ (by rw[l_];exact hz) (K' _))));rw[←cg];refine a_ (NZ o1 rfl (a_ (NA (a_ (Ng (Kz ?_) (K' _))) (by show vs.length<=_;exact hz))));show w_ (n_ prog w) A _ P E { s with heap:=(g1.push (K9 "tuple" vs.toArray 0)).push (K9 "list" #[] 0) };rw[←cj];dsimp only
 have kk:2<=vs.length->R8 vs.toArray=pure LO:=λbig=>by
  match vs,hI,big with
  | v₁::v₂::ax,hI,_=>exact keyKind_ints hI
 rcases MW vs.length 2 with cn | big
 all_goals
  first
   | (rw[if_pos (by rw[l_];exact cn)];refine a_ (e_ ?_);have step:=ef general' λh=>by omega)
   | (rw[if_neg (by rw[l_];omega),kk big];refine a_ (e_ ?_);have step:=ef LO λ_=>rfl)
  refine a_ (Lk step (λr s' h=>?_) λ_ _ x=>x);obtain⟨rfl,us,ms,m1,m2,m3,aV,ln,aK⟩:=h;rw[aV,aK];refine a_ (NZ o2 rfl (a_ (MC o2 rfl ?_ (K' _) ?_)))
  ·dsimp only;rw[bne_self_eq_false,if_neg v_];exact e_ (fin us ms _ _ m1 m2 m3 (λb o ne x=>(C_ _ _ (Kx ne)).trans (k2 b o ne x)) (Mp o2 λ_=>us.toArray))
  ·rw[l_,ln];exact Nat.le_succ_of_le hz
theorem D'{l:h_}{P:List b_->List Int->Prop}{Q:b_->d_->Prop}(hP:∀vs ns,P vs ns->vs.length<=x_/\LZ vs ns)(col:∀Q':List b_->d_->Prop,(∀vs ns h' tk,P vs ns->(∀b o,s.heap.get? b=some o->h'.get? b=some o)->s.heap.objs.size<=h'.objs.size->Q' vs { s with heap:=h',toks:=tk })->w_ (n_ prog w) A.in1 (RP (.ref l)) Q' E s)(fin:∀vs ns,P vs ns->∀us ms h' tk D c,LZ us ms->ms.Perm ns->ms.Pairwise (·<=·)->(∀b o,s.heap.get? b=some o->h'.get? b=some o)->s.heap.objs.size<=D->h'.get? D=some (K9 "list" us.toArray c)->Q (.ref D) { s with heap:=h',toks:=tk }):
  w_ (n_ prog w) A (call (.builtin "sorted") [b_.ref l]) Q E s:=by
 refine OK RH Rk Rl (args_sorted1 _) ?_;refine a_ (m:=R9 "sorted" 1 1 _) (e_ (a_ (col _ λvs ns g tk p kg above=>a_ (Ng ?_ (by have:=(hP vs ns p).1;omega)))));obtain⟨hz,hI⟩:=hP vs ns p;have aI:(g.push (K9 "list" vs.toArray 0)).get? g.objs.size=some (K9 "list" vs.toArray 0):=t_ _ rfl
 have old:∀(h':KM),KeptBut g.objs.size (g.push (K9 "list" vs.toArray 0)) h'->∀b o,s.heap.get? b=some o->h'.get? b=some o:=λh' k b o x =>
  k b o (KI (J_ (F_ x) above)) (c_ _ (kg b o x))
 refine a_ (Kz (K_ Om ⟨_,aI,rfl⟩ Oc ?_ (args_list_sort _)));refine CN (s:={ s with heap:=g.push (K9 "list" vs.toArray 0),toks:=tk }) aI hz hI λus ms h' c m1 m2 m3 k aJ=>?_
 exact⟨_,rfl,e_ ⟨_,rfl,fin vs ns p us ms h' tk _ c m1 m2 m3 (old h' k) above aJ⟩⟩
end
end DL
namespace DL
open PySem PySem.W PySem.Spec PyProof.Rows L2 PySem.SetTable
noncomputable def insI(x:Int):List Int->List Int
 | []=>[x]
 | y::l=>if x < y then x::y::l else if x=y then y::l else y::insI x l
noncomputable def setI(ns:List Int):List Int:=ns.foldr insI []
theorem vt{x y:Int}:∀{l:List Int},y∈insI x l↔y=x\/y∈l
 | []=>by simp[insI]
 | z::l=>by
  rw[insI];split
  ·simp
  ·split
   ·rename_i e;subst e;simp
   ·rw[m_,vt (l:=l),m_];exact⟨λh=>h.elim (λz=>.inr (.inl z)) λh=>h.elim .inl λz=>.inr (.inr z),λh=>h.elim (λz=>.inr (.inl z)) λh=>h.elim .inl λz=>.inr (.inr z)⟩
theorem zp{x:Int}:∀{l:List Int},l.Pairwise (· < ·)->(insI x l).Pairwise (· < ·)
 | [],_=>Nr _ _
 | z::l,h=>by
  obtain⟨h1,h2⟩:=G_.mp h;rw[insI];split
  ·rename_i lt;refine G_.mpr ⟨λy hy=>?_,h⟩
   rcases m_.mp hy with e | m
   ·rw[e];exact lt
   ·exact Int.lt_trans lt (h1 y m)
  ·split
   ·exact h
   ·refine G_.mpr ⟨λy hy=>?_,zp h2⟩
    rcases vt.mp hy with e | m
    ·omega
    ·exact h1 y m
theorem q5{x:Int}:∀{ns:List Int},x∈setI ns↔x∈ns
 | []=>by simp[setI]
 | n::ns=>by
  show x∈insI n (setI ns)↔_;rw[vt,q5 (ns:=ns),m_]
theorem sF:∀(ns:List Int),(setI ns).Pairwise (· < ·)
 | []=>Mf.nil
 | n::ns=>zp (sF ns)
theorem su:∀{l m:List Int},l.Pairwise (· < ·)->m.Pairwise (· < ·)->(∀x,x∈l↔x∈m)->l=m
 | [],[],_,_,_=>rfl
 | [],y::m,_,_,h=>absurd ((h y).mpr g_) (by simp)
 | x::l,[],_,_,h=>absurd ((h x).mp g_) (by simp)
 | x::l,y::m,hl,hm,h=>by
  obtain⟨a1,a2⟩:=G_.mp hl;obtain⟨b1,b2⟩:=G_.mp hm
  have e:x=y:=by
   rcases m_.mp ((h x).mp g_) with e | e
   ·exact e
   ·rcases m_.mp ((h y).mpr g_) with e' | e'
    ·exact e'.symm
    ·have:=a1 y e';have:=b1 x e;omega
  subst e;refine congrArg _ (su a2 b2 λz=>⟨λhz=>?_,λhz=>?_⟩)
  ·rcases m_.mp ((h z).mp (j_ _ hz)) with e | e
   ·have:=a1 z hz;omega
   ·exact e
  ·rcases m_.mp ((h z).mpr (j_ _ hz)) with e | e
   ·have:=b1 z hz;omega
   ·exact e
theorem Gb{L:List Int}(p:ms.Perm L)(nd:L.Nodup)(mem:∀n,n∈L↔n∈ns)(up:ms.Pairwise (·<=·)):ms=setI ns:=by
 refine su ?_ (sF ns) λx=>?_
 ·exact(List.pairwise_and_iff.mpr ⟨up,p.nodup_iff.mpr nd⟩).imp λ⟨h1,h2⟩=>by omega
 ·rw[p.mem_iff,mem,q5]
noncomputable def keyI(e:Int×b_):Int:=numOf e.2
structure IEs(es:Array (Int×b_))(ns:List Int):Prop where
 ie:IE es
 nd:(es.toList.map keyI).Nodup
 mem:∀n,n∈es.toList.map keyI↔n∈ns
theorem IE.key{es:Array (Int×b_)}(h:IE es){e:Int×b_}(he:e∈es):∃t,e=(NQ (keyI e),.int (keyI e) t):=by
 obtain⟨j,t,rfl⟩:=h e he;exact⟨t,rfl⟩
theorem zQ{α:Type}:∀(l m:List α),l.Nodup->(∀x∈l,x∈m)->l.length<=m.length
 | [],m,_,_=>K' _
 | x::l,m,nd,h=>by
  obtain⟨a,b,rfl⟩:=OD (h x g_);rw[M1] at nd
  have:=zQ l (a++b) nd.2 λy hy=>by
   rcases Lg.mp (h y (j_ _ hy)) with z | z
   ·exact MT _ z
   ·rcases m_.mp z with z | z
    ·subst z;exact absurd hy nd.1
    ·exact KW _ z
  simp at this ⊢;omega
theorem IEs.le{es:Array (Int×b_)}(h:IEs es ns)(sub:∀n∈ns,n∈ms):es.size<=(setI ms).length:=by
 have l:(es.toList.map keyI).length=es.size:=by simp
 rw[←l];exact zQ _ _ h.nd λx hx=>q5.mpr (sub x ((h.mem x).mp hx))
section
variable{H:Hp}{s0 s:d_}{prog:z_}{w:I_}{E:b_->d_->Prop}
theorem Cy{It:h_}(hS:s0.heap.objs.size<=S)(n4:s0.heap.objs.size<=It){P:Nat->b_->Prop}{St:Nat->KM->Prop}(W:RS prog w A.in1 It fp [It] n P St)(lP:S∉fp)(hn:n=ns.length)(few:(setI ns).length<=299)(hP:∀i v,P i v->∃x t,ns[i]?=some x/\v=.int x t){led:Bool}{R:Ry->d_->Prop}:
  ∀(k i:Nat) (s:d_),n - i=k->i<=n->Ext s0 s->St i s.heap->(∃es,SetAt s.heap S led es/\IEs es (ns.take i)) →
   (∀s' es,Ext s0 s'->SetAt s'.heap S led es->IEs es ns->R (.ok (.ret .none)) s') →
   Ml (n_ prog w) A (.builtin "set.update.loop" ⟨[.ref S,.ref It],[]⟩) R s:=by
 have lQ:S≠It:=λe=>lP (by rw[e];exact W.sub It g_)
 have nb:∀b,b < s0.heap.objs.size->b∉[It]:=λb hb h=>by
  rw[A_.mp h] at hb;exact absurd n4 (Nat.not_le.mpr hb)
 have n5:∀b,b < s0.heap.objs.size->b≠S:=λb hb h=>by
  rw[h] at hb;exact absurd hS (Nat.not_le.mpr hb)
 intro k
 induction k with
 | zero =>
  intro i s hk hi ex st gQ r;obtain⟨es,s1,s2⟩:=gQ;have:i=n:=by omega
  subst this;refine La Pi ?_;rw[Lu ML _];refine a_ (m:=Mn (.ref It)) (W.done s _ _ st λh' tk keep=>e_ ?_);rw[hn,N6] at s2;exact r _ es (ex.next λb o hb x=>keep b o (nb b hb) x) (s1.kept λo x=>keep S o (by simpa using lQ) x) s2
 | succ k ih =>
  intro i s hk hi ex st gQ r;obtain⟨es,s1,s2⟩:=gQ;have lt:i < ns.length:=by omega
  refine La Pi ?_;rw[Lu ML _];refine a_ (m:=Mn (.ref It)) (W.item i s _ _ (by omega) st λv h1 iC pv bD cF=>?_);obtain⟨x,t,e1,rfl⟩:=hP i v pv;have n6:∀tk,Ext s0 { s with heap:=h1,toks:=tk }:=λtk=>ex.next λb o hb x=>cF b o (nb b hb) x
  have lR:SetAt h1 S led es:=s1.kept λo x=>cF S o (by simpa using lQ) x
  refine a_ (m:=Nw [.int x t] (setAdd S (.int x t))) (Kz ?_);unfold setAdd;refine Kz (a_ (wpAny_pyHash_int ?_));have bZ:ns.take (i+1)=ns.take i++[x]:=by rw[MR,e1];rfl
  have cont:∀h2 es',KeptBut S h1 h2->SetAt h2 S led es'->IEs es' (ns.take (i+1))->Ml (n_ prog w) A (.builtin "set.update.loop" ⟨[.ref S,.ref It],[]⟩) R { s with heap:=h2,toks:=iC+1 }:=λh2 es' kb sa eo=>by
   refine ih (i+1) _ (by omega) (by omega) ((n6 (iC+1)).next (tk:=iC+1) λb o hb x=>kb b o (n5 b hb) x) (W.frame _ _ _ bD λb hb o x=>kb b o (λe=>lP (e▸hb)) x) ⟨es',sa,eo⟩ r
  have lS:(∃e∈es,∃tk,e.2=b_.int x tk)↔x∈es.toList.map keyI:=by
   constructor
   ·rintro⟨e,he,tk,z⟩;exact LS.mpr ⟨e,by simpa using he,by unfold keyI;rw[z];rfl⟩
   ·intro h;obtain⟨e,he,z⟩:=LS.mp h;have he:e∈es:=by simpa using he
    obtain⟨t,q⟩:=s2.ie.key he;exact⟨e,he,t,by rw[q,z]⟩
  have pm:∀es',(∀e,e∈es'↔e=(NQ x,b_.int x t)\/e∈es)->es'.size=es.size+1->x∉es.toList.map keyI->IEs es' (ns.take (i+1)):=λes' mem sz no=>by
   have n8:((NQ x,b_.int x t)::es.toList).Nodup:=by
    refine M1.mpr ⟨λh=>no (LS.mpr ⟨_,h,rfl⟩),?_⟩;exact of_map keyI (λa b h e=>h (by rw[e])) s2.nd
   have p:((NQ x,b_.int x t)::es.toList).Perm es'.toList:=u6 _ _ n8 (λe he=>by
    have:e∈es':=(mem e).mpr ((m_.mp he).imp id λh=>by simpa using h)
    simpa using this) (by simp[sz])
   refine⟨λe he=>?_,?_,λm=>?_⟩
   ·rcases(mem e).mp he with z | z
    ·exact⟨x,t,z⟩
    ·exact s2.ie e z
   ·refine(p.map keyI).nodup_iff.mp ?_;rw[KB];exact M1.mpr ⟨no,s2.nd⟩
   ·rw[←(p.map keyI).mem_iff,KB,m_,s2.mem,bZ];simp[keyI,numOf];exact Or.comm
  refine CW (s:={ s with heap:=h1,toks:=iC+1 }) lR s2.ie (λno=>?_) (λh=>?_) λno h2 es' sa mem sz kb=>?_
  ·have:=s2.le (ms:=ns) λn hn=>Lo hn
   omega
  ·refine e_ ⟨KZ ML _,cont h1 es (λb o _ x=>x) lR ⟨s2.ie,s2.nd,λm=>?_⟩⟩;rw[s2.mem,bZ,Lg,A_];exact⟨.inl,λz=>z.elim id λe=>by rw[e];exact(s2.mem x).mp (lS.mp h)⟩
  ·have n9:x∉es.toList.map keyI:=λh=>by
    obtain⟨e,he,tk,z⟩:=lS.mpr h;exact no e he tk z
   exact e_ ⟨KZ ML _,cont h2 es' kb sa (pm es' mem sz n9)⟩
end
theorem va:∀{vs:List b_}{ns:List Int}{i:Nat}{v:b_},LZ vs ns->vs[i]?=some v->∃x t,ns[i]?=some x/\v=.int x t
 | _,_,i,v,.nil,h=>by simp at h
 | _,_,0,v,.cons _ _ r,h=>by cases h;exact⟨_,_,rfl,rfl⟩
 | _,_,i+1,v,.cons _ _ r,h=>by
  rw[MK] at h;obtain⟨x,t,h1,h2⟩:=va r h;exact⟨x,t,by rw[MK];exact h1,h2⟩
section
variable{prog:z_}{w:I_}{E:b_->d_->Prop}{s:d_}
theorem FD(hh:A.handled=none){l:h_}{items:List b_}(hl:s.heap.IsList l items.toArray)(hI:LZ items ns)(few:(setI ns).length<=299){Q:b_->d_->Prop}(q:∀S s' es,Ext s s'->s.heap.objs.size<=S->SetAt s'.heap S (!byTx w) es->IEs es ns->Q (.ref S) s'):w_ (n_ prog w) A (call (.type "set") [.ref l]) Q E s:=by
 obtain⟨c,tl,oN⟩:=Nn.mro;have oe:=Nn.made;have gA:=Nn.sub;refine QI (codeAny_of_tree (e_ ⟨Code.quiet_builtin _ (by decide +kernel),La F.entry_type_call ?_⟩));rw[Mc.under_plain (weight_type_call_type "set" [.ref l] []) rfl];have h1:=Nn.notType;have h2:=Nn.canCreate;have o8:=PySem.F.typeCall_set_1 (.ref l)
 repeat any_goals first | assumption | wp_step
 refine M4 (Do (w:=w) (.ref l) (E:=E) (Q:=λobj aw=>obj=.ref s.heap.objs.size/\aw={ s with heap:=s.heap.push (fresh0 w) }) ⟨rfl,rfl⟩) λr aw hr=>?_
 rcases r with e | fl
 ·exact hr
 cases fl with
 | ret obj =>
  obtain⟨rfl,rfl⟩:=hr;have hS:(s.heap.push (fresh0 w)).get? s.heap.objs.size=some (fresh0 w):=t_ _ rfl;have hT:d_.TypeIs { s with heap:=s.heap.push (fresh0 w) } (.ref s.heap.objs.size) "set":=⟨_,hS,rfl⟩;have lc:=Nn.init.lookup;have lU:=Nn.init.bind (.ref s.heap.objs.size)
  repeat any_goals first | assumption | wp_step
  refine M4 (Qh (R:=wants (λr cY=>r=.none/\∃es,Ext s cY/\SetAt cY.heap s.heap.objs.size (!byTx w) es/\IEs es ns) E) Nn.init.plain F.entry_set_init (check_set_init_1 hT ?_)) λlV cY fc=>?_
  ·obtain⟨ol,lW,cD,nl,lX⟩:=hl;have lY:l < s.heap.objs.size:=F_ lW;obtain⟨oO,jY,og,iD⟩:=ol;simp only at cD lX;subst cD;subst lX;have jh:(s.heap.push (fresh0 w)).get? l=some { cls:=.type "list", dict:=jY,data:=.seq items.toArray nl,slots:=iD }:=c_ _ lW;have oP:=PySem.F.sub_list_set;have oQ:=PySem.F.sub_list_frozenset;have gy:(type "list" == type "dict")=false:=(by decide);have dR:(s.heap.push (fresh0 w)).IsList l items.toArray:=⟨_,jh,rfl,nl,rfl⟩;obtain⟨h1,e1⟩:∃h1,h1=s.heap.push (fresh0 w):=⟨_,rfl⟩;have eZ:h1.objs.size=s.heap.objs.size+1:=by rw[e1,LY]
   have cN:∀b o,s.heap.get? b=some o->h1.get? b=some o:=λb o x=>by rw[e1];exact c_ _ x
   rw[←e1] at hS jh dR;show w_ _ _ _ _ _ { s with heap:=s.heap.push (fresh0 w) };rw[←e1];have oh:h1.get? s.heap.objs.size=some { cls:=.type "set", dict:=none,data:=.set #[] 0 (.fresh 0 0 (!byTx w)) }:=hS;unfold Me.«set.__init__» noKeywords updateFrom;generalize hPI:QH=PI
   wp_walk
   subst hPI;refine Nx (s:={ s with heap:=h1 }) dR (a_ (wpAny_runValue ?_));have iw:l≠h1.objs.size:=by rw[eZ];exact KI (MX lY)
   refine Cy (s0:=s) (led:=!byTx w) (B_ _) (by rw[eZ];exact Qp _) (RS.list (by exact hh) h1.objs.size l iw items.toArray) ?_ (by rw[l_,hI.length]) few (λi v hi=>?_) _ 0 _ rfl (K' _) ?_ ?_ ?_ λs' es ex sa eo=>?_
   ·rw[eZ];intro hm
    rcases m_.mp hm with z | z
    ·exact absurd z (KI (NO _))
    ·exact absurd (A_.mp z) (Nb lY)
   ·have bY:items[i]?=some v:=by simpa using hi
    exact va hI bY
   ·exact⟨_,s.toks,rfl,λb o x=>c_ _ (cN b o x)⟩
   ·exact⟨⟨_,t_ _ rfl,rfl,rfl⟩,dR.push _⟩
   ·refine⟨#[],⟨_,0,_,c_ _ oh,rfl,rfl,ES w,rfl⟩,λe he=>?_,List.nodup_nil,λn=>by simp⟩;simp at he
   ·exact e_ (e_ ⟨rfl,es,ex,sa,eo⟩)
  ·rcases lV with e | jZ
   ·exact fc
   ·cases jZ with
    | ret r =>
     obtain⟨rfl,es,e1,e2,e3⟩:=fc
     repeat any_goals first | assumption | wp_step
     exact q _ _ es e1 (B_ _) e2 e3
    | _=>exact fc.elim
 | _=>exact hr.elim
theorem zE:∀(L:List (Int×b_)),(∀e∈L,∃j t,e=(NQ j,b_.int j t))->LZ (L.map (·.2)) (L.map keyI)
 | [],_=>.nil
 | e::L,h=>by
  obtain⟨j,t,rfl⟩:=h e g_;exact .cons _ _ (zE L λe he=>h e (j_ _ he))
theorem zh:∀{us:List b_}{ms:List Int},LZ us ms->Vals (ms.map V.int) us
 | _,_,.nil=>.nil
 | _,_,.cons n t r=>.cons ⟨t,rfl⟩ (zh r)
end
section
variable{B:BB}{kr:Nat}{H:Hp}{s:d_}
theorem CC(hh:X.A.handled=none)(I:Inv X aa U H s){p:h_}(hq:SqL X.K H p (ns.map V.int))(few:(setI ns).length<=299){Q:VK}(k:∀l,H l=none->Q (.ref l) (upd H l (.lst ((setI ns).map V.int)))):
  w_ (n_ X.prog X.w) X.A (call (.type "set") [.ref p]) (λv s'=>w_ (n_ X.prog X.w) X.A (call (.builtin "sorted") [v]) (EP X aa U Q) X.xe s') X.xe s:=by
 have line:600<=x_:=by rw[Lb];decide
 obtain⟨af,rv,t,hz⟩:=I.list hq;refine FD hh t.isList (sW rv) few λS s' es ex le sa eo=>?_
 have I':=ex.inv I;obtain⟨o,ep,tb,ho,hc,hd,T,led⟩:=sa;have sz:es.size<=299:=LL (eo.le (ms:=ns) λn h=>h) few;have wp:=AO X.w S ep es;refine D' (P:=λvs ms=>vs=(walkOf X.w S ep es).toList.map (·.2)/\ms=(walkOf X.w S ep es).toList.map keyI) (λvs ms h=>?_) (λQ' q=>FM (A:=X.A.in1) (by exact hh) T led ⟨o,ho,hc,hd⟩ λh' tk k1 k2=>q _ _ h' tk ⟨rfl,rfl⟩ k1 k2) λvs ms h us ks h' tk D c m1 m2 m3 keep above aJ=>?_
 ·obtain⟨rfl,rfl⟩:=h;refine⟨?_,zE _ λe he=>eo.ie e (by simpa using wp.mem_iff.mp he)⟩;rw[y_,Ky,ue];omega
 ·obtain⟨rfl,rfl⟩:=h;have pk:=wp.map keyI;have e:=Gb (ns:=ns) m2 (pk.nodup_iff.mpr eo.nd) (λn=>by rw[pk.mem_iff];exact eo.mem n) m3;subst e;refine⟨.ref D,_,I'.laid (t':=tk) keep above (o:=.lst ((setI ns).map V.int)) ⟨?_,us,c,zh m1,aJ⟩,rfl,k D (I'.hok.fresh above)⟩;show((setI ns).map V.int).length<=x_;rw[y_];omega
def rSI(X:Cx)(xs:List V)(H:Hp)(Q:VK):Prop:=∃(p:h_) (ns:List Int),xs=[.ref p]/\SqL X.K H p (ns.map V.int)/\(setI ns).length<=299/\∀l,H l=none->Q (.ref l) (upd H l (.lst ((setI ns).map V.int)))
theorem DY{p:Pos}{t:TA}(hr:Room kr X.A)(hg:Gl X "sorted")(hm:X.mg "sorted"=none)(j0:Gl X "set")(fJ:X.mg "set"=none)(ha:PA X [e] t)(he:f_ [e] X.env=(false,KR e X.env)::f_ [] X.env:=by rfl)(fF:f_ [.Call (.Name "set" p') [e] [] aA] X.env=(false,KR (.Call (.Name "set" p') [e] [] aA) X.env)::f_ [] X.env:=by rfl)(aC:∀pos,(K0 pos (f_ [] X.env)).any (·.1)=false:=by intros;rfl):
  PE X (.Call (.Name "sorted" p) [.Call (.Name "set" p') [e] [] aA] [] pos) (tCB (rSI X) t):=by
 intro aa s U H Q I h;refine LW (qc I hg hm RI (NL ?_ fF (aC _)) (by decide) (by decide));rw[fF];refine Mj (LW (qc I j0 fJ boot_set (KF ?_ he (aC _)) (by decide) (by decide)));refine thn (ha aA aa s U H _ I h) λus s1 ⟨vs,H1,I1,r1,p,ns,e1,q1,q2,q3⟩=>?_
 subst e1;obtain⟨u,rfl,ru⟩:=vals1 r1;cases ru;exact thn (CC hr.hd I1 q1 q2 q3) λv s2 q=>Ms q
noncomputable def setIF(ds:List D):Option (List D):=match ds with
 | [.lst xs]=>match intsD xs with
  | some ns=>if(setI ns).length<=299 then some ((setI ns).map .int) else none
  | none=>none
 | _=>none
theorem AW{K:PySem.W.Frag}{I:Hp}:∀(ns:List Int),IsA K I (ns.map D.int) (ns.map V.int)
 | []=>IsA.nil
 | n::ns=>IsA.cons (Is.int n) (AW ns)
theorem Ei{p:Pos}{t:M (List D)}(hr:Room kr X.A)(hg:Gl X "sorted")(hm:X.mg "sorted"=none)(j0:Gl X "set")(fJ:X.mg "set"=none)(ha:AD X B [e] t)(he:f_ [e] X.env=(false,KR e X.env)::f_ [] X.env:=by rfl)(fF:f_ [.Call (.Name "set" p') [e] [] aA] X.env=(false,KR (.Call (.Name "set" p') [e] [] aA) X.env)::f_ [] X.env:=by rfl)(aC:∀pos,(K0 pos (f_ [] X.env)).any (·.1)=false:=by intros;rfl):
  EO X B (.Call (.Name "sorted" p) [.Call (.Name "set" p') [e] [] aA] [] pos) (fn1 setIF t):=PE.imp (DY hr hg hm j0 fJ ha he fF aC) (wR λds d e B G I H U Γ xs Q r h k=>by
 unfold setIF at e;split at e
 ·rename_i ys;cases en:intsD ys with
  | none=>rw[en] at e;cases e
  | some ns =>
   rw[en] at e;obtain⟨ok,rfl⟩:=pK e;rw[tV en] at h;obtain⟨x,rfl,hx⟩:=h.one;obtain⟨q,zs,rfl,h3,h4⟩:=pF hx;rw[uw h4] at h3;exact⟨q,ns,rfl,(Same.rdK r.iH h3).sq,ok,λl hl=>k.new r hl (AW _)⟩
 ·cases e)
end
end DL
namespace DL
open PySem PySem.W PySem.Spec PyProof.Rows L2
section
variable{B:BB}{a b c c':KQ}{es:List KQ}{p:Pos}{kr:Nat}{ga gb gc gd:M D}{t:M (List D)}
theorem Ej(hc:X.calm=true):CallR X (.builtin "sum") (λxs H Q=>∃(p:h_) (ns:List Int),xs=[.ref p]/\SqL X.K H p (ns.map V.int)/\Q (.int ns.sum) H):=by
 intro aa s U H xs us Q I r h;obtain⟨p,ns,rfl,hq,q⟩:=h;obtain⟨u,rfl,ru⟩:=vals1 r;cases ru;obtain⟨af,rv,t,hz⟩:=I.list hq;have hi:=sW rv;obtain⟨xs,ex⟩:=hi.allInts.items;have hl:=t.isList;rw[ex] at hl;refine sum_intListG (I.ok.hd hc) hl λh' tk t' hk=>?_
 have e2:preSum (numAt xs) xs.size=ns.sum:=by
  rw[preSum_eq,K3 (by simp),←nums_intItems,←ex,show af.toArray.toList=af from rfl,hi.numsOf]
 rw[e2];exact⟨.int ns.sum,H,I.kept hk,⟨t',rfl⟩,q⟩
noncomputable def sumF(ds:List D):Option D:=match ds with
 | [.lst xs]=>match intsD xs with
  | some ns=>some (.int ns.sum)
  | none=>none
 | _=>none
theorem rX(ns:List Int):sumF [.lst (ns.map D.int)]=some (.int ns.sum):=by
 unfold sumF;simp only[tF]
theorem rW(hc:X.calm=true)(hg:Gl X "sum")(hm:X.mg "sum"=none)(ha:AD X B [e] t)(he:f_ [e] X.env=(false,KR e X.env)::f_ [] X.env:=by rfl)(aC:(K0 pos (f_ [] X.env)).any (·.1)=false:=by rfl):
  ED X B (.Call (.Name "sum" p) [e] [] pos) (fn1 sumF t):=rV (Ej hc) (λds d e B G I H U Γ xs Q r h k=>by
 unfold sumF at e;split at e
 ·rename_i ys;cases en:intsD ys with
  | none=>rw[en] at e;cases e
  | some ns =>
   rw[en] at e;cases e;rw[tV en] at h;obtain⟨x,rfl,hx⟩:=h.one;obtain⟨q,zs,rfl,h3,h4⟩:=pF hx;rw[uw h4] at h3;exact⟨q,ns,rfl,(Same.rdK r.iH h3).sq,k.now r (Is.int _)⟩
 ·cases e) hg hm boot_sum ha (by decide) (by decide) he aC
noncomputable def rngW(i:Int)(n:Nat):List V:=(Mm n).map λ(k:Nat)=>V.int (i+(k:Int))
theorem HB{p:Pos}(hc:X.calm=true)(hl:Gl X "list")(fe:X.mg "list"=none)(hg:Gl X "range")(hm:X.mg "range"=none)(ha:PA X [a,b] ta)(hs:f_ [a,b] X.env=[(false,KR a X.env),(false,KR b X.env)]:=by rfl)(bM:f_ [b] X.env=[(false,KR b X.env)]:=by rfl)(dU:f_ [.Call (.Name "range" p2) [a,b] [] bq] X.env=[(false,KR (.Call (.Name "range" p2) [a,b] [] bq) X.env)]:=by rfl):
  PE X (.Call (.Name "list" p) [.Call (.Name "range" p2) [a,b] [] bq] [] pos) (λU H Q=>ta U H λvs H1=>∃i j:Int,vs=[.int i,.int j]/\((-1000000<=i/\i<=1000000)/\-1000000<=j/\j<=1000000)/\∀l,H1 l=none->Q (.ref l) (upd H1 l (.lst (rngW i (j - i).toNat)))):=by
 intro aa s U H Q I h;refine RT (qc I hl fe RA (KF ?_ dU rfl));rw[dU];refine Mj (RT (qc I hg hm RU (KF (thn (ha bq aa s U H _ I h) λus s1 ⟨vs,H1,I1,r1,q1⟩=>?_) (by rw[hs,bM]) (by rw[bM];rfl))));obtain⟨i,j,rfl,q1,q⟩:=q1;obtain⟨u1,u2,rfl,⟨t1,rfl⟩,⟨t2,rfl⟩⟩:=r1.two;refine call_range_2 (Ms ?_);have size:rangeSize i j 1=(j - i).toNat:=by rw[rangeSize_one];split<;>omega
 refine call_list_range (I1.ok.hd hc) (IsRange.new ..) (small_one (by omega) (by omega) (by omega) (by omega)) size (by omega) λg tk ao c' keep aI items=>?_
 refine⟨.ref _,_,I1.laid (t':=tk) (λb o e=>keep b o (c_ _ e)) ?_ (o:=.lst (rngW i (j - i).toNat)) ⟨?_,ao.toList,c',?_,aI⟩,rfl,q _ ?_⟩
 ·exact Nv (by show _ < (KM.push _ _).objs.size;rw[LY];exact NO _)
 ·show(rngW i (j - i).toNat).length<=x_;rw[rngW,y_,Ol,Lb];omega
 ·refine sA (by rw[rngW,y_,Ol,Ky,items.1]) λn x u e f=>?_
  rw[K4] at f;obtain⟨t',rfl⟩:=items.2 n u f;obtain⟨k,e1,rfl⟩:=getMap e;obtain⟨k1,k2⟩:=D_.mp e1;rw[OZ] at k2;subst k2;exact⟨t',by simp⟩
 ·refine I1.hok.fresh (Nv ?_);show _ < (KM.push _ _).objs.size;rw[LY];exact NO _
theorem HG{K:PySem.W.Frag}(i:Int)(n:Nat):IsA K I (rngD i n) (rngW i n):=by
 unfold rngD rngW
 induction Mm n with
 | nil=>exact IsA.nil
 | cons k ks ih=>exact IsA.cons (Is.int _) ih
theorem A9{p:Pos}(hc:X.calm=true)(hl:Gl X "list")(fe:X.mg "list"=none)(hg:Gl X "range")(hm:X.mg "range"=none)(ha:AD X B [a,b] t)(hs:f_ [a,b] X.env=[(false,KR a X.env),(false,KR b X.env)]:=by rfl)(bM:f_ [b] X.env=[(false,KR b X.env)]:=by rfl)(dU:f_ [.Call (.Name "range" p2) [a,b] [] bq] X.env=[(false,KR (.Call (.Name "range" p2) [a,b] [] bq) X.env)]:=by rfl):
  EO X B (.Call (.Name "list" p) [.Call (.Name "range" p2) [a,b] [] bq] [] pos) (fn1 rngI2 t):=PE.imp (HB hc hl fe hg hm ha hs bM dU) λU H Q q=>by
 obtain⟨G,I,Γ,ds,ah,r,e1,k⟩:=q;obtain⟨d,ae,e2,e3⟩:=oK e1;obtain⟨e4,rfl⟩:=pD e3;obtain⟨i,j,rfl,h1,rfl⟩:=Af e4;refine⟨G,I,Γ,_,_,r,e2,λvs H1 I1 r1 g1 hd=>?_⟩;obtain⟨x,y,rfl,hx,hy⟩:=hd.two;exact⟨i,j,by rw[pq hx,pq hy],h1,λl hl=>(k.after g1).new r1 hl (HG _ _)⟩
end
noncomputable def mx(m y:Int):Int:=if m < y then y else m
noncomputable def maxI(d:Int):List Int->Int
 | []=>d
 | x::xs=>xs.foldl mx x
theorem zR(d:Int)(ne:ns≠[])(y:Int):maxI d (ns++[y])=mx (maxI d ns) y:=by
 match ns,ne with
 | x::xs,_=>simp[maxI,Oq]
section
variable{prog:z_}{w:I_}{E:b_->d_->Prop}{s:d_}
theorem uY{id:String}{b:Me}{args:List b_}{Q:b_->d_->Prop}(hk:builtinKind id=none)(hp:plainId id=true)(hb:Sc table id=some b)(ha:QV id ⟨args,kw⟩)(hc:w_ (n_ prog w) A.in1 (b ⟨args,kw⟩) (λr s'=>match r with
   | .again d=>d.quiet=true/\Ml (n_ prog w) A d (wants Q E) s'
   | .done f=>wants Q E (.ok f) s') E s):w_ (n_ prog w) A (call (.builtin id) args kw) Q E s:=by
 have ck:Pc id ⟨args,kw⟩=pure ():=by
  unfold QV at ha;unfold Pc;rw[hk]
  revert ha
  cases Manifest.signature? id with
  | none=>exact λ_=>rfl
  | some sg=>exact λha=>ha
 refine QI (Qh hp hb (LH ck ?_));exact Lk hc (λr s' h=>by cases r<;>exact h) λ_ _ h=>h
theorem Dj(a v:b_):QV "max" ⟨[a],[(Mu "default", v)]⟩:=by unfold QV;kernel_rfl
def CellsI(d:Int)(ns:List Int)(j:Nat)(cells:Array b_):Prop:=match j with
 | 0=>cells=#[]
 | j+1=>∃t,cells=#[.int (maxI d (ns.take (j+1))) t,.int (maxI d (ns.take (j+1))) t]
theorem GB{it:h_}{wr:List h_}{P:Nat->b_->Prop}{St:Nat->KM->Prop}{Fit:d_->Prop}{ak:Ry->d_->Prop}{d:Int}{td:Tok}(W:RS prog w A.in1 it fp wr n P St)(cP:S∉fp)(hn:n=ns.length)(hP:∀i v,P i v->∃x t,ns[i]?=some x/\v=.int x t)(stay:∀s h' tk,Fit s->(∀b o,b∉wr->b≠S->s.heap.get? b=some o->h'.get? b=some o)->Fit { s with heap:=h',toks:=tk })(fin:∀t s,Fit s->ak (.ok (.ret (.int (maxI d ns) t))) s):∀(left:Nat) (s:d_) (cells:Array b_) (c j:Nat),j+left=n->St j s.heap->Fit s->CellsI d ns j cells->s.heap.get? S=some { cls:=.type "list", dict:=none,data:=.seq cells c,slots:=#[] } →
   Ml (n_ prog w) A (.builtin "max.loop" ⟨[.ref it,.none,.ref S],[(Mu "default", .int d td)]⟩) ak s:=by
 have apart:S∉wr:=λh=>cP (W.sub _ h)
 have bE:∀{g:KM}{f:Obj->Obj}{b:h_}{o:Obj},b≠S->g.get? b=some o->(g.update S f).get? b=some o:=λne e=>(C_ _ _ (Kx ne)).trans e
 have aX:(toString "max"++toString ".loop":String) = "max.loop":=by decide
 intro left
 induction left with
 | zero =>
  intro s cells c j len st cV bF slot;refine La NP ?_;rw[Lu Ls _];refine a_ (m:=Ov (.ref S)) (Ln slot rfl (a_ (m:=tryCatch (Mn (.ref it)) _) (L6 (W.done s _ _ (len▸st) λg tk kk=>?_))));have all:ns.take j=ns:=K3 (by omega);cases j with
  | zero =>
   cases bF;have e0:ns=[]:=LX.mp (by omega);refine a_ (LM (e_ ?_));have:=fin td { s with heap:=g,toks:=tk } (stay s g tk cV λx o n1 _ e=>kk x o n1 e);rw[e0] at this;exact this
  | succ m =>
   obtain⟨t,rfl⟩:=bF;rw[all] at slot ⊢;exact a_ (m:=M9 S λ_=>#[]) (K2 (kk S _ apart slot) rfl (a_ (Lp (e_ (fin t _ (stay s _ tk cV λx o n1 n2 e=>bE n2 (kk x o n1 e)))))))
 | succ left ih =>
  intro s cells c j len st cV bF slot;refine La NP ?_;rw[Lu Ls _];refine a_ (m:=Ov (.ref S)) (Ln slot rfl (a_ (m:=tryCatch (Mn (.ref it)) _) (L6 (W.item j s _ _ (by omega) st λv g tk gR bD kk=>?_))));obtain⟨x,t,ex,rfl⟩:=hP j v gR;have aT:=kk S _ apart slot;have cQ:=stay s g tk cV λx o n1 _ e=>kk x o n1 e
  have bZ:ns.take (j+1)=ns.take j++[x]:=by rw[MR,ex];rfl
  have next:∀(f:Obj->Obj) (aO:Array b_) (c':Nat),(g.update S f).get? S=some { cls:=.type "list", dict:=none,data:=.seq aO c',slots:=#[] }->CellsI d ns (j+1) aO →
    Ml (n_ prog w) A (.builtin "max.loop" ⟨[.ref it,.none,.ref S],[(Mu "default", .int d td)]⟩) ak { s with heap:=g.update S f,toks:=tk }:=λf aO c' aJ is =>
   ih _ aO c' (j+1) (by omega) (W.frame _ _ _ bD λb hb o e=>bE (λz=>cP (z▸hb)) e) (stay { s with heap:=g,toks:=tk } _ tk cQ λx o _ n2 e=>bE n2 e) is aJ
  cases j with
  | zero =>
   cases bF;refine a_ (m:=M9 S λ_=>#[.int x t,.int x t]) (K2 aT rfl ?_);rw[aX];refine e_ ⟨KZ Ls _,next _ _ _ (KL _ aT rfl) ⟨t,?_⟩⟩;rw[bZ];rfl
  | succ m =>
   obtain⟨t2,rfl⟩:=bF
   have ne:ns.take (m+1)≠[]:=λz=>by
    rcases N7.mp z with z | z
    ·exact absurd z (Pj _)
    ·rw[z] at ex;simp at ex
   have step:maxI d (ns.take (m+2))=mx (maxI d (ns.take (m+1))) x:=by rw[bZ,zR d ne]
   refine a_ (m:=tryCatch (Nw [.int x t,.int x t] (P9 .Gt (.int x t) (.int (maxI d (ns.take (m+1))) t2) >>= _)) _) (L6 (Kz (a_ (gt_int (a_ (Kz (L7 (a_ (Lp (e_ ?_))))))))));by_cases hb:maxI d (ns.take (m+1)) < x
   ·rw[if_pos (by simpa using hb)];refine a_ (K2 aT rfl (a_ (Lp ?_)));rw[aX];refine e_ ⟨KZ Ls _,next _ _ _ (KL _ aT rfl) ⟨t,?_⟩⟩;rw[step,mx,if_pos hb]
   ·rw[if_neg (by simpa using hb)];refine a_ (Lp ?_);rw[aX];refine e_ ⟨KZ Ls _,ih _ _ c (m+2) (by omega) bD cQ ⟨t2,?_⟩ aT⟩;rw[step,mx,if_neg hb]
theorem De{p:h_}{d:Int}{td:Tok}{Q:b_->d_->Prop}(hh:A.handled=none)(L:s.heap.IsList p af.toArray)(hI:LZ af ns)(fin:∀t h' tk,(∀b o,s.heap.get? b=some o->h'.get? b=some o)->Q (.int (maxI d ns) t) { s with heap:=h',toks:=tk }):w_ (n_ prog w) A (call (.builtin "max") [.ref p] [(Mu "default", .int d td)]) Q E s:=by
 have low:p < s.heap.objs.size:=by obtain⟨_,e,_⟩:=L;exact F_ e
 refine uY F.kind_max F.plain_max F.entry_max (Dj _ _) ?_;refine a_ (LH (a:=[none,some (.int d td)]) rfl (a_ (e_ (a_ (Nx L (a_ (KY ?_)))))));have aX:(toString "max"++toString ".loop":String) = "max.loop":=by decide
 rw[aX];have W:=RS.list (prog:=prog) (w:=w) (A:=A.in1) hh s.heap.objs.size p (KI low) af.toArray;have bC:∀o:Obj,(s.heap.push o).objs.size=s.heap.objs.size+1:=λo=>LY ..
 refine e_ ⟨KZ Ls _,GB (Fit:=λs'=>∃h' tk,s'={ s with heap:=h',toks:=tk }/\∀b o,s.heap.get? b=some o->h'.get? b=some o) (ns:=ns) (d:=d) W ?_ ?_ ?_ ?_ ?_ af.toArray.size _ #[] 0 0 (MV _) ⟨⟨_,c_ _ (t_ _ rfl),rfl,rfl⟩,(L.push _).push _⟩ ⟨_,_,rfl,λb o e=>c_ _ (c_ _ e)⟩ rfl (t_ _ rfl)⟩
 ·rw[bC];intro z;rw[m_,A_] at z
  rcases z with z | z
  ·exact absurd z (NN _)
  ·exact absurd z (Nb (MX low))
 ·rw[l_,hI.length]
 ·intro i v hv;exact va hI (by simpa using hv)
 ·rintro _ h' tk ⟨g,bZ,rfl,keep⟩ k;refine⟨h',tk,rfl,λb o e=>k b o (λz=>?_) (λz=>?_) (keep b o e)⟩
  ·rw[A_] at z;exact KI (F_ e) z
  ·rw[bC] at z;have:=F_ e;rw[z] at this;exact absurd this (So.mpr (Qp _))
 ·rintro t _ ⟨g,tk,rfl,keep⟩;exact fin t g tk keep
end
section
variable{B:BB}{dx:KQ}{p kp:Pos}{ga gb:M D}
noncomputable def rMxD(K:PySem.W.Frag):R2:=λx y H Q=>∃(p:h_) (ns:List Int) (d:Int),x=.ref p/\y=.int d/\SqL K H p (ns.map V.int)/\Q (.int (maxI d ns)) H
theorem Fc{ta tb:TE}(hc:X.calm=true)(hg:Gl X "max")(hm:X.mg "max"=none)(he:PE X e ta)(hd:PE X dx tb)(hs:K0 pos (f_ [e] X.env)=(false,KR e X.env)::K0 pos (f_ [] X.env):=by rfl)(hp:(K0 pos (f_ [e] X.env)).any (·.1)=false:=by rfl):PE X (.Call (.Name "max" p) [e] [⟨some "default", dx,kp⟩] pos) (tOp (rMxD X.K) ta tb):=by
 intro aa s U H Q I h;refine LW (qc I hg hm boot_max (callWith_kw ?_ hs hp) (by decide) (by decide));rw[hs];refine Mj (thn (he aa s U H _ I h) λv s1 ⟨x,H1,I1,r1,q1⟩=>Ms (kws_cons (thn (hd aa s1 U H1 _ I1 q1) λu s2 ⟨y,H2,I2,r2,q2⟩=>kws_nil ?_)));obtain⟨p,ns,d,rfl,rfl,hq,q⟩:=q2;cases r1;obtain⟨t,rfl⟩:=r2;obtain⟨af,rv,tl,hz⟩:=I2.list hq;exact De (I2.ok.hd hc) tl.isList (sW rv) λt h' tk keep=>⟨.int (maxI d ns),H2,I2.kept keep,⟨t,rfl⟩,q⟩
noncomputable def maxdF(c k:D):Option D:=match c,k with
 | .lst xs,.int d=>match intsD xs with
  | some ns=>some (.int (maxI d ns))
  | none=>none
 | _,_=>none
theorem DV(d:Int)(ns:List Int):maxdF (.lst (ns.map D.int)) (.int d)=some (.int (maxI d ns)):=by
 unfold maxdF;simp only[tF]
theorem Fq(hc:X.calm=true)(hg:Gl X "max")(hm:X.mg "max"=none)(he:ED X B e ga)(hd:ED X B dx gb)(hs:K0 pos (f_ [e] X.env)=(false,KR e X.env)::K0 pos (f_ [] X.env):=by rfl)(hp:(K0 pos (f_ [e] X.env)).any (·.1)=false:=by rfl):ED X B (.Call (.Name "max" p) [e] [⟨some "default", dx,kp⟩] pos) (op2 maxdF ga gb):=PE.imp (Fc hc hg hm he hd hs hp) (t_op λa b d e B G I H U Γ x y Q r hx hy k=>by
 unfold maxdF at e;split at e
 ·rename_i ys dv;cases en:intsD ys with
  | none=>rw[en] at e;cases e
  | some ns =>
   rw[en] at e;cases e;rw[tV en] at hx;obtain⟨q,zs,rfl,h3,h4⟩:=pF hx;rw[uw h4] at h3;exact⟨q,ns,dv,rfl,pq hy,(Same.rdK r.iH h3).sq,k.now r (Is.int _)⟩
 ·cases e)
end
section
variable{K:PySem.W.Frag}{B:Nat->Option (Option V)}{H:Hp}
theorem Rep.freezeO(r:Rep K B G I H U Γ){p:h_}(h:H p=some o)(hi:I p=none)(a:Apart U Γ p):Rep K B G (upd I p o) H U Γ where
 iH:=λb u q=>by
  by_cases e:b=p
  ·subst e;rw[pA] at q;cases q;exact h
  ·rw[po e] at q;exact r.iH b u q
 gH:=r.gH
 len:=r.len
 slot:=λi q e=>by
  obtain⟨v,e1,e2⟩:=r.slot i q e;refine⟨v,e1,?_⟩;have up:=pQ hi o
  have mt:q.ptr=true->∀ds,Mt K G I H ds v->Mt K G (upd I p o) H ds v:=λm ds h=>by
   obtain⟨p',bg,h1,h2,h3,h4,h5⟩:=h;refine⟨p',bg,h1,h2,?_,h4,h5.mono up⟩;have ne:p'≠p:=λz=>a i q e m (by rw[e1,h1,z])
   rw[po ne];exact h3
  cases q with
  | val d=>exact Is.mono up e2
  | dic ds =>
   obtain⟨p',bg,h1,h2,h3,h4,h5⟩:=e2;refine⟨p',bg,h1,h2,?_,h4,h5.mono up⟩;have ne:p'≠p:=λz=>a i _ e rfl (by rw[e1,h1,z])
   rw[po ne];exact h3
  | own ds=>exact mt rfl ds e2
  | bor ds=>exact mt rfl ds e2
  | fro ds=>obtain⟨p,xs,f1,f2,f3,f4⟩:=e2;exact⟨p,xs,f1,up _ _ f2,f3,f4.mono up⟩
  | tfr ds=>exact e2.elim
 dist:=r.dist
 bor:=r.bor
theorem growFreezeO{G I:Hp}{p:h_}(hi:I p=none)(hg:G p=none):Grow G I (upd I p o):=⟨pQ hi _,λb u q=>by
 by_cases e:b=p
 ·subst e;exact .inr hg
 ·rw[po e] at q;exact .inl q⟩
end
section
variable{B:BB}{k v f':KQ}{es:List KQ}{p:Pos}{g:M (List (Int×D))}{gx:M D}{kr:Nat}
noncomputable def dlit0:M (List (Int×D)):=ret []
theorem EZ:EK X B (.Dict [] [] pos) dlit0:=PE.imp Bg λU H Q q p hl=>by
 obtain⟨G,I0,Γ,aj,ah,r,e1,kk⟩:=q;cases e1;exact kk _ _ _ _ (r.fresh hl _) (Grow.refl _ _) pA (r.iFree hl) (r.gFree hl) (r.apart hl) IsK.nil
noncomputable def Itd(a:h_)(o:Obj):It:=
 ⟨λi H=>∃xs,H a=some (.frz o (.dK xs))/\i < xs.length,λi H x H'=>H'=H/\∀xs,H a=some (.frz o (.dK xs))->∃k y,xs[i]?=some (k,y)/\x=kV k,λi H=>∃xs,H a=some (.frz o (.dK xs))/\xs.length<=i⟩
theorem zd{P:z_}{w:I_}{H:Hp}{a:h_}{o:Obj}{xs:List (Key×V)}{es:Array DictEntry}(ok:HOk P w H h)(e:H a=some (.frz o (.dK xs)))(hd:o.data=.dict es ep):∃vs,L2.KV xs vs/\h.DictAt (mixKind P w) a vs ep:=by
 obtain⟨ho,_,_,vs,aQ,o',es',gY,bL,r1,r2,r3⟩:=(show ObjOk P w H h a (.frz o (.dK xs)) from ok a _ e);rw[ho] at bL;cases bL;rw[hd] at r2;cases r2;exact⟨vs,aQ,o,es,ho,r1,hd,r3⟩
theorem Dy{P:z_}{w:I_}{K:PySem.W.Frag}(a it:h_)(o:Obj){es:Array DictEntry}(hd:o.data=.dict es ep)(hn:es.size=n)(ne:a≠it):Turn P w K tg (Itd a o) [it] it (λi h=>h.IsKeyIter it a i n ep) where
 mem:=by simp
 obj:=λi h st b hb=>by
  have e:b=it:=by simpa using hb
  subst e;obtain⟨o,e,c,d⟩:=st;exact⟨o,e,λv z=>by rw[d] at z;cases z⟩
 keep:=λi h h' st k=>st.at λo e=>k it (by simp) o e
 item:=by
  intro X hP hw hK hc i aa s U H E I hf st hg;subst hP hw hK;obtain⟨xs,hq,hi⟩:=hg;obtain⟨vs,aQ,dd⟩:=zd I.hok hq hd;have lv:vs.length=xs.length:=aQ.length.symm
  have ln:vs.length=n:=by
   obtain⟨o',es',bL,_,br,_,pr,_⟩:=id dd;have ho:=(show ObjOk X.prog X.w H s.heap a (.frz o (.dK xs)) from I.hok a _ hq).1;rw[ho] at bL;cases bL;rw[hd] at br;cases br;have:=pr.length;rw[Ky] at this;omega
  obtain⟨f0,f1,f2,f3,f4,f5⟩:=hf it (by simp);have W:=dictKeys (prog:=X.prog) (w:=X.w) (A:=X.A) (knd:=mixKind X.prog X.w) (I.ok.hd hc) it a ne vs ep;refine W.item i s _ _ (by omega) ⟨by rw[ln];exact st,dd⟩ λv h' tk hv ag kk=>?_
  obtain⟨k,y,e1,e2⟩:=hv;have I1:Inv X aa U H { s with heap:=h',toks:=tk }:=I.turned (λb o hb e=>kk b o (by simpa using hb) e) f0 f1 f3 f4 f5;obtain⟨oi,e,c,d⟩:=id ag.1;have kx:(xs.map (·.1))[i]?=some k:=by rw[aQ.keys,E_,e1];rfl
  refine⟨v,rfl,sZ (s:={ s with heap:=h',toks:=tk }) e c d (by decide) ⟨kV k,H,I1,?_,⟨rfl,λys hy=>?_⟩,by have:=ag.1;rw[ln] at this;exact this,λb hb=>(hf b hb).1⟩⟩
  ·have e2:keyIs k v=true:=e2
   rcases qu e2 with⟨j,t,rfl,e'⟩ | ⟨j,t,rfl,e'⟩
   ·exact⟨t,e'⟩
   ·exact⟨t,e'⟩
  ·rw[hq] at hy;cases hy;obtain⟨q,g1,g2⟩:=getMap kx;exact⟨q.1,q.2,g1,by rw[←g2]⟩
 done:=by
  intro X hP hw hK hc i aa s U H E I hf st hg;subst hP hw hK;obtain⟨xs,hq,hi⟩:=hg;obtain⟨vs,aQ,dd⟩:=zd I.hok hq hd;have lv:vs.length=xs.length:=aQ.length.symm
  have ln:vs.length=n:=by
   obtain⟨o',es',bL,_,br,_,pr,_⟩:=id dd;have ho:=(show ObjOk X.prog X.w H s.heap a (.frz o (.dK xs)) from I.hok a _ hq).1;rw[ho] at bL;cases bL;rw[hd] at br;cases br;have:=pr.length;rw[Ky] at this;omega
  obtain⟨f0,f1,f2,f3,f4,f5⟩:=hf it (by simp);exact wpAny_pyNext_dict_end (I.ok.hd hc) (by rw[ln];exact st) dd (LU (by omega)) λh' eb=>⟨rfl,I.turned (t':=s.toks) (λb o hb e=>eb b o hb e) f0 f1 f3 f4 f5⟩
 self:=λ_ _ _ _ _ st h=>wpAny_pyIter_keyiter st h
end
abbrev IsZip1(h:KM)(z TI TO:h_)(f0 f1:b_):Prop:=
 h.get? z=some { cls:=.type "zip", dict:=none,data:=.fields #[f0,f1,.bool false,.ref TI,.ref TO],slots:=#[] }
section
variable{prog:z_}{w:I_}{E:b_->d_->Prop}{s:d_}{k:Kd}
theorem Iq{a:h_}{o:Obj}{Q:Option Obj->d_->Prop}(ho:s.heap.get? a=some o)(h:Q (some o) s):w_ (n_ prog w) A (loadIfAlive a) Q E s:=λΓ p _=>by
 have h':Q (s.heap.get? a) s:=by rw[ho];exact h
 exact h'
theorem FP{z ta T:h_}{b:Bool}{R:Bool->d_->Prop}(Z:IsZip1 s.heap z ta aG (Md T) (.bool b))(al:∃o,s.heap.get? T=some o)(r:∀g:KM,IsZip1 g z ta aG (Md T) (.bool true)->KM.SameBut z s.heap g->R false { s with heap:=g }):w_ (n_ prog w) A (O9 (.ref z)) R E s:=by
 obtain⟨oT,hT⟩:=al;refine a_ (LF (i:=0) Z rfl (x:=Md T) rfl (a_ (Iq hT ?_)));rw[if_neg (by simp)];refine a_ (LF (i:=1) Z rfl (x:=.bool b) rfl ?_);cases b with
 | true =>
  rw[if_neg (by decide)];exact e_ (r s.heap Z (KM.SameBut.refl _ _))
 | false =>
  rw[if_pos (by decide)];exact a_ (MP Z (by simp) λg Z1 b1=>e_ (r g Z1 b1))
theorem ze(ok:KdOk k){z ta p q u v T:h_}{xs ys:Array b_}{b:Bool}{Q:PySem.Fin->d_->Prop}(D:R5 z ta aG p q u v)(Z:IsZip1 s.heap z ta aG (Md T) (.bool b))(al:∃o,s.heap.get? T=some o)(Ta:MB s.heap ta (.ref p) (.ref q))(P:k.it s.heap p u m)(P':k.it s.heap q v n)(pj:k.sq s.heap u xs)(U':k.sq s.heap v ys)(dG:∀x y,xs[m]?=some x->ys[n]?=some y->∀g:KM,MB g s.heap.objs.size x y->IsZip1 g z ta aG (Md T) (.bool true)->k.it g p u (m+1)/\k.it g q v (n+1) →
   (∀c o,(c≠z/\c≠p/\c≠q)->s.heap.get? c=some o->g.get? c=some o)->Q (.done (.ret (.ref s.heap.objs.size))) { s with heap:=g })(ee:(xs[m]?=none\/ys[n]?=none)->A.handled=none/\∀(g:KM) (x:h_),(∀c o,(c≠z/\c≠p/\c≠q)->s.heap.get? c=some o->g.get? c=some o)->(∃o,g.get? x=some o/\o.cls=.type "StopIteration")->E (.ref x) { s with heap:=g }):
  w_ (n_ prog w) A (Me.«zip.__next__» ⟨[.ref z],[]⟩) Q E s:=by
 refine a_ (LH (a:=(b_.ref z,[])) rfl (a_ (LF (i:=2) Z rfl (x:=.bool false) rfl (a_ (LF (i:=3) Z rfl (x:=.ref ta) rfl (a_ (Ln Ta rfl ?_)))))));refine a_ (m:=O9 (.ref z)) (FP Z al λg1 Z1 b1=>?_);rw[if_neg v_];have f1:∀c o,c≠z->s.heap.get? c=some o->g1.get? c=some o:=λc o ne e=>b1.extBut _ _ ne e
 refine a_ ?_;rw[←QZ,show(#[b_.ref p,b_.ref q]:Array b_).toList=[.ref p,.ref q] from rfl,Pu];refine a_ (a_ (Kz (a_ (m:=QT (.ref p)) ?_)));have P1:=ok.itAt P λo e=>f1 _ o D.i1z e
 have U1:=ok.sqAt pj λo e=>f1 _ o D.l1z e
 cases hx:xs[m]? with
 | none =>
  obtain⟨hh,ak⟩:=ee (.inl hx);exact ok.stop hh P1 U1 hx λg2 x b2 is=>ak g2 x (λc o ne e=>b2 _ _ ne.2.1 (f1 c o ne.1 e)) is
 | some x =>
  refine ok.item P1 U1 hx λg2 P2 b2=>e_ ?_
  dsimp only;refine e_ ?_;have f2:∀c o,c≠p->g1.get? c=some o->g2.get? c=some o:=λc o n2 e=>b2.extBut _ _ n2 e
  dsimp only;rw[Pu];refine a_ (a_ (Kz (a_ (m:=QT (.ref q)) ?_)));have Q2:=ok.itAt P' λo e=>f2 _ o D.i12.symm (f1 _ o D.i2z e)
  have V2:=ok.sqAt U' λo e=>f2 _ o D.l2i1 (f1 _ o D.l2z e)
  cases hy:ys[n]? with
  | none =>
   obtain⟨hh,ak⟩:=ee (.inr hy);exact ok.stop hh Q2 V2 hy λg4 x b4 is=>ak g4 x (λc o ne e=>b4 _ _ ne.2.2 (f2 c o ne.2.1 (f1 c o ne.1 e))) is
  | some y =>
   refine ok.item Q2 V2 hy λg4 Q4 b4=>e_ ?_
   dsimp only;refine e_ ?_;dsimp only;rw[forIn_nil];refine e_ (a_ (NA (e_ ?_) (by show 2<=x_;rw[Lb];decide)));have same:g4.objs.size=s.heap.objs.size:=b4.1.trans (b2.1.trans b1.1);have Z4:IsZip1 g4 z ta aG (Md T) (.bool true):=b4.extBut _ _ D.i2z.symm (f2 _ _ D.i1z.symm Z1);have T5:MB (g4.push { cls:=.type "tuple", data:=.seq #[x,y] }) g4.objs.size x y:=t_ _ rfl;show Q (.done (.ret (.ref g4.objs.size))) { s with heap:=g4.push { cls:=.type "tuple", data:=.seq #[x,y] } };rw[same] at T5 ⊢
   exact dG x y hx hy _ T5 (c_ _ Z4) ⟨ok.itAt P2 λo e=>c_ _ (b4.extBut _ _ D.i12 e),ok.itAt Q4 λo e=>c_ _ e⟩
    λc o ne e=>c_ _ (b4.extBut _ _ ne.2.2 (f2 c o ne.2.1 (f1 c o ne.1 e)))
end
theorem zL{H:Hp}{s:d_}{T:h_}(I:Inv X aa U H s)(f:FpOk X aa H T)(new:ObjOk X.prog X.w (upd H T o) s.heap T o):Inv X aa U (upd H T o) s:=by
 have ne:∀{b u},H b=some u->b≠T:=λ{b u} e=>qi e f.1
 have:=I.step (H':=upd H T o) (h':=s.heap) (g':=s.gens) (d':=s.drawn) (t':=s.toks) (ch:=[T]) (λb hb=>by rw[A_.mp hb];exact⟨f.2.2.2.1,f.2.1,f.2.2.2.2.1,f.2.2.2.2.2⟩) (λb u _ _ hc e _=>e) (λb u _ _ hc e _=>⟨u.slots,e⟩)
  (λb u hc e n=>by rw[po (by simpa using hc)];exact n) (λb u hc e=>⟨u,e⟩) (λb xs e=>by rw[po (ne e)];exact e) (λb u v e=>by rw[po (ne e)];exact e) (λb q e=>by rw[po (ne e)];exact e) (λm hm=>hm) (λb u e=>?_) I.bare
 ·exact this
 ·by_cases hb:b=T
  ·subst hb;rw[pA] at e;cases e;exact new
  ·rw[po hb] at e;exact(I.hok b u e).stay (λc v hc q=>q) (λc q=>by rw[po (ne q)];exact q) (λc xs q=>by rw[po (ne q)];exact q) λc o u q=>by rw[po (ne q)];exact q
def zipK:List V->List V->Hp->List V->(List V->Hp->Prop)->Prop
 | x::xs,y::ys,H,ao,Q=>∀p,H p=none->zipK xs ys (upd H p (.tup [x,y])) (ao++[.ref p]) Q
 | _,_,H,ao,Q=>Q ao H
def ZipAt(h:KM)(z ta aG:h_):Nat->Prop
 | 0=>PP h z ta aG .none/\∃a b,MB h aG a b
 | _+1=>∃(T:h_) (b:Bool),IsZip1 h z ta aG (Md T) (.bool b)/\∃o,h.get? T=some o
theorem xD:∀{xs:List V}{us:List b_}{x:V}{u:b_},Vals xs us->RelV x u->Vals (xs++[x]) (us++[u])
 | _,_,_,_,.nil,h=>.cons h .nil
 | _,_,_,_,.cons a r,h=>.cons a (xD r h)
section
variable{R:Ry->d_->Prop}
theorem Cc{z ta p q u v:h_}(D:R5 z ta aG p q u v)(hh:A.handled=none){ys:List V}{bh:List b_}(r1:Vals xs af)(r2:Vals ys bh)(hl:xs.length=ys.length)(hz:xs.length < x_)(hS:S∉[z,ta,aG,p,q,u,v]){Qf:List V->Hp->Prop}(fin:∀s' H' aM us c,Inv X aa U H' s'->FpOk X aa H' S->s'.heap.get? S=some { cls:=.type "list", dict:=none,data:=.seq (us:List b_).toArray c,slots:=#[] }->Vals aM us->aM.length=xs.length->Qf aM H'->R (.ok (.ret .none)) s'):
  ∀(k i:Nat) (s:d_) (H:Hp) (aM:List V) (us:List b_) (c:Nat),xs.length - i=k->i<=xs.length->Inv X aa U H s->(∀b∈[z,ta,aG,p,q,S],FpOk X aa H b/\b < s.heap.objs.size)->ZipAt s.heap z ta aG i->MB s.heap ta (.ref p) (.ref q)->s.heap.IsListIter p u i->s.heap.IsListIter q v i →
   s.heap.IsList u af.toArray->s.heap.IsList v bh.toArray->s.heap.get? S=some { cls:=.type "list", dict:=none,data:=.seq us.toArray c,slots:=#[] }->Vals aM us->aM.length=i->zipK (xs.drop i) (ys.drop i) H aM Qf →
   Ml (n_ X.prog X.w) A (.builtin "list.extend.loop" ⟨[.ref S,.ref z,.none],[]⟩) R s:=by
 have l1:=r1.length;have l2:=r2.length;simp only[m_,LR,or_false,not_or] at hS;obtain⟨s1,s2,s3,s4,s5,s6,s7⟩:=hS;intro k
 induction k with
 | zero =>
  intro i s H aM us c hk hi I hf za Ta P P' pj U' iE rv rl zk;have:i=xs.length:=by omega
  refine La Qw ?_;rw[Lu MF _];have gS:af.toArray[i]?=none:=by rw[List.getElem?_toArray];exact LU (by omega)
  have hT:s.TypeIs (.ref z) "zip":=by
   cases i with
   | zero=>exact⟨_,za.1,rfl⟩
   | succ i=>obtain⟨T,b,z1,_⟩:=za;exact⟨_,z1,rfl⟩
  have ak:∀(g:KM) (x:h_),(∀c o,(c≠z/\c≠aG/\c≠p/\c≠q)->s.heap.get? c=some o->g.get? c=some o)->(∃o,g.get? x=some o/\o.cls=.type "StopIteration") →
    w_ (n_ X.prog X.w) A.in1 (isInstance (.ref x) (.type "StopIteration") >>= λb=>if b=true then pure none else throw (.ref x)) (λ(r:Option b_) s1=>r=none/\R (.ok (.ret .none)) s1) (λ_ _=>False) { s with heap:=g }:=λg x kk is=>by
   obtain⟨o,ho,gC⟩:=is;refine a_ (M5 (T:= "StopIteration") (b:=true) ⟨o,ho,gC⟩ OC ?_);refine e_ ⟨rfl,?_⟩
   have I1:Inv X aa U H { s with heap:=g }:=rT (t':=s.toks) I (ch:=[z,aG,p,q]) (λb hb=>(hf b (by simp only[m_,LR,or_false] at hb ⊢;rcases hb with h | h | h | h<;>simp[h])).1) λb u hb e=>by
    simp only[m_,LR,or_false,not_or] at hb;exact kk b u hb e
   refine fin _ H aM us c I1 (hf S (by simp)).1 (kk S _ ⟨s1,s3,s4,s5⟩ iE) rv (by omega) ?_;rw[this,NX,hl,NX] at zk;exact zk
  have next:w_ (n_ X.prog X.w) A.in1 (Mn (.ref z)) (λr s1=>r=none/\R (.ok (.ret .none)) s1) (λ_ _=>False) s:=by
   unfold Mn;refine a_ (Mg (K8 (name:=Mu "__next__") hT Ma (K_ Ma hT NM ?_ (NB _))));cases i with
   | zero =>
    obtain⟨z0,a,b,t0⟩:=za;refine tW qP D z0 Ta t0 P P' pj U' (λx y hx=>?_) λ_=>⟨hh,λg x kk is=>ak g x kk is⟩
    rw[gS] at hx;cases hx
   | succ i =>
    obtain⟨T,b,z1,al⟩:=za;refine ze qP D z1 al Ta P P' pj U' (λx y hx=>?_) λ_=>⟨hh,λg x kk is=>ak g x (λc o h=>kk c o ⟨h.1,h.2.2⟩) is⟩
    rw[gS] at hx;cases hx
  refine a_ (m:=Mn (.ref z)) (Lk next (λr s1 h=>?_) λ_ _ x=>x.elim);obtain⟨rfl,h⟩:=h;exact e_ h
 | succ k ih =>
  intro i s H aM us c hk hi I hf za Ta P P' pj U' iE rv rl zk;have lt:i < xs.length:=by omega
  refine La Qw ?_;rw[Lu MF _];have dx:xs.drop i=xs[i]::xs.drop (i+1):=KC lt;have dy:ys.drop i=ys[i]'(by omega)::ys.drop (i+1):=KC (by omega);rw[dx,dy] at zk;obtain⟨u1,e1,e2⟩:=r1.get (i_ lt);obtain⟨u2,e3,e4⟩:=r2.get (i_ (show i < ys.length by omega));have f1:af.toArray[i]?=some u1:=by simpa using e1
  have f2:bh.toArray[i]?=some u2:=by simpa using e3
  have gL:S < s.heap.objs.size:=F_ iE;have nT:∀{b:h_}{o:Obj},s.heap.get? b=some o->b≠s.heap.objs.size:=λe=>KI (F_ e)
  have hT:s.TypeIs (.ref z) "zip":=by
   cases i with
   | zero=>exact⟨_,za.1,rfl⟩
   | succ i=>obtain⟨T,b,z1,_⟩:=za;exact⟨_,z1,rfl⟩
  have dk:z < s.heap.objs.size:=by
   cases i with
   | zero=>exact F_ za.1
   | succ i=>obtain⟨T,b,z1,_⟩:=za;exact F_ z1
  have go:∀(g:KM) (b:Bool) (T:h_),MB g s.heap.objs.size u1 u2->IsZip1 g z ta aG (Md T) (.bool b)->(∃o,g.get? T=some o)->g.IsListIter p u (i+1)/\g.IsListIter q v (i+1)->(∀c o,(c≠z/\c≠aG/\c≠p/\c≠q)->s.heap.get? c=some o->g.get? c=some o) →
    w_ (n_ X.prog X.w) A.in1 (M9 S (·.push (.ref s.heap.objs.size)) >>= λ_=>(Q7 (.builtin "list.extend.loop" ⟨[.ref S,.ref z,.none],[]⟩):Sem PySem.Fin)) (λfin s'=>match fin with
     | .done f=>R (.ok f) s'
     | .again c'=>c'.quiet=true/\Ml (n_ X.prog X.w) A c' R s') (λe s'=>R (.error e) s') { s with heap:=g }:=λg b T pT z1 al its' kk=>by
   have fG:=kk S _ ⟨s1,s3,s4,s5⟩ iE;have o9:us.length=i:=by rw[←rv.length];exact rl
   have I1:Inv X aa U (upd H s.heap.objs.size (.tup [xs[i],ys[i]'(by omega)])) { s with heap:=g }:=u5 (t':=s.toks) I (ch:=[z,aG,p,q]) (λb hb=>(hf b (by simp only[m_,LR,or_false] at hb ⊢;rcases hb with h | h | h | h<;>simp[h])).1) (λb u hb e=>by
    simp only[m_,LR,or_false,not_or] at hb
    exact kk b u hb e) (B_ _) ⟨by show 2<=x_;rw[Lb];decide,[u1,u2],.cons e2 (.cons e4 .nil),⟨_,pT,rfl,_,rfl⟩⟩
   have gl:s.heap.objs.size < g.objs.size:=F_ pT
   have fp:∀b∈[z,ta,aG,p,q,S],FpOk X aa (upd H s.heap.objs.size (.tup [xs[i],ys[i]'(by omega)])) b/\b < s.heap.objs.size:=λb hb=>by
    have h0:=hf b hb;exact⟨⟨by rw[po (KI h0.2)];exact h0.1.1,h0.1.2⟩,h0.2⟩
   have nz:∀{f:Obj->Obj}{b:h_}{o:Obj},b≠S->g.get? b=some o->(g.update S f).get? b=some o:=λne e=>(C_ _ _ (Kx ne)).trans e
   refine a_ (K2 fG rfl (e_ ⟨KZ MF _,?_⟩) (by rw[l_];omega) (by rw[Oe,l_];omega));have fS:=(fp S (by simp)).1;have I2:Inv X aa U (upd H s.heap.objs.size (.tup [xs[i],ys[i]'(by omega)])) { s with heap:=g.update S (L4 (·.push (.ref s.heap.objs.size))) }:=rT (s:={ s with heap:=g }) (t':=s.toks) I1 (ch:=[S]) (λb hb=>by rw[A_.mp hb];exact fS) λb u hb e=>nz (by simpa using hb) e
   have oj:(g.update S (L4 (·.push (.ref s.heap.objs.size)))).objs.size=g.objs.size:=Qb ..;have own:=KL (L4 (·.push (b_.ref s.heap.objs.size))) fG rfl
   obtain⟨c',lZ⟩:∃c',(g.update S (L4 (·.push (b_.ref s.heap.objs.size)))).get? S=some { cls:=.type "list", dict:=none,data:=.seq (us++[b_.ref s.heap.objs.size]).toArray c',slots:=#[] }:=⟨_,by
    have:(us++[b_.ref s.heap.objs.size]).toArray=us.toArray.push (.ref s.heap.objs.size):=by simp
    rw[this]
    exact own⟩
   refine ih (i+1) _ _ (aM++[.ref s.heap.objs.size]) (us++[.ref s.heap.objs.size]) c' (by omega) lt I2 (λb hb=>⟨(fp b hb).1,by rw[oj];exact Rg (fp b hb).2 gl⟩) ⟨T,b,nz (Kx s1) z1,?_⟩ (nz (Kx s2) (kk ta _ ⟨D.TIz,D.TITO,D.TIi1,D.TIi2⟩ Ta))
    (its'.1.at λo e=>nz (Kx s4) e) (its'.2.at λo e=>nz (Kx s5) e) (pj.at λo e=>nz (Kx s6) (kk u o ⟨D.l1z,D.l1TO,D.l1i1,D.l1i2⟩ e)) (U'.at λo e=>nz (Kx s7) (kk v o ⟨D.l2z,D.l2TO,D.l2i1,D.l2i2⟩ e)) lZ (xD (x:=.ref s.heap.objs.size) (u:=.ref s.heap.objs.size) rv rfl) (by simp[rl]) ?_
   ·obtain⟨o,ho⟩:=al;by_cases e:T=S
    ·subst e;exact⟨_,own⟩
    ·exact⟨o,nz e ho⟩
   ·exact zk _ (I.hok.fresh (B_ _))
  refine a_ (m:=Mn (.ref z)) ?_;unfold Mn;refine a_ (Mg (K8 (name:=Mu "__next__") hT Ma (K_ Ma hT NM ?_ (NB _))));cases i with
  | zero =>
   obtain⟨z0,a,b,t0⟩:=za;refine tW qP D z0 Ta t0 P P' pj U' (λx y hx hy g ⟨_,b5⟩ b1 b2 b3 b7=>?_) λnon=>?_
   ·rw[f1] at hx;cases hx;rw[f2] at hy;cases hy;exact⟨_,rfl,e_ (go g false _ b5 b1 ⟨_,b5⟩ b3 b7)⟩
   ·rw[f1,f2] at non
    rcases non with non | non<;>cases non
  | succ i =>
   obtain⟨T,b,z1,al⟩:=za;refine ze qP D z1 al Ta P P' pj U' (λx y hx hy g b5 b1 b3 b7=>?_) λnon=>?_
   ·rw[f1] at hx;cases hx;rw[f2] at hy;cases hy;refine⟨_,rfl,e_ (go g true T b5 b1 ?_ b3 λc o h=>b7 c o ⟨h.1,h.2.2⟩)⟩;obtain⟨o,ho⟩:=al;by_cases t1:T=z
    ·subst t1;exact⟨_,b1⟩
    ·by_cases t2:T=p
     ·subst t2;obtain⟨o',e,_⟩:=b3.1;exact⟨o',e⟩
     ·by_cases t3:T=q
      ·subst t3;obtain⟨o',e,_⟩:=b3.2;exact⟨o',e⟩
      ·exact⟨o,b7 T o ⟨t1,t2,t3⟩ ho⟩
   ·rw[f1,f2] at non
    rcases non with non | non<;>cases non
end
theorem Hx:RY (.type "zip") "__len__"=pure none:=by rw[Of,MZ];kernel_rfl
theorem Bp:RY (.type "zip") "__length_hint__"=pure none:=by rw[Of,MZ];kernel_rfl
section
variable{B:BB}{a b:KQ}{p:Pos}{H:Hp}{s:d_}
theorem DK(hc:X.calm=true)(I:Inv X aa U H s){ys:List V}(h1:SqL X.K H l1 xs)(h2:SqL X.K H l2 ys)(hl:xs.length=ys.length)(hz:xs.length < x_){Q:VK}(zk:zipK xs ys H [] λaM H'=>∀l,H' l=none->Q (.ref l) (upd H' l (.lst aM))):
  w_ (n_ X.prog X.w) X.A (call (.type "zip") [.ref l1,.ref l2]) (λv s1=>w_ (n_ X.prog X.w) X.A (call (.type "list") [v]) (EP X aa U Q) X.xe s1) X.xe s:=by
 have hh:=I.ok.hd hc;obtain⟨af,r1,t1,_⟩:=I.list h1;obtain⟨bh,r2,t2,_⟩:=I.list h2;have U0:s.heap.IsList l1 af.toArray:=t1.isList;have V0:s.heap.IsList l2 bh.toArray:=t2.isList;refine Ai qP U0 V0 λn h' hn a1 a2 a3 a4 a5 a6=>?_
 have I1:Inv X aa U H { s with heap:=h' }:=I.kept (t':=s.toks) a6;have l9:l1 < n:=by rw[hn];exact qP.sqLt U0
 have ma:l2 < n:=by rw[hn];exact qP.sqLt V0
 have up:∀m,FpOk X aa H (n+m):=λm=>by rw[hn];exact I.fpOk (K6 _ _) (I.hok.fresh (K6 _ _))
 have dk:n+4 < h'.objs.size:=F_ a1;have D:=zipApart_new l9 ma;obtain⟨S,eS⟩:∃S,S=h'.objs.size:=⟨_,rfl⟩;refine callType_codes (Q₁:=λobj aw=>obj=.ref S/\aw={ s with heap:=h'.push { cls:=.type "list", data:=.seq #[] } }) F.called_list (F.typeCall_list_1 _) F.entry_list_init (code_list_new _ ⟨by rw[eS],rfl⟩) λobj aw fq=>?_
 obtain⟨rfl,rfl⟩:=fq;have dA:(h'.push { cls:=.type "list", data:=.seq #[] }).get? S=some { cls:=.type "list", data:=.seq #[] }:=by rw[eS];exact t_ _ rfl
 refine⟨⟨_,dA,rfl⟩,F.args_list_init_2 _ _,?_⟩;have cN:∀b o,h'.get? b=some o->(h'.push { cls:=.type "list", data:=.seq #[] }).get? b=some o:=λb o e=>c_ _ e
 obtain⟨g1,cg⟩:∃g1,g1=h'.push { cls:=.type "list", data:=.seq #[] }:=⟨_,rfl⟩;rw[←cg] at dA cN;rw[←cg];refine a_ (m:=Me.List.listItems (.ref S)) (a_ (m:=Ov (.ref S)) (Ln (s:={ s with heap:=g1 }) dA rfl (e_ ?_)));refine a_ (m:=M9 S λ_=>#[]) (K2 dA rfl ?_);have dJ:=KL (L4 (λ_=>(#[]:Array b_))) dA rfl;have dF:∀{g:KM}{f:Obj->Obj} (b:h_) (o:Obj),b≠S->g.get? b=some o->(g.update S f).get? b=some o:=λb o hb e=>(C_ _ _ (Kx hb)).trans e
 obtain⟨g2,cj⟩:∃g2,g2=g1.update S (L4 (λ_=>(#[]:Array b_))):=⟨_,rfl⟩;have k2:∀b o,b≠S->g1.get? b=some o->g2.get? b=some o:=λb o hb e=>by rw[cj];exact dF b o hb e
 rw[←cj] at dJ ⊢;refine a_ (Lp ?_);have nS:∀b,b < h'.objs.size->b≠S:=λb hb=>by rw[eS];exact KI hb
 have z2:PP g2 (n+4) (n+2) (n+3) .none:=k2 _ _ (nS _ dk) (cN _ _ a1);have hT2:d_.TypeIs { s with heap:=g2 } (.ref (n+4)) "zip":=⟨_,z2,rfl⟩;unfold Qe;refine a_ (Pp hT2 ?_);have c1:RJ (.ref S) (.ref (n+4))=false:=by simp[RJ,Kx (nS _ dk)]
 have c2:(type "zip" == type "list")=false:=by decide
 have c3:(type "zip" == type "tuple")=false:=by decide
 simp only[c1,c2,c3,Bool.or_false,LK,if_false];refine a_ (O_ z2 ?_);refine a_ (Kz (a_ (m:=specialOf (.ref (n+4)) "__len__") (PQ hT2 Hx (a_ (m:=specialOf (.ref (n+4)) "__length_hint__") (PQ hT2 Bp (e_ ?_))))));refine a_ (m:=Q8 _) (LM (a_ (m:=listTouch (.ref S)) ?_));refine a_ (m:=M9 S (·.push .none)) (K2 (s:={ s with heap:=g2 }) dJ rfl ?_ (by simp) (by simp));have ez:=KL (L4 (·.push b_.none)) dJ rfl;refine K2 ez rfl ?_ (by show(#[b_.none]:Array b_).size<=_;rw[Lb];decide) (by simp);have dL:=KL (L4 (·.pop)) ez rfl;obtain⟨g4,eA⟩:∃g4,g4=(g2.update S (L4 (·.push b_.none))).update S (L4 (·.pop)):=⟨_,rfl⟩;rw[←eA] at dL;show w_ _ _ _ _ _ { s with heap:=KM.update (KM.update g2 _ _) _ _ };rw[←eA];have k4:∀b o,b≠S->h'.get? b=some o->g4.get? b=some o:=λb o hb e=>by rw[eA];exact dF b o hb (dF b o hb (k2 b o hb (cN b o e)))
 have kk:∀b o,h'.get? b=some o->g4.get? b=some o:=λb o e=>k4 b o (nS b (F_ e)) e
 have I4:Inv X aa U H { s with heap:=g4 }:=I.kept (t':=s.toks) λb o e=>kk b o (a6 b o e)
 have fS:FpOk X aa H S:=by rw[eS];exact I1.fpOk (B_ _) (I1.hok.fresh (B_ _))
 have gL:S < g4.objs.size:=F_ dL;have low:∀m,m<=4->n+m < g4.objs.size/\n+m≠S:=λm hm=>⟨by omega,nS _ (by omega)⟩
 refine e_ ⟨KZ MF _,Cc (A:=X.A.in1) (Qf:=λaM H'=>∀l,H' l=none->Q (.ref l) (upd H' l (.lst aM))) D hh r1 r2 hl hz ?_ (λs' H' aM us c J f hS rv rl q=>?_) xs.length 0 { s with heap:=g4 } H [] [] _ (by omega) (K' _) I4 (λb hb=>?_) ⟨kk _ _ a1,_,_,kk _ _ a3⟩ (kk _ _ a2)
  (a4.at λo e=>kk _ o e) (a5.at λo e=>kk _ o e) (U0.at λo e=>kk _ o (a6 _ o e)) (V0.at λo e=>kk _ o (a6 _ o e)) dL .nil rfl zk⟩
 ·simp only[m_,LR,or_false,not_or];exact⟨Kx (low 4 (by omega)).2,Kx (low 2 (by omega)).2,Kx (low 3 (by omega)).2,Kx (low 0 (by omega)).2,Kx (low 1 (by omega)).2,Kx (nS l1 (Rg l9 (Nm (K6 n 4) dk))),Kx (nS l2 (Rg ma (Nm (K6 n 4) dk)))⟩
 ·refine⟨rfl,.ref S,_,zL (o:=.lst aM) J f ⟨by rw[rl];omega,us,c,rv,hS⟩,rfl,q S f.1⟩
 ·simp only[m_,LR,or_false] at hb
  rcases hb with h | h | h | h | h | h
  ·rw[h];exact⟨up 4,(low 4 (by omega)).1⟩
  ·rw[h];exact⟨up 2,(low 2 (by omega)).1⟩
  ·rw[h];exact⟨up 3,(low 3 (by omega)).1⟩
  ·rw[h];exact⟨up 0,(low 0 (by omega)).1⟩
  ·rw[h];exact⟨up 1,(low 1 (by omega)).1⟩
  ·rw[h];exact⟨fS,gL⟩
theorem DW{p:Pos}(hc:X.calm=true)(hl:Gl X "list")(fe:X.mg "list"=none)(hg:Gl X "zip")(hm:X.mg "zip"=none)(ha:PA X [a,b] ta)(hs:f_ [a,b] X.env=[(false,KR a X.env),(false,KR b X.env)]:=by rfl)(bM:f_ [b] X.env=[(false,KR b X.env)]:=by rfl)(dU:f_ [.Call (.Name "zip" p2) [a,b] [] bq] X.env=[(false,KR (.Call (.Name "zip" p2) [a,b] [] bq) X.env)]:=by rfl):
  PE X (.Call (.Name "list" p) [.Call (.Name "zip" p2) [a,b] [] bq] [] pos) (λU H Q=>ta U H λvs H1=>∃l1 l2 xs ys,vs=[.ref l1,.ref l2]/\SqL X.K H1 l1 xs/\SqL X.K H1 l2 ys/\xs.length=ys.length/\xs.length < x_ ∧
   zipK xs ys H1 [] λaM H'=>∀l,H' l=none->Q (.ref l) (upd H' l (.lst aM))):=by
 intro aa s U H Q I h;refine RT (qc I hl fe RA (KF ?_ dU rfl));rw[dU];refine Mj (RT (qc I hg hm boot_zip (KF (thn (ha bq aa s U H _ I h) λus s1 ⟨vs,H1,I1,r1,q1⟩=>?_) (by rw[hs,bM]) (by rw[bM];rfl))));obtain⟨l1,l2,xs,ys,rfl,h1,h2,hl,hz,zk⟩:=q1;obtain⟨u1,u2,rfl,e1,e2⟩:=r1.two;cases e1;cases e2;exact thn (DK hc I1 h1 h2 hl hz zk) λv s2 q=>Ms q
noncomputable def zipLF(ds:List D):Option (List D):=match ds with
 | [.lst xs,.lst ys]=>if xs.length=ys.length/\xs.length<=1000 then some (pairsD xs ys) else none
 | _=>none
theorem xN{K:PySem.W.Frag}{B:BB}{G:Hp}{Γ:Gm}{Qf:List V->Hp->Prop}:∀(ds es:List D) (xs ys:List V) (H I:Hp) (ao:List V) (cR:List D),ds.length=es.length->Rep K B G I H U Γ->IsA K I ds xs->IsA K I es ys->IsA K I cR ao →
  (∀aM H' I',Rep K B G I' H' U Γ->Grow G I I'->IsA K I' (cR++pairsD ds es) aM->Qf aM H')->zipK xs ys H ao Qf
 | [],es,xs,ys,H,I,ao,cR,hl,r,hx,hy,ha,k=>by
  rw[hx.nil_inv];have:pairsD [] es=[]:=by simp[pairsD]
  rw[this,LD] at k;cases ys<;>exact k ao H I r (Grow.refl _ _) ha
 | d::ds,[],xs,ys,H,I,ao,cR,hl,r,hx,hy,ha,k=>by cases hl
 | d::ds,e::es,xs,ys,H,I,ao,cR,hl,r,hx,hy,ha,k=>by
  obtain⟨x,xr,rfl,x1,x2⟩:=hx.cons_inv;obtain⟨y,yr,rfl,y1,y2⟩:=hy.cons_inv;intro p hp;have r1:=r.alloc hp (.tup [x,y]);have g1:=r.growAlloc hp (.tup [x,y]);have m:=g1.up;refine xN ds es xr yr _ _ _ (cR++[.tup [d,e]]) (NC hl) r1 (x2.mono m) (y2.mono m) ?_ λaM H' I' r' g' h'=>k aM H' I' r' (g1.trans g') ?_
  ·refine IsA.append (ha.mono m) (IsA.cons ?_ IsA.nil);exact Is.tup (SqT.of pA) (IsA.cons (x1.mono m) (IsA.cons (y1.mono m) IsA.nil))
  ·have:cR++pairsD (d::ds) (e::es)=(cR++[.tup [d,e]])++pairsD ds es:=by simp[pairsD]
   rw[this];exact h'
theorem Iy{t:M (List D)}{p:Pos}(hc:X.calm=true)(hl:Gl X "list")(fe:X.mg "list"=none)(hg:Gl X "zip")(hm:X.mg "zip"=none)(ha:AD X B [a,b] t)(hs:f_ [a,b] X.env=[(false,KR a X.env),(false,KR b X.env)]:=by rfl)(bM:f_ [b] X.env=[(false,KR b X.env)]:=by rfl)(dU:f_ [.Call (.Name "zip" p2) [a,b] [] bq] X.env=[(false,KR (.Call (.Name "zip" p2) [a,b] [] bq) X.env)]:=by rfl):
  EO X B (.Call (.Name "list" p) [.Call (.Name "zip" p2) [a,b] [] bq] [] pos) (fn1 zipLF t):=PE.imp (DW hc hl fe hg hm ha hs bM dU) λU H Q q=>by
 obtain⟨G,I,Γ,ds,ah,r,e1,k⟩:=q;obtain⟨d,ae,e2,e3⟩:=oK e1;obtain⟨e4,rfl⟩:=pD e3;refine⟨G,I,Γ,_,_,r,e2,λvs H1 I1 r1 g1 hd=>?_⟩;unfold zipLF at e4;split at e4
 ·obtain⟨ok,rfl⟩:=pK e4;obtain⟨x,y,rfl,hx,hy⟩:=hd.two;obtain⟨l1,xs,rfl,h1,h2⟩:=pF hx;obtain⟨l2,ys,rfl,h3,h4⟩:=pF hy;have n1:=h2.length;have n2:=h4.length;refine⟨l1,l2,xs,ys,rfl,(Same.rdK r1.iH h1).sq,(Same.rdK r1.iH h3).sq,by omega,by rw[Lb];omega,xN _ _ xs ys H1 I1 [] [] ok.1 r1 h2 h4 IsA.nil λaM H' I' r' g' h' l hl=>?_⟩;exact(k.after (g1.trans g')).new r' hl h'
 ·cases e4
end
section
variable{B:BB}{p:Pos}{kr:Nat}
inductive KX(X:Cx):List KQ->M (List D)->Prop
 | nil:KX X [] nilA
 | int {i:Int} {a b es t}:KX X es t->KX X (.Constant (.int i) a b::es) (consA (ret (.int i)) t)
 | bl {i:Bool} {a b es t}:KX X es t->KX X (.Constant (.bool i) a b::es) (consA (ret (.bl i)) t)
 | non {a b es t}:KX X es t->KX X (.Constant .none a b::es) (consA (ret .non) t)
 | str {i:Str} {a b es t}:KX X es t->KX X (.Constant (.str i) a b::es) (consA (ret (.str i)) t)
 | neg {i:Int} {a b p es t}:KX X es t->KX X (.UnaryOp .USub (.Constant (.int i) a b) p::es) (consA (un1 negI (ret (.int i))) t)
 | pow {i j:Int} {a b a' b' p es t}:KX X es t->KX X (.BinOp (.Constant (.int i) a b) .Pow (.Constant (.int j) a' b') p::es) (consA (op2 powI (ret (.int i)) (ret (.int j))) t)
 | nm {z p i es t}:PE X (.Name z p) (tVar i)->KX X es t->KX X (.Name z p::es) (consA (nm i) t)
 | tup {fs u x p es t}:KX X fs u->KX X es t->KX X (.Tuple fs x p::es) (consA (tupA u) t)
 | lst {fs u p es t}:KX X fs u->KX X es t->KX X (.List fs p::es) (consA (frz (lstA u)) t)
theorem KX.ad{es:List KQ}{t:M (List D)}(h:KX X es t):AD X B es t:=by
 induction h with
 | nil=>exact oU
 | int _ ih=>exact gV i' ih rfl
 | bl _ ih=>exact gV qh ih rfl
 | non _ ih=>exact gV qH ih rfl
 | str _ ih=>exact gV GW ih rfl
 | neg _ ih=>exact gV (vF i') ih rfl
 | pow _ ih=>exact gV (wP i' i') ih rfl
 | nm h _ ih=>exact gV (zq h) ih rfl
 | tup _ _ ih1 ih2=>exact gV (rC ih1) ih2 rfl
 | lst _ _ ih1 ih2=>exact gV (pC (pW ih1)) ih2 rfl
end
end DL
namespace L2
open PySem PySem.Spec PyProof.Rows
theorem yl{p p':Pos}{c cv:b_}:∀(l:List b_),Qm l->Os p' (l++[Md p.line,Md p.col,c])=some cv->Os p' l=some cv\/cv=c
 | [],_,h=>by
  right;simp only[Pw,Os,Md] at h;split at h
  ·exact(KH h).symm
  ·cases h
 | .int a t::.int b u::x::r,ok,h=>by
  simp only[Ph,Os] at h ⊢;split at h
  ·rename_i q;rw[if_pos q];exact .inl h
  ·rename_i q;rw[if_neg q];exact yl r ok h
theorem AK{a b:Int}{c:b_}:∀(l:List b_),Qm l->Qm (l++[Md a,Md b,c])
 | [],_=>trivial
 | .int _ _::.int _ _::x::r,ok=>AK r ok
section
variable{H:Hp}{s:d_}
theorem HQ{P c:h_}{q:Str}{ps:Array b_}{oc:Obj}{vs:Array b_}{t:Tok}(I:Inv X aa U H s)(hP:H P=some (.tbl q))(fg:s.heap.get? P=some { cls:=.none,data:=.fields ps })(ok:Qm ps.toList)(hx:KM.ExtBut P s.heap h')(hc:s.heap.objs.size<=c)(ec:h'.get? c=some oc)(hd:oc.data=.fields vs)(hv:vs[1]?=some (.str q t))(md:h'.get? P=some { cls:=.none,data:=.fields (ps++#[Md pos.line,Md pos.col,.ref c]) }):
  Inv X aa U (upd H c (.frz oc (.own P))) { s with heap:=h',toks:=t' }:=by
 have hf:=I.hok.fresh hc;have ne:∀{b u},H b=some u->b≠c:=λ{b u} e=>qi e hf
 have nP:∀{b},H b=none->b≠P:=λ{b} n z=>by rw[z,hP] at n;cases n
 have old:∀{q':Str}{aA:Pos}{cv:b_},Os aA ps.toList=some cv->∃c oc vs t,cv=.ref c/\H c=some (.frz oc (.own P))/\oc.data=.fields vs/\vs[1]?=some (.str q t):=λ{q' aA cv} e=>by
  obtain⟨iA,e1,_,e3⟩:=(show ObjOk X.prog X.w H s.heap P (.tbl q) from I.hok P _ hP);rw[fg] at e1;cases e1;exact e3 _ _ e
 have:=I.step (H':=upd H c (.frz oc (.own P))) (h':=h') (g':=s.gens) (d':=s.drawn) (t':=t') (ch:=[]) (λb z=>nomatch z) (λb o _ _ _ e n=>hx b o (nP n) e) (λb o _ _ _ e n=>⟨o.slots,hx b o (nP n) e⟩)
  (λb o _ e n=>by rw[po (KI (J_ (F_ e) hc))];exact n) (λb o _ e=>by
   by_cases z:b=P
   ·exact⟨_,by rw[z];exact md⟩
   ·exact⟨o,hx b o z e⟩) (λb xs e=>by rw[po (ne e)];exact e) (λb o u e=>by rw[po (ne e)];exact e) (λb q' e=>by rw[po (ne e)];exact e)
  (λm hm=>by
   obtain⟨o,es,ep,e,r⟩:=hm
   exact⟨o,es,ep,hx _ o (nP I.free) e,r⟩) (λb u e=>?_) I.bare
 ·exact this
 ·by_cases hb:b=c
  ·subst hb;rw[pA] at e;cases e;exact⟨ec,oc,ec⟩
  ·rw[po hb] at e;by_cases hbP:b=P
   ·subst hbP;rw[hP] at e;cases e;refine⟨_,md,by rw[Lz];exact AK _ ok,λaA cv z=>?_⟩;rw[Lz] at z
    rcases yl _ ok z with z | z
    ·obtain⟨c',om,gF,t',e1,e2,e3⟩:=old (q':=q) z;exact⟨c',om,gF,t',e1,by rw[po (ne e2)];exact e2,e3⟩
    ·exact⟨c,oc,vs,t,z,pA,hd,hv⟩
   ·refine(I.hok b u e).stay (λd v hd q=>hx d v ?_ q) (λd q=>by rw[po (ne q)];exact q) (λd xs q=>by rw[po (ne q)];exact q) λd o u q=>by rw[po (ne q)];exact q
    rcases hd with z | z
    ·rw[z];exact hbP
    ·intro y;rw[y,hP] at z;cases z
end
noncomputable abbrev lamObj(params:Arguments)(body:KQ)(scope:Nu)(cl:List (Str×h_))(pm cv bw:b_):Obj:=
 { cls:=.type "function", data:=.func (kla_fn "<lambda>" "few_of.<locals>.<lambda>" params body scope cl pm cv bw) }
section
variable{H:Hp}{s:d_}{body:KQ}{dB:Pos}
def Code1(H:Hp)(cv:b_):Prop:=∃c oc P vs t,cv=.ref c/\H c=some (.frz oc (.own P))/\oc.data=.fields vs/\vs[1]?=some (.str "few_of.<locals>.<lambda>" t)
theorem Code1.rec'(h:Code1 H cv)(ok:HOk X.prog X.w H s.heap):s.heap.CodeRec cv "few_of.<locals>.<lambda>":=by
 obtain⟨c,oc,P,vs,t,rfl,e,d,v⟩:=h;obtain⟨ho,_⟩:=(show ObjOk X.prog X.w H s.heap c (.frz oc (.own P)) from ok c _ e);exact⟨c,oc,vs,t,rfl,ho,d,v⟩
theorem BZ{c P:h_}(I:Inv X aa U H s)(ht:Nt X.K "few_of"=some (c,P))(cG:X.env.code=.ref c)(hq:X.env.qual = "few_of.<locals>.")(eC:Se params X.env=([],[]))(cD:Pv scope X.env=pure eB){Q:b_->d_->Prop}(k:∀f H' s' pm cv bw,Inv X aa U H' s'->(H'=H\/∃c' oc,H c'=none/\H'=upd H c' (.frz oc (.own P)))->Code1 H' cv->s.heap.objs.size<=f->H' f=none->s'.heap.get? f=some (lamObj params body scope eB pm cv bw)->Q (.ref f) s'):
  w_ (n_ X.prog X.w) X.A (KR (.Lambda params body scope dB) X.env) Q X.xe s:=by
 have q2:X.env.qual ++ "<lambda>" = "few_of.<locals>.<lambda>":=by rw[hq];decide
 refine PySem.W.kla_eval eC ?_;rw[q2];have hP:H P=some (.tbl "few_of.<locals>.<lambda>"):=I.base.tbls P _ (I.ok.tb c P ht);obtain⟨ps,fg,ok,en⟩:=(show ObjOk X.prog X.w H s.heap P (.tbl "few_of.<locals>.<lambda>") from I.hok P _ hP);have hg:=I.ok.mod.glob.keeps I.bk;have C:=(I.ok.mod.cod c P ht).keeps I.bk
 have oo:Lj≠P:=λz=>by
  obtain⟨o,es,ep,e,hd,_⟩:=hg;rw[z,fg] at e;cases e;cases hd
 have hb:s.heap.BuiltinsAt X.mg P:=by
  obtain⟨bm,ob,b1,b2,b3,b4,b5,b6⟩:=I.ok.mod.bm;refine⟨bm,ob,b1,b2,λz=>?_,λz=>?_,I.bk _ _ b3,b4,b5,b6⟩
  ·obtain⟨o,es,ep,e,hd,_⟩:=hg;rw[←z,I.bk _ _ b3] at e;cases e;rw[b6] at hd;cases hd
  ·have:=I.bk _ _ b3;rw[z,fg] at this;cases this;cases b4
 cases hf:Os dB ps.toList with
 | some cv =>
  refine PySem.W.kla_makeFunctionHit (mg:=X.mg) cD I.ok.glob hg cG C fg ok hf hb λbw h' tk keep sz=>?_
  have j5:∀b o,s.heap.get? b=some o->(h'.push (lamObj params body scope eB ((X.mg "__name__").getD .none) cv bw)).get? b=some o:=λb o e=>c_ _ (keep b o e)
  have I2:Inv X aa U H { s with heap:=h'.push (lamObj params body scope eB ((X.mg "__name__").getD .none) cv bw),toks:=tk }:=I.kept (t':=tk) j5;refine k _ H _ _ cv bw I2 (.inl rfl) ?_ sz (I.hok.fresh sz) (t_ _ rfl);obtain⟨c',oc,vs,t,e1,e2,e3,e4⟩:=en _ _ hf;exact⟨c',oc,P,vs,t,e1,e2,e3,e4⟩
 | none =>
  refine PySem.W.kla_makeFunction (mg:=X.mg) cD I.ok.glob hg cG C fg ok hf oo hb λc' bw h' tk hx j6 bH me oq=>?_
  obtain⟨c2,oc,vs,t,e1,e2,e3,e4⟩:=me;cases e1;have I1:=HQ (t':=tk) I hP fg ok hx j6 e2 e3 e4 oq;have I2:Inv X aa U _ { s with heap:=h'.push (lamObj params body scope eB ((X.mg "__name__").getD .none) (.ref c') bw),toks:=tk }:=I1.kept (t':=tk) λb o e=>c_ _ e
  refine k _ _ _ _ (.ref c') bw I2 (.inr ⟨c',oc,I.hok.fresh j6,rfl⟩) ⟨c',oc,P,vs,t,rfl,pA,e3,e4⟩ (LL j6 (Nv bH)) ?_ (t_ _ rfl);exact I1.hok.fresh (B_ _)
noncomputable abbrev envL(scope:Nu)(L f:h_)(cv:b_)(cl:List (Str×h_)):Env:=PySem.W.envX "few_of.<locals>.<lambda>" scope L f cv cl
noncomputable abbrev cxL(X:Cx)(A:Mc)(scope:Nu)(N:List Str)(s:d_)(H:Hp)(f:h_)(cv:b_)(cl:List (Str×h_)):Cx:=
 { X with A:=A.deeper (envL scope s.heap.objs.size f cv cl),N:=N,s₀:=s,H₀:=H,env:=envL scope s.heap.objs.size f cv cl,outer:=X.stack,stack:=envL scope s.heap.objs.size f cv cl::X.stack,ex:=[],fn:=λ_=>false,calm:=true,pn:=[],xe:=λ_ _=>False }
theorem GC{c0:h_}{g:Str}{bw u uc:b_}{v:V}{t:TE}{Q:VK}{R:b_->d_->Prop}{E:b_->d_->Prop}(I:Inv X aa U H s)(hA:Env0 X.prog X.w X.K X.mg X.base A X.stack s H)(hd:A.handled=none)(j7:A.depth < P3)(hf:s.heap.get? f=some (lamObj params body scope [(y,c0)] pm cv bw))(aW:Code1 H cv)(ou:∃z,X.env.cells.lookup z=some c0)(ca:s.heap.IsCell c0 (some uc))(rv:RelV v u)(rc:RelV vc uc)(pd:g≠y)(eU:∀u,MU (kla_fn "<lambda>" "few_of.<locals>.<lambda>" params body scope [(y,c0)] pm cv bw) ⟨[u],[]⟩=pure [(g,u)])(hk:scope.kind=.function)(ow:scope.isCoroutine=false)(mf:scope.isGenerator=false)(mh:scope.names.lookup g=some .local)(ox:scope.names.lookup y=some .free)(hW:∀x∈scope.names,x.2≠.cell)(dM:∀x,scope.names.lookup x=some .free->x=y)(hb:PE (cxL X A scope [g,y] s H f cv [(y,c0)]) body t)(ht:t [some v,some vc] H Q)(k:∀u' s',CE X.stack X.prog X.w H s Q u' s'->R u' s'):w_ (n_ X.prog X.w) A (call (.ref f) [u]) R E s:=by
 refine QI (PySem.W.kla_callFunE j7 hf rfl ow mf rfl (aW.rec' I.hok) ?_);rw[eU];refine e_ (P6 hW (λx hx=>by rw[A_.mp hx];exact mh) (λfq fC ik=>⟨(I.nolimit).fresh _ ik,?_⟩) hk);have old:∀b o,s.heap.get? b=some o->fq.get? b=some o:=λb o e=>ik.extBut b o (KI (F_ e)) (c_ _ e)
 have fQ:∀x,(envL scope s.heap.objs.size f cv [(y,c0)]).kindOf x=scope.names.lookup x:=λx=>rfl
 have look:∀x d,(envL scope s.heap.objs.size f cv [(y,c0)]).cells.lookup x=some d->x=y/\d=c0:=λx d e=>by
  have e:List.lookup x [(y,c0)]=some d:=e;rw[O8] at e;by_cases z:x=y
  ·subst z;simp at e;exact⟨rfl,e.symm⟩
  ·have:(x == y)=false:=by simpa using z
   rw[this] at e;cases e
 have own:(envL scope s.heap.objs.size f cv [(y,c0)]).cells.lookup y=some c0:=by
  show List.lookup y [(y,c0)]=some c0;simp
 obtain⟨z0,oy⟩:=ou
 have ok:(cxL X A scope [g,y] s H f cv [(y,c0)]).Ok:=by
  refine⟨hA.mod,hk,rfl,rfl,B_ _,λa b d e1 e2=>?_,λx hx=>?_,λx d z=>(nomatch z),λ_=>hd,Mc.frames_deeper hA.frames,.inr ⟨rfl,rfl⟩,λb z=>(nomatch z),hA.bs,hA.bsz,λb _ _ z=>(nomatch z),λb z=>(nomatch z),hA.funs,hA.frf,hA.tb⟩
  ·rw[(look a d e1).1,(look b d e2).1]
  ·rcases hx with hx | hx
   ·exact absurd rfl (hW _ (PySem.mem_of_lookup hx))
   ·rw[dM x hx];exact⟨c0,own⟩
 have I':Inv (cxL X A scope [g,y] s H f cv [(y,c0)]) [] [some v,some vc] H { s with heap:=fq,toks:=s.toks+1 }:=by
  refine⟨ok,rfl,hA.bare,Un.kept old,⟨_,fC,λi x w e1 e2 e3=>?_⟩,λx d e=>?_,I.hok.fresh (B_ _),λx d e=>?_,λp hp=>(nomatch hp),I.hok.kept old,rfl⟩
  ·match i,e1,e2 with
   | 0,e1,e2 =>
    cases e1;cases e2;exact⟨u,rv,.inl ⟨mh,by simp⟩⟩
   | 1,e1,e2 =>
    cases e1;cases e2;obtain⟨o,ho,br⟩:=ca;exact⟨uc,rc,.inr ⟨.inr ox,c0,own,o,old _ _ ho,br⟩⟩
  ·rw[(look x d e).2];obtain⟨o,ho,br⟩:=ca;exact⟨_,o,old _ _ ho,br⟩
  ·rw[(look x d e).2];exact I.freeC z0 c0 oy
 refine PySem.W.kla_codeExpr (Lk (hb [] _ _ H Q I' ht) (λv' s' h=>?_) λ_ _ x=>x.elim);obtain⟨v2,H2,I2,r2,q2⟩:=h;refine k v' s' ⟨v2,H2,I2.os,I2.bare,?_,I2.hok,r2,q2⟩;exact I2.base
end
end L2
namespace DL
open PySem PySem.W PySem.Spec PyProof.Rows L2
noncomputable def evK{α:Type}(lt:Nat->Nat->Bool):KasT α->α
 | .ret a=>a
 | .ask i j k=>evK lt (k (lt i j))
theorem zv{α:Type}{n:Nat}{lt:Nat->Nat->Bool}{s:d_}{P:α->Prop}:∀t:KasT α,t.kasWp (askIn n lt) (λa _=>P a) s->t.kasWp (askIn n lt) (λa _=>P a/\a=evK lt t) s
 | .ret a,h=>⟨h,rfl⟩
 | .ask i j k,⟨h1,h2,h3⟩=>⟨h1,h2,zv (k (lt i j)) h3⟩
theorem AR{α:Type}{n:Nat}{lt:Nat->Nat->Bool}{s:d_}{P:α->Prop}:∀t:KasT α,t.kasWp (askIn n lt) (λa _=>P a) s->P (evK lt t)
 | .ret a,h=>h
 | .ask i j k,⟨h1,h2,h3⟩=>AR (k (lt i j)) h3
noncomputable def ltR(ks:List Int)(i j:Nat):Bool:=decide (ks.getD i 0 < ks.getD j 0)
theorem yC(ks:List Int):Ord (ltR ks):=⟨λa b h=>by unfold ltR at h ⊢;simp at h ⊢;omega,λa b c h1 h2=>by unfold ltR at h1 h2 ⊢;simp at h1 h2 ⊢;omega⟩
noncomputable def permK(ks:List Int):Array Nat:=if ks.length < 2 then(Mm ks.length).toArray else evK (ltR ks) (R7 ks.length)
theorem rm(s:d_)(ks:List Int):Pm ks.length (permK ks)/\Up (ltR ks) (permK ks) ks.length:=by
 unfold permK;split
 ·exact⟨Pz.refl _,λi j x y=>by omega⟩
 ·rename_i h;exact AR (s:=s) _ (vX (yC ks) (by omega))
noncomputable def srtK{α:Type}(d:α)(kz:List Int)(xs:List α):List α:=((permK kz.reverse).toList.map λi=>xs.reverse.getD i d).reverse
theorem HJ{α β:Type}(ks:List α)(vs:List β)(h:ks.length=vs.length):(ks.toArray.zip vs.toArray).reverse=ks.reverse.toArray.zip vs.reverse.toArray:=by
 apply Array.toList_inj.mp
 rw[N5,Array.toList_zip,Array.toList_zip];show(ks.zip vs).reverse=ks.reverse.zip vs.reverse;refine OO (by simp) λi h1 h2=>?_
 simp at h1;simp[h]
section
variable{prog:z_}{w:I_}{E:b_->d_->Prop}{s:d_}
theorem zC(h:LZ us ms):LZ us.reverse ms.reverse:=by
 induction h with
 | nil=>exact .nil
 | cons n t r ih =>
  rw[Oj,Oj];exact ksk_snoc ih
theorem vT:∀{us:List b_}{ms:List Int},LZ us ms->∀i,i < us.length->∃t,us.getD i b_.none=.int (ms.getD i 0) t
 | _,_,.nil,i,h=>absurd h (Qd _)
 | _,_,.cons n t r,0,h=>⟨t,rfl⟩
 | _,_,.cons n t r,i+1,h=>by
  obtain⟨t',e⟩:=vT r i (Pt h);exact⟨t',by rw[Qx,Qx];exact e⟩
theorem Fz{a:h_}{kA:List b_}{e:Nat}{P:PySem.Fin->d_->Prop}(hS:s.heap.get? kS=some (K9 "list" kA.toArray e))(hL:s.heap.get? a=some (K9 "list" #[] e1))(ne:kS≠a)(hk:LZ kA kz)(hl:kz.length=vs.length)(bX:vs.length < 64)(fin:∀h' c,(∀b o,b≠kS->b≠a->s.heap.get? b=some o->h'.get? b=some o)->h'.get? a=some (K9 "list" (srtK b_.none kz vs).toArray c)->P (.done (.ret .none)) { s with heap:=h' }):
  w_ (n_ prog w) A (ksk_end a true vs.toArray e1 (.ref kS) kA.toArray) P E s:=by
 have line:64<=x_:=by rw[Lb];decide
 have lk:kA.length=vs.length:=by rw[hk.length];exact hl
 have lr:kA.reverse.length=vs.reverse.length:=by simp[lk]
 have cM:∀st:H_,(p_ st).map (·.2)=((permK kz.reverse).toList.map λi=>vs.reverse.getD i b_.none).toArray->NY st=none->w_ (n_ prog w) A (ksk_tail a true e1 (.ref kS) st) P E s:=λst aV aK=>by
  unfold ksk_tail;dsimp only;have j8:(s.heap.update kS (L4 λ_=>(#[]:Array b_))).get? a=some (K9 "list" #[] e1):=(C_ _ _ ne).trans hL;have ak:((p_ st).map (·.2)).reverse=(srtK b_.none kz vs).toArray:=by rw[aV];simp[srtK]
  have sz:((p_ st).map (·.2)).reverse.size<=64:=by
   rw[Array.size_reverse,aV,l_,y_,Ky,(rm s kz.reverse).1.size,LA];omega
  refine a_ (MC hS rfl ?_ (by rw[l_];omega) (K' _));refine a_ (Lp (a_ (NZ j8 rfl ?_)));refine a_ (MC j8 rfl ?_ (K' _) (by rw[if_pos rfl];omega));rw[aK];simp only[bne_self_eq_false,LK,if_false];have c2:=Mp j8 λ_=>(srtK b_.none kz vs).toArray
  simp only[if_true,ak];exact e_ (fin _ _ (λb o n1 n2 e=>(C_ _ _ (Kx n2)).trans ((C_ _ _ (Kx n1)).trans e)) c2)
 unfold ksk_end;simp only[↓reduceIte];refine a_ (LM ?_);rw[HJ kA vs lk];by_cases h2:vs.toArray.size < 2
 ·rw[if_pos h2,if_pos h2];refine a_ (e_ (a_ (e_ ?_)));refine cM _ ?_ rfl;rw[l_] at h2
  have e1:permK kz.reverse=(Mm vs.length).toArray:=by
   unfold permK;rw[LA,hl,if_pos h2]
  rw[e1];have:=y6 vs.reverse;unfold byP at this;rw[LA] at this;rw[this];show(kA.reverse.toArray.zip vs.reverse.toArray).map (·.2)=_;refine RC (by simp[lk]) λi h3 h4=>by simp
 ·rw[if_neg h2,if_neg h2];rw[l_] at h2;have kk:R8 kA.toArray=pure LO:=ksk_kind (by simpa using hk) (by rw[l_];omega);rw[kk];have l2:2<=vs.reverse.length:=by rw[LA];omega
  have n1:vs.reverse.length=kz.reverse.length:=by simp[hl]
  refine a_ (e_ (a_ (kat_run (ks:=kA.reverse) (vs:=vs.reverse) (G:=λp s'=>p=permK kz.reverse/\s'=s) (Q:=λst s'=>w_ (n_ prog w) A (ksk_tail a true e1 (.ref kS) st) P E s') lr l2 (by rw[LA];exact bX) (λp st s' hz aV aK h=>?_) ?_)))
  ·obtain⟨rfl,rfl⟩:=h;exact cM st (kat_snds lr aV) aK
  ·have ev:=zv (s:=s) (R7 vs.reverse.length) (vX (n:=vs.reverse.length) (yC kz.reverse) l2);refine sK (n:=vs.reverse.length) (lt:=ltR kz.reverse) (λi j C h1 h2 h3=>?_) (λp hp=>⟨?_,rfl⟩) _ ev
   ·obtain⟨t1,e1⟩:=vT (zC hk) i (by rw[lr];exact h1);obtain⟨t2,e2⟩:=vT (zC hk) j (by rw[lr];exact h2);unfold kas_ask;rw[e1,e2];exact R' h3
   ·rw[hp.2];unfold permK;rw[←n1,if_neg (by omega)]
end
def keyK(ml:V->Hp->(Int->Hp->Prop)->Prop):List V->Hp->List Int->(List Int->Hp->Prop)->Prop
 | [],H,ao,Q=>Q ao H
 | x::xs,H,ao,Q=>ml x H λk H'=>keyK ml xs H' (ao++[k]) Q
def stpL(t:TE)(vc:V):V->Hp->(Int->Hp->Prop)->Prop:=λx H R=>t [some x,some vc] H λv H'=>∃k,v=.int k/\R k H'
section
variable{H:Hp}{s:d_}{body:KQ}{t:TE}{g:Str}{c0:h_}{bw:b_}{kb:Nat}
structure LamFix(X:Cx)(params:Arguments)(body:KQ)(scope:Nu)(g y:Str)(c0:h_)(t:TE)(kb jc:Nat):Prop where
 jn:X.N[jc]?=some y
 vis:Vis X.env.scope y
 cel:X.env.kindOf y≠some .local
 cl:X.env.cells.lookup y=some c0
 ne:g≠y
 bind:∀pm cv bw u,MU (kla_fn "<lambda>" "few_of.<locals>.<lambda>" params body scope [(y,c0)] pm cv bw) ⟨[u],[]⟩=pure [(g,u)]
 kind:scope.kind=.function
 co:scope.isCoroutine=false
 gen:scope.isGenerator=false
 lg:scope.names.lookup g=some .local
 ly:scope.names.lookup y=some .free
 no:∀x∈scope.names,x.2≠.cell
 fre:∀x,scope.names.lookup x=some .free->x=y
 body:∀(A:Mc) (s:d_) (H:Hp) (f:h_) (cv:b_),Room kb (A.deeper (envL scope s.heap.objs.size f cv [(y,c0)]))->PE (cxL X A scope [g,y] s H f cv [(y,c0)]) body t
theorem E6(hr:Room (kb+3) X.A)(L:LamFix X params body scope g y c0 t kb jc)(hv:U[jc]?=some (some vc)){a:h_}(rv:Vals xs af)(bX:xs.length < 64)(ne:kS≠a)(nf:f≠kS/\f≠a)(fa:∀H',H' a=none->FpOk X aa H' a)(fk:∀H',H' kS=none->FpOk X aa H' kS)(oz:∀b,b=a\/b=kS\/b=f->b∉frs X.stack){Qf:List Int->Hp->Prop}{P:PySem.Fin->d_->Prop}{E:b_->d_->Prop}(I:Inv X aa U H s)(hf:s.heap.get? f=some (lamObj params body scope [(y,c0)] pm cv bw))(nF:H f=none)(aW:Code1 H cv)(hL:s.heap.get? a=some (K9 "list" #[] e1))(nL:H a=none)(hS:s.heap.get? kS=some (K9 "list" #[] 0))(nS:H kS=none)(kk:keyK (stpL t vc) xs H [] Qf)(fin:∀s' H' kz c,Inv X aa U H' s'->H' a=none->s'.heap.get? a=some (K9 "list" (srtK b_.none kz af).toArray c)->kz.length=xs.length->Qf kz H'->P (.done (.ret .none)) s'):
  w_ (n_ X.prog X.w) X.A.in1.in1 (ksk_rest a (.ref f) true af.toArray e1 (.ref kS)) P E s:=by
 have line:64<=x_:=by rw[Lb];decide
 have lv:=rv.length;unfold ksk_rest;refine a_ (LM ?_);rw[←QZ,show af.toArray.toList=af from rfl]
 refine a_ (ksk_fold (λi s'=>∃H' kA e ao,Inv X aa U H' s'/\s'.heap.get? f=some (lamObj params body scope [(y,c0)] pm cv bw)/\H' f=none/\Code1 H' cv/\s'.heap.get? a=some (K9 "list" #[] e1)/\H' a=none/\s'.heap.get? kS=some (K9 "list" (kA:List b_).toArray e)/\H' kS=none/\LZ kA ao/\ao.length=i/\keyK (stpL t vc) (xs.drop i) H' ao Qf) af 0 s
  ⟨H,[],0,[],I,hf,nF,aW,hL,nL,hS,nS,.nil,rfl,kk⟩ ?step ?done)
 case step =>
  rintro j u s' hu ⟨H',kA,e,ao,I,hf,nF,aW,hL,nL,hS,nS,hk,al,kk⟩;rw[MV] at al kk ⊢;have hj:j < xs.length:=by rw[lv];exact(D_.mp hu).1
  rw[KC hj] at kk;obtain⟨u',eQ,ru⟩:=rv.get (i_ hj);rw[hu] at eQ;cases eQ;obtain⟨m,_,lo⟩:=I.loc;obtain⟨uc,rc,lk⟩:=lo jc y vc L.jn hv L.vis
  have ca:s'.heap.IsCell c0 (some uc):=by
   rcases lk with⟨z,_⟩ | ⟨_,c,z,q⟩
   ·exact absurd z L.cel
   ·rw[L.cl] at z;cases z;exact q
  have r2:Room (kb+1) X.A.in1.in1:=hr.in1.in1;refine a_ (Mg (GC I I.env0.in1.in1 r2.hd (by have:=r2.dp;omega) hf aW ⟨y,L.cl⟩ ca ru rc L.ne (λu=>L.bind pm cv bw u) L.kind L.co L.gen L.lg L.ly L.no L.fre (L.body _ s' H' f cv (r2.deeper _)) kk λu2 s2 ce=>?_));obtain⟨v2,H2,os,bare,un,hok,rr,k,rfl,oA⟩:=ce;obtain⟨hh,gg,dd,tt,fP⟩:=s2;obtain rfl:fP=s'.os:=os;obtain⟨tk,rfl⟩:=rr;have I2:=I.call (h':=hh) (g':=gg) (d':=dd) (t':=tt) (ch:=[]) un hok bare (λb z=>absurd z (by simp));have kp:∀b o,(b=a\/b=kS\/b=f)->s'.heap.get? b=some o->H' b=none->hh.get? b=some o/\H2 b=none:=λb o hb e n=>⟨un.keep b o e n (oz b hb) (by simp),un.free b o e n (by simp)⟩
  have iF:=kp kS _ (.inr (.inl rfl)) hS nS;have mq:=kp a _ (.inl rfl) hL nL;have mw:=kp f _ (.inr (.inr rfl)) hf nF;have pf:kA.length=j:=by rw[hk.length];exact al
  dsimp only;refine a_ (MC (s:={ heap:=hh,gens:=gg,drawn:=dd,toks:=tt,os:=s'.os }) iF.1 rfl ?_ (by rw[l_];omega) (by rw[Oe,l_];omega))
  obtain⟨c2,de⟩:∃c2,(hh.update kS (L4 (·.push (b_.int k tk)))).get? kS=some (K9 "list" (kA++[b_.int k tk]).toArray c2):=⟨_,by
   have:(kA++[b_.int k tk]).toArray=kA.toArray.push (.int k tk):=by simp
   rw[this]
   exact Mp iF.1 _⟩
  have nz:∀{b:h_}{o:Obj},b≠kS->hh.get? b=some o->(hh.update kS (L4 (·.push (b_.int k tk)))).get? b=some o:=λne e=>(C_ _ _ (Kx ne)).trans e
  have I3:Inv X aa U H2 { heap:=hh.update kS (L4 (·.push (b_.int k tk))),gens:=gg,drawn:=dd,toks:=tt,os:=s'.os }:=rT (s:={ heap:=hh,gens:=gg,drawn:=dd,toks:=tt,os:=s'.os }) (t':=tt) I2 (ch:=[kS]) (λb hb=>by rw[A_.mp hb];exact fk _ iF.2) λb u hb e=>nz (by simpa using hb) e
  have my:Code1 H2 cv:=by
   obtain⟨c,oc,P,vs,t,q1,q2,q3⟩:=aW;exact⟨c,oc,P,vs,t,q1,un.frzs _ _ _ q2,q3⟩
  exact e_ ⟨rfl,H2,kA++[.int k tk],c2,ao++[k],I3,nz nf.1 mw.1,mw.2,my,nz (Kx ne) mq.1,mq.2,de,iF.2,ksk_snoc hk,by simp[al],oA⟩
 case done =>
  rintro s' ⟨H',kA,e,ao,I,hf,nF,aW,hL,nL,hS,nS,hk,al,kk⟩;rw[MV] at al kk;rw[Mv (by omega)] at kk;refine a_ (PB hS rfl ?_);refine Fz hS hL ne hk (by omega) (by omega) λh' c keep aJ=>?_
  have I2:Inv X aa U H' { s' with heap:=h' }:=rT (t':=s'.toks) I (ch:=[kS,a]) (λb hb=>by
   simp only[m_,LR,or_false] at hb
   rcases hb with h | h
   ·rw[h];exact fk _ nS
   ·rw[h];exact fa _ nL) λb u hb e=>by
   simp only[m_,LR,or_false,not_or] at hb;exact keep b u hb.1 hb.2 e
  exact fin _ H' ao c I2 nL aJ (by omega) kk
end
theorem Hm(kz:List Int)(ds:List D):srtK .non kz ds=(permD (permK kz.reverse) ds.reverse).reverse:=rfl
theorem El(kz:List Int)(xs:List V):srtK .non kz xs=(permV (permK kz.reverse) xs.reverse).reverse:=rfl
theorem Br{α:Type}{d:α}{xs:List α}(s:d_):(srtK d kz xs).length=kz.length:=by
 unfold srtK;rw[LA,y_,Ky,(rm s kz.reverse).1.size,LA]
theorem Ix(s:d_)(rv:Vals xs af)(hl:kz.length=xs.length):Vals (srtK .non kz xs) (srtK b_.none kz af):=by
 have r2:=Vals.rev rv;have l2:=r2.length;unfold srtK;refine Vals.rev (sA (by simp) λi x u e1 e2=>?_);obtain⟨j,f1,rfl⟩:=getMap e1;obtain⟨j',f2,rfl⟩:=getMap e2;rw[f1] at f2;cases f2
 have hj:j < xs.reverse.length:=by
  have h1:j∈(permK kz.reverse).toList:=LB f1;have h2:=(Ld.mp (rm s kz.reverse).1).mem_iff.mp h1;simp at h2;simp;omega
 obtain⟨u,g1,g2⟩:=r2.get (i_ hj);rw[q_,q_,i_ hj,g1];exact g2
section
variable{H:Hp}{s:d_}{body:KQ}{t:TE}{g:Str}{c0:h_}{bw:b_}{kb:Nat}
theorem nofr(I:Inv X aa U H s){b:h_}(h:s.heap.objs.size<=b):b∉frs X.stack:=λz=>by
 rcases m_.mp (I.stkSub b z) with e | e
 ·exact absurd I.lt (by rw[←e];exact So.mpr h)
 ·exact I.nofs h e
theorem xA(hr:Room (kb+3) X.A)(L:LamFix X params body scope g y c0 t kb jc)(hv:U[jc]?=some (some vc))(I:Inv X aa U H s)(hf:s.heap.get? f=some (lamObj params body scope [(y,c0)] pm cv bw))(nF:H f=none)(ff:f∉frs X.stack)(aW:Code1 H cv){l:h_}(hq:SqL X.K H l xs)(bX:xs.length < 64){Q:VK}(kk:keyK (stpL t vc) xs H [] λkz H'=>∀d,H' d=none->Q (.ref d) (upd H' d (.lst (srtK .non kz xs)))):
  w_ (n_ X.prog X.w) X.A (call (.builtin "sorted") [.ref l] [(Mu "key", .ref f),(Mu "reverse", .bool true)]) (EP X aa U Q) X.xe s:=by
 have line:64<=x_:=by rw[Lb];decide
 obtain⟨af,rv,tl,hz⟩:=I.list hq;have lv:=rv.length;refine call_function_entry_kw RH Rk Rl (ksk_s2 _ _ _) ?_;refine a_ (m:=R9 "sorted" 1 1 _) (e_ (a_ (collect_list tl.isList ?_ (by omega))));obtain⟨g0,j9⟩:∃g0,g0=(s.heap.push (K9 "list" #[] 0)).update s.heap.objs.size (L4 (·++af.toArray)):=⟨_,rfl⟩;have k0:∀b o,s.heap.get? b=some o->g0.get? b=some o:=λb o e=>by rw[j9];exact(C_ _ _ (Nb (F_ e))).trans (c_ _ e)
 have z0:g0.objs.size=s.heap.objs.size+1:=by rw[j9,Qb,LY]
 rw[←j9];refine a_ (Ng ?_ (by omega));obtain⟨a,ea⟩:∃a,a=g0.objs.size:=⟨_,rfl⟩;obtain⟨g1,cg⟩:∃g1,g1=g0.push (K9 "list" af.toArray 0):=⟨_,rfl⟩;have o1:g1.get? a=some (K9 "list" af.toArray 0):=by rw[cg,ea];exact t_ _ rfl
 have z1:g1.objs.size=g0.objs.size+1:=by rw[cg,LY]
 show w_ _ _ _ _ _ { s with heap:=g0.push (K9 "list" af.toArray 0) };rw[←cg,←ea];refine a_ (Kz (wpAny_call_entry_kw slot_list_sort ⟨_,o1,rfl⟩ entry_list_sort ?_ (ksk_l2 _ _ _)));rw[ksk_t2];unfold ksk_tree;refine a_ (PB o1 rfl (a_ (MC o1 rfl ?_ (by rw[l_];omega) (K' _))));obtain⟨g2,cj⟩:∃g2,g2=g1.update a (L4 λ_=>(#[]:Array b_)):=⟨_,rfl⟩;obtain⟨e1,o2⟩:∃e1,g2.get? a=some (K9 "list" #[] e1):=⟨_,by rw[cj];exact Mp o1 _⟩;have z2:g2.objs.size=g1.objs.size:=by rw[cj,Qb]
 rw[←cj];refine a_ (NZ o2 rfl (a_ (NA (a_ (Ng (Kz ?_) (K' _))) (by show af.length<=_;omega))));obtain⟨g3,iG⟩:∃g3,g3=g2.push (K9 "tuple" af.toArray 0):=⟨_,rfl⟩;obtain⟨kS,ek⟩:∃kS,kS=g3.objs.size:=⟨_,rfl⟩;obtain⟨g4,eA⟩:∃g4,g4=g3.push (K9 "list" #[] 0):=⟨_,rfl⟩;have z3:g3.objs.size=g2.objs.size+1:=by rw[iG,LY]
 show w_ _ _ (ksk_rest a (.ref f) true af.toArray e1 (.ref (g2.push (K9 "tuple" af.toArray 0)).objs.size)) _ _ { s with heap:=(g2.push (K9 "tuple" af.toArray 0)).push (K9 "list" #[] 0) };rw[←iG,←ek,←eA]
 have keep:∀b o,s.heap.get? b=some o->g4.get? b=some o:=λb o e=>by
  have nb:b≠a:=by rw[ea,z0];exact KI (MX (F_ e))
  rw[eA,iG,cj];refine c_ _ (c_ _ ((C_ _ _ (Kx nb)).trans ?_));rw[cg];exact c_ _ (k0 b o e)
 have I4:Inv X aa U H { s with heap:=g4 }:=I.kept (t':=s.toks) keep;have gT:s.heap.objs.size<=a:=by rw[ea,z0];exact Qp _
 have iI:s.heap.objs.size<=kS:=by rw[ek,z3,z2,z1,z0];omega
 have oB:kS≠a:=by rw[ek,ea,z3,z2,z1];omega
 have mz:f < s.heap.objs.size:=F_ hf;refine E6 hr L hv rv bX oB ⟨KI (J_ mz iI),KI (J_ mz gT)⟩ (λH' n=>I.fpOk gT n) (λH' n=>I.fpOk iI n) (λb hb=>?_) I4 (keep _ _ hf) nF aW ?_ (I.hok.fresh gT) ?_ (I.hok.fresh iI) kk λs' H' kz c I' nL aJ kl q=>?_
 ·rcases hb with h | h | h
  ·rw[h];exact nofr I gT
  ·rw[h];exact nofr I iI
  ·rw[h];exact ff
 ·show g4.get? a=_;rw[eA,iG];exact c_ _ (c_ _ o2)
 ·show g4.get? kS=_;rw[eA,ek];exact t_ _ rfl
 ·refine⟨_,rfl,e_ ⟨_,rfl,.ref a,_,zL (o:=.lst (srtK .non kz xs)) I' (I.fpOk gT nL) ⟨by rw[Br s,kl];omega,srtK b_.none kz af,c,Ix s rv kl,aJ⟩,rfl,q a nL⟩⟩
variable{B:BB}{p dB iJ fI cp:Pos}{jx:Option Str}
end
section
variable{body:KQ}{t:TE}{g:Str}{c0:h_}{kb:Nat}{B:BB}{p dB iJ fI cp:Pos}{jx:Nat}
noncomputable def tSortL(X:Cx)(t:TE)(jc:Nat)(te:TE):TE:=λU H Q=>te U H λx H1=>∃l xs vc,x=.ref l/\U[jc]?=some (some vc)/\SqL X.K H1 l xs/\xs.length < 64 ∧
 keyK (stpL t vc) xs H1 [] (λkz H'=>∀d,H' d=none->Q (.ref d) (upd H' d (.lst (srtK .non kz xs)))) ∧
 ∀c' o,H1 c'=none->SqL X.K (upd H1 c' o) l xs/\keyK (stpL t vc) xs (upd H1 c' o) [] (λkz H'=>∀d,H' d=none->Q (.ref d) (upd H' d (.lst (srtK .non kz xs))))
theorem FJ{c P:h_}(hr:Room (kb+3) X.A)(hg:Gl X "sorted")(hm:X.mg "sorted"=none)(L:LamFix X params body scope g y c0 t kb jc)(ht:Nt X.K "few_of"=some (c,P))(cG:X.env.code=.ref c)(hq:X.env.qual = "few_of.<locals>.")(eC:Se params X.env=([],[]))(cD:Pv scope X.env=pure [(y,c0)])(he:PE X e te)(hs:K0 pos (f_ [e] X.env)=(false,KR e X.env)::K0 pos (f_ [] X.env):=by rfl)(hp:(K0 pos (f_ [e] X.env)).any (·.1)=false:=by rfl):
  PE X (.Call (.Name "sorted" p) [e] [⟨some "key", .Lambda params body scope dB,iJ⟩,⟨some "reverse", .Constant (.bool true) jx cp,fI⟩] pos) (tSortL X t jc te):=by
 intro aa s U H Q I h;refine LW (qc I hg hm RI (callWith_kw ?_ hs hp) (by decide) (by decide));rw[hs];refine Mj (thn (he aa s U H _ I h) λv s1 ⟨x,H1,I1,r1,l,xs,vc,ex,hv,h9,bX,kk,mB⟩=>Ms (kws_cons ?_));subst ex;cases r1;refine BZ I1 ht cG hq eC cD λf H' s' pm cv bw I2 hH aW mC nF hf=>kws_cons (Constant_bool (kws_nil ?_))
 rcases hH with rfl | ⟨c',oc,n,rfl⟩
 ·exact xA hr L hv I2 hf nF (nofr I1 mC) aW h9 bX kk
 ·exact xA hr L hv I2 hf nF (nofr I1 mC) aW (mB c' _ n).1 bX (mB c' _ n).2
noncomputable def B0:BB:=λ_=>none
noncomputable def keysL(el:M D)(dc:D):List D->Option (List Int)
 | []=>some []
 | d::ds=>match el [some (.val d),some (.val dc)] with
  | some (.int k,_)=>match keysL el dc ds with
   | some kz=>some (k::kz)
   | none=>none
  | _=>none
noncomputable def sortLF(el:M D)(d dc:D):Option (List D):=match d with
 | .lst ds=>match keysL el dc ds with
  | some kz=>if ds.length < 64 then some (srtK .non kz ds) else none
  | none=>none
 | _=>none
noncomputable def valAt(j:Nat):M D:=λΓ=>match Γ[j]? with
 | some (some (.val d))=>some (d,Γ)
 | _=>none
noncomputable def sortLam(j:Nat)(el ga:M D):M (List D):=bnd ga λd=>bnd (valAt j) λdc=>lft (sortLF el d dc)
theorem Iz{K:PySem.W.Frag}{H:Hp}{dc:D}{v:V}(iH:Same I H)(hd:Is K I d v)(hc:Is K I dc vc):Rep K B0 H I H [some v,some vc] [some (.val d),some (.val dc)] where
 iH:=iH
 gH:=Same.refl _
 len:=rfl
 slot:=λi r e=>by
  match i,e with
  | 0,e=>cases e;exact⟨v,rfl,hd⟩
  | 1,e=>cases e;exact⟨vc,rfl,hc⟩
 dist:=λi j r r' w e e' m=>by
  match i,e with
  | 0,e=>cases e;cases m
  | 1,e=>cases e;cases m
 bor:=λi ds e=>by
  match i,e with
  | 0,e=>cases e
  | 1,e=>cases e
theorem AS{el:M D}{dc:D}:∀{ds:List D}{kz:List Int},keysL el dc ds=some kz->kz.length=ds.length
 | [],kz,h=>by cases h;rfl
 | d::ds,kz,h=>by
  unfold keysL at h;split at h
  ·split at h
   ·rename_i e;cases h;simp[AS e]
   ·cases h
  ·cases h
theorem ym{K:PySem.W.Frag}{G:Hp}{Γ:Gm}{U:L2.St}{el:M D}{dc:D}{vc:V}{Qf:List Int->Hp->Prop}:∀(ds:List D) (xs:List V) (H I:Hp) (ao kz:List Int),IsA K I ds xs->Is K I dc vc->Rep K B G I H U Γ->keysL el dc ds=some kz →
  (∀H' I',Rep K B G I' H' U Γ->Grow G I I'->Qf (ao++kz) H')->keyK (stpL (tD K B0 el) vc) xs H ao Qf
 | [],xs,H,I,ao,kz,ha,hc,r,h,k=>by
  rw[ha.nil_inv];cases h;have:=k H I r (Grow.refl _ _);rw[LD] at this;exact this
 | d::ds,xs,H,I,ao,kz,ha,hc,r,h,k=>by
  obtain⟨x,xr,rfl,h1,h2⟩:=ha.cons_inv;unfold keysL at h;split at h
  ·rename_i n aq e1;split at h
   ·rename_i kr e2;cases h;refine⟨H,I,_,_,_,Iz r.iH h1 hc,e1,λv H' I' r' g' hv=>⟨n,pq hv,?_⟩⟩;have rx:Rep K B G I' H' U Γ:=r.ext g'.up r'.gH r'.iH g'.new;refine ym ds xr H' I' (ao++[n]) kr (h2.mono g'.up) (hc.mono g'.up) rx e2 λH2 I2 r2 g2=>?_
    have:=k H2 I2 r2 ((show Grow G I I' from⟨g'.up,λb o e=>(g'.new b o e).imp id λhn=>r.gFree hn⟩).trans g2);rw[LC];exact this
   ·cases h
  ·cases h
theorem DR{K:PySem.W.Frag}(s:d_)(h:IsA K I ds xs)(hl:kz.length=ds.length):IsA K I (srtK .non kz ds) (srtK .non kz xs):=by
 rw[Hm,El];refine IsA.reverse (IsA.perm h.reverse ?_);have:=(rm s kz.reverse).1;rw[LA,hl] at this;rw[LA];exact this
theorem Ci{ga:M D}{c P:h_}(hr:Room (kb+3) X.A)(hg:Gl X "sorted")(hm:X.mg "sorted"=none)(L:LamFix X params body scope g y c0 (tD X.K B0 el) kb jc)(ht:Nt X.K "few_of"=some (c,P))(cG:X.env.code=.ref c)(hq:X.env.qual = "few_of.<locals>.")(eC:Se params X.env=([],[]))(cD:Pv scope X.env=pure [(y,c0)])(he:ED X B e ga)(hs:K0 pos (f_ [e] X.env)=(false,KR e X.env)::K0 pos (f_ [] X.env):=by rfl)(hp:(K0 pos (f_ [e] X.env)).any (·.1)=false:=by rfl):
  EO X B (.Call (.Name "sorted" p) [e] [⟨some "key", .Lambda params body scope dB,iJ⟩,⟨some "reverse", .Constant (.bool true) jx cp,fI⟩] pos) (sortLam jc el ga):=PE.imp (FJ hr hg hm L ht cG hq eC cD he hs hp) λU H Q q=>by
 obtain⟨G,I,Γ,d,ah,r,e1,kk⟩:=q;obtain⟨d1,ae,e2,e3⟩:=oK e1;obtain⟨dc,aq,e4,e5⟩:=oK e3;obtain⟨e6,rfl⟩:=pD e5;refine⟨G,I,Γ,d1,ae,r,e2,λv H1 I1 r1 g1 hd=>?_⟩;unfold valAt at e4;split at e4
 ·rename_i d2 sl;cases e4;obtain⟨vc,hv,oC⟩:=r1.slot jc _ sl;unfold sortLF at e6;split at e6
  ·rename_i ds;split at e6
   ·rename_i kz ek;obtain⟨bX,rfl⟩:=pK e6;obtain⟨l,xs,rfl,h3,h4⟩:=pF hd;have n1:=h4.length;have kl:=AS ek
    have go:∀H2,Rep X.K B G I1 H2 U ah->keyK (stpL (tD X.K B0 el) vc) xs H2 [] (λkz H'=>∀d,H' d=none->Q (.ref d) (upd H' d (.lst (srtK .non kz xs)))):=λH2 r2 =>
     ym ds xs H2 I1 [] kz h4 oC r2 ek λH' I' r' g' l' hl=>(kk.after (g1.trans g')).new r' hl (DR {} (h4.mono g'.up) kl)
    refine⟨l,xs,vc,rfl,hv,(Same.rdK r1.iH h3).sq,by omega,go H1 r1,λc' o n=>⟨?_,go _ (r1.fresh n o)⟩⟩;exact(Same.rdK (r1.fresh n o).iH h3).sq
   ·cases e6
  ·cases e6
 ·cases e4
end
end DL
namespace DL
open PySem PySem.Spec PyProof.Rows L2
section
variable{P:z_}{w:I_}{K:PySem.W.Frag}
theorem DO{c:h_}(hn:nsIn K Lj "few_of"=some (some (.ref f)))(ht:Nt K "few_of"=some (c,P'))(lk:K.lookup f=some ⟨oc,od,.func fd,c8⟩):fd.code=.ref c:=by
 unfold Nt at ht;rw[hn] at ht;dsimp only at ht;rw[lk] at ht;dsimp only at ht;split at ht
 ·rename_i e;split at ht
  ·split at ht
   ·cases ht;exact e
   ·cases ht
  ·cases ht
 ·cases ht
theorem CD{x:Str}{st:L9}{c:h_}{N:List Str}{k:Nat}(F:Fun K x qual st f fd)(S:FnScope N ps (defScope st))(hn:nsIn K Lj "few_of"=some (some (.ref f)))(ht:Nt K "few_of"=some (c,P'))(len:∀vs H Q E,sp vs H Q E->vs.length=ps.length)(c9:∀(aD:b_),aD=.ref c->∀(A:Mc) (outer:List Env) (s:d_) (H:Hp) (vs:List V) (Q:VK) (E:XK),Room k (A.deeper (Oz qual (defScope st) s.heap.objs.size f aD))->sp vs H Q E →
   ∃t,PSs (cxOf CX0 P w K mg base N qual (defScope st) f aD A outer s H E).nox (defBody st) t/\t { nx:=λ_ H'=>Q .non H',rt:=Q } (start N vs) H):FnOk P w K mg base CX0 (k+1) f fd ps sp:=by
 obtain⟨oc,od,kV,bO,pm,an,aD,ct,c8,rfl,lk,aW⟩:=F.ex;refine w6 lk aW S len λA outer s H vs Q E hr dE=>?_
 obtain⟨t,h,q⟩:=c9 aD (DO hn ht lk) A outer s H vs Q E hr dE;exact⟨t,h.nox,q⟩
theorem Gp{x:Str}{c:h_}{st:L9}{N:List Str}{k:Nat}(F:Fun K x qual st f fd)(S:FnScope N ps (defScope st))(hn:nsIn K Lj "few_of"=some (some (.ref f)))(ht:Nt K "few_of"=some (c,P'))(g:M Fl)(hb:∀(aD:b_),aD=.ref c->∀(A:Mc) (outer:List Env) (s:d_) (H:Hp) (E:XK) (B:BB),Room k (A.deeper (Oz qual (defScope st) s.heap.objs.size f aD)) →
   SDs (cxOf CX0 P w K mg base N qual (defScope st) f aD A outer s H E).nox B (defBody st) g):FnOk P w K mg base CX0 (k+1) f fd ps (spD K (fnD N.length ps.length g)):=by
 refine CD F S hn ht (λvs H Q E h=>?_) (λaD aW A outer s H vs Q E hr h=>?_)
 ·obtain⟨_,_,rs,_,_,h1,_,h2,_⟩:=h;unfold fnD at h2;by_cases hc:rs.length=ps.length
  ·rw[←hc];simpa using h1.len
  ·rw[if_neg hc] at h2;cases h2
 ·obtain⟨G,I,rs,r,a8,h2,h3,h4,h5⟩:=h;have hl:vs.length=rs.length:=by simpa using h2.len
  refine⟨_,hb aD aW A outer s H E (λi=>(L2.start N vs)[i]?) hr,?_⟩;unfold fnD at h4
  have hc:rs.length=ps.length:=by
   by_cases hc:rs.length=ps.length
   ·exact hc
   ·rw[if_neg hc] at h4;cases h4
  rw[if_pos hc] at h4;unfold fnD1 at h4;cases e1:g (rs.map some++Lh (N.length - rs.length) none) with
  | none=>rw[e1] at h4;cases h4
  | some q =>
   obtain⟨fl,ah⟩:=q;rw[e1] at h4;dsimp only at h4;cases e2:flR fl with
   | none=>rw[e2] at h4;cases h4
   | some rr =>
    rw[e2] at h4;dsimp only at h4;cases e3:fin rs ah with
    | none=>rw[e3] at h4;cases h4
    | some l =>
     rw[e3] at h4;obtain⟨rfl,rfl⟩:rr=r/\l=a8:=by cases h4;exact⟨rfl,rfl⟩
     have dQ:∀{i:Nat}{v:V},vs[i]?=some v->(L2.start N vs)[i]?=some (some v):=λ{i v} e=>by
      unfold L2.start;rw[L0 (by rw[y_];exact(D_.mp e).1),E_,e];rfl
     have eO:∀{i:Nat}{v:V},(L2.start N vs)[i]?=some (some v)->vs[i]?=some v:=λ{i v} e=>qQ e
     have fY:Rep K (λi=>(L2.start N vs)[i]?) G I H (L2.start N vs) (rs.map some++Lh (N.length - rs.length) none):={
      iH:=h2.iH,gH:=h2.gH
      len:=by unfold L2.start;rw[KJ,KJ,y_,y_,KP,KP,hl]
      slot:=λi q e=>by
       have e':=qQ e;obtain⟨v,e4,e5⟩:=h2.slot i q (by rw[E_,e'];rfl);obtain⟨v',e6,e7⟩:=getMap e4;cases e7;exact⟨v,dQ e6,e5⟩
      dist:=λi j q q' v e e' m m' s1 s2=>h2.dist i j q q' v (by rw[E_,qQ e];rfl) (by rw[E_,qQ e'];rfl) m m' (by rw[E_,eO s1];rfl) (by rw[E_,eO s2];rfl)
      bor:=λi ds e=>rfl }
     obtain⟨f1,f2⟩:=tR e3
     -- behind the body
     have df:∀{au:L2.St}{H' I':Hp},Rep K (λi=>(L2.start N vs)[i]?) G I' H' au ah->Grow G I I'->Rep K (vB vs) G I' H' (vs.map some) (l.map some):=λ{au H' I'} r' g'=>{
      iH:=r'.iH,gH:=r'.gH
      len:=by rw[y_,y_,f1,hl]
      slot:=λi q e=>by
       obtain⟨q',e4,e5⟩:=getMap e;cases e5
       rcases f2 i q e4 with⟨d,rfl,e6⟩ | ⟨ds,rfl,e6⟩
       ·obtain⟨v,e7,e8⟩:=h2.slot i (.val d) (by rw[E_,e6];rfl);exact⟨v,e7,Is.mono g'.up e8⟩
       ·obtain⟨v,e7,e8⟩:=r'.slot i _ e6;have e9:=r'.bor i ds e6;rw[e7] at e9;exact⟨v,by rw[E_,eO e9.symm];rfl,e8⟩
      dist:=λi j q q' v e e' m m' s1 s2=>by
       obtain⟨_,e4,e5⟩:=getMap e;cases e5;obtain⟨_,e6,e7⟩:=getMap e';cases e7
       rcases f2 i q e4 with⟨d,rfl,_⟩ | ⟨ds,rfl,e8⟩
       ·cases m
       rcases f2 j q' e6 with⟨d,rfl,_⟩ | ⟨ig,rfl,e9⟩
       ·cases m'
       obtain⟨v1,a1,_⟩:=getMap s1;obtain⟨v2,a2,a3⟩:=getMap s2;have b1:=r'.bor i ds e8;have b2:=r'.bor j ig e9;rename_i b3;cases b3;cases a3;rw[dQ a1] at b1;rw[dQ a2] at b2;exact r'.dist i j _ _ v e8 e9 rfl rfl b1 b2
      bor:=λi ds e=>rfl }
     have ap:∀{au:L2.St}{H' I':Hp}{p:h_},Rep K (λi=>(L2.start N vs)[i]?) G I' H' au ah->Apart au ah p->Apart (vs.map some) (l.map some) p:=λ{au H' I' p} r' a i q e m z=>by
      obtain⟨_,e4,e5⟩:=getMap e;cases e5
      rcases f2 i q e4 with⟨d,rfl,_⟩ | ⟨ds,rfl,e8⟩
      ·cases m
      obtain⟨v1,a1,a2⟩:=getMap z;cases a2;exact a i _ e8 rfl ((r'.bor i ds e8).trans (dQ a1))
     refine⟨G,I,_,fl,ah,fY,e1,λau H' I' r' g'=>?_⟩;cases fl with
     | nx=>cases e2;exact h5 _ H' I' (df r' g') g' (show Is K I' D.non V.non from Is.non)
     | bk=>cases e2
     | ct=>cases e2
     | rt r0 =>
      cases e2;intro v hv;refine h5 v H' I' (df r' g') g' ?_;cases rr with
      | val d=>exact hv
      | bor d=>exact hv
      | fro d=>exact hv
      | tfr d=>exact hv
      | dic d =>
       obtain⟨p,xs,b1,b2,b3,b4,b5,b6⟩:=hv;exact⟨p,xs,b1,b2,b3,b4,ap r' b5,b6⟩
      | own d =>
       obtain⟨p,xs,b1,b2,b3,b4,b5,b6⟩:=hv;exact⟨p,xs,b1,b2,b3,b4,ap r' b5,b6⟩
end
section
variable{body:KQ}{g:Str}{c0:h_}{kb:Nat}
theorem Ft(jn:X.N[jc]?=some y)(cl:X.env.cells.lookup y=some c0)(hb:∀(A:Mc) (s:d_) (H:Hp) (f:h_) (cv:b_),Room kb (A.deeper (envL scope s.heap.objs.size f cv [(y,c0)]))->ED (cxL X A scope [g,y] s H f cv [(y,c0)]) B0 body el)(hk:X.env.scope.names.lookup y=some .cell:=by rfl)(ne:g≠y:=by decide)(lU:∀pm cv bw u,MU (kla_fn "<lambda>" "few_of.<locals>.<lambda>" params body scope [(y,c0)] pm cv bw) ⟨[u],[]⟩=pure [(g,u)]:=by intros;rfl)(k1:scope.kind=.function:=by rfl)(k2:scope.isCoroutine=false:=by rfl)(k3:scope.isGenerator=false:=by rfl)(lg:scope.names.lookup g=some .local:=by rfl)(ly:scope.names.lookup y=some .free:=by rfl)(no:∀x∈scope.names,x.2≠.cell:=by decide +kernel)(fre:∀x∈scope.names,x.2=.free->x.1=y:=by decide +kernel):LamFix X params body scope g y c0 (tD X.K B0 el) kb jc:=
 ⟨jn,.inr (.inl hk),(λz=>by
  have z:X.env.scope.names.lookup y=some .local:=z;rw[hk] at z
  cases z),cl,ne,lU,k1,k2,k3,lg,ly,no,λx h=>fre _ (PySem.mem_of_lookup h) rfl,hb⟩
end
end DL
namespace DL
open PySem PySem.W PySem.Spec PyProof.Rows L2
theorem IsK.cons_mk{K:PySem.W.Frag}{a:Int}{v:V}{aj:List (Int×D)}{xs:List (Key×V)}(hd:Is K I d v)(h:IsK K I aj xs):IsK K I ((a,d)::aj) ((KU a,v)::xs):=⟨by simp[h.1],IsA.cons hd h.2⟩
theorem IsK.remap{K:PySem.W.Frag}{I:Hp}{k:Int}{d:D}{v:V}(hd:Is K I d v):∀{aj:List (Int×D)}{xs:List (Key×V)},IsK K I aj xs->IsK K I (aj.map λp=>if p.1=k then(p.1,d) else p) (xs.map λp=>if p.1=KU k then(p.1,v) else p)
 | [],xs,h=>by rw[h.nil_inv];exact IsK.nil
 | p::aj,xs,h=>by
  obtain⟨w,r,rfl,h1,h2⟩:=h.cons_inv;rw[KB,KB];have ih:=IsK.remap (k:=k) hd h2;by_cases e:p.1=k
  ·rw[if_pos e,if_pos (show(KU p.1:Key)=KU k by rw[e])];exact IsK.cons_mk hd ih
  ·rw[if_neg e,if_neg (show ¬(KU p.1:Key)=KU k from λz=>e (KU.inj z))];exact IsK.cons_mk h1 ih
noncomputable def putGF(n d:D)(aj:List (Int×D)):Option (List (Int×D)):=match n with
 | .int k=>if aj.length < lim then some (if(valD aj k).isSome=true then aj.map (λp=>if p.1=k then(p.1,d) else p) else aj++[(k,d)]) else none
 | _=>none
noncomputable def putG(i:Nat)(gk gv:M D):M Fl:=bnd gv λd=>bnd (lookK i) λ_=>bnd gk λn=>wrK i (putGF n d)
theorem Gw{B:BB}{k:KQ}{kr i:Nat}{x:Str}(hr:Room kr X.A)(hv:PE X (.Name x p1) (tVar i))(hk:ED X B k gk)(he:ED X B e gv)(hs:Mo e (some (.Subscript (.Name x p1) k aA)) pos.line X.env=pure false:=by rfl):
  SD X B (.Assign [.Subscript (.Name x p1) k aA] e pos) (putG i gk gv):=PS.imp (IJ (tz hr) hv hk he hs) λE U H q=>by
 obtain⟨G,I,Γ,fl,ah,r,e1,kk⟩:=q;obtain⟨d,ae,e2,e3⟩:=oK e1;obtain⟨pg,aq,e4,e5⟩:=oK e3;obtain⟨n,aP,e6,e7⟩:=oK e5;obtain⟨rfl,aj,es,w1,w2,rfl⟩:=Cq e7;refine⟨G,I,Γ,d,ae,r,e2,λv H1 I1 r1 g1 hd=>?_⟩;obtain⟨rfl,_,a,xs,f1,f2,_⟩:=F4 e4 r1;refine⟨_,f1,G,I1,aq,n,aP,r1,e6,λy H2 I2 r2 g2 hn=>?_⟩;obtain⟨u,h1,a',bg,rfl,f5,f6,f7,f8⟩:=r2.slot i _ w1;have hp:a'=a:=by rw[f1] at h1;cases h1;rfl
 subst hp;unfold putGF at w2;split at w2
 ·rename_i m;obtain⟨c2,rfl⟩:=pK w2;have:=pq hn;subst this;have ln:bg.length < x_:=by rw[f8.len];exact J_ c2 (qN (B_ _))
  refine⟨a',_,rfl,DPut.k (k:=KU m) f5 ln,?_⟩;have br:=hd.mono g2.up
  have key:IsK X.K I2 (if(valD aj m).isSome=true then aj.map (λp=>if p.1=m then(p.1,d) else p) else aj++[(m,d)]) (putK bg (KU m) v):=by
   rcases f8.val (k:=m) with⟨d',v',w1,w2,_⟩ | ⟨w1,w2⟩
   ·rw[w1,if_pos (show(some d').isSome=true from rfl)];unfold putK;rw[ux,w2,if_pos (show(some v').isSome=true from rfl)];exact f8.remap br
   ·rw[w1,Gs v w2,if_neg (by decide)];exact f8.snoc br
  exact kk U _ I2 (r2.writeK w1 h1 key) (g1.trans g2)
 ·cases w2
section
variable{prog:z_}{w:I_}{E:b_->d_->Prop}{s:d_}
theorem FS{it:h_}{wr:List h_}{P:Nat->b_->Prop}{St:Nat->KM->Prop}{Fit:d_->Prop}{ak:Ry->d_->Prop}(W:RS prog w A.in1 it fp wr n P St)(cP:S∉fp)(hn:n=ns.length)(n0:0 < n)(hP:∀i v,P i v->∃x t,ns[i]?=some x/\v=.int x t)(stay:∀s h' tk,Fit s->(∀b o,b∉wr->b≠S->s.heap.get? b=some o->h'.get? b=some o)->Fit { s with heap:=h',toks:=tk })(fin:∀t s,Fit s->ak (.ok (.ret (.int (maxI 0 ns) t))) s):∀(left:Nat) (s:d_) (cells:Array b_) (c j:Nat),j+left=n->St j s.heap->Fit s->CellsI 0 ns j cells->s.heap.get? S=some { cls:=.type "list", dict:=none,data:=.seq cells c,slots:=#[] } →
   Ml (n_ prog w) A (.builtin "max.loop" ⟨[.ref it,.none,.ref S],[]⟩) ak s:=by
 have apart:S∉wr:=λh=>cP (W.sub _ h)
 have bE:∀{g:KM}{f:Obj->Obj}{b:h_}{o:Obj},b≠S->g.get? b=some o->(g.update S f).get? b=some o:=λne e=>(C_ _ _ (Kx ne)).trans e
 have aX:(toString "max"++toString ".loop":String) = "max.loop":=by decide
 intro left
 induction left with
 | zero =>
  intro s cells c j len st cV bF slot;refine La NP ?_;rw[Lu Ls _];refine a_ (m:=Ov (.ref S)) (Ln slot rfl (a_ (m:=tryCatch (Mn (.ref it)) _) (L6 (W.done s _ _ (len▸st) λg tk kk=>?_))));have all:ns.take j=ns:=K3 (by omega);cases j with
  | zero =>
   omega
  | succ m =>
   obtain⟨t,rfl⟩:=bF;rw[all] at slot ⊢;exact a_ (m:=M9 S λ_=>#[]) (K2 (kk S _ apart slot) rfl (a_ (Lp (e_ (fin t _ (stay s _ tk cV λx o n1 n2 e=>bE n2 (kk x o n1 e)))))))
 | succ left ih =>
  intro s cells c j len st cV bF slot;refine La NP ?_;rw[Lu Ls _];refine a_ (m:=Ov (.ref S)) (Ln slot rfl (a_ (m:=tryCatch (Mn (.ref it)) _) (L6 (W.item j s _ _ (by omega) st λv g tk gR bD kk=>?_))));obtain⟨x,t,ex,rfl⟩:=hP j v gR;have aT:=kk S _ apart slot;have cQ:=stay s g tk cV λx o n1 _ e=>kk x o n1 e
  have bZ:ns.take (j+1)=ns.take j++[x]:=by rw[MR,ex];rfl
  have next:∀(f:Obj->Obj) (aO:Array b_) (c':Nat),(g.update S f).get? S=some { cls:=.type "list", dict:=none,data:=.seq aO c',slots:=#[] }->CellsI 0 ns (j+1) aO →
    Ml (n_ prog w) A (.builtin "max.loop" ⟨[.ref it,.none,.ref S],[]⟩) ak { s with heap:=g.update S f,toks:=tk }:=λf aO c' aJ is =>
   ih _ aO c' (j+1) (by omega) (W.frame _ _ _ bD λb hb o e=>bE (λz=>cP (z▸hb)) e) (stay { s with heap:=g,toks:=tk } _ tk cQ λx o _ n2 e=>bE n2 e) is aJ
  cases j with
  | zero =>
   cases bF;refine a_ (m:=M9 S λ_=>#[.int x t,.int x t]) (K2 aT rfl ?_);rw[aX];refine e_ ⟨KZ Ls _,next _ _ _ (KL _ aT rfl) ⟨t,?_⟩⟩;rw[bZ];rfl
  | succ m =>
   obtain⟨t2,rfl⟩:=bF
   have ne:ns.take (m+1)≠[]:=λz=>by
    rcases N7.mp z with z | z
    ·exact absurd z (Pj _)
    ·rw[z] at ex;simp at ex
   have step:maxI 0 (ns.take (m+2))=mx (maxI 0 (ns.take (m+1))) x:=by rw[bZ,zR 0 ne]
   refine a_ (m:=tryCatch (Nw [.int x t,.int x t] (P9 .Gt (.int x t) (.int (maxI 0 (ns.take (m+1))) t2) >>= _)) _) (L6 (Kz (a_ (gt_int (a_ (Kz (L7 (a_ (Lp (e_ ?_))))))))));by_cases hb:maxI 0 (ns.take (m+1)) < x
   ·rw[if_pos (by simpa using hb)];refine a_ (K2 aT rfl (a_ (Lp ?_)));rw[aX];refine e_ ⟨KZ Ls _,next _ _ _ (KL _ aT rfl) ⟨t,?_⟩⟩;rw[step,mx,if_pos hb]
   ·rw[if_neg (by simpa using hb)];refine a_ (Lp ?_);rw[aX];refine e_ ⟨KZ Ls _,ih _ _ c (m+2) (by omega) bD cQ ⟨t2,?_⟩ aT⟩;rw[step,mx,if_neg hb]
end
noncomputable def mi(m y:Int):Int:=if y < m then y else m
noncomputable def minI:List Int->Int
 | []=>0
 | x::xs=>xs.foldl mi x
theorem B5(ne:ns≠[])(y:Int):minI (ns++[y])=mi (minI ns) y:=by
 match ns,ne with
 | x::xs,_=>simp[minI,Oq]
def CellsM(ns:List Int)(j:Nat)(cells:Array b_):Prop:=match j with
 | 0=>cells=#[]
 | j+1=>∃t,cells=#[.int (minI (ns.take (j+1))) t,.int (minI (ns.take (j+1))) t]
section
variable{prog:z_}{w:I_}{E:b_->d_->Prop}{s:d_}
theorem Hc{it:h_}{wr:List h_}{P:Nat->b_->Prop}{St:Nat->KM->Prop}{Fit:d_->Prop}{ak:Ry->d_->Prop}(W:RS prog w A.in1 it fp wr n P St)(cP:S∉fp)(hn:n=ns.length)(n0:0 < n)(hP:∀i v,P i v->∃x t,ns[i]?=some x/\v=.int x t)(stay:∀s h' tk,Fit s->(∀b o,b∉wr->b≠S->s.heap.get? b=some o->h'.get? b=some o)->Fit { s with heap:=h',toks:=tk })(fin:∀t s,Fit s->ak (.ok (.ret (.int (minI ns) t))) s):∀(left:Nat) (s:d_) (cells:Array b_) (c j:Nat),j+left=n->St j s.heap->Fit s->CellsM ns j cells->s.heap.get? S=some { cls:=.type "list", dict:=none,data:=.seq cells c,slots:=#[] } →
   Ml (n_ prog w) A (.builtin "min.loop" ⟨[.ref it,.none,.ref S],[]⟩) ak s:=by
 have apart:S∉wr:=λh=>cP (W.sub _ h)
 have bE:∀{g:KM}{f:Obj->Obj}{b:h_}{o:Obj},b≠S->g.get? b=some o->(g.update S f).get? b=some o:=λne e=>(C_ _ _ (Kx ne)).trans e
 have aX:(toString "min"++toString ".loop":String) = "min.loop":=by decide
 intro left
 induction left with
 | zero =>
  intro s cells c j len st cV bF slot;refine La F.entry_min_loop ?_;rw[Lu MM _];refine a_ (m:=Ov (.ref S)) (Ln slot rfl (a_ (m:=tryCatch (Mn (.ref it)) _) (L6 (W.done s _ _ (len▸st) λg tk kk=>?_))));have all:ns.take j=ns:=K3 (by omega);cases j with
  | zero =>
   omega
  | succ m =>
   obtain⟨t,rfl⟩:=bF;rw[all] at slot ⊢;exact a_ (m:=M9 S λ_=>#[]) (K2 (kk S _ apart slot) rfl (a_ (Lp (e_ (fin t _ (stay s _ tk cV λx o n1 n2 e=>bE n2 (kk x o n1 e)))))))
 | succ left ih =>
  intro s cells c j len st cV bF slot;refine La F.entry_min_loop ?_;rw[Lu MM _];refine a_ (m:=Ov (.ref S)) (Ln slot rfl (a_ (m:=tryCatch (Mn (.ref it)) _) (L6 (W.item j s _ _ (by omega) st λv g tk gR bD kk=>?_))));obtain⟨x,t,ex,rfl⟩:=hP j v gR;have aT:=kk S _ apart slot;have cQ:=stay s g tk cV λx o n1 _ e=>kk x o n1 e
  have bZ:ns.take (j+1)=ns.take j++[x]:=by rw[MR,ex];rfl
  have next:∀(f:Obj->Obj) (aO:Array b_) (c':Nat),(g.update S f).get? S=some { cls:=.type "list", dict:=none,data:=.seq aO c',slots:=#[] }->CellsM ns (j+1) aO →
    Ml (n_ prog w) A (.builtin "min.loop" ⟨[.ref it,.none,.ref S],[]⟩) ak { s with heap:=g.update S f,toks:=tk }:=λf aO c' aJ is =>
   ih _ aO c' (j+1) (by omega) (W.frame _ _ _ bD λb hb o e=>bE (λz=>cP (z▸hb)) e) (stay { s with heap:=g,toks:=tk } _ tk cQ λx o _ n2 e=>bE n2 e) is aJ
  cases j with
  | zero =>
   cases bF;refine a_ (m:=M9 S λ_=>#[.int x t,.int x t]) (K2 aT rfl ?_);rw[aX];refine e_ ⟨KZ MM _,next _ _ _ (KL _ aT rfl) ⟨t,?_⟩⟩;rw[bZ];rfl
  | succ m =>
   obtain⟨t2,rfl⟩:=bF
   have ne:ns.take (m+1)≠[]:=λz=>by
    rcases N7.mp z with z | z
    ·exact absurd z (Pj _)
    ·rw[z] at ex;simp at ex
   have step:minI (ns.take (m+2))=mi (minI (ns.take (m+1))) x:=by rw[bZ,B5 ne]
   refine a_ (m:=tryCatch (Nw [.int x t,.int x t] (P9 .Lt (.int x t) (.int (minI (ns.take (m+1))) t2) >>= _)) _) (L6 (Kz (a_ (lt_int (a_ (Kz (L7 (a_ (Lp (e_ ?_))))))))));by_cases hb:x < minI (ns.take (m+1))
   ·rw[if_pos (by simpa using hb)];refine a_ (K2 aT rfl (a_ (Lp ?_)));rw[aX];refine e_ ⟨KZ MM _,next _ _ _ (KL _ aT rfl) ⟨t,?_⟩⟩;rw[step,mi,if_pos hb]
   ·rw[if_neg (by simpa using hb)];refine a_ (Lp ?_);rw[aX];refine e_ ⟨KZ MM _,ih _ _ c (m+2) (by omega) bD cQ ⟨t2,?_⟩ aT⟩;rw[step,mi,if_neg hb]
end
section
variable{B:BB}{k:KQ}{p:Pos}{g:M (List (Int×D))}{ga gb:M D}
theorem GQ(he:PE X e te):PE X e (λU H Q=>te U H λx H1=>∃a xs,x=.ref a/\H1 a=some (.dK xs)/\∀o,Q (.ref a) (upd H1 a (.frz o (.dK xs)))):=by
 intro aa s U H Q I h;refine thn (he aa s U H _ I h) λv s1 ⟨x,H1,I1,r1,a,xs,ex,hp,q⟩=>?_
 subst ex;obtain⟨z,hd,vs,aQ,o,es,ep,ho,r2,r3,r4,r5,r6⟩:=zc I1.hok hp;exact⟨.ref a,_,vM (t':=s1.toks) (ob:=.frz o (.dK xs)) I1 (by rw[hp];exact Ps) (KM.SameBut.refl a s1.heap) ⟨o,ho⟩ ⟨ho,z,hd,vs,aQ,o,es,ep,ho,r2,r3,r4,r5,r6⟩,r1,q o⟩
noncomputable def frzK(g:M (List (Int×D))):M D:=bnd g λaj=>ret (.dct (aj.map (·.1)))
theorem wA(ha:EK X B e g):ED X B e (frzK g):=PE.imp (GQ ha) λU H Q q=>by
 obtain⟨G,I,Γ,d,ah,r,e1,k⟩:=q;obtain⟨aj,ae,e2,e3⟩:=oK e1;cases e3;refine⟨G,I,Γ,aj,_,r,e2,λa xs H1 I1 r1 g1 h1 h2 h3 h4 h5=>⟨a,xs,rfl,h1,λo=>?_⟩⟩
 have r2:Rep X.K B G I1 (upd H1 a (.frz o (.dK xs))) U ah:=r1.extBut h4 h3 h2 h2 (Same.refl _) (λb u e ne=>by rw[po ne];exact e) (λb u e=>by
  have ne:b≠a:=λz=>by subst z;rw[h2] at e;cases e
  rw[po ne];exact r1.iH b u e) λb u e=>.inl e
 exact k _ _ _ (r2.freezeO pA h2 h4) (g1.trans (growFreezeO h2 h3)) (Is.dct pA (by rw[h5.1,MS];rfl))
theorem z7{k:Int}:∀{xs:List (Key×V)}{ns:List Int},xs.map (·.1)=ns.map KU->(valV xs (KU k)).isSome=decide (k∈ns)
 | [],[],_=>rfl
 | [],n::ns,h=>by cases h
 | x::xs,[],h=>by cases h
 | (kx,v)::xs,n::ns,h=>by
  rw[KB,KB] at h;injection h with h1 h2
  subst h1;unfold valV;by_cases e:n=k
  ·subst e;simp
  ·have ne:(KU n:Key)≠KU k:=λz=>e (KU.inj z)
   rw[List.find?_cons_of_neg (by simpa using ne)];have:=z7 (k:=k) h2;unfold valV at this;rw[this];simp[Kx e]
noncomputable def inDF(neg:Bool)(d c:D):Option D:=match d,c with
 | .int k,.dct ns=>some (.bl (if neg then !decide (k∈ns) else decide (k∈ns)))
 | _,_=>none
theorem GF:∀U H Q,tTD X.K B (tst (op2 (inDF neg) ga gb)) U H Q->tTest (λU H Q=>tD X.K B ga U H λy H1=>tD X.K B gb U H1 λx H2=>∃a o,x=.ref a/\DGet H2 a y o/\Q (.bl (if neg then !o.isSome else o.isSome)) H2) U H Q:=uB λU H Q q=>by
 obtain⟨G,I,Γ,b,ah,r,e1,kk⟩:=q;obtain⟨d,ae,e2,e3⟩:=oK e1;obtain⟨c,aq,e4,e5⟩:=oK e3;obtain⟨e6,rfl⟩:=pD e5;refine⟨G,I,Γ,d,ae,r,e2,λy H1 I1 r1 g1 hd=>⟨G,I1,ae,c,_,r1,e4,λx H2 I2 r2 g2 hc=>?_⟩⟩;unfold inDF at e6;split at e6
 ·rename_i n ns;cases e6;have:=pq hd;subst this;obtain⟨a,o,xs,rfl,h1,h2⟩:=rO hc;refine⟨a,valV xs (KU n),rfl,.inl ⟨xs,KU n,.inr ⟨o,r2.iH _ _ h1⟩,rfl,rfl⟩,?_⟩;rw[z7 h2];exact(kk.after g1).after g2 |>.now r2 (Is.bl _)
 ·cases e6
theorem wN{x:Str}(hu:X.A.units+1 < MN)(ha:ED X B k ga)(hb:ED X B (.Name x p1) gb):TD X B (.Compare k [.NotIn] [.Name x p1] pos) (tst (op2 (inDF true) ga gb)):=PT.imp (HK (Hq hu ha hb) rfl) (GF (neg:=true))
theorem Be(he:PE X e te):PI X tg e (λU H R=>te U H λx H1=>∃a o xs,x=.ref a/\H1 a=some (.frz o (.dK xs))/\R (Itd a o) H1):=by
 intro aa s U H R I h;refine thn (he aa s U H _ I h) λv s1 ⟨x,H1,I1,r1,a,o,xs,ex,hp,q⟩=>?_
 subst ex;cases r1;obtain⟨ho,z,hd,vs,aQ,o',es,ep,bL,r2,r3,r4,r5,r6⟩:=(show ObjOk X.prog X.w H1 s1.heap a (.frz o (.dK xs)) from I1.hok a _ hp);have eo:o'=o:=by rw[ho] at bL;exact(KH bL).symm
 subst eo;refine OS (knd:=mixKind X.prog X.w) hd ⟨o',es,ho,r2,r3,r4,r5,r6⟩ ?_;have ln:es.size=vs.length:=by rw[←r5.length,Ky]
 have lt:a < s1.heap.objs.size:=F_ ho;refine⟨s1.heap.objs.size,[s1.heap.objs.size],_,_,_,rfl,I1.kept (t':=s1.toks) λb o e=>c_ _ e,Dy a _ o' r3 ln (KI lt),⟨_,t_ _ rfl,rfl,rfl⟩,λb hb=>?_,q⟩;have e:b=s1.heap.objs.size:=by simpa using hb
 subst e;exact I1.fpOk (B_ _) (I1.hok.fresh (B_ _))
noncomputable def dctI(d:D):Option (List D):=match d with
 | .dct ns=>some (ns.map D.int)
 | _=>none
noncomputable def itDc(g:M D):M (List D):=bnd g λd=>lft (dctI d)
theorem zy(ha:ED X B e ga):ITD X B tg e (itDc ga):=PI.imp (Be ha) λU H R q=>by
 obtain⟨G,I,Γ,ds,ah,r,e1,k⟩:=q;obtain⟨d,ae,e2,e3⟩:=oK e1;obtain⟨e4,rfl⟩:=pD e3;unfold dctI at e4;split at e4
 ·rename_i ns;cases e4;refine⟨G,I,Γ,_,_,r,e2,λv H1 I1 r1 g1 hd=>?_⟩;obtain⟨a,o,xs,rfl,h1,h2⟩:=rO hd;refine⟨a,o,xs,rfl,r1.iH _ _ h1,k _ _ _ r1 g1 λi H2 s2=>?_⟩;have aI:H2 a=some (.frz o (.dK xs)):=s2 a _ h1;have len:xs.length=ns.length:=by have:=congrArg length h2;simpa using this
  refine⟨λd hd=>⟨⟨xs,aI,?_⟩,λx H3 hy=>.inl ⟨hy.1,?_⟩⟩,λhi=>⟨xs,aI,?_⟩⟩
  ·have:=(D_.mp hd).1;rw[y_] at this;omega
  ·obtain⟨kk,y,f1,f2⟩:=hy.2 xs aI;have f3:(xs.map (·.1))[i]?=some kk:=by rw[E_,f1];rfl
   rw[h2] at f3;rw[E_] at f3 hd;cases z:ns[i]? with
   | none=>rw[z] at hd;cases hd
   | some q =>
    rw[z] at f3 hd;cases f3;cases hd;rw[f2];exact Is.int _
  ·rw[y_] at hi;omega
 ·cases e4
end
section
variable{prog:z_}{w:I_}{E:b_->d_->Prop}{s:d_}
theorem Ag{xs:List (Key×V)}{vs:List (Key×b_)}(aQ:L2.KV xs vs)(h:xs.map (·.1)=ns.map KU){i:Nat}{v:b_}(hv:∃k y,vs[i]?=some (k,y)/\keyIs k v=true):∃x t,ns[i]?=some x/\v=.int x t:=by
 obtain⟨k,y,e1,e2⟩:=hv;have kx:(xs.map (·.1))[i]?=some k:=by rw[aQ.keys,E_,e1];rfl
 rw[h,E_] at kx;cases z:ns[i]? with
 | none=>rw[z] at kx;cases kx
 | some n =>
  rw[z] at kx;cases kx
  rcases qu e2 with⟨j,t,e,e'⟩ | ⟨j,t,e,e'⟩
  ·cases e;exact⟨_,t,rfl,e'⟩
  ·cases e
theorem F1{a:h_}{xs:List (Key×V)}{vs:List (Key×b_)}{Q:b_->d_->Prop}(hh:A.handled=none)(hd:(a == My)=false)(dd:s.heap.DictOf (mixKind prog w) a vs)(aQ:L2.KV xs vs)(h:xs.map (·.1)=ns.map KU)(n0:0 < ns.length)(fin:∀t h' tk,(∀b o,s.heap.get? b=some o->h'.get? b=some o)->Q (.int (minI ns) t) { s with heap:=h',toks:=tk }):w_ (n_ prog w) A (call (.builtin "min") [.ref a]) Q E s:=by
 obtain⟨ep,dd⟩:=dd.dictAt;have low:a < s.heap.objs.size:=dd.lt_size;have ln:vs.length=ns.length:=by rw[←aQ.length];have:=congrArg length h;simpa using this
 refine uY F.kind_min F.plain_min F.entry_min (PySem.F.args_min1 _) ?_;refine a_ (LH (a:=[none,none]) rfl (a_ (e_ (a_ (OS hd dd (a_ (KY ?_)))))));have aX:(toString "min"++toString ".loop":String) = "min.loop":=by decide
 rw[aX];have W:=dictKeys (prog:=prog) (w:=w) (A:=A.in1) (knd:=mixKind prog w) hh s.heap.objs.size a (KI low) vs ep;have bC:∀o:Obj,(s.heap.push o).objs.size=s.heap.objs.size+1:=λo=>LY ..
 refine e_ ⟨KZ MM _,Hc (Fit:=λs'=>∃h' tk,s'={ s with heap:=h',toks:=tk }/\∀b o,s.heap.get? b=some o->h'.get? b=some o) (ns:=ns) W ?_ ?_ ?_ ?_ ?_ ?_ vs.length _ #[] 0 0 (MV _) ⟨⟨_,c_ _ (t_ _ rfl),rfl,rfl⟩,dd.keep λb o e=>c_ _ (c_ _ e)⟩ ⟨_,_,rfl,λb o e=>c_ _ (c_ _ e)⟩ rfl (t_ _ rfl)⟩
 ·rw[bC];intro z;rw[m_,A_] at z
  rcases z with z | z
  ·exact absurd z (NN _)
  ·exact absurd z (Nb (MX low))
 ·exact ln
 ·rw[ln];exact n0
 ·exact λi v hv=>Ag aQ h hv
 ·rintro _ h' tk ⟨g,bZ,rfl,keep⟩ k;refine⟨h',tk,rfl,λb o e=>k b o (λz=>?_) (λz=>?_) (keep b o e)⟩
  ·rw[A_] at z;exact KI (F_ e) z
  ·rw[bC] at z;have:=F_ e;rw[z] at this;exact absurd this (So.mpr (Qp _))
 ·rintro t _ ⟨g,tk,rfl,keep⟩;exact fin t g tk keep
theorem Fw{a:h_}{xs:List (Key×V)}{vs:List (Key×b_)}{Q:b_->d_->Prop}(hh:A.handled=none)(hd:(a == My)=false)(dd:s.heap.DictOf (mixKind prog w) a vs)(aQ:L2.KV xs vs)(h:xs.map (·.1)=ns.map KU)(n0:0 < ns.length)(fin:∀t h' tk,(∀b o,s.heap.get? b=some o->h'.get? b=some o)->Q (.int (maxI 0 ns) t) { s with heap:=h',toks:=tk }):w_ (n_ prog w) A (call (.builtin "max") [.ref a]) Q E s:=by
 obtain⟨ep,dd⟩:=dd.dictAt;have low:a < s.heap.objs.size:=dd.lt_size;have ln:vs.length=ns.length:=by rw[←aQ.length];have:=congrArg length h;simpa using this
 refine uY F.kind_max F.plain_max F.entry_max (PySem.F.args_max1 _) ?_;refine a_ (LH (a:=[none,none]) rfl (a_ (e_ (a_ (OS hd dd (a_ (KY ?_)))))));have aX:(toString "max"++toString ".loop":String) = "max.loop":=by decide
 rw[aX];have W:=dictKeys (prog:=prog) (w:=w) (A:=A.in1) (knd:=mixKind prog w) hh s.heap.objs.size a (KI low) vs ep;have bC:∀o:Obj,(s.heap.push o).objs.size=s.heap.objs.size+1:=λo=>LY ..
 refine e_ ⟨KZ Ls _,FS (Fit:=λs'=>∃h' tk,s'={ s with heap:=h',toks:=tk }/\∀b o,s.heap.get? b=some o->h'.get? b=some o) (ns:=ns) W ?_ ?_ ?_ ?_ ?_ ?_ vs.length _ #[] 0 0 (MV _) ⟨⟨_,c_ _ (t_ _ rfl),rfl,rfl⟩,dd.keep λb o e=>c_ _ (c_ _ e)⟩ ⟨_,_,rfl,λb o e=>c_ _ (c_ _ e)⟩ rfl (t_ _ rfl)⟩
 ·rw[bC];intro z;rw[m_,A_] at z
  rcases z with z | z
  ·exact absurd z (NN _)
  ·exact absurd z (Nb (MX low))
 ·exact ln
 ·rw[ln];exact n0
 ·exact λi v hv=>Ag aQ h hv
 ·rintro _ h' tk ⟨g,bZ,rfl,keep⟩ k;refine⟨h',tk,rfl,λb o e=>k b o (λz=>?_) (λz=>?_) (keep b o e)⟩
  ·rw[A_] at z;exact KI (F_ e) z
  ·rw[bC] at z;have:=F_ e;rw[z] at this;exact absurd this (So.mpr (Qp _))
 ·rintro t _ ⟨g,tk,rfl,keep⟩;exact fin t g tk keep
end
section
variable{B:BB}{p:Pos}{t:M (List D)}
theorem Bb(hc:X.calm=true):CallR X (.builtin "min") (λxs H Q=>∃(p:h_) (kx:List (Key×V)) (ns:List Int),xs=[.ref p]/\Rd H p (.dK kx)/\kx.map (·.1)=ns.map KU/\0 < ns.length/\Q (.int (minI ns)) H):=by
 rintro aa s U H xs us Q I r ⟨p,kx,ns,rfl,hq,hk,n0,q⟩;obtain⟨u,rfl,e⟩:=r.one;cases e;obtain⟨z,hd,vs,aQ,dd⟩:=ua I.hok hq;exact F1 (I.ok.hd hc) hd dd aQ hk n0 λt h' tk keep=>⟨.int (minI ns),H,I.kept keep,⟨t,rfl⟩,q⟩
theorem HM(hc:X.calm=true):CallR X (.builtin "max") (λxs H Q=>∃(p:h_) (kx:List (Key×V)) (ns:List Int),xs=[.ref p]/\Rd H p (.dK kx)/\kx.map (·.1)=ns.map KU/\0 < ns.length/\Q (.int (maxI 0 ns)) H):=by
 rintro aa s U H xs us Q I r ⟨p,kx,ns,rfl,hq,hk,n0,q⟩;obtain⟨u,rfl,e⟩:=r.one;cases e;obtain⟨z,hd,vs,aQ,dd⟩:=ua I.hok hq;exact Fw (I.ok.hd hc) hd dd aQ hk n0 λt h' tk keep=>⟨.int (maxI 0 ns),H,I.kept keep,⟨t,rfl⟩,q⟩
noncomputable def minKF(ds:List D):Option D:=match ds with
 | [.dct ns]=>if 0 < ns.length then some (.int (minI ns)) else none
 | _=>none
noncomputable def maxKF(ds:List D):Option D:=match ds with
 | [.dct ns]=>if 0 < ns.length then some (.int (maxI 0 ns)) else none
 | _=>none
theorem Ea(hc:X.calm=true)(hg:Gl X "min")(hm:X.mg "min"=none)(ha:AD X B [e] t)(he:f_ [e] X.env=(false,KR e X.env)::f_ [] X.env:=by rfl)(aC:(K0 pos (f_ [] X.env)).any (·.1)=false:=by rfl):
  ED X B (.Call (.Name "min" p) [e] [] pos) (fn1 minKF t):=rV (Bb hc) (λds d e B G I H U Γ xs Q r h k=>by
 unfold minKF at e;split at e
 ·obtain⟨n0,rfl⟩:=pK e;obtain⟨x,rfl,hx⟩:=h.one;obtain⟨a,o,kx,rfl,h1,h2⟩:=rO hx;exact⟨a,kx,_,rfl,.inr ⟨o,r.iH _ _ h1⟩,h2,n0,k.now r (Is.int _)⟩
 ·cases e) hg hm boot_min ha (by decide) (by decide) he aC
theorem BO(hc:X.calm=true)(hg:Gl X "max")(hm:X.mg "max"=none)(ha:AD X B [e] t)(he:f_ [e] X.env=(false,KR e X.env)::f_ [] X.env:=by rfl)(aC:(K0 pos (f_ [] X.env)).any (·.1)=false:=by rfl):
  ED X B (.Call (.Name "max" p) [e] [] pos) (fn1 maxKF t):=rV (HM hc) (λds d e B G I H U Γ xs Q r h k=>by
 unfold maxKF at e;split at e
 ·obtain⟨n0,rfl⟩:=pK e;obtain⟨x,rfl,hx⟩:=h.one;obtain⟨a,o,kx,rfl,h1,h2⟩:=rO hx;exact⟨a,kx,_,rfl,.inr ⟨o,r.iH _ _ h1⟩,h2,n0,k.now r (Is.int _)⟩
 ·cases e) hg hm boot_max ha (by decide) (by decide) he aC
end
def NewL(G I I':Hp)(ds:List D)(vs:List V):Prop:=(∀(i:Nat) (p:h_),vs[i]?=some (V.ref p)->(∃ys,I' p=some (.lst ys))->G p=none/\I p=none)/\(∀(i j:Nat) (p:h_),vs[i]?=some (V.ref p)->vs[j]?=some (V.ref p)->(∃ys,I' p=some (.lst ys))->i=j) ∧
 ∀(i:Nat) (es:List D),ds[i]?=some (.lst es)->∃p ys,vs[i]?=some (V.ref p)/\I' p=some (.lst ys)
noncomputable def tAF(K:PySem.W.Frag)(B:BB)(g:M (List D)):TA:=λU H Q=>∃G I Γ ds ah,Rep K B G I H U Γ/\g Γ=some (ds,ah)/\∀vs H' I',Rep K B G I' H' U ah->Grow G I I'->IsA K I' ds vs->NewL G I I' ds vs->Q vs H'
def AF(X:Cx)(B:BB)(es:List KQ)(g:M (List D)):Prop:=PA X es (tAF X.K B g)
noncomputable def sca(g:M D):M D:=bnd g λd=>lft (if scal d=true then some d else none)
theorem v8{K:PySem.W.Frag}{p:h_}(s:scal d=true)(h:Is K I d (.ref p)):False:=by
 cases d<;>simp[scal] at s<;>(rw[Is] at h;cases h)
section
variable{B:BB}{es:List KQ}{ga:M D}{g t:M (List D)}
theorem Gz:AF X B [] nilA:=PA.imp sU λU H Q q=>by
 obtain⟨G,I,Γ,ds,ah,r,e1,k⟩:=q;cases e1;exact k [] H I r (Grow.refl _ _) IsA.nil ⟨λi p e=>by simp at e,λi j p e=>by simp at e,λi es e=>by simp at e⟩
theorem Ay(ha:ED X B e ga)(ht:AF X B es t)(hs:f_ (e::es) X.env=(false,KR e X.env)::f_ es X.env:=by rfl):AF X B (e::es) (consA (sca ga) t):=PA.imp (qI ha ht hs) λU H Q q=>by
 obtain⟨G,I,Γ,ds,ah,r,e1,k⟩:=q;obtain⟨d,ae,e2,e3⟩:=oK e1;obtain⟨dt,aq,e4,e5⟩:=oK e3;cases e5;obtain⟨d',aP,e6,e7⟩:=oK e2;obtain⟨e8,rfl⟩:=pD e7;obtain⟨sc,rfl⟩:=pK e8;refine⟨G,I,Γ,d,_,r,e6,λv H1 I1 r1 g1 hv=>⟨G,I1,_,dt,_,r1,e4,λvs H2 I2 r2 g2 hd nw=>?_⟩⟩;refine k (v::vs) H2 I2 r2 (g1.trans g2) (IsA.cons (hv.mono g2.up) hd) ⟨λi p z1 z2=>?_,λi j p z1 z2 z3=>?_,λi os z=>?_⟩
 ·cases i with
  | zero =>
   cases z1;exact(v8 sc hv).elim
  | succ i =>
   obtain⟨a1,a2⟩:=nw.1 i p (by simpa using z1) z2;refine⟨a1,?_⟩;cases z:I p with
   | none=>rfl
   | some o=>rw[g1.up p o z] at a2;cases a2
 ·cases i with
  | zero=>cases z1;exact(v8 sc hv).elim
  | succ i =>
   cases j with
   | zero=>cases z2;exact(v8 sc hv).elim
   | succ j=>exact congrArg Nat.succ (nw.2.1 i j p (by simpa using z1) (by simpa using z2) z3)
 ·cases i with
  | zero=>cases z;simp[scal] at sc
  | succ i =>
   obtain⟨p,ys,a1,a2⟩:=nw.2.2 i os (by simpa using z);exact⟨p,ys,by simpa using a1,a2⟩
theorem HX(ha:EO X B e g)(ht:AF X B es t)(hs:f_ (e::es) X.env=(false,KR e X.env)::f_ es X.env:=by rfl):AF X B (e::es) (consA (frz g) t):=PA.imp (qI ha ht hs) λU H Q q=>by
 obtain⟨G,I,Γ,ds,ah,r,e1,k⟩:=q;obtain⟨d,ae,e2,e3⟩:=oK e1;obtain⟨dt,aq,e4,e5⟩:=oK e3;cases e5;obtain⟨os,aP,e6,e7⟩:=oK e2;cases e7;refine⟨G,I,Γ,os,_,r,e6,λp xs H1 I1 r1 g1 h1 h2 h3 h4 h5=>?_⟩
 have Ip:I p=none:=by
  cases z:I p with
  | none=>rfl
  | some o=>rw[g1.up p o z] at h2;cases h2
 refine⟨G,upd I1 p (.lst xs),_,dt,_,r1.freeze h1 h2 h4,e4,λvs H2 I2 r2 g2 hd nw=>?_⟩
 have cM:∀(i:Nat) (q:h_),vs[i]?=some (V.ref q)->(∃ys,I2 q=some (.lst ys))->q≠p/\G q=none/\I q=none:=λi q z1 z2=>by
  obtain⟨a1,a2⟩:=nw.1 i q z1 z2;have ne:q≠p:=λz=>by rw[z,pA] at a2;cases a2
  rw[po ne] at a2;refine⟨ne,a1,?_⟩;cases z:I q with
  | none=>rfl
  | some o=>rw[g1.up q o z] at a2;cases a2
 refine k (.ref p::vs) H2 I2 r2 ((g1.trans (growFreeze h2 h3)).trans g2) (IsA.cons (Is.lst (RdK.of (g2.up _ _ pA)) ((h5.mono (pQ h2 _)).mono g2.up)) hd) ⟨λi q z1 z2=>?_,λi j q z1 z2 z3=>?_,λi os z=>?_⟩
 ·cases i with
  | zero=>cases z1;exact⟨h3,Ip⟩
  | succ i=>exact(cM i q (by simpa using z1) z2).2
 ·cases i with
  | zero =>
   cases z1;cases j with
   | zero=>rfl
   | succ j=>exact absurd rfl (cM j p (by simpa using z2) z3).1
  | succ i =>
   cases j with
   | zero=>cases z2;exact absurd rfl (cM i p (by simpa using z1) z3).1
   | succ j=>exact congrArg Nat.succ (nw.2.1 i j q (by simpa using z1) (by simpa using z2) z3)
 ·cases i with
  | zero=>exact⟨p,xs,rfl,g2.up _ _ pA⟩
  | succ i =>
   obtain⟨p,ys,a1,a2⟩:=nw.2.2 i os (by simpa using z);exact⟨p,ys,by simpa using a1,a2⟩
noncomputable def retT(t:M (List D)):M Fl:=bnd t λds=>bnd (lft (if ds.length<=lim then some () else none)) λ_=>ret (.rt (.tfr ds))
theorem Hg{x1}(h:AF X B es t):SD X B (.Return (some (.Tuple es x1 pos)) aA) (retT t):=PS.imp (sE (xu h)) λE U H q=>by
 obtain⟨G,I,Γ,f,ah,r,e1,k⟩:=q;obtain⟨ds,ae,e2,e3⟩:=oK e1;obtain⟨u,aq,e4,e5⟩:=oK e3;obtain⟨e6,rfl⟩:=pD e4;obtain⟨hl,_⟩:=pK e6;cases e5;refine⟨G,I,Γ,ds,_,r,e2,λvs H1 I1 r1 g1 hd nw=>⟨by rw[←hd.length];exact qN hl,λp hp=>?_⟩⟩;have up:=pQ (r1.iFree hp) (.tup vs);refine k U _ (upd I1 p (.tup vs)) (r1.alloc hp _) (g1.trans (r1.growAlloc hp _)) _ ⟨p,vs,rfl,pA,r1.gFree hp,hd.mono up,λi q z1 z2=>?_,λi j q z1 z2 z3=>?_,λi es z=>?_⟩
 ·obtain⟨ys,z2⟩:=z2;have ne:q≠p:=λz=>by rw[z,pA] at z2;cases z2
  rw[po ne] at z2;exact(nw.1 i q z1 ⟨ys,z2⟩).1
 ·obtain⟨ys,z3⟩:=z3;have ne:q≠p:=λz=>by rw[z,pA] at z3;cases z3
  rw[po ne] at z3;exact nw.2.1 i j q z1 z2 ⟨ys,z3⟩
 ·obtain⟨q,ys,a1,a2⟩:=nw.2.2 i es z;exact⟨q,ys,a1,up _ _ a2⟩
end
noncomputable def ctF(g:List R->Option (R×List R))(ds:List D):Option (List D):=match g (ds.map .val) with
 | some (.tfr d,_)=>some d
 | _=>none
def Told(K:PySem.W.Frag)(B:BB)(G I:Hp)(aR:Gm)(i:Nat)(ds:List D)(U:L2.St)(H:Hp):Prop:=∃H0 dC J xs a,Rep K B G I H0 dC aR/\U=dC.set i (some (.ref a))/\Same H0 H/\Same I J/\Same J H/\J a=some (.tup xs)/\IsA K J ds xs ∧
 (∀b o,J b=some o->I b=some o\/H0 b=none)/\(∀(j:Nat) (p:h_),xs[j]?=some (V.ref p)->((∃ys,J p=some (.lst ys))->H0 p=none))/\∀(j:Nat) (es:List D),ds[j]?=some (.lst es)->∃p ys,xs[j]?=some (V.ref p)/\J p=some (.lst ys)
noncomputable def hidR:Option R->Option R
 | some (.val d)=>some (.val d)
 | _=>none
theorem FU{o:Option R}{r:R}(h:hidR o=some r):∃d,r=.val d/\o=some (.val d):=by
 unfold hidR at h;split at h
 ·cases h;exact⟨_,rfl,rfl⟩
 ·cases h
section
variable{K:PySem.W.Frag}{B B':BB}{H:Hp}{aR:Gm}{i:Nat}
theorem Told.rep(hi:i < aR.length)(h:Told K B G I aR i ds U H):∃J,Rep K B' H J H U ((aR.map hidR).set i (some (.val (.tup ds)))):=by
 obtain⟨H0,dC,J,xs,a,r,rfl,h1,h2,h3,h4,h5,h6,h7,h8⟩:=h
 have aI:∀(j:Nat) (q:R),((aR.map hidR).set i (some (.val (.tup ds))))[j]?=some (some q)->(j=i/\q=.val (.tup ds))\/(j≠i/\∃d,q=.val d/\aR[j]?=some (some (.val d))):=λj q e=>by
  rcases pI e with⟨z1,z2,_⟩ | ⟨z1,z2⟩
  ·cases z2;exact .inl ⟨z1,rfl⟩
  ·rw[E_,Mq] at z2;obtain⟨o,z2,z3⟩:=z2;obtain⟨d,rfl,rfl⟩:=FU z3;exact .inr ⟨z1,d,rfl,z2⟩
 refine⟨J,⟨h3,Same.refl _,by rw[MA,MA,y_];exact r.len,λj q e=>?_,λj j' q q' v e e' m=>?_,λj es e=>?_⟩⟩
 ·rcases aI j q e with⟨rfl,rfl⟩ | ⟨ne,d,rfl,z⟩
  ·exact⟨.ref a,by rw[Mr (by rw[r.len];exact hi)],Is.tup (SqT.of h4) h5⟩
  ·obtain⟨v,e1,e2⟩:=r.slot j _ z;exact⟨v,by rw[Lf (Kx ne)];exact e1,Is.mono h2 e2⟩
 ·rcases aI j q e with⟨rfl,rfl⟩ | ⟨ne,d,rfl,z⟩
  ·cases m
  ·cases m
 ·rcases aI j _ e with⟨rfl,z⟩ | ⟨ne,d,z,_⟩
  ·cases z
  ·cases z
theorem xO{H0:Hp}{v:V}(r:Rep K B G I H0 dC aR)(h:Same H0 H1):Rep K B G I H1 (dC.set i (some v)) (aR.set i none):=by
 have r1:Rep K B G I H1 dC aR:=r.ext (Same.refl _) h (r.iH.trans h) λb o z=>.inl z
 have r2:=r1.forget i;refine⟨r2.iH,r2.gH,by rw[MA];exact r2.len,λj q e=>?_,λj j' q q' v e e' m m' z z'=>?_,λj es e=>?_⟩
 ·rcases pI e with⟨_,z,_⟩ | ⟨ne,z⟩
  ·cases z
  ·obtain⟨w,e1,e2⟩:=r1.slot j q z;exact⟨w,by rw[Lf (Kx ne)];exact e1,e2⟩
 ·rcases pI e with⟨_,y,_⟩ | ⟨ne,y⟩
  ·cases y
  rcases pI e' with⟨_,y',_⟩ | ⟨oD,y'⟩
  ·cases y'
  rw[Lf (Kx ne)] at z;rw[Lf (Kx oD)] at z';exact r1.dist j j' q q' v y y' m m' z z'
 ·rcases pI e with⟨_,z,_⟩ | ⟨ne,z⟩
  ·cases z
  ·rw[Lf (Kx ne)];exact r1.bor j es z
end
noncomputable def tT(K:PySem.W.Frag)(B:BB)(i:Nat)(g:List D->M Fl):TS:=λE U H=>∃G I aR ds f ah,i < aR.length/\Told K B G I aR i ds U H/\g ds aR=some (f,ah)/\KS K B G I ah f E
def TL(X:Cx)(B:BB)(i:Nat)(ss:List L9)(g:List D->M Fl):Prop:=PSs X ss (tT X.K B i g)
section
variable{B:BB}{c:KQ}{es:List KQ}{p p3:Pos}{x:Str}{k i:Nat}{g:List R->Option (R×List R)}{t:M (List D)}{ss:List L9}{tc:M Bool}{h:M Fl}
noncomputable def tellS(g:List R->Option (R×List R))(i:Nat)(t:M (List D))(ax:List D->M Fl):M Fl:=bnd t λds=>bnd (lft (ctF g ds)) λos ae=>if i < ae.length then ax os ae else none
theorem EM{px:Pos}(hN:X.N.Nodup)(F:FnOk X.prog X.w X.K X.mg X.base CX0 k f fd ps (spD X.K g))(hr:Room k X.A)(hg:Gl X x)(hm:X.mg x=some (.ref f))(hk:Oa X.K (.ref f)=true)(hb:Binds X.K fd ps [])(ha:AD X B (e::es) t)(cH:TL X B i ss ax)(hi:X.N[i]?=some y:=by rfl)(hy:locB X.env.scope y=true:=by rfl)(hf:fnB X y=true:=by rfl)(bA:(x == ("__debug__":Str))=false:=by decide)(he:f_ (e::es) X.env=(false,KR e X.env)::f_ es X.env:=by rfl)(aC:(K0 pos (f_ es X.env)).any (·.1)=false:=by rfl)(hs:OX [.Name y px] (.Call (.Name x p) (e::es) [] pos) aA.line X.env=pure false:=by rfl)(hw:OY [.Name y px] (.Call (.Name x p) (e::es) [] pos) X.env=pure none:=by rfl)(h1:(L_ [.Name y px] X.env).map (·.2)=[N9 (.Name y px) X.env]:=by rfl):SIs X B (.Assign [.Name y px] (.Call (.Name x p) (e::es) [] pos) aA::ss) (tellS g i t ax):=by
 unfold SIs;refine PSs.imp (tG (vd (rY F hr hg hm hk hb .nil pass0 ha bA he aC) (yf hN hi (locI hy) (fnI hf)) hs hw h1) cH) λE U H q=>?_
 obtain⟨G,I,Γ,fl,ah,r,e1,kk⟩:=q;obtain⟨ds,ae,e2,e3⟩:=oK e1;obtain⟨os,aq,e4,e5⟩:=oK e3;obtain⟨e6,rfl⟩:=pD e4;split at e5
 case isFalse=>cases e5
 rename_i fK;refine⟨G,I,Γ,ds,_,r,e2,λvs H1 I1 r1 g1 h1=>?_⟩;show spD X.K g (vs++[]) H1 _ _;rw[LD];unfold ctF at e6;split at e6
 ·rename_i d a8 e7;cases e6;refine⟨H1,I1,ds.map .val,.tfr os,a8,rp r1 h1,qW ds,e7,λv H' I' r' g' hv=>?_⟩;obtain⟨a,xs,rfl,b1,b2,b3,b4,b5,b6⟩:=hv;exact⟨G,I1,_,os,fl,ah,fK,⟨H1,U,I',xs,a,r1,rfl,r'.gH,g'.up,r'.iH,b1,b3,g'.new,b4,b6⟩,e5,kk.after g1⟩
 ·cases e6
noncomputable def tstP(i:Nat)(c:M Bool)(ax:List D->M Fl)(ds:List D):M Fl:=λaR=>match c ((aR.map hidR).set i (some (.val (.tup ds)))) with
 | some (true,_)=>some (.rt (.val (.bl false)),aR.set i none)
 | some (false,_)=>ax ds aR
 | none=>none
theorem yz{pr pb:Pos}(hc:TD X B c tc)(cH:TL X B i ss ax):TL X B i (.If c [.Return (some (.Constant (.bool false) j pb)) pr] [] pos::ss) (tstP i tc ax):=by
 refine PSs.imp (tG (yM hc (Aa (sE xw)) zg) cH) λE U H q=>?_
 obtain⟨G,I,aR,ds,fl,ah,fK,T,e1,kk⟩:=q;obtain⟨J,r⟩:=T.rep (B':=B) fK;unfold tstP at e1;cases e2:tc ((aR.map hidR).set i (some (.val (.tup ds)))) with
 | none=>rw[e2] at e1;cases e1
 | some q =>
  obtain⟨b,aq⟩:=q;rw[e2] at e1;refine⟨H,J,_,b,aq,r,e2,λH1 I1 r1 g1=>?_⟩;obtain⟨H0,dC,J0,xs,a,r0,rfl,t1,t2,t3,t4,t5,t6,t7,t8⟩:=T;cases b with
  | true =>
   rw[if_pos rfl];cases e1;exact kk _ H1 I (xO (v:=.ref a) r0 (t1.trans r1.gH)) (Grow.refl _ _) _ (show Is X.K I (.bl false) (.bl false) from Is.bl false)
  | false =>
   rw[if_neg (by decide)];exact⟨G,I,aR,ds,fl,ah,fK,⟨H0,dC,J0,xs,a,r0,rfl,t1.trans r1.gH,t2,t3.trans r1.gH,t4,t5,t6,t7,t8⟩,e1,kk⟩
noncomputable def clrP(i n:Nat)(h:M Fl)(ds:List D):M Fl:=λaR=>match ds[n]? with
 | some (.lst _)=>h (aR.set i none)
 | _=>none
theorem Co{z:Int}{pc:Pos}(hv:PE X (.Name x p1) (tVar i))(cH:SIs X B ss h)(hz:(n:Int)=z:=by rfl)(bP:NR (.Subscript (.Name x p1) (.Constant (.int z) jc pc) p2) "clear" X.env (KR (.Subscript (.Name x p1) (.Constant (.int z) jc pc) p2) X.env)=KR (.Subscript (.Name x p1) (.Constant (.int z) jc pc) p2) X.env:=by rfl)(bQ:(bf.endLine == aH.line)=true:=by rfl)(hs:Mo (.Call (.Attribute (.Subscript (.Name x p1) (.Constant (.int z) jc pc) p2) "clear" bf) [] [] aH) none pos.line X.env=pure false:=by rfl):
  TL X B i (.Expr (.Call (.Attribute (.Subscript (.Name x p1) (.Constant (.int z) jc pc) p2) "clear" bf) [] [] aH) pos::ss) (clrP i n h):=by
 unfold SIs at cH;subst hz;refine PSs.imp (tG (u7 (Hi PN PySem.F.slot_list_clear PySem.F.type_list_clear BA (vJ xW hv Ac (λ_ _=>rfl)) bP bQ) hs) cH) λE U H q=>?_
 obtain⟨G,I,aR,ds,fl,ah,fK,⟨H0,dC,J0,xs,a,r0,rfl,t1,t2,t3,t4,t5,t6,t7,t8⟩,e1,kk⟩:=q;unfold clrP at e1;split at e1
 ·rename_i zs e2;obtain⟨l,ys,l1,l2⟩:=t8 n zs e2;have l3:=t7 n l l1 ⟨ys,l2⟩;have l4:H l=some (.lst ys):=t3 _ _ l2;have si:(dC.set i (some (V.ref a)))[i]?=some (some (V.ref a)):=by rw[Mr (by rw[r0.len];exact fK)]
  refine⟨_,si,a,xs,n,.ref l,rfl,rfl,SqT.of (t3 _ _ t4),CL l1,.inl ⟨rfl,ys,SqL.of l4⟩,l,ys,rfl,rfl,l4,?_⟩;exact⟨G,I,aR.set i none,fl,ah,xO r0 (λb o z=>by rw[po (λq=>by rw[q,l3] at z;cases z)];exact t1 b o z),e1,kk⟩
 ·cases e1
end
end DL
namespace DL
open PySem L2
variable {α β:Type}
def wp(m:M α)(Γ:Gm)(Q:α->Gm->Prop):Prop:=∃a ah,m Γ=some (a,ah)/\Q a ah
def wpF(g:List R->Option (R×List R))(rs:List R)(Q:R->List R->Prop):Prop:=∃r a8,g rs=some (r,a8)/\Q r a8
def wpB(g:List R->Option (R×List R))(c ds:List D)(Q:R->List D->Prop):Prop:=∃r c',bcF g c ds=some (r,c')/\Q r c'
section
variable{Q:α->Gm->Prop}{QD:D->Gm->Prop}{QL:List D->Gm->Prop}{QB:Bool->Gm->Prop}{QS:Fl->Gm->Prop}{QU:Unit->Gm->Prop}
theorem wp.mono{m:M α}{Q':α->Gm->Prop}(h:wp m Γ Q)(f:∀a Γ,Q a Γ->Q' a Γ):wp m Γ Q':=by
 obtain⟨a,ah,e,q⟩:=h;exact⟨a,ah,e,f _ _ q⟩
@[simp ↓] theorem qU{a:α}:wp (ret a) Γ Q↔Q a Γ:=by
 constructor
 ·rintro⟨b,ah,e,q⟩;cases e;exact q
 ·intro q;exact⟨_,_,rfl,q⟩
@[simp ↓] theorem pP{β:Type}{m:M β}{f:β->M α}:wp (bnd m f) Γ Q↔wp m Γ λb ae=>wp (f b) ae Q:=by
 constructor
 ·rintro⟨a,ah,e,q⟩;obtain⟨b,ae,e1,e2⟩:=oK e;exact⟨b,ae,e1,a,ah,e2,q⟩
 ·rintro⟨b,ae,e1,a,ah,e2,q⟩;exact⟨a,ah,by unfold bnd;rw[e1];exact e2,q⟩
@[simp ↓] theorem Ew{a:α}:wp (lft (some a)) Γ Q↔Q a Γ:=by
 constructor
 ·rintro⟨b,ah,e,q⟩;cases e;exact q
 ·intro q;exact⟨_,_,rfl,q⟩
theorem pL{o:Option α}{a:α}(h:o=some a):wp (lft o) Γ Q↔Q a Γ:=by rw[h,Ew]
@[simp ↓] theorem BP{i:Nat}:wp (nm i) Γ QD↔match Γ[i]? with
  | some (some (.val d))=>QD d Γ
  | some (some (.own ds))=>QD (.lst ds) (Γ.set i (some (.val (.lst ds))))
  | some (some (.fro ds))=>QD (.lst ds) Γ
  | _=>False:=by
 unfold wp nm
 rcases e:Γ[i]? with _ | _ | r
 ·simp
 ·simp
 ·cases r<;>simp<;>exact⟨λ⟨_,_,⟨h1,h2⟩,q⟩=>by subst h1;subst h2;exact q,λq=>⟨_,_,⟨rfl,rfl⟩,q⟩⟩
@[simp ↓] theorem uX{F:D->D->Option α}{a b:M D}:wp (op2 F a b) Γ Q↔wp a Γ λx ae=>wp b ae λy aq=>wp (lft (F x y)) aq Q:=by simp[op2]
@[simp ↓] theorem Ie{F:List D->Option α}{t:M (List D)}:wp (fn1 F t) Γ Q↔wp t Γ λds ae=>wp (lft (F ds)) ae Q:=by simp[fn1]
@[simp ↓] theorem xQ:wp nilA Γ QL↔QL [] Γ:=by simp[nilA]
@[simp ↓] theorem uD{g:M D}{t:M (List D)}:wp (consA g t) Γ QL↔wp g Γ λd ae=>wp t ae λds aq=>QL (d::ds) aq:=by simp[consA]
@[simp ↓] theorem Jt{t:M (List D)}:wp (tupA t) Γ QD↔wp t Γ λds ae=>wp (lft (if ds.length<=lim then some (.tup ds) else none)) ae QD:=by simp[tupA]
@[simp ↓] theorem BM{t:M (List D)}:wp (lstA t) Γ QL↔wp t Γ λds ae=>wp (lft (if ds.length<=lim then some ds else none)) ae QL:=by simp[lstA]
@[simp ↓] theorem wo{t:M (List D)}:wp (frz t) Γ QD↔wp t Γ λds ae=>QD (.lst ds) ae:=by simp[frz]
@[simp ↓] theorem J7{g:M D}:wp (tst g) Γ QB↔wp g Γ λd ae=>wp (lft (asB d)) ae QB:=by simp[tst]
@[simp] theorem Kr{b:Bool}:asB (.bl b)=some b:=rfl
@[simp] theorem JC{b:Int}:asI (.int b)=some b:=rfl
@[simp ↓] theorem JF{a b:M Bool}:wp (andT a b) Γ QB↔wp a Γ λk ae=>if k=true then wp b ae QB else QB false ae:=by
 simp only[andT,pP]
 constructor<;>(intro h;refine h.mono λk ae h=>?_)<;>(cases k<;>simpa using h)
@[simp ↓] theorem JB{a b:M Bool}:wp (orT a b) Γ QB↔wp a Γ λk ae=>if k=true then QB true ae else wp b ae QB:=by
 simp only[orT,pP]
 constructor<;>(intro h;refine h.mono λk ae h=>?_)<;>(cases k<;>simpa using h)
@[simp ↓] theorem Kq{a:M Bool}:wp (notT a) Γ QB↔wp a Γ λk ae=>QB (!k) ae:=by simp[notT]
@[simp ↓] theorem Jy{c:M Bool}{a b:M D}:wp (ifV c a b) Γ QD↔wp c Γ λk ae=>if k=true then wp a ae QD else wp b ae QD:=by
 simp only[ifV,pP]
 constructor<;>(intro h;refine h.mono λk ae h=>?_)<;>(cases k<;>simpa using h)
theorem AN{a b:M Fl}:wp (seqS a b) Γ QS↔wp a Γ λf ae=>match f with
  | .nx=>wp b ae QS
  | .rt r=>QS (.rt r) ae
  | .bk=>QS .bk ae
  | .ct=>QS .ct ae:=by
 simp only[seqS,pP]
 constructor<;>(intro h;refine h.mono λf ae h=>?_)<;>(cases f<;>simpa using h)
@[simp ↓] theorem Ku{a:M D}:wp (retS a) Γ QS↔wp a Γ λd ae=>QS (.rt (.val d)) ae:=by simp[retS]
@[simp ↓] theorem J1{a:M (List D)}:wp (retO a) Γ QS↔wp a Γ λd ae=>QS (.rt (.own d)) ae:=by simp[retO]
@[simp ↓] theorem Ck{c:M Bool}{a b:M Fl}:wp (ifS c a b) Γ QS↔wp c Γ λk ae=>if k=true then wp a ae QS else wp b ae QS:=by
 simp only[ifS,pP]
 constructor<;>(intro h;refine h.mono λk ae h=>?_)<;>(cases k<;>simpa using h)
@[simp ↓] theorem Jp{i:Nat}{q:R}:wp (putS i q) Γ QU↔i < Γ.length/\QU () (Γ.set i (some q)):=by
 unfold wp putS;constructor
 ·rintro⟨a,ah,e,h⟩;obtain⟨h1,h2⟩:=pK e;cases h2;exact⟨h1,h⟩
 ·rintro⟨h1,h2⟩;exact⟨(),_,by rw[if_pos h1],h2⟩
@[simp ↓] theorem J2{i:Nat}:wp (tgN i d) Γ QU↔i < Γ.length/\QU () (Γ.set i (some (.val d))):=by simp[tgN]
@[simp ↓] theorem JM:wp (tgNil []) Γ QU↔QU () Γ:=by simp[tgNil]
@[simp ↓] theorem Kw{f:D->M Unit}{t:List D->M Unit}:wp (tgCons f t (d::ds)) Γ QU↔wp (f d) Γ λ_ ae=>wp (t ds) ae QU:=by simp[tgCons]
@[simp ↓] theorem JK{t:List D->M Unit}:wp (tgTup n t (.tup ds)) Γ QU↔ds.length=n/\wp (t ds) Γ QU:=by
 unfold tgTup;by_cases h:ds.length=n
 ·simp[h]
 ·simp only[h,if_false,false_and,iff_false];rintro⟨_,_,e,_⟩;cases e
@[simp ↓] theorem sV{i:Nat}{g:M D}:wp (setV i g) Γ QS↔wp g Γ λd ae=>i < ae.length/\QS .nx (ae.set i (some (.val d))):=by simp[setV]
@[simp ↓] theorem JD{i:Nat}{g:M (List D)}:wp (setO i g) Γ QS↔wp g Γ λd ae=>i < ae.length/\QS .nx (ae.set i (some (.own d))):=by simp[setO]
@[simp ↓] theorem rS{i:Nat}{m:M α}:wp (mutS i m) Γ Q↔isMut Γ i=true/\wp m Γ Q:=by
 unfold mutS wp;by_cases h:isMut Γ i=true
 ·simp[h]
 ·simp[h]
@[simp ↓] theorem Kf{i:Nat}:wp (wr i F) Γ QU↔match Γ[i]? with
  | some (some (.own ds))=>∃es,F ds=some es/\QU () (Γ.set i (some (.own es)))
  | some (some (.bor ds))=>∃es,F ds=some es/\QU () (Γ.set i (some (.bor es)))
  | _=>False:=by
 unfold wp wr
 rcases e:Γ[i]? with _ | _ | r
 ·simp
 ·simp
 ·cases r with
  | val d=>simp
  | fro d=>simp
  | tfr d=>simp
  | dic d=>simp
  | own ds =>
   rcases he:F ds with _ | es
   ·simp[he]
   ·simp[he];exact⟨λ⟨_,q⟩=>q,λq=>⟨(),q⟩⟩
  | bor ds =>
   rcases he:F ds with _ | es
   ·simp[he]
   ·simp[he];exact⟨λ⟨_,q⟩=>q,λq=>⟨(),q⟩⟩
@[simp ↓] theorem Jw{i:Nat}{g:M D}:wp (appS i g) Γ QS↔isMut Γ i=true/\wp g Γ λd ae=>wp (wr i (appF d)) ae λ_ aq=>QS .nx aq:=by simp only[appS,rS,pP,qU]
@[simp ↓] theorem JR{i:Nat}{g:M D}:wp (extS i g) Γ QS↔isMut Γ i=true/\wp g Γ λd ae=>wp (wr i (extF d)) ae λ_ aq=>QS .nx aq:=by simp only[extS,rS,pP,qU]
@[simp ↓] theorem Jf{i:Nat}{gi:M D}:wp (stS i gi gv) Γ QS↔wp gv Γ λd ae=>isMut ae i=true/\wp gi ae λn aq=>wp (lft (asI n)) aq λk aP=>wp (wr i (stF k d)) aP λ_ bn=>QS .nx bn:=by simp only[stS,rS,pP,qU]
@[simp ↓] theorem JI{i:Nat}:wp (look i) Γ QD↔match Γ[i]? with
  | some (some (.own ds))=>QD (.lst ds) Γ
  | some (some (.bor ds))=>QD (.lst ds) Γ
  | _=>False:=by
 unfold wp look
 rcases e:Γ[i]? with _ | _ | r
 ·simp
 ·simp
 ·cases r<;>simp<;>exact⟨λ⟨_,_,⟨h1,h2⟩,q⟩=>by subst h1;subst h2;exact q,λq=>⟨_,_,⟨rfl,rfl⟩,q⟩⟩
@[simp ↓] theorem J8{i:Nat}{g:M D}:wp (atN i g) Γ QD↔isMut Γ i=true/\wp g Γ λn ae=>wp (look i) ae λl aq=>wp (lft (ixF l n)) aq QD:=by simp only[atN,rS,pP]
@[simp ↓] theorem Kl{i:Nat}{g:M D}:wp (cmpN neg i g) Γ QD↔isMut Γ i=true/\wp g Γ λn ae=>wp (look i) ae λl aq=>wp (lft (eqF neg l n)) aq QD:=by simp only[cmpN,rS,pP]
@[simp ↓] theorem J3{g:M D}{QO:Option Int->Gm->Prop}:wp (prt g) Γ QO↔wp g Γ λd ae=>wp (lft (asI d)) ae λi aq=>QO (some i) aq:=by simp[prt]
@[simp ↓] theorem Kk{F:D->Option Int->Option Int->Option α}{g:M D}:wp (sl3 F g gl gh) Γ Q↔wp g Γ λd ae=>wp gl ae λl aq=>wp gh aq λh aP=>wp (lft (F d l h)) aP Q:=by simp[sl3]
@[simp ↓] theorem IZ{g:M D}:wp (itS g) Γ QL↔wp g Γ λd ae=>wp (lft (seqI d)) ae QL:=by simp[itS]
@[simp ↓] theorem xz:wp (forS it aE body) Γ QS↔wp it Γ λds ae=>wp (forM aE body ds) ae QS:=by simp[forS]
@[simp ↓] theorem JJ{i:Nat}{g:List R->Option (R×List R)}{t:M (List D)}{QR:R->Gm->Prop}:wp (callB i g t) Γ QR↔isMut Γ i=true/\wp t Γ λds ae=>match ae[i]? with
  | some (some (.own c))=>wpB g c ds λr c'=>QR r (ae.set i (some (.own c')))
  | some (some (.bor c))=>wpB g c ds λr c'=>QR r (ae.set i (some (.bor c')))
  | _=>False:=by
 simp only[callB,rS,pP];refine and_congr_right λ_=>?_
 have key:∀(ds:List D) (ae:Gm),wp (λΓ:Gm=>match Γ[i]? with
   | some (some (.own c))=>match bcF g c ds with
    | some (r,c')=>some (r,Γ.set i (some (.own c')))
    | none=>none
   | some (some (.bor c))=>match bcF g c ds with
    | some (r,c')=>some (r,Γ.set i (some (.bor c')))
    | none=>none
   | _=>none) ae QR↔(match ae[i]? with
  | some (some (.own c))=>wpB g c ds λr c'=>QR r (ae.set i (some (.own c')))
  | some (some (.bor c))=>wpB g c ds λr c'=>QR r (ae.set i (some (.bor c')))
  | _=>False):=by
  intro ds ae;unfold wp wpB;dsimp only
  rcases e:ae[i]? with _ | _ | r
  ·simp
  ·simp
  ·cases r with
   | val d=>simp
   | fro d=>simp
   | tfr d=>simp
   | dic d=>simp
   | own c =>
    rcases he:bcF g c ds with _ | ⟨r,c'⟩
    ·simp[he]
    ·simp only[he];constructor
     ·rintro⟨a,b,h,q⟩;cases h;exact⟨_,_,rfl,q⟩
     ·rintro⟨a,b,h,q⟩;cases h;exact⟨_,_,rfl,q⟩
   | bor c =>
    rcases he:bcF g c ds with _ | ⟨r,c'⟩
    ·simp[he]
    ·simp only[he];constructor
     ·rintro⟨a,b,h,q⟩;cases h;exact⟨_,_,rfl,q⟩
     ·rintro⟨a,b,h,q⟩;cases h;exact⟨_,_,rfl,q⟩
 constructor
 ·intro h;exact h.mono λds ae h=>(key ds ae).mp h
 ·intro h;exact h.mono λds ae h=>(key ds ae).mpr h
@[simp ↓] theorem Ka{i:Nat}{g:List R->Option (R×List R)}{t:M (List D)}:wp (cbV i g t) Γ QD↔wp (callB i g t) Γ λr ae=>wp (lft (asV r)) ae QD:=by simp only[cbV,pP]
@[simp] theorem Je:asV (.val d)=some d:=rfl
@[simp] theorem JT{d:List D}:asO (.own d)=some d:=rfl
theorem qL(J:Nat->Gm->Prop)(h0:J 0 Γ)(hs:∀(i:Nat) (d:D) (Γ:Gm),ds[i]?=some d->J i Γ->wp (aE d) Γ λ_ ae=>wp body ae λf aq=>match f with
   | .nx=>J (i+1) aq
   | .ct=>J (i+1) aq
   | .bk=>QS .nx aq
   | .rt r=>QS (.rt r) aq)(hd:∀Γ,J ds.length Γ->QS .nx Γ):wp (forM aE body ds) Γ QS:=by
 have key:∀(n:Nat) (es:List D) (Γ:Gm) (i:Nat),es.length=n->ds.drop i=es->i<=ds.length->J i Γ->wp (forM aE body es) Γ QS:=by
  intro n
  induction n with
  | zero =>
   intro es Γ i hl he hi hj;have:es=[]:=LX.mp hl;subst this
   have eN:i=ds.length:=by
    have:=congrArg length he;rw[L3] at this;simp at this;omega
   subst eN;exact⟨_,_,rfl,hd Γ hj⟩
  | succ n ih =>
   intro es Γ i hl he hi hj;cases es with
   | nil=>simp at hl
   | cons d es =>
    have bH:i < ds.length:=by
     have:=congrArg length he;rw[L3,Lc] at this;omega
    have cE:ds.drop i=ds[i]::ds.drop (i+1):=KC bH;rw[cE] at he;injection he with e1 e2
    have br:ds[i]?=some d:=by rw[i_ bH,e1]
    have step:=hs i d Γ br hj;rw[forM,pP];refine step.mono λ_ ae h1=>?_
    rw[pP];refine h1.mono λf aq h2=>?_
    cases f with
    | nx=>exact ih es aq (i+1) (by simpa using hl) e2 bH h2
    | ct=>exact ih es aq (i+1) (by simpa using hl) e2 bH h2
    | bk=>exact⟨_,_,rfl,h2⟩
    | rt r=>exact⟨_,_,rfl,h2⟩
 exact key ds.length ds Γ 0 rfl rfl (K' _) h0
theorem qX{QR:R->List R->Prop}(hl:rs.length=ar)(h:wp body (rs.map some++Lh (n - rs.length) none) λf ah=>∃r,flR f=some r/\∃l,fin rs ah=some l/\QR r l):wpF (fnD n ar body) rs QR:=by
 obtain⟨f,ah,e,r,e1,l,e2,q⟩:=h;refine⟨r,l,?_,q⟩;unfold fnD;rw[if_pos hl];unfold fnD1;rw[e];simp only[e1,e2]
theorem uC{g:List R->Option (R×List R)}(h:wpF g (ds.map .val) λr _=>r=.val d):cvF g ds=some d:=by
 obtain⟨r,a8,e,rfl⟩:=h;unfold cvF;rw[e]
theorem wX{g:List R->Option (R×List R)}{P:List D->Prop}(h:wpF g (ds.map .val) λr _=>∃d,r=.own d/\P d):∃d,coF g ds=some d/\P d:=by
 obtain⟨r,a8,e,d,rfl,hp⟩:=h;exact⟨d,by unfold coF;rw[e],hp⟩
theorem Bz{g:List R->Option (R×List R)}{QR:R->List D->Prop}(h:wpF g (.bor c::ds.map .val) λr a8=>∃c' t,a8=.bor c'::t/\QR r c'):wpB g c ds QR:=by
 obtain⟨r,a8,e,c',t,rfl,q⟩:=h;exact⟨r,c',by unfold bcF;rw[e],q⟩
end
end DL
namespace DL
open PySem L2
section
variable{α:Type}{Q:α->Gm->Prop}{QD:D->Gm->Prop}{QL:List D->Gm->Prop}{i j:Int}
@[simp ↓] theorem qO{c:Prop}[Decidable c]{a:α}:wp (lft (if c then some a else none)) Γ Q↔c/\Q a Γ:=by
 by_cases h:c
 ·simp[h]
 ·simp only[h,if_false,false_and,iff_false];rintro⟨_,_,e,_⟩;cases e
@[simp] theorem JU:subI (.int i) (.int j)=some (.int (i - j)):=rfl
@[simp] theorem Km:addF (.int i) (.int j)=some (.int (i+j)):=rfl
@[simp] theorem f_lt:ltI (.int i) (.int j)=some (.bl (decide (i < j))):=rfl
@[simp] theorem f_le:leI (.int i) (.int j)=some (.bl (decide (i<=j))):=rfl
@[simp] theorem f_gt:gtI (.int i) (.int j)=some (.bl (decide (j < i))):=rfl
@[simp] theorem f_ge:geI (.int i) (.int j)=some (.bl (decide (j<=i))):=rfl
@[simp ↓] theorem Ks:wp (lft (modI (.int i) (.int j))) Γ QD↔0 < j/\QD (.int (i % j)) Γ:=by simp[modI,intF]
@[simp ↓] theorem Js:wp (lft (divI (.int i) (.int j))) Γ QD↔(0 < j/\j < 2 ^ 200)/\QD (.int (i / j)) Γ:=by simp only[divI,intF,decide_eq_true_eq,qO]
@[simp ↓] theorem Kn:wp (lft (mulI (.int i) (.int j))) Γ QD↔((-(2 ^ 64) < i/\i < 2 ^ 64)\/(-(2 ^ 64) < j/\j < 2 ^ 64))/\QD (.int (i*j)) Γ:=by simp only[mulI,intF,decide_eq_true_eq,qO]
@[simp ↓] theorem Jl:wp (lft (powI (.int i) (.int j))) Γ QD↔(0<=j/\j<=1000000/\i.natAbs < 2 ^ 64)/\QD (.int (i ^ j.toNat)) Γ:=by simp only[powI,intF,decide_eq_true_eq,qO]
@[simp] theorem JS:ixF (.lst ds) (.int i)=atI ds i:=rfl
@[simp] theorem Kt:ixF (.tup ds) (.int i)=atI ds i:=rfl
theorem qS{α:Type}{ds:List α}:atI ds (n:Int)=ds[n]?:=by
 unfold atI ixN;rw[if_pos (by omega)];by_cases h:(n:Int) < ds.length
 ·rw[if_pos h];simp
 ·rw[if_neg h];have:ds.length<=n:=by omega
  simp[LU this]
@[simp] theorem Kh{α:Type}{a:α}{ds:List α}:atI (a::ds) 0=some a:=by
 rw[show(0:Int)=((0:Nat):Int) from rfl,qS];rfl
@[simp] theorem Kg{α:Type}{a b:α}{ds:List α}:atI (a::b::ds) 1=some b:=by
 rw[show(1:Int)=((1:Nat):Int) from rfl,qS];rfl
@[simp] theorem Jm{α:Type}{a b c:α}{ds:List α}:atI (a::b::c::ds) 2=some c:=by
 rw[show(2:Int)=((2:Nat):Int) from rfl,qS];rfl
theorem zN{α:Type}{ds:List α}{i:Int}(h0:0<=i)(h1:i < ds.length):∃a,atI ds i=some a/\a∈ds:=by
 obtain⟨n,rfl⟩:=Int.eq_ofNat_of_zero_le h0;have h:n < ds.length:=by omega
 exact⟨ds[n],by rw[qS,i_ h],LG h⟩
@[simp] theorem Ke{a b:D}:stF 1 d (a::b::ds)=some (a::d::ds):=by
 unfold stF ixN;rw[if_pos (by omega),if_pos (by simp;omega)];rfl
@[simp] theorem J9{a b c:D}:stF 2 d (a::b::c::ds)=some (a::b::d::ds):=by
 unfold stF ixN;rw[if_pos (by omega),if_pos (by simp;omega)];rfl
@[simp] theorem Jh:lenF [.lst ds]=some (.int ds.length):=rfl
@[simp] theorem Kc:lenF [.tup ds]=some (.int ds.length):=rfl
@[simp] theorem IX:minF [.int i,.int j]=some (.int (min i j)):=by
 unfold minF;dsimp only;congr 2;split<;>omega
@[simp] theorem JO:maxF [.int i,.int j]=some (.int (max i j)):=by
 unfold maxF;dsimp only;congr 2;split<;>omega
@[simp] theorem Jv:tupF [.lst ds]=some (.tup ds):=rfl
@[simp] theorem JE:tupF [.tup ds]=some (.tup ds):=rfl
@[simp] theorem JG:lstF [.lst ds]=some ds:=rfl
@[simp] theorem Jx:lstF [.tup ds]=some ds:=rfl
@[simp] theorem JY:seqI (.lst ds)=some ds:=rfl
@[simp] theorem Ju:seqI (.tup ds)=some ds:=rfl
@[simp] theorem Jc{b:Bool}:reprF [.bl b]=some (.str (if b then "True" else "False")):=rfl
@[simp] theorem Jo{lo:Option Int}:slF (.lst ds) lo hi=some (.lst (cutD ds lo hi)):=rfl
@[simp] theorem JA{xs:List D}:zipI [.lst xs,.lst ys]=some (pairsD xs ys):=rfl
@[simp] theorem JH{xs:List D}:zipI [.tup xs,.tup ys]=some (pairsD xs ys):=rfl
@[simp] theorem Jz{xs:List D}:enumI [.lst xs]=some (numD 0 xs):=rfl
@[simp] theorem Ja{xs:List D}:enumI [.tup xs]=some (numD 0 xs):=rfl
@[simp ↓] theorem IW:wp (lft (rngI1 [.int j])) Γ QL↔(-1000000<=j/\j<=1000000)/\QL (rngD 0 j.toNat) Γ:=by simp only[rngI1,qO]
@[simp ↓] theorem Kj:wp (lft (rngI2 [.int i,.int j])) Γ QL↔((-1000000<=i/\i<=1000000)/\-1000000<=j/\j<=1000000)/\QL (rngD i (j - i).toNat) Γ:=by simp only[rngI2,qO]
@[simp ↓] theorem Ji{a b:D}:wp (lft (eqF neg a b)) Γ QD↔(dep a<=100/\dep b<=100)/\QD (.bl (if neg then !deq a b else deq a b)) Γ:=by simp only[eqF,qO]
@[simp ↓] theorem JX{xs:List D}:wp (lft (catF (.lst xs) (.lst ys))) Γ QL↔xs.length+ys.length<=lim/\QL (xs++ys) Γ:=by simp only[catF,qO]
@[simp] theorem IY{a:Int}:dep (.int a)=0:=by simp[dep]
@[simp] theorem Jb:dep (.lst [])=1:=by simp[dep,depA]
@[simp] theorem Jd{a b:Int}:deq (.int a) (.int b)=(a == b):=by simp[deq]
@[simp] theorem zx:deq (.lst ds) (.lst [])=ds.isEmpty:=by cases ds<;>simp[deq,deqA]
@[simp] theorem J5{a b:Bool}:deq (.str (if a then "True" else "False")) (.str (if b then "True" else "False"))=(a == b):=by cases a<;>cases b<;>decide
@[simp] theorem zw:lim=1000000:=rfl
@[simp] theorem JW{P:List D->Prop}:(∃es,appF d ds=some es/\P es)↔ds.length < 1000000/\P (ds++[d]):=by
 unfold appF;rw[zw];by_cases h:ds.length < 1000000<;>simp[h]
@[simp] theorem Ko{xs:List D}{P:List D->Prop}:(∃es,extF (.lst xs) ds=some es/\P es)↔ds.length+xs.length<=1000000/\P (ds++xs):=by
 unfold extF;rw[zw];by_cases h:ds.length+xs.length<=1000000<;>simp[h]
theorem pB{a b:M Fl}{QS:Fl->Gm->Prop}(h:∀K:Fl->Gm->Prop,(∀ae,wp b ae QS->K .nx ae)->(∀r ae,QS (.rt r) ae->K (.rt r) ae)->wp a Γ K):wp (seqS a b) Γ QS:=by
 rw[AN];exact h _ (λ_ h=>h) (λ_ _ h=>h)
theorem qb{a b:M Fl}{QS:Fl->Gm->Prop}(P:Gm->Prop)(h:∀K:Fl->Gm->Prop,(∀ae,P ae->K .nx ae)->(∀r ae,QS (.rt r) ae->K (.rt r) ae)->wp a Γ K)(h2:∀ae,P ae->wp b ae QS):wp (seqS a b) Γ QS:=by
 rw[AN];exact h _ (λ_ p=>h2 _ p) (λ_ _ h=>h)
theorem sf{QR:R->List R->Prop}(hl:rs.length=ar)(h:∀K:Fl->Gm->Prop,(∀r ah,(∃l,fin rs ah=some l/\QR r l)->K (.rt r) ah)->(∀ah,(∃l,fin rs ah=some l/\QR (.val .non) l)->K .nx ah)->wp body (rs.map some++Lh (n - rs.length) none) K):wpF (fnD n ar body) rs QR:=
 qX hl (h _ (λr _ h=>⟨r,rfl,h⟩) (λ_ h=>⟨_,rfl,h⟩))
theorem wF{QR:R->List D->Prop}(hl:ds.length+1=ar)(h:∀K:Fl->Gm->Prop,(∀r c' ah,(∃t,fin (ds.map .val) ah=some t)->QR r c'->K (.rt r) (some (.bor c')::ah))->(∀c' ah,(∃t,fin (ds.map .val) ah=some t)->QR (.val .non) c'->K .nx (some (.bor c')::ah))->wp body ((.bor c::ds.map .val).map some++Lh (n - (ds.length+1)) none) K):wpB (fnD n ar body) c ds QR:=by
 refine Bz (sf (by simpa using hl) λK k1 k2=>?_);refine(by simpa using h K (λr c' ah ⟨t,e⟩ q=>k1 r _ ⟨_,by simp[fin,e],c',t,rfl,q⟩) (λc' ah ⟨t,e⟩ q=>k2 _ ⟨_,by simp[fin,e],c',t,rfl,q⟩))
theorem Ah{α:Type}(xs:List α)(f:α->D)(p:α->Bool)(v:α->D)(h:wp it Γ λds ae=>ds=xs.map f/\xs.length<=1000000/\(∀x∈xs,∀cs:Gm,cs.length=m->wp (aE (f x)) (cs++ae) λ_ aq=>wp ts aq λb aP=>b=p x/\(if b=true then wp el aP λy bn=>y=v x/\∃cJ,cJ.length=m/\bn=cJ++ae else ∃cJ,cJ.length=m/\aP=cJ++ae)) ∧
   QL ((xs.filter p).map v) ae):wp (compO m it aE ts el) Γ QL:=by
 unfold compO;rw[pP];refine h.mono λds ae ⟨fA,hl,hp,hq⟩=>?_
 subst fA;rw[if_pos (by simpa using hl)]
 have key:∀(es:List α) (cs:Gm),(∀d∈es,d∈xs)->cs.length=m->∃cJ,cJ.length=m/\compM aE ts el (es.map f) (cs++ae)=some ((es.filter p).map v,cJ++ae):=by
  intro es
  induction es with
  | nil=>intro cs _ hc;exact⟨cs,hc,rfl⟩
  | cons d es ih =>
   intro cs hm hc;obtain⟨u,aq,e1,b,aP,e2,hb,h3⟩:=hp d (hm d g_) cs hc;have fJ:∀d∈es,d∈xs:=λd hd=>hm d (j_ _ hd)
   cases b with
   | false =>
    rw[if_neg v_] at h3;obtain⟨cJ,bW,rfl⟩:=h3;obtain⟨ka,de,e3⟩:=ih cJ fJ bW;refine⟨ka,de,?_⟩;rw[KB,compM];unfold bnd;simp only[e1,e2,LK,if_false];rw[e3,N8,←hb];simp
   | true =>
    rw[if_pos rfl] at h3;obtain⟨x,bn,e4,rfl,cJ,bW,rfl⟩:=h3;obtain⟨ka,de,e3⟩:=ih cJ fJ bW;refine⟨ka,de,?_⟩;rw[KB,compM];unfold bnd;simp only[e1,e2,if_true,e4];rw[e3,N8,←hb];rfl
 obtain⟨cJ,bW,e⟩:=key xs (Lh m none) (λ_ h=>h) (by simp);refine⟨_,_,?_,hq⟩;unfold inC;rw[e];simp[bW,Pg]
theorem rb{α:Type}(xs:List α)(f:α->D)(p:α->Bool)(v:α->D)(h:wp it Γ λds ae=>ds=xs.map f/\xs.length<=1000000/\(∀x∈xs,∀a,wp (aE (f x)) (a::ae) λ_ aq=>wp ts aq λb aP=>b=p x/\(if b=true then wp el aP λy bn=>y=v x/\∃a',bn=a'::ae else ∃a',aP=a'::ae)) ∧
   QL ((xs.filter p).map v) ae):wp (compO 1 it aE ts el) Γ QL:=by
 refine Ah xs f p v (h.mono λds ae ⟨h1,h2,h3,h4⟩=>⟨h1,h2,λx hx cs hc=>?_,h4⟩);obtain⟨a,rfl⟩:=List.length_eq_one_iff.mp hc;refine(h3 x hx a).mono λ_ aq h=>h.mono λb aP ⟨h5,h6⟩=>⟨h5,?_⟩
 cases b with
 | true=>simp only[if_true] at h6 ⊢;exact h6.mono λy bn ⟨h7,a',h8⟩=>⟨h7,[a'],rfl,h8⟩
 | false=>simp only[LK,if_false] at h6 ⊢;obtain⟨a',h8⟩:=h6;exact⟨[a'],rfl,h8⟩
theorem wq{α:Type}(xs:List α)(f:α->D)(p:α->Bool)(v:α->D)(h:wp it Γ λds ae=>ds=xs.map f/\xs.length<=1000000/\(∀x∈xs,∀a b,wp (aE (f x)) (a::b::ae) λ_ aq=>wp ts aq λb aP=>b=p x/\(if b=true then wp el aP λy bn=>y=v x/\∃a' b',bn=a'::b'::ae else ∃a' b',aP=a'::b'::ae)) ∧
   QL ((xs.filter p).map v) ae):wp (compO 2 it aE ts el) Γ QL:=by
 refine Ah xs f p v (h.mono λds ae ⟨h1,h2,h3,h4⟩=>⟨h1,h2,λx hx cs hc=>?_,h4⟩)
 obtain⟨a,b,rfl⟩:∃a b,cs=[a,b]:=by
  match cs,hc with
  | [a,b],_=>exact⟨a,b,rfl⟩
 refine(h3 x hx a b).mono λ_ aq h=>h.mono λb aP ⟨h5,h6⟩=>⟨h5,?_⟩
 cases b with
 | true=>simp only[if_true] at h6 ⊢;exact h6.mono λy bn ⟨h7,a',b',h8⟩=>⟨h7,[a',b'],rfl,h8⟩
 | false=>simp only[LK,if_false] at h6 ⊢;obtain⟨a',b',h8⟩:=h6;exact⟨[a',b'],rfl,h8⟩
end
section
variable{α:Type}{Q:α->Gm->Prop}{QD:D->Gm->Prop}{QL:List D->Gm->Prop}{i j:Int}
theorem xj{xs:List D}(h:SortOk xs):sortF [.lst xs]=some (sortD xs):=by
 unfold sortF;exact if_pos h
end
end DL
namespace DL
theorem Ak{α:Type}:∀(l m:List α),l.Nodup->(∀x∈l,x∈m)->l.length<=m.length
 | [],m,_,_=>K' _
 | x::l,m,nd,h=>by
  obtain⟨a,b,rfl⟩:=OD (h x g_);rw[M1] at nd
  have:=Ak l (a++b) nd.2 (λy hy=>by
   have:=h y (j_ _ hy)
   rcases Lg.mp this with z | z
   ·exact(MT _ z)
   ·rcases m_.mp z with z | z
    ·subst z;exact absurd hy nd.1
    ·exact(KW _ z))
  simp at this ⊢;omega
end DL
namespace Own
open PySem PySem.Spec PyProof.Rows L2 DL
noncomputable def wV:M Fl:=
 (seqS (setO 1 (lstA nilA))
  (seqS (forS (itS (nm 0)) (tgN 2)
  (extS 1 (frz (fn1 rngI2 (consA (op2 ixF (nm 2) (ret (.int 0))) (consA (op2 addF (op2 ixF (nm 2) (ret (.int 1))) (ret (.int 1))) nilA))))))
  (retO (fn1 setIF (consA (nm 1) nilA)))))
noncomputable def rL:List R->Option (R×List R):=fnD 3 1 wV
noncomputable def uU:M Fl:=
 (retO (compO 2 (fn1 zipI (consA (nm 0) (consA (sl3 slF (nm 0) (prt (ret (.int 1))) (ret none)) nilA))) (tgTup 2 (tgCons (tgN 0) (tgCons (tgN 1) tgNil))) (tst (op2 ltI (op2 addF (nm 0) (ret (.int 1))) (nm 1))) (tupA (consA (op2 addF (nm 0) (ret (.int 1))) (consA (op2 subI (nm 1) (ret (.int 1))) nilA)))))
noncomputable def rR:List R->Option (R×List R):=fnD 1 1 uU
noncomputable def wH:M Fl:=
 (retS (fn1 sumF (consA (sl3 slF (nm 1) (prt (op2 ixF (nm 0) (ret (.int 0)))) (prt (op2 addF (op2 ixF (nm 0) (ret (.int 1))) (ret (.int 1))))) nilA)))
noncomputable def qD:List R->Option (R×List R):=fnD 2 2 wH
noncomputable def wk:M Fl:=
 (seqS (setV 3 (frz (fn1 (coF rL) (consA (nm 0) nilA))))
  (seqS (setV 4 (frz (sortLam 2 (fn1 (cvF qD) (consA (nm 0) (consA (nm 1) nilA))) (frz (fn1 (coF rR) (consA (nm 3) nilA))))))
  (seqS (setV 5 (frz (fn1 sortF (consA (sl3 slF (nm 4) (ret none) (prt (op2 subI (nm 1) (ret (.int 1))))) nilA))))
  (seqS (setV 6 (frz (compO 1 (itS (sl3 slF (nm 4) (prt (op2 subI (nm 1) (ret (.int 1)))) (ret none))) (tgN 0) (ret true) (fn1 (cvF qD) (consA (nm 0) (consA (nm 3) nilA))))))
  (seqS (setV 7 (frz (op2 catF (sl3 slF (nm 3) (ret none) (prt (ret (.int 1)))) (frz (compO 1 (itS (nm 5)) (tgN 0) (ret true) (op2 addF (op2 ixF (nm 0) (ret (.int 1))) (ret (.int 1))))))))
  (seqS (setV 8 (frz (op2 catF (frz (compO 1 (itS (nm 5)) (tgN 0) (ret true) (op2 subI (op2 ixF (nm 0) (ret (.int 0))) (ret (.int 1))))) (sl3 slF (nm 3) (prt (un1 negI (ret (.int 1)))) (ret none)))))
  (retT (consA (sca (fn1 sumF (consA (nm 6) nilA))) (consA (frz (fn1 zipLF (consA (nm 7) (consA (nm 8) nilA)))) (consA (sca (op2 maxdF (nm 6) (ret (.int 0)))) nilA))))))))))
noncomputable def rZ:List R->Option (R×List R):=fnD 9 3 wk
noncomputable def wu:M Fl:=
 (seqS (ifS (tst (op2 geI (nm 0) (op2 powI (ret (.int 10)) (ret (.int 18)))))
  (retS (nm 0)) (ret .nx))
  (seqS (setV 2 (op2 modI (op2 addF (op2 addF (op2 mulI (op2 modI (nm 0) (ret (.int 998244353))) (ret (.int 40692))) (op2 mulI (nm 1) (ret (.int 69621)))) (ret (.int 1009))) (ret (.int 2147483399))))
  (seqS (setV 3 (op2 modI (op2 addF (op2 addF (op2 mulI (nm 2) (nm 2)) (op2 mulI (nm 1) (ret (.int 48271)))) (op2 modI (nm 0) (ret (.int 131071)))) (ret (.int 2147483647))))
  (seqS (setV 4 (op2 modI (op2 addF (op2 addF (op2 mulI (nm 3) (nm 3)) (op2 mulI (nm 2) (ret (.int 17)))) (ret (.int 3))) (ret (.int 2147483629))))
  (retS (op2 addF (op2 mulI (op2 addF (op2 mulI (nm 2) (ret (.int 2147483647))) (nm 3)) (ret (.int 2147483629))) (nm 4)))))))
noncomputable def sC:List R->Option (R×List R):=fnD 5 2 wu
noncomputable def u8:M Fl:=
 (seqS (setO 1 (fn1 lstF (consA (sl3 slF (nm 0) (ret none) (prt (ret (.int 12)))) nilA)))
  (seqS (forS (fn1 enumI (consA (sl3 slF (nm 0) (prt (ret (.int 12))) (prt (ret (.int 63)))) nilA)) (tgTup 2 (tgCons (tgN 2) (tgCons (tgN 3) tgNil)))
  (stS 1 (op2 modI (nm 2) (ret (.int 12))) (op2 addF (atN 1 (op2 modI (nm 2) (ret (.int 12)))) (nm 3))))
  (retO (lstA (consA (nm 1) (consA (ret (.int 0)) (consA (ret (.int 0)) nilA)))))))
noncomputable def sx:List R->Option (R×List R):=fnD 4 1 u8
noncomputable def uZ:M Fl:=
 (seqS (ifS (tst (op2 ltI (atN 0 (ret (.int 2))) (nm 1)))
  (seqS (setV 2 (atN 0 (ret (.int 1))))
  (seqS (setV 3 (op2 mulI (ret (.int 11)) (nm 2)))
  (seqS (ifS (tst (op2 ltI (nm 2) (fn1 lenF (consA (atN 0 (ret (.int 0))) nilA))))
  (setV 3 (op2 ixF (atN 0 (ret (.int 0))) (nm 2))) (ifS (tst (op2 (eqF true) (atN 0 (ret (.int 0))) (frz (lstA nilA))))
  (setV 3 (op2 modI (op2 ixF (atN 0 (ret (.int 0))) (op2 modI (op2 addF (op2 mulI (nm 2) (ret (.int 7))) (ret (.int 1))) (fn1 lenF (consA (atN 0 (ret (.int 0))) nilA)))) (op2 addF (op2 powI (ret (.int 10)) (ret (.int 17))) (op2 mulI (ret (.int 3)) (nm 2))))) (ret .nx)))
  (seqS (stS 0 (ret (.int 1)) (op2 addF (nm 2) (ret (.int 1))))
  (stS 0 (ret (.int 2)) (fn1 (cvF sC) (consA (nm 3) (consA (nm 2) nilA)))))))) (ret .nx))
  (seqS (setV 4 (op2 modI (atN 0 (ret (.int 2))) (nm 1)))
  (seqS (stS 0 (ret (.int 2)) (op2 divI (atN 0 (ret (.int 2))) (nm 1)))
  (retS (nm 4)))))
noncomputable def pS:List R->Option (R×List R):=fnD 5 2 uZ
noncomputable def wz(g:List R->Option (R×List R)):M Fl:=
 (seqS (ifS (orT (tst (op2 (isNF false) (nm 1) (ret .non))) (tst (op2 (isNF false) (nm 0) (ret .non))))
  (retS (andV (op2 (isNF false) (nm 1) (ret .non)) (op2 (isNF false) (nm 0) (ret .non)))) (ret .nx))
  (seqS (ifS (orT (tst (un1 (isiF .bT) (nm 1))) (tst (un1 (isiF .bT) (nm 0))))
  (retS (andV (un1 (isiF .bT) (nm 1)) (andV (un1 (isiF .bT) (nm 0)) (op2 (eqF false) (nm 0) (nm 1))))) (ret .nx))
  (seqS (ifS (orT (tst (un1 (isiF .iT) (nm 1))) (tst (un1 (isiF .sT) (nm 1))))
  (retS (andV (op2 (eqF false) (un1 (isiF .iT) (nm 0)) (un1 (isiF .iT) (nm 1))) (op2 (eqF false) (nm 0) (nm 1)))) (ret .nx))
  (seqS (ifS (orT (tst (op2 (eqF true) (un1 (isiF .tT) (nm 1)) (un1 (isiF .tT) (nm 0)))) (tst (op2 (eqF true) (un1 (isiF .lT) (nm 1)) (un1 (isiF .lT) (nm 0)))))
  (retS (ret (.bl false))) (ret .nx))
  (seqS (ifS (tst (op2 (eqF true) (fn1 lenF (consA (nm 0) nilA)) (fn1 lenF (consA (nm 1) nilA))))
  (retS (ret (.bl false))) (ret .nx))
  (retS (op2 (inF true) (ret (.bl false)) (frz (compO 2 (fn1 zipI (consA (nm 0) (consA (nm 1) nilA))) (tgTup 2 (tgCons (tgN 0) (tgCons (tgN 1) tgNil))) (ret true) (fn1 (cvF g) (consA (nm 0) (consA (nm 1) nilA))))))))))))
noncomputable def r9:Nat->List R->Option (R×List R)
 | 0=>λ_=>none
 | k+1=>fnD 2 2 (wz (r9 k))
noncomputable def vZ:M Fl:=
 (seqS (setO 2 (lstA nilA))
  (seqS (forS (fn1 rngI1 (consA (op2 addF (ret (.int 1)) (cbV 0 pS (consA (ret (.int 12)) nilA))) nilA)) (tgN 3)
  (seqS (setV 4 (cbV 0 pS (consA (nm 1) nilA)))
  (seqS (ifS (andT (tst (cmpN true 2 (frz (lstA nilA)))) (tst (op2 (eqF false) (cbV 0 pS (consA (ret (.int 5)) nilA)) (ret (.int 0)))))
  (setV 4 (fn1 minF (consA (op2 subI (nm 1) (ret (.int 1))) (consA (op2 addF (op2 addF (op2 ixF (atN 2 (un1 negI (ret (.int 1)))) (ret (.int 1))) (ret (.int 1))) (cbV 0 pS (consA (ret (.int 2)) nilA))) nilA)))) (ret .nx))
  (seqS (setV 5 (fn1 minF (consA (op2 subI (nm 1) (ret (.int 1))) (consA (op2 addF (nm 4) (op2 ixF (frz (lstA (consA (ret (.int 0)) (consA (ret (.int 0)) (consA (ret (.int 1)) (consA (ret (.int 2)) (consA (cbV 0 pS (consA (nm 1) nilA)) nilA))))))) (cbV 0 pS (consA (ret (.int 5)) nilA)))) nilA))))
  (appS 2 (tupA (consA (nm 4) (consA (nm 5) nilA))))))))
  (retS (nm 2))))
noncomputable def uN:List R->Option (R×List R):=fnD 6 2 vZ
noncomputable def vP:M Fl:=
 (seqS (setV 1 (op2 ixF (frz (lstA (consA (op2 addF (ret (.int 1)) (cbV 0 pS (consA (ret (.int 12)) nilA))) (consA (ret (.int 30)) (consA (op2 addF (ret (.int 1)) (cbV 0 pS (consA (ret (.int 100)) nilA))) (consA (ret (.int 100)) nilA)))))) (cbV 0 pS (consA (ret (.int 4)) nilA))))
  (seqS (setV 2 (op2 ixF (frz (lstA (consA (ret (.int 1)) (consA (ret (.int 2)) (consA (ret (.int 6)) (consA (op2 powI (ret (.int 10)) (ret (.int 56))) nilA)))))) (cbV 0 pS (consA (ret (.int 4)) nilA))))
  (retO (compO 1 (fn1 rngI1 (consA (nm 1) nilA)) (tgN 0) (ret true) (op2 mulI (cbV 1 pS (consA (ret (.int 10)) nilA)) (cbV 1 pS (consA (nm 3) nilA)))))))
noncomputable def um:List R->Option (R×List R):=fnD 3 1 vP
noncomputable def vU:M Fl:=
 (seqS (setK 1 dlit0)
  (seqS (forS (itS (nm 0)) (tgTup 2 (tgCons (tgN 2) (tgCons (tgN 3) tgNil)))
  (forS (fn1 rngI2 (consA (nm 2) (consA (op2 addF (nm 3) (ret (.int 1))) nilA))) (tgN 4)
  (putG 1 (nm 4) (ret (.bl true)))))
  (retK 1)))
noncomputable def ra:List R->Option (R×List R):=fnD 5 1 vU
noncomputable def wM:M Fl:=
 (seqS (setV 2 (frzK (fn1 (ckF ra) (consA (nm 0) nilA))))
  (seqS (setO 3 (lstA nilA))
  (seqS (setV 4 (ret .non))
  (seqS (forS (fn1 rngI2 (consA (fn1 minKF (consA (nm 2) nilA)) (consA (op2 addF (fn1 maxKF (consA (nm 2) nilA)) (ret (.int 1))) nilA))) (tgN 5)
  (ifS (tst (op2 (inDF true) (nm 5) (nm 2)))
  (setV 4 (ifV (tst (op2 (isNF false) (nm 4) (ret .non))) (op2 ixF (nm 1) (nm 5)) (op2 addF (nm 4) (op2 ixF (nm 1) (nm 5))))) (ifS (tst (op2 (isNF true) (nm 4) (ret .non)))
  (seqS (appS 3 (nm 4))
  (setV 4 (ret .non))) (ret .nx))))
  (retS (nm 3))))))
noncomputable def r8:List R->Option (R×List R):=fnD 6 2 wM
noncomputable def vw:M Fl:=
 (seqS (asgS (nm 3) (tgTup 3 (tgCons (tgN 4) (tgCons (tgN 5) (tgCons (tgN 6) tgNil)))))
  (seqS (ifS (orT (tst (op2 ltI (nm 6) (ret (.int 0)))) (tst (op2 gtI (fn1 lenF (consA (nm 5) nilA)) (nm 1))))
  (retS (ret (.bl false))) (ret .nx))
  (seqS (ifS (tst (op2 (eqF true) (frz (compO 2 (itS (nm 5)) (tgTup 2 (tgCons (tgN 0) (tgCons (tgN 1) tgNil))) (orT (tst (op2 ltI (nm 0) (ret (.int 0)))) (orT (tst (op2 gtI (nm 0) (nm 1))) (tst (op2 geI (nm 1) (fn1 lenF (consA (nm 4) nilA)))))) (ret (.int 1)))) (frz (lstA nilA))))
  (retS (ret (.bl false))) (ret .nx))
  (seqS (ifS (tst (op2 (eqF true) (frz (compO 2 (fn1 zipI (consA (nm 5) (consA (sl3 slF (nm 5) (prt (ret (.int 1))) (ret none)) nilA))) (tgTup 2 (tgCons (tgN 0) (tgCons (tgN 1) tgNil))) (tst (op2 geI (op2 ixF (nm 0) (ret (.int 1))) (op2 ixF (nm 1) (ret (.int 0))))) (ret (.int 1)))) (frz (lstA nilA))))
  (retS (ret (.bl false))) (ret .nx))
  (seqS (setV 7 (frzK (fn1 (ckF ra) (consA (nm 0) nilA))))
  (seqS (setV 8 (frzK (fn1 (ckF ra) (consA (nm 5) nilA))))
  (seqS (ifS (tst (op2 (eqF true) (frz (compO 1 (itDc (nm 7)) (tgN 0) (tst (op2 (inDF true) (nm 0) (nm 9))) (ret (.int 1)))) (frz (lstA nilA))))
  (retS (ret (.bl false))) (ret .nx))
  (seqS (ifS (tst (op2 (eqF true) (nm 4) (fn1 sumF (consA (frz (compO 1 (itDc (nm 8)) (tgN 0) (tst (op2 (inDF true) (nm 0) (nm 8))) (op2 ixF (nm 3) (nm 0)))) nilA))))
  (retS (ret (.bl false))) (ret .nx))
  (retS (op2 (eqF false) (nm 4) (op2 subI (fn1 sumF (consA (frz (compO 1 (itS (fn1 (cvF r8) (consA (nm 0) (consA (nm 2) nilA)))) (tgN 0) (ret true) (fn1 minF (consA (nm 0) (consA (nm 7) nilA))))) nilA)) (op2 mulI (op2 subI (nm 1) (ret (.int 1))) (nm 6)))))))))))))
noncomputable def tU:List R->Option (R×List R):=fnD 9 4 vw
noncomputable def wC:M Fl:=
 (seqS (ifS (orT (notT (tst (un1 (isiF .tT) (nm 0)))) (orT (tst (op2 (eqF true) (fn1 lenF (consA (nm 0) nilA)) (ret (.int 3)))) (notT (tst (un1 (isiF .lT) (op2 ixF (nm 0) (ret (.int 1))))))))
  (retS (ret (.bl false))) (ret .nx))
  (seqS (setV 1 (frz (lstA (consA (op2 ixF (nm 0) (ret (.int 0))) (consA (op2 ixF (nm 0) (ret (.int 2))) nilA)))))
  (seqS (forS (itS (op2 ixF (nm 0) (ret (.int 1)))) (tgN 2)
  (seqS (ifS (orT (notT (tst (un1 (isiF .tT) (nm 2)))) (tst (op2 (eqF true) (fn1 lenF (consA (nm 2) nilA)) (ret (.int 2)))))
  (retS (ret (.bl false))) (ret .nx))
  (setV 1 (frz (op2 catF (nm 1) (frz (fn1 lstF (consA (nm 2) nilA))))))))
  (retS (op2 (eqF false) (frz (compO 1 (itS (nm 1)) (tgN 0) (orT (notT (tst (un1 (isiF .iT) (nm 0)))) (tst (un1 (isiF .bT) (nm 0)))) (ret (.int 1)))) (frz (lstA nilA)))))))
noncomputable def uK:List R->Option (R×List R):=fnD 3 1 wC
noncomputable def wx:M Fl:=
 (seqS (setO 1 (fn1 (coF sx) (consA (nm 0) nilA)))
  (seqS (forS (fn1 rngI1 (consA (ret (.int 4)) nilA)) (tgN 2)
  (seqS (setV 3 (op2 ixF (frz (lstA (consA (op2 addF (ret (.int 1)) (cbV 1 pS (consA (ret (.int 3)) nilA))) (consA (op2 addF (ret (.int 1)) (cbV 1 pS (consA (ret (.int 14)) nilA))) (consA (ret (.int 100)) nilA))))) (cbV 1 pS (consA (ret (.int 3)) nilA))))
  (seqS (setV 4 (frz (cbO 1 um nilA)))
  (seqS (setV 5 (cbV 1 uN (consA (fn1 lenF (consA (nm 4) nilA)) nilA)))
  (seqS (setV 6 (frz (fn1 sortF (consA (fn1 (cvF r8) (consA (nm 5) (consA (nm 4) nilA))) nilA))))
  (seqS (setV 7 (fn1 sumF (consA (sl3 slF (nm 6) (ret none) (prt (fn1 maxF (consA (ret (.int 0)) (consA (op2 addF (op2 subI (fn1 lenF (consA (nm 6) nilA)) (nm 3)) (ret (.int 1))) nilA))))) nilA)))
  (seqS (setV 8 (tupA (consA (frz (fn1 lstF (consA (nm 5) nilA))) (consA (frz (fn1 lstF (consA (nm 4) nilA))) nilA))))
  (forS (fn1 rngI1 (consA (ret (.int 2)) nilA)) (tgN 9)
  (tellS rZ 10 (consA (op2 ixF (nm 8) (ret (.int 0))) (consA (nm 3) (consA (op2 ixF (nm 8) (ret (.int 1))) nilA)))
  (tstP 10 (orT (tst (op2 (eqF true) (nm 8) (tupA (consA (nm 5) (consA (nm 4) nilA))))) (orT (notT (tst (fn1 (cvF uK) (consA (nm 10) nilA)))) (notT (tst (fn1 (cvF (r9 8)) (consA (op2 ixF (nm 10) (ret (.int 0))) (consA (nm 7) nilA)))))))
  (tstP 10 (orT (notT (tst (fn1 (cvF tU) (consA (nm 5) (consA (nm 3) (consA (nm 4) (consA (nm 10) nilA))))))) (tst (op2 gtI (op2 ixF (nm 10) (ret (.int 2))) (fn1 sumF (consA (nm 4) nilA)))))
  (clrP 10 1 (ifS (tst (op2 (eqF true) (nm 8) (tupA (consA (nm 5) (consA (nm 4) nilA)))))
  (retS (ret (.bl false))) (ret .nx))))))))))))))
  (retS (ret (.bl true)))))
noncomputable def qY:List R->Option (R×List R):=fnD 11 1 wx
theorem nk{N:List Str}(h:decide N.Nodup=true:=by kernel_rfl):N.Nodup:=of_decide_eq_true h
theorem en(i:Nat){B:BB}{x:Str}(hN:X.N[i]?=some x:=by rfl)(hv:visB X.env.scope x=true:=by rfl)(hd:(x == ("__debug__":Str))=false:=by decide)(aW:(x == ("__classdict__":Str))=false:=by decide):ED X B (.Name x pos) (nm i):=zq (pv i hN hv hd aW)
noncomputable def top(i:Nat):L9:=PySem.Challenge.pw_roofpost_k63_few_stretches_told.main.body.getD i (.Pass ⟨0,0,0,0⟩)
noncomputable abbrev wG:L9:=top 1
noncomputable abbrev wJ:L9:=top 2
noncomputable abbrev wn:L9:=top 3
noncomputable abbrev vv:L9:=top 4
noncomputable abbrev ww:L9:=top 6
noncomputable abbrev v6:L9:=top 7
noncomputable abbrev vz:L9:=top 8
noncomputable abbrev uQ:L9:=top 9
noncomputable abbrev vW:L9:=top 10
noncomputable abbrev vS:L9:=top 11
noncomputable abbrev vo:L9:=top 12
noncomputable abbrev vj:L9:=top 13
noncomputable abbrev vn:L9:=top 14
noncomputable abbrev vC:L9:=top 15
noncomputable abbrev vb:L9:=top 16
structure Cd(P:z_)(w:I_)(K:PySem.W.Frag)(mg:Str->Option b_)(base:KM)(k:Nat)(f:h_)(fd:NW)(ps:List Str)(g:List R->Option (R×List R))(x:Str):Prop where
 G:FnOk P w K mg base CX0 k f fd ps (spD K g)
 b:Binds K fd ps []
 p:Oa K (.ref f)=true
 m:mg x=some (.ref f)
abbrev GU(P w K mg base f fd):=Cd P w K mg base 7 f fd ["stretches", "many", "counts"] rZ "few_of"
abbrev Eg(P w K mg base f fd):=Cd P w K mg base 2 f fd ["stretches"] rL "numbers_of"
abbrev Es(P w K mg base f fd):=Cd P w K mg base 2 f fd ["numbers"] rR "gaps_of"
abbrev Dm(P w K mg base f fd):=Cd P w K mg base 2 f fd ["gap", "counts"] qD "weight_of"
abbrev DD(P w K mg base f fd):=Cd P w K mg base 2 f fd ["cell", "at"] sC "_law_blend"
abbrev E9(P w K mg base f fd):=Cd P w K mg base 2 f fd ["script"] sx "_law_pot"
abbrev wY(P w K mg base f fd):=Cd P w K mg base 3 f fd ["pot", "upto"] pS "_law_pick"
abbrev Cj(P w K mg base f fd):=Cd P w K mg base 11 f fd ["found", "due"] (r9 8) "_law_same"
abbrev Hu(P w K mg base f fd):=Cd P w K mg base 4 f fd ["pot", "size"] uN "_law_stretches"
abbrev Cu(P w K mg base f fd):=Cd P w K mg base 4 f fd ["pot"] um "_law_counts"
abbrev w8(P w K mg base f fd):=Cd P w K mg base 2 f fd ["stretches"] ra "_law_had"
abbrev yU(P w K mg base f fd):=Cd P w K mg base 3 f fd ["stretches", "counts"] r8 "_law_gaps"
abbrev Hd(P w K mg base f fd):=Cd P w K mg base 4 f fd ["stretches", "many", "counts", "thing"] tU "_law_is_few"
abbrev F6(P w K mg base f fd):=Cd P w K mg base 2 f fd ["found"] uK "_law_made"
section
variable{P:z_}{w:I_}{K:PySem.W.Frag}
theorem HY:FnScope ["stretches", "many", "counts", "numbers", "gaps", "out", "weights", "lows", "highs"] ["stretches", "many", "counts"] (defScope wG):=⟨rfl,rfl,rfl,by decide +kernel,rfl,by decide +kernel,by decide +kernel⟩
theorem CI{c:h_}(F:Fun K "few_of" "few_of" wG f fd)(iK:nsIn K Lj "few_of"=some (some (.ref f)))(ft:Nt K "few_of"=some (c,P')){hY' gu'}(iL:Eg P w K mg base hY' gu'){l0' kg'}(iM:Es P w K mg base l0' kg'){iw' hZ'}(eD:Dm P w K mg base iw' hZ')(aN:mg "sorted"=none)(bS:mg "max"=none)(az:mg "list"=none)(ba:mg "zip"=none)(bj:mg "sum"=none):FnOk P w K mg base CX0 7 f fd ["stretches", "many", "counts"] (spD K rZ):=
 Gp (k:=6) (N:=["stretches", "many", "counts", "numbers", "gaps", "out", "weights", "lows", "highs"]) F HY iK ft wk (λaD aW A outer s H E B hr=>pX
  (pp (pE (i:=3) nk (pC (wW iL.G (hr.mono (by decide)) rfl iL.m iL.p iL.b (gV (en 0) oU rfl))))
  (pp (pE (i:=4) nk (pC (Ci (kb:=3) (hr.mono (by decide)) rfl aN (Ft (jc:=2) (g:= "gap") (y:= "counts") rfl rfl (λA s H f cv hr=>(qG eD.G (hr.mono (by decide)) rfl eD.m eD.p eD.b (gV (en 0) (gV (en 1) oU rfl) rfl)))) ft aW rfl rfl rfl (pC (wW iM.G (hr.mono (by decide)) rfl iM.m iM.p iM.b (gV (en 3) oU rfl))))))
  (pp (pE (i:=5) nk (pC (ya hr rfl aN (gV (qA (en 4) qR (qq (qK (en 1) i'))) oU rfl))))
  (pp (pz (BD (i:=6) (N':=["gap", "-stretches", "-many", "counts", "-numbers", "-gaps", "-out", "-weights", "-lows", "-highs"]) (m:=1) (CompScope.of (by kernel_rfl)) rfl nk (qE (qA (en 4) (qq (qK (en 1) i')) qR)) (λ_ _ _ _=>(gd_n (i:=0) (m:=1) nk)) (λ_ _ _ _=>sd) (λ_ _ _ _=>(qG eD.G (hr.mono (by decide)) rfl eD.m eD.p eD.b (gV (en 0) (gV (en 3) oU rfl) rfl)))))
  (pp (pE (i:=7) nk (pC (ve (qA (en 3) qR (qq i')) (pC (qx (N':=["gap", "-stretches", "-many", "-counts", "-numbers", "-gaps", "-out", "-weights", "-lows", "-highs"]) (m:=1) (CompScope.of (by kernel_rfl)) rfl (qE (en 5)) (λ_ _ _ _=>(gd_n (i:=0) (m:=1) nk)) (λ_ _ _ _=>sd) (λ_ _ _ _=>(pH (pJ (en 0) i') i')))))))
  (pp (pE (i:=8) nk (pC (ve (pC (qx (N':=["gap", "-stretches", "-many", "-counts", "-numbers", "-gaps", "-out", "-weights", "-lows", "-highs"]) (m:=1) (CompScope.of (by kernel_rfl)) rfl (qE (en 5)) (λ_ _ _ _=>(gd_n (i:=0) (m:=1) nk)) (λ_ _ _ _=>sd) (λ_ _ _ _=>(qK (pJ (en 0) i') i')))) (qA (en 3) (qq (vF i')) qR))))
  (pt (pz (Hg (Ay (rW rfl rfl bj (gV (en 6) oU rfl)) (HX (Iy rfl rfl az rfl ba (gV (en 7) (gV (en 8) oU rfl) rfl)) (Ay (Fq rfl rfl bS (en 6) i') Gz)))))))))))))
theorem BL:FnScope ["stretches", "numbers", "stretch"] ["stretches"] (defScope wJ):=⟨rfl,rfl,rfl,by decide +kernel,rfl,by decide +kernel,by decide +kernel⟩
theorem GI(F:Fun K "numbers_of" "numbers_of" wJ f fd)(az:mg "list"=none)(aB:mg "range"=none)(aN:mg "sorted"=none)(fh:mg "set"=none):FnOk P w K mg base CX0 2 f fd ["stretches"] (spD K rL):=
 qe (k:=1) (N:=["stretches", "numbers", "stretch"]) F BL wV (λaD A outer s H E B hr=>pX
  (pp (pz (sB (i:=1) nk (pW oU)))
  (pp (qF RL rfl (qE (en 0)) (gd_n (i:=2) (m:=100) nk)
  (pt (pz (Gk (pv 1) (pC (A9 rfl rfl az rfl aB (gV (pJ (en 2) i') (gV (pH (pJ (en 2) i') i') oU rfl) rfl)))))))
  (pt (pz (ug (Ei hr rfl aN rfl fh (gV (en 1) oU rfl))))))))
theorem Hh:FnScope ["numbers"] ["numbers"] (defScope wn):=⟨rfl,rfl,rfl,by decide +kernel,rfl,by decide +kernel,by decide +kernel⟩
theorem EJ(F:Fun K "gaps_of" "gaps_of" wn f fd)(ba:mg "zip"=none):FnOk P w K mg base CX0 2 f fd ["numbers"] (spD K rR):=
 qe (k:=1) (N:=["numbers"]) F Hh uU (λaD A outer s H E B hr=>pX
  (pt (pz (ug (qx (N':=["one", "other", "-numbers"]) (m:=2) (CompScope.of (by kernel_rfl)) rfl (vx rfl ba (gV (en 0) (gV (qA (en 0) (qq i') qR) oU rfl) rfl)) (λ_ _ _ _=>(rA (m:=2) rfl (pZ (gd_n (i:=0) (m:=2) nk) (pZ (gd_n (i:=1) (m:=2) nk) rq)))) (λ_ _ _ _=>(rN (so (pH (en 0) i') (en 1)))) (λ_ _ _ _=>(rC (gV (pH (en 0) i') (gV (qK (en 1) i') oU rfl) rfl))))))))
theorem A8:FnScope ["gap", "counts"] ["gap", "counts"] (defScope vv):=⟨rfl,rfl,rfl,by decide +kernel,rfl,by decide +kernel,by decide +kernel⟩
theorem Bt(F:Fun K "weight_of" "weight_of" vv f fd)(bj:mg "sum"=none):FnOk P w K mg base CX0 2 f fd ["gap", "counts"] (spD K qD):=
 qe (k:=1) (N:=["gap", "counts"]) F A8 wH (λaD A outer s H E B hr=>pX
  (pt (pz (pN (rW rfl rfl bj (gV (qA (en 1) (qq (pJ (en 0) i')) (qq (pH (pJ (en 0) i') i'))) oU rfl))))))
theorem Fj:FnScope ["cell", "at", "one", "two", "three"] ["cell", "at"] (defScope ww):=⟨rfl,rfl,rfl,by decide +kernel,rfl,by decide +kernel,by decide +kernel⟩
theorem HW(F:Fun K "_law_blend" "_law_blend" ww f fd) :FnOk P w K mg base CX0 2 f fd ["cell", "at"] (spD K sC):=
 qe (k:=1) (N:=["cell", "at", "one", "two", "three"]) F Fj wu (λaD A outer s H E B hr=>pX
  (pp (pR (wE (en 0) (wP i' i'))
  (pt (pz (pN (en 0)))) pU)
  (pp (pE (i:=2) nk (qC (pH (pH (qk (qC (en 0) i') i') (qk (en 1) i')) i') i'))
  (pp (pE (i:=3) nk (qC (pH (pH (qk (en 2) (en 2)) (qk (en 1) i')) (qC (en 0) i')) i'))
  (pp (pE (i:=4) nk (qC (pH (pH (qk (en 3) (en 3)) (qk (en 2) i')) i') i'))
  (pt (pz (pN (pH (qk (pH (qk (en 2) i') (en 3)) i') (en 4))))))))))
theorem IH:FnScope ["script", "cells", "k", "cell"] ["script"] (defScope v6):=⟨rfl,rfl,rfl,by decide +kernel,rfl,by decide +kernel,by decide +kernel⟩
theorem CF(F:Fun K "_law_pot" "_law_pot" v6 f fd)(az:mg "list"=none)(bU:mg "enumerate"=none):FnOk P w K mg base CX0 2 f fd ["script"] (spD K sx):=
 qe (k:=1) (N:=["script", "cells", "k", "cell"]) F IH u8 (λaD A outer s H E B hr=>pX
  (pp (pz (sB (i:=1) nk (tw rfl az (gV (qA (en 0) qR (qq i')) oU rfl))))
  (pp (qF RL rfl (Ed rfl bU (gV (qA (en 0) (qq i') (qq i')) oU rfl)) (rA (m:=100) rfl (pZ (gd_n (i:=2) (m:=100) nk) (pZ (gd_n (i:=3) (m:=100) nk) rq)))
  (pt (pz (uA (pv 1) (qC (en 2) i') (pH (qw (pv 1) (qC (en 2) i')) (en 3))))))
  (pt (pz (ug (pW (gV (en 1) (gV i' (gV i' oU rfl) rfl) rfl))))))))
theorem Fd:FnScope ["pot", "upto", "at", "cell", "found"] ["pot", "upto"] (defScope vz):=⟨rfl,rfl,rfl,by decide +kernel,rfl,by decide +kernel,by decide +kernel⟩
theorem G4(F:Fun K "_law_pick" "_law_pick" vz f fd){ix' h0'}(iN:DD P w K mg base ix' h0')(aF:mg "len"=none):FnOk P w K mg base CX0 3 f fd ["pot", "upto"] (spD K pS):=
 qe (k:=2) (N:=["pot", "upto", "at", "cell", "found"]) F Fd uZ (λaD A outer s H E B hr=>pX
  (pp (pR (so (qw (pv 0) i') (en 1))
  (pp (pE (i:=2) nk (qw (pv 0) i'))
  (pp (pE (i:=3) nk (qk i' (en 2)))
  (pp (pR (so (en 2) (qB rfl aF (gV (qw (pv 0) i') oU rfl)))
  (pt (pE (i:=3) nk (pJ (qw (pv 0) i') (en 2)))) (pt (pR (qm hr (qw (pv 0) i') (pC (pW oU)))
  (pt (pE (i:=3) nk (qC (pJ (qw (pv 0) i') (qC (pH (qk (en 2) i') i') (qB rfl aF (gV (qw (pv 0) i') oU rfl)))) (pH (wP i' i') (qk i' (en 2)))))) pU)))
  (pp (pz (uA (pv 0) i' (pH (en 2) i')))
  (pt (pz (uA (pv 0) i' (qG iN.G (hr.mono (by decide)) rfl iN.m iN.p iN.b (gV (en 3) (gV (en 2) oU rfl) rfl))))))))) pU)
  (pp (pE (i:=4) nk (qC (qw (pv 0) i') (en 1)))
  (pp (pz (uA (pv 0) i' (BN (qw (pv 0) i') (en 1))))
  (pt (pz (pN (en 4))))))))
theorem BS:FnScope ["found", "due"] ["found", "due"] (defScope uQ):=⟨rfl,rfl,rfl,by decide +kernel,rfl,by decide +kernel,by decide +kernel⟩
theorem E'{g:List R->Option (R×List R)}(hk:2<=kk)(F:Fun K "_law_same" "_law_same" uQ f fd)(G:FnOk P w K mg base CX0 kk f fd ["found", "due"] (spD K g))(am:mg "isinstance"=none)(a7:mg "bool"=none)(cK:mg "str"=none)(bG:mg "int"=none)(az:mg "list"=none)(aU:mg "tuple"=none)(aF:mg "len"=none)(ba:mg "zip"=none)(iO:Binds K fd ["found", "due"] [])(iP:Oa K (.ref f)=true)(iQ:mg "_law_same"=some (.ref f)):FnOk P w K mg base CX0 (kk+1) f fd ["found", "due"] (spD K (fnD 2 2 (wz g))):=
 qe (N:=["found", "due"]) F BS (wz g) (λaD A outer s H E B hr=>pX
  (pp (pR (TW.td (qf (wj (en 1) qH) (qy (wj (en 0) qH))))
  (pt (pz (pN (uR (zz (en 1) qH) (u9 (zz (en 0) qH)))))) pU)
  (pp (pR (TW.td (qf (qo (sy rfl am rfl a7 (en 1))) (qy (qo (sy rfl am rfl a7 (en 0))))))
  (pt (pz (pN (uR (sy rfl am rfl a7 (en 1)) (uR (sy rfl am rfl a7 (en 0)) (u9 (sm hr (en 0) (en 1)))))))) pU)
  (pp (pR (TW.td (qf (qo (uE rfl am rfl bG (en 1))) (qy (qo (Gy rfl am rfl cK (en 1))))))
  (pt (pz (pN (uR (sm hr (uE rfl am rfl bG (en 0)) (uE rfl am rfl bG (en 1))) (u9 (sm hr (en 0) (en 1))))))) pU)
  (pp (pR (TW.td (qf (qm hr (uF rfl am rfl aU (en 1)) (uF rfl am rfl aU (en 0))) (qy (qm hr (vL rfl am rfl az (en 1)) (vL rfl am rfl az (en 0))))))
  (pt (pz (pN qh))) pU)
  (pp (pR (qm hr (qB rfl aF (gV (en 0) oU rfl)) (qB rfl aF (gV (en 1) oU rfl)))
  (pt (pz (pN qh))) pU)
  (pt (pz (pN (Ir hr qh (pC (qx (N':=["one", "other", "-found", "-due"]) (m:=2) (CompScope.of (by kernel_rfl)) rfl (vx rfl ba (gV (en 0) (gV (en 1) oU rfl) rfl)) (λ_ _ _ _=>(rA (m:=2) rfl (pZ (gd_n (i:=0) (m:=2) nk) (pZ (gd_n (i:=1) (m:=2) nk) rq)))) (λ_ _ _ _=>sd) (λ_ _ _ _=>(qG G hr rfl iQ iP iO (gV (en 0) (gV (en 1) oU rfl) rfl)))))))))))))))
theorem yo{f:h_}{fd:NW}(F:Fun K "_law_same" "_law_same" uQ f fd)(am:mg "isinstance"=none)(a7:mg "bool"=none)(cK:mg "str"=none)(bG:mg "int"=none)(az:mg "list"=none)(aU:mg "tuple"=none)(aF:mg "len"=none)(ba:mg "zip"=none)(iO:Binds K fd ["found", "due"] [])(iP:Oa K (.ref f)=true)(iQ:mg "_law_same"=some (.ref f)):∀n:Nat,FnOk P w K mg base CX0 (3+n) f fd ["found", "due"] (spD K (r9 n))
 | 0=>GR
 | n+1=>E' (LL (by decide) (K6 _ n)) F (yo F am a7 cK bG az aU aF ba iO iP iQ n) am a7 cK bG az aU aF ba iO iP iQ
theorem HZ:FnScope ["pot", "size", "found", "k", "low", "high"] ["pot", "size"] (defScope vW):=⟨rfl,rfl,rfl,by decide +kernel,rfl,by decide +kernel,by decide +kernel⟩
theorem FA(F:Fun K "_law_stretches" "_law_stretches" vW f fd){bP' bs'}(ay:wY P w K mg base bP' bs')(aB:mg "range"=none)(bJ:mg "min"=none):FnOk P w K mg base CX0 4 f fd ["pot", "size"] (spD K uN):=
 qe (k:=3) (N:=["pot", "size", "found", "k", "low", "high"]) F HZ vZ (λaD A outer s H E B hr=>pX
  (pp (pz (sB (i:=2) nk (pW oU)))
  (pp (qF RL rfl (tm rfl aB (gV (pH i' (pV ay.G (hr.mono (by decide)) rfl ay.m ay.p ay.b (pv 0) (gV i' oU rfl))) oU rfl)) (gd_n (i:=3) (m:=100) nk)
  (pp (pE (i:=4) nk (pV ay.G (hr.mono (by decide)) rfl ay.m ay.p ay.b (pv 0) (gV (en 1) oU rfl)))
  (pp (pR (TW.td (BJ (DN hr (pv 2) (pC (pW oU))) (Ic (FY hr (pV ay.G (hr.mono (by decide)) rfl ay.m ay.p ay.b (pv 0) (gV i' oU rfl)) i'))))
  (pt (pE (i:=4) nk (wU rfl rfl bJ (gV (qK (en 1) i') (gV (pH (pH (pJ (qw (pv 2) (vF i')) i') i') (pV ay.G (hr.mono (by decide)) rfl ay.m ay.p ay.b (pv 0) (gV i' oU rfl))) oU rfl) rfl)))) pU)
  (pp (pE (i:=5) nk (wU rfl rfl bJ (gV (qK (en 1) i') (gV (pH (en 4) (pJ (pC (pW (uV i' i' i' i' (gV (pV ay.G (hr.mono (by decide)) rfl ay.m ay.p ay.b (pv 0) (gV (en 1) oU rfl)) oU rfl) rfl rfl rfl rfl))) (pV ay.G (hr.mono (by decide)) rfl ay.m ay.p ay.b (pv 0) (gV i' oU rfl)))) oU rfl) rfl)))
  (pt (pz (xf (pv 2) (rC (gV (en 4) (gV (en 5) oU rfl) rfl)))))))))
  (pt (pz (pN (en 2)))))))
theorem Gn:FnScope ["pot", "size", "top"] ["pot"] (defScope vS):=⟨rfl,rfl,rfl,by decide +kernel,rfl,by decide +kernel,by decide +kernel⟩
theorem Go(F:Fun K "_law_counts" "_law_counts" vS f fd){bP' bs'}(ay:wY P w K mg base bP' bs')(aB:mg "range"=none):FnOk P w K mg base CX0 4 f fd ["pot"] (spD K um):=
 qe (k:=3) (N:=["pot", "size", "top"]) F Gn vP (λaD A outer s H E B hr=>pX
  (pp (pE (i:=1) nk (pJ (pC (pW (uV (pH i' (pV ay.G (hr.mono (by decide)) rfl ay.m ay.p ay.b (pv 0) (gV i' oU rfl))) i' (pH i' (pV ay.G (hr.mono (by decide)) rfl ay.m ay.p ay.b (pv 0) (gV i' oU rfl))) i' oU rfl rfl rfl rfl))) (pV ay.G (hr.mono (by decide)) rfl ay.m ay.p ay.b (pv 0) (gV i' oU rfl))))
  (pp (pE (i:=2) nk (pJ (by with_reducible exact(pC (pW (KX.ad (.int (.int (.int (.pow .nil)))))))) (pV ay.G (hr.mono (by decide)) rfl ay.m ay.p ay.b (pv 0) (gV i' oU rfl))))
  (pt (pz (ug (qx (N':=["k", "pot", "-size", "top"]) (m:=1) (CompScope.of (by kernel_rfl)) rfl (tm rfl aB (gV (en 1) oU rfl)) (λ_ _ _ _=>(gd_n (i:=0) (m:=1) nk)) (λ_ _ _ _=>sd) (λ_ _ _ _=>(qk (pV ay.G (hr.mono (by decide)) rfl ay.m ay.p ay.b (pv 1) (gV i' oU rfl)) (pV ay.G (hr.mono (by decide)) rfl ay.m ay.p ay.b (pv 1) (gV (en 3) oU rfl)))))))))))
theorem IC:FnScope ["stretches", "found", "low", "high", "number"] ["stretches"] (defScope vo):=⟨rfl,rfl,rfl,by decide +kernel,rfl,by decide +kernel,by decide +kernel⟩
theorem CJ(F:Fun K "_law_had" "_law_had" vo f fd)(aB:mg "range"=none):FnOk P w K mg base CX0 2 f fd ["stretches"] (spD K ra):=
 qe (k:=1) (N:=["stretches", "found", "low", "high", "number"]) F IC vU (λaD A outer s H E B hr=>pX
  (pp (pz (Hn (i:=1) nk EZ))
  (pp (qF RL rfl (qE (en 0)) (rA (m:=100) rfl (pZ (gd_n (i:=2) (m:=100) nk) (pZ (gd_n (i:=3) (m:=100) nk) rq)))
  (pt (qF RL rfl (xx rfl aB (gV (en 2) (gV (pH (en 3) i') oU rfl) rfl)) (gd_n (i:=4) (m:=100) nk)
  (pt (pz (Gw hr (pv 1) (en 4) qh))))))
  (pt (pz (FB (pv 1)))))))
theorem Bn:FnScope ["stretches", "counts", "had", "found", "weight", "number"] ["stretches", "counts"] (defScope vj):=⟨rfl,rfl,rfl,by decide +kernel,rfl,by decide +kernel,by decide +kernel⟩
theorem Hs(F:Fun K "_law_gaps" "_law_gaps" vj f fd){d1' dJ'}(cL:w8 P w K mg base d1' dJ')(bJ:mg "min"=none)(bS:mg "max"=none)(aB:mg "range"=none):FnOk P w K mg base CX0 3 f fd ["stretches", "counts"] (spD K r8):=
 qe (k:=2) (N:=["stretches", "counts", "had", "found", "weight", "number"]) F Bn wM (λaD A outer s H E B hr=>pX
  (pp (pE (i:=2) nk (wA (vI cL.G (hr.mono (by decide)) rfl cL.m cL.p cL.b (gV (en 0) oU rfl))))
  (pp (pz (sB (i:=3) nk (pW oU)))
  (pp (pE (i:=4) nk qH)
  (pp (qF RL rfl (xx rfl aB (gV (Ea rfl rfl bJ (gV (en 2) oU rfl)) (gV (pH (BO rfl rfl bS (gV (en 2) oU rfl)) i') oU rfl) rfl)) (gd_n (i:=5) (m:=100) nk)
  (pt (pR (wN (tz hr) (en 5) (en 2))
  (pt (pE (i:=4) nk (Fg (wj (en 4) qH) (pJ (en 1) (en 5)) (pH (en 4) (pJ (en 1) (en 5)))))) (pt (pR (Dt (en 4) qH)
  (pp (pz (xf (pv 3) (en 4)))
  (pt (pE (i:=4) nk qH))) pU)))))
  (pt (pz (pN (en 3)))))))))
theorem Hv:FnScope ["stretches", "many", "counts", "thing", "needless", "some", "mark", "had", "there"] ["stretches", "many", "counts", "thing"] (defScope vn):=⟨rfl,rfl,rfl,by decide +kernel,rfl,by decide +kernel,by decide +kernel⟩
theorem Gr(F:Fun K "_law_is_few" "_law_is_few" vn f fd){d1' dJ'}(cL:w8 P w K mg base d1' dJ'){dK' cS'}(dW:yU P w K mg base dK' cS')(aF:mg "len"=none)(ba:mg "zip"=none)(bj:mg "sum"=none)(bJ:mg "min"=none):FnOk P w K mg base CX0 4 f fd ["stretches", "many", "counts", "thing"] (spD K tU):=
 qe (k:=3) (N:=["stretches", "many", "counts", "thing", "needless", "some", "mark", "had", "there"]) F Hv vw (λaD A outer s H E B hr=>pX
  (pp (pz (DT (en 3) (rA (m:=100) rfl (pZ (gd_n (i:=4) (m:=100) nk) (pZ (gd_n (i:=5) (m:=100) nk) (pZ (gd_n (i:=6) (m:=100) nk) rq))))))
  (pp (pR (TW.td (qf (so (en 6) i') (qy (wD (qB rfl aF (gV (en 5) oU rfl)) (en 1)))))
  (pt (pz (pN qh))) pU)
  (pp (pR (qm hr (pC (qx (N':=["low", "high", "-stretches", "-many", "counts", "-thing", "-needless", "-some", "-mark", "-had", "-there"]) (m:=2) (CompScope.of (by kernel_rfl)) rfl (qE (en 5)) (λ_ _ _ _=>(rA (m:=2) rfl (pZ (gd_n (i:=0) (m:=2) nk) (pZ (gd_n (i:=1) (m:=2) nk) rq)))) (λ_ _ _ _=>(rN (TW.td (qf (so (en 0) i') (qf (wD (en 0) (en 1)) (qy (wE (en 1) (qB rfl aF (gV (en 4) oU rfl))))))))) (λ_ _ _ _=>i'))) (pC (pW oU)))
  (pt (pz (pN qh))) pU)
  (pp (pR (qm hr (pC (qx (N':=["one", "other", "-stretches", "-many", "-counts", "-thing", "-needless", "-some", "-mark", "-had", "-there"]) (m:=2) (CompScope.of (by kernel_rfl)) rfl (vx rfl ba (gV (en 5) (gV (qA (en 5) (qq i') qR) oU rfl) rfl)) (λ_ _ _ _=>(rA (m:=2) rfl (pZ (gd_n (i:=0) (m:=2) nk) (pZ (gd_n (i:=1) (m:=2) nk) rq)))) (λ_ _ _ _=>(rN (wE (pJ (en 0) i') (pJ (en 1) i')))) (λ_ _ _ _=>i'))) (pC (pW oU)))
  (pt (pz (pN qh))) pU)
  (pp (pE (i:=7) nk (wA (vI cL.G (hr.mono (by decide)) rfl cL.m cL.p cL.b (gV (en 0) oU rfl))))
  (pp (pE (i:=8) nk (wA (vI cL.G (hr.mono (by decide)) rfl cL.m cL.p cL.b (gV (en 5) oU rfl))))
  (pp (pR (qm hr (pC (qx (N':=["number", "-stretches", "-many", "-counts", "-thing", "-needless", "-some", "-mark", "-had", "there"]) (m:=1) (CompScope.of (by kernel_rfl)) rfl (zy (en 7)) (λ_ _ _ _=>(gd_n (i:=0) (m:=1) nk)) (λ_ _ _ _=>(rN (wN (tz hr) (en 0) (en 9)))) (λ_ _ _ _=>i'))) (pC (pW oU)))
  (pt (pz (pN qh))) pU)
  (pp (pR (qm hr (en 4) (rW rfl rfl bj (gV (pC (qx (N':=["number", "-stretches", "-many", "counts", "-thing", "-needless", "-some", "-mark", "had", "-there"]) (m:=1) (CompScope.of (by kernel_rfl)) rfl (zy (en 8)) (λ_ _ _ _=>(gd_n (i:=0) (m:=1) nk)) (λ_ _ _ _=>(rN (wN (tz hr) (en 0) (en 8)))) (λ_ _ _ _=>(pJ (en 3) (en 0))))) oU rfl)))
  (pt (pz (pN qh))) pU)
  (pt (pz (pN (sm hr (en 4) (qK (rW rfl rfl bj (gV (pC (qx (N':=["weight", "-stretches", "-many", "-counts", "-thing", "-needless", "-some", "mark", "-had", "-there"]) (m:=1) (CompScope.of (by kernel_rfl)) rfl (qE (qG dW.G (hr.mono (by decide)) rfl dW.m dW.p dW.b (gV (en 0) (gV (en 2) oU rfl) rfl))) (λ_ _ _ _=>(gd_n (i:=0) (m:=1) nk)) (λ_ _ _ _=>sd) (λ_ _ _ _=>(wU rfl rfl bJ (gV (en 0) (gV (en 7) oU rfl) rfl))))) oU rfl)) (qk (qK (en 1) i') (en 6))))))))))))))))
theorem Fs:FnScope ["found", "numbers", "one"] ["found"] (defScope vC):=⟨rfl,rfl,rfl,by decide +kernel,rfl,by decide +kernel,by decide +kernel⟩
theorem Ij(F:Fun K "_law_made" "_law_made" vC f fd)(am:mg "isinstance"=none)(az:mg "list"=none)(aF:mg "len"=none)(aU:mg "tuple"=none)(a7:mg "bool"=none)(bG:mg "int"=none):FnOk P w K mg base CX0 2 f fd ["found"] (spD K uK):=
 qe (k:=1) (N:=["found", "numbers", "one"]) F Fs wC (λaD A outer s H E B hr=>pX
  (pp (pR (TW.td (qf (rf (qo (uF rfl am rfl aU (en 0)))) (qf (qm hr (qB rfl aF (gV (en 0) oU rfl)) i') (qy (rf (qo (vL rfl am rfl az (pJ (en 0) i'))))))))
  (pt (pz (pN qh))) pU)
  (pp (pE (i:=1) nk (pC (pW (gV (pJ (en 0) i') (gV (pJ (en 0) i') oU rfl) rfl))))
  (pp (qF RL rfl (qE (pJ (en 0) i')) (gd_n (i:=2) (m:=100) nk)
  (pp (pR (TW.td (qf (rf (qo (uF rfl am rfl aU (en 2)))) (qy (qm hr (qB rfl aF (gV (en 2) oU rfl)) i'))))
  (pt (pz (pN qh))) pU)
  (pt (pE (i:=1) nk (pC (ve (en 1) (pC (tw rfl az (gV (en 2) oU rfl)))))))))
  (pt (pz (pN (sm hr (pC (qx (N':=["one", "-found", "-numbers", "-one"]) (m:=1) (CompScope.of (by kernel_rfl)) rfl (qE (en 1)) (λ_ _ _ _=>(gd_n (i:=0) (m:=1) nk)) (λ_ _ _ _=>(rN (TW.td (qf (rf (qo (uE rfl am rfl bG (en 0)))) (qy (qo (sy rfl am rfl a7 (en 0)))))))) (λ_ _ _ _=>i'))) (pC (pW oU))))))))))
theorem Et:FnScope ["script", "pot", "turn", "let", "counts", "some", "gaps", "needless", "handed", "time", "found"] ["script"] (defScope vb):=⟨rfl,rfl,rfl,by decide +kernel,rfl,by decide +kernel,by decide +kernel⟩
theorem B7(F:Fun K "law" "law" vb f fd){l1' kh'}(iR:E9 P w K mg base l1' kh'){bP' bs'}(ay:wY P w K mg base bP' bs'){h1' gv'}(iS:Cu P w K mg base h1' gv'){fi' eM'}(iU:Hu P w K mg base fi' eM'){dK' cS'}(dW:yU P w K mg base dK' cS'){nf' l2'}(iV:GU P w K mg base nf' l2'){ki' iy'}(iW:Cj P w K mg base ki' iy'){kj' iz'}(iZ:F6 P w K mg base kj' iz'){h3' gw'}(i5:Hd P w K mg base h3' gw')(aB:mg "range"=none)(aF:mg "len"=none)(aN:mg "sorted"=none)(bS:mg "max"=none)(bj:mg "sum"=none)(az:mg "list"=none):FnOk P w K mg base CX0 12 f fd ["script"] (spD K qY):=
 qe (k:=11) (N:=["script", "pot", "turn", "let", "counts", "some", "gaps", "needless", "handed", "time", "found"]) F Et wx (λaD A outer s H E B hr=>pX
  (pp (pz (sB (i:=1) nk (wW iR.G (hr.mono (by decide)) rfl iR.m iR.p iR.b (gV (en 0) oU rfl))))
  (pp (qF RL rfl (tm rfl aB (gV i' oU rfl)) (gd_n (i:=2) (m:=100) nk)
  (pp (pE (i:=3) nk (pJ (pC (pW (gV (pH i' (pV ay.G (hr.mono (by decide)) rfl ay.m ay.p ay.b (pv 1) (gV i' oU rfl))) (gV (pH i' (pV ay.G (hr.mono (by decide)) rfl ay.m ay.p ay.b (pv 1) (gV i' oU rfl))) (gV i' oU rfl) rfl) rfl))) (pV ay.G (hr.mono (by decide)) rfl ay.m ay.p ay.b (pv 1) (gV i' oU rfl))))
  (pp (pE (i:=4) nk (pC (Ey iS.G (hr.mono (by decide)) rfl iS.m iS.p iS.b (pv 1) oU)))
  (pp (pE (i:=5) nk (pV iU.G (hr.mono (by decide)) rfl iU.m iU.p iU.b (pv 1) (gV (qB rfl aF (gV (en 4) oU rfl)) oU rfl)))
  (pp (pE (i:=6) nk (pC (ya hr rfl aN (gV (qG dW.G (hr.mono (by decide)) rfl dW.m dW.p dW.b (gV (en 5) (gV (en 4) oU rfl) rfl)) oU rfl))))
  (pp (pE (i:=7) nk (rW rfl rfl bj (gV (qA (en 6) qR (qq (FN rfl rfl bS (gV i' (gV (pH (qK (qB rfl aF (gV (en 6) oU rfl)) (en 3)) i') oU rfl) rfl)))) oU rfl)))
  (pp (pE (i:=8) nk (rC (gV (pC (tw rfl az (gV (en 5) oU rfl))) (gV (pC (tw rfl az (gV (en 4) oU rfl))) oU rfl) rfl)))
  (pt (qF RL rfl (tm rfl aB (gV i' oU rfl)) (gd_n (i:=9) (m:=100) nk)
  (EM (i:=10) nk iV.G (hr.mono (by decide)) rfl iV.m iV.p iV.b (gV (pJ (en 8) i') (gV (en 3) (gV (pJ (en 8) i') oU rfl) rfl) rfl)
  (yz (TW.td (qf (qm hr (en 8) (rC (gV (en 5) (gV (en 4) oU rfl) rfl))) (qf (rf (qo (qG iZ.G (hr.mono (by decide)) rfl iZ.m iZ.p iZ.b (gV (en 10) oU rfl)))) (qy (rf (qo (qG iW.G (hr.mono (by decide)) rfl iW.m iW.p iW.b (gV (pJ (en 10) i') (gV (en 7) oU rfl) rfl))))))))
  (yz (TW.td (qf (rf (qo (qG i5.G (hr.mono (by decide)) rfl i5.m i5.p i5.b (uV (en 5) (en 3) (en 4) (en 10) oU rfl rfl rfl rfl)))) (qy (wD (pJ (en 10) i') (rW rfl rfl bj (gV (en 4) oU rfl))))))
  (Co (n:=1) (pv 10) (pt (pR (qm hr (en 8) (rC (gV (en 5) (gV (en 4) oU rfl) rfl)))
  (pt (pz (pN qh))) pU)))))))))))))))
  (pt (pz (pN qh))))))
end
structure Dn(K:PySem.W.Frag)(mg:Str->Option b_)(x:Str)(st:L9)(f:h_)(fd:NW):Prop where
 F:Fun K x x st f fd
 m:mg x=some (.ref f)
 a:nsIn K Lj x=some (some (.ref f))
theorem dn{K:PySem.W.Frag}{x:Str}{st:L9}{sl:Array (Option b_)}{kV dc:b_}(X:K.In h)(G:h.Ns Lj mg)(a:nsIn K Lj x=some (some (.ref f)))(l:K.lookup f=some ⟨oc,od,.func (QJ x x (defArgs st) (defBody st) (defScope st) .none kV dc pm an cd ct),sl⟩)(c:codeIn K cd x=true)(k:Oa K (.ref f)=true):Dn K mg x st f (QJ x x (defArgs st) (defBody st) (defScope st) .none kV dc pm an cd ct):=⟨FG l c k,PySem.W.mg_of X G a,a⟩
section
variable{P:z_}{w:I_}{K:PySem.W.Frag}{x:Str}{st:L9}{k:Nat}{g:List R->Option (R×List R)}
theorem lenOf1{α:Type}{us:List α}(h:us.length=1):∃a,us=[a]:=by
 obtain⟨a,us,rfl⟩:=Lw h;exact⟨a,by rw[LX.mp (NC h)]⟩
theorem lenOf2{α:Type}{us:List α}(h:us.length=2):∃a b,us=[a,b]:=by
 obtain⟨a,us,rfl⟩:=Lw h;obtain⟨b,rfl⟩:=lenOf1 (NC h);exact⟨a,b,rfl⟩
theorem lenOf3{α:Type}{us:List α}(h:us.length=3):∃a b c,us=[a,b,c]:=by
 obtain⟨a,us,rfl⟩:=Lw h;obtain⟨b,c,rfl⟩:=lenOf2 (NC h);exact⟨a,b,c,rfl⟩
theorem lenOf4{α:Type}{us:List α}(h:us.length=4):∃a b c d,us=[a,b,c,d]:=by
 obtain⟨a,us,rfl⟩:=Lw h;obtain⟨b,c,d,rfl⟩:=lenOf3 (NC h);exact⟨a,b,c,d,rfl⟩
theorem Dn.b1{p:Str}(D:Dn K mg x st f fd)(h:∀(kV dc pm:b_) (an:Option h_) (cd ct a:b_),MU (QJ x x (defArgs st) (defBody st) (defScope st) .none kV dc pm an cd ct) ⟨[a],[]⟩=pure [(p,a)]:=by intros;rfl):Binds K fd [p] []:=D.F.binds λ_ _ _ _ _ _ us hl=>by obtain⟨a,rfl⟩:=lenOf1 hl;exact h _ _ _ _ _ _ a
theorem Dn.c1{p:Str}(D:Dn K mg x st f fd)(G:FnOk P w K mg base CX0 k f fd [p] (spD K g))(h:∀(kV dc pm:b_) (an:Option h_) (cd ct a:b_),MU (QJ x x (defArgs st) (defBody st) (defScope st) .none kV dc pm an cd ct) ⟨[a],[]⟩=pure [(p,a)]:=by intros;rfl):Cd P w K mg base k f fd [p] g x:=⟨G,D.b1 h,D.F.kp,D.m⟩
theorem Dn.b2{p q:Str}(D:Dn K mg x st f fd)(h:∀(kV dc pm:b_) (an:Option h_) (cd ct a b:b_),MU (QJ x x (defArgs st) (defBody st) (defScope st) .none kV dc pm an cd ct) ⟨[a,b],[]⟩=pure [(p,a),(q,b)]:=by intros;rfl):Binds K fd [p,q] []:=D.F.binds λ_ _ _ _ _ _ us hl=>by obtain⟨a,b,rfl⟩:=lenOf2 hl;exact h _ _ _ _ _ _ a b
theorem Dn.c2{p q:Str}(D:Dn K mg x st f fd)(G:FnOk P w K mg base CX0 k f fd [p,q] (spD K g))(h:∀(kV dc pm:b_) (an:Option h_) (cd ct a b:b_),MU (QJ x x (defArgs st) (defBody st) (defScope st) .none kV dc pm an cd ct) ⟨[a,b],[]⟩=pure [(p,a),(q,b)]:=by intros;rfl):Cd P w K mg base k f fd [p,q] g x:=⟨G,D.b2 h,D.F.kp,D.m⟩
theorem Dn.b3{p q r:Str}(D:Dn K mg x st f fd)(h:∀(kV dc pm:b_) (an:Option h_) (cd ct a b c:b_),MU (QJ x x (defArgs st) (defBody st) (defScope st) .none kV dc pm an cd ct) ⟨[a,b,c],[]⟩=pure [(p,a),(q,b),(r,c)]:=by intros;rfl):Binds K fd [p,q,r] []:=D.F.binds λ_ _ _ _ _ _ us hl=>by obtain⟨a,b,c,rfl⟩:=lenOf3 hl;exact h _ _ _ _ _ _ a b c
theorem Dn.c3{p q r:Str}(D:Dn K mg x st f fd)(G:FnOk P w K mg base CX0 k f fd [p,q,r] (spD K g))(h:∀(kV dc pm:b_) (an:Option h_) (cd ct a b c:b_),MU (QJ x x (defArgs st) (defBody st) (defScope st) .none kV dc pm an cd ct) ⟨[a,b,c],[]⟩=pure [(p,a),(q,b),(r,c)]:=by intros;rfl):Cd P w K mg base k f fd [p,q,r] g x:=⟨G,D.b3 h,D.F.kp,D.m⟩
theorem Dn.b4{p q r s:Str}(D:Dn K mg x st f fd)(h:∀(kV dc pm:b_) (an:Option h_) (cd ct a b c d:b_),MU (QJ x x (defArgs st) (defBody st) (defScope st) .none kV dc pm an cd ct) ⟨[a,b,c,d],[]⟩=pure [(p,a),(q,b),(r,c),(s,d)]:=by intros;rfl):Binds K fd [p,q,r,s] []:=D.F.binds λ_ _ _ _ _ _ us hl=>by obtain⟨a,b,c,d,rfl⟩:=lenOf4 hl;exact h _ _ _ _ _ _ a b c d
theorem Dn.c4{p q r s:Str}(D:Dn K mg x st f fd)(G:FnOk P w K mg base CX0 k f fd [p,q,r,s] (spD K g))(h:∀(kV dc pm:b_) (an:Option h_) (cd ct a b c d:b_),MU (QJ x x (defArgs st) (defBody st) (defScope st) .none kV dc pm an cd ct) ⟨[a,b,c,d],[]⟩=pure [(p,a),(q,b),(r,c),(s,d)]:=by intros;rfl):Cd P w K mg base k f fd [p,q,r,s] g x:=⟨G,D.b4 h,D.F.kp,D.m⟩
end
theorem all_mk{P:z_}{w:I_}{K:PySem.W.Frag}(oE:mg "law"=some (.ref fa)){f0 d0}(D0:Dn K mg "few_of" wG f0 d0){f1 d1}(D1:Dn K mg "numbers_of" wJ f1 d1){f2 d2}(D2:Dn K mg "gaps_of" wn f2 d2){f3 d3}(D3:Dn K mg "weight_of" vv f3 d3){f4 d4}(D4:Dn K mg "_law_blend" ww f4 d4){f5 d5}(D5:Dn K mg "_law_pot" v6 f5 d5){f6 d6}(D6:Dn K mg "_law_pick" vz f6 d6){f7 d7}(D7:Dn K mg "_law_same" uQ f7 d7){f8 d8}(D8:Dn K mg "_law_stretches" vW f8 d8){f9 d9}(D9:Dn K mg "_law_counts" vS f9 d9){f10 d10}(mD:Dn K mg "_law_had" vo f10 d10){f11 d11}(mE:Dn K mg "_law_gaps" vj f11 d11){f12 d12}(mF:Dn K mg "_law_is_few" vn f12 d12){f13 d13}(mG:Dn K mg "_law_made" vC f13 d13){f14 d14}(kc:Dn K mg "law" vb f14 d14)(a7:mg "bool"=none)(bU:mg "enumerate"=none)(bG:mg "int"=none)(am:mg "isinstance"=none)(aF:mg "len"=none)(az:mg "list"=none)(bS:mg "max"=none)(bJ:mg "min"=none)(aB:mg "range"=none)(fh:mg "set"=none)(aN:mg "sorted"=none)(cK:mg "str"=none)(bj:mg "sum"=none)(aU:mg "tuple"=none)(ba:mg "zip"=none)(T0:(Nt K "few_of").isSome=true):
  ∃fd:NW,(∀(s:d_) (v:b_),Q9 s fd ⟨[v],[]⟩ [("script", v)])/\∀base:KM,K.In base->base.Ns Lj mg->FnOk P w K mg base CX0 12 fa fd ["script"] (spD K qY):=by
 cases oE.symm.trans kc.m;obtain⟨⟨cT,PT⟩,T0⟩:=Nc.mp T0;refine⟨d14,λs v=>?_,λbase _ _=>?_⟩
 ·obtain⟨_,_,_,_,_,_,_,_,_,rfl,_,_⟩:=kc.F.ex;exact .of_eq rfl
 have C5:=D5.c1 (CF (P:=P) (w:=w) (base:=base) D5.F az bU);have C4:=D4.c2 (HW (P:=P) (w:=w) (base:=base) D4.F );have C6:=D6.c2 (G4 D6.F C4 aF);have C9:=D9.c1 (Go D9.F C6 aB);have C8:=D8.c2 (FA D8.F C6 aB bJ);have mH:=mD.c1 (CJ (P:=P) (w:=w) (base:=base) mD.F aB);have mI:=mE.c2 (Hs mE.F mH bJ bS aB);have C1:=D1.c1 (GI (P:=P) (w:=w) (base:=base) D1.F az aB aN fh);have C2:=D2.c1 (EJ (P:=P) (w:=w) (base:=base) D2.F ba);have C3:=D3.c2 (Bt (P:=P) (w:=w) (base:=base) D3.F bj);have C0:=D0.c3 (CI D0.F D0.a T0 C1 C2 C3 aN bS az ba bj);have C7:=D7.c2 (yo (P:=P) (w:=w) (base:=base) D7.F am a7 cK bG az aU aF ba D7.b2 D7.F.kp D7.m 8);have oF:=mG.c1 (Ij (P:=P) (w:=w) (base:=base) mG.F am az aF aU a7 bG);have oG:=mF.c4 (Gr mF.F mH mI aF ba bj bJ);exact B7 kc.F C5 C6 C9 C8 mI C0 C7 oF oG aB aF aN bS bj az
theorem walk{l:PySem.W.OpenLaw}{XP:(Str->Option b_)->KM->Prop}{YP:I_->KM->Prop}{d:DefRec}{K:Params->PySem.W.Frag}(mJ:∀ns:List Int,ns.length<=63->∃rs,qY [.val (.lst (ns.map D.int))]=some (.val (.bl true),rs))(hn:l.most=some 63)(fU:d.params.defaults=[])(cu:∃d',(recsOf q).find? (λe=>e.name == ("few_of":Str))=some d')(gD:∀p,noTabs (K p)=true)(hY:∀(w:I_) (h:KM),YP w h->(K w.params).In h)(F:∀(w:I_) (mg:Str->Option b_) (fa:h_) (h:KM),(K w.params).In h->h.Ns Lj mg->mg d.name=some (.ref fa) →
   ∃fd:NW,(∀(s:d_) (u:b_),Q9 s fd ⟨[u],[]⟩ [("script", u)])/\∀base:KM,(K w.params).In base->base.Ns Lj mg->FnOk l.prog w (K w.params) mg base CX0 12 fa fd ["script"] (spD (K w.params) qY)):
  PySem.W.WalkO q cA XP YP l.row.toRowW d [] (λf vs=>PySem.call f vs):=
 A4 (n:=63) (k:=12) (x:= "script") (CX:=λ_=>CX0) (sp:=λw=>spD (K w.params) qY) hn (by decide) fU ⟨rfl,by decide,by decide,rfl⟩ cu gD hY F (λ_ H a ns hl hS=>GA hS (mJ ns hl)) λ_ _ _ _ _ z=>z
end Own
namespace Own
open DL L2
@[simp] theorem vR:∀xs:List Int,depA (xs.map D.int)=0
 | []=>rfl
 | x::xs=>by rw[KB,depA,vR xs];rfl
@[simp] theorem Jr(xs:List Int):dep (.lst (xs.map D.int))=1:=by rw[dep,vR]
def PotOk(c:List D):Prop:=∃(ns:List Int) (at_ ao:Int),c=[.lst (ns.map .int),.int at_,.int ao]/\0<=at_
theorem Gc(a b:Int):∃z,cvF sC [.int a,.int b]=some (.int z):=by
 have:wpF sC [.val (.int a),.val (.int b)] λr _=>∃z,r=.val (.int z):=by
  refine sf rfl λKE hE _=>?_
  rw[wu];refine pB ?_;rintro K hK hR;simp;split
  ·exact hR _ _ (hE _ _ ⟨_,rfl,_,rfl⟩)
  ·refine hK _ ?_;refine pB ?_;rintro K hK -;simp;refine hK _ ?_;have l1:=OP (a % 998244353*40692+b*69621+1009) (show(2147483399:Int)≠0 by decide);have u1:=ND (a % 998244353*40692+b*69621+1009) (show(0:Int) < 2147483399 by decide);generalize (a % 998244353*40692+b*69621+1009) % 2147483399=x at *;refine pB ?_;rintro K hK -;simp;refine⟨by omega,hK _ ?_⟩;have l2:=OP (x*x+b*48271+a % 131071) (show(2147483647:Int)≠0 by decide);have u2:=ND (x*x+b*48271+a % 131071) (show(0:Int) < 2147483647 by decide);generalize (x*x+b*48271+a % 131071) % 2147483647=y at *;refine pB ?_;rintro K hK -;simp;refine⟨by omega,hK _ ?_⟩;generalize (y*y+x*17+3) % 2147483629=z at *;simp;exact hE _ _ ⟨_,rfl,_,rfl⟩
 obtain⟨r,a8,e,z,rfl⟩:=this;exact⟨z,by unfold cvF;simp only[map];rw[e]⟩
theorem qa{u:Int}{Q:R->List D->Prop}(hc:PotOk c)(h1:1<=u)(h2:u < 2 ^ 200)(k:∀n c',0<=n->n < u->PotOk c'->Q (.val (.int n)) c'):wpB pS c [.int u] Q:=by
 obtain⟨ns,at_,ao,rfl,h0⟩:=hc;refine wF rfl λKE hE _=>?_
 rw[uZ];refine qb (λae=>∃fL ji x y z,0<=fL/\ae=[some (.bor [.lst (ns.map .int),.int fL,.int ji]),some (.val (.int u)),x,y,z]) (λK hK _=>?_) ?_
 ·simp[isMut,R.mut];split
  ·refine pB λK1 dD _=>?_
   simp[isMut,R.mut];refine dD _ ?_;refine pB λK1 dD _=>?_
   simp[isMut,R.mut];refine dD _ ?_;refine qb (λae=>∃m,ae=[some (.bor [.lst (ns.map .int),.int at_,.int ao]),some (.val (.int u)),some (.val (.int at_)),some (.val (.int m)),none]) (λK1 dD _=>?_) ?_
   ·simp[isMut,R.mut];split
    ·rename_i h;obtain⟨a,e,m⟩:=zN (ds:=ns.map D.int) h0 (by simpa using h);obtain⟨b,_,rfl⟩:=LS.mp m;rw[pL e];simp;exact dD _ ⟨_,rfl⟩
    ·rename_i h;split
     ·exact dD _ ⟨_,rfl⟩
     ·rename_i h';have hl:0 < ns.length:=by cases ns with | nil=>simp at h' | cons=>simp
      refine⟨by omega,?_⟩;obtain⟨a,e,m⟩:=zN (ds:=ns.map D.int) (i:=(at_*7+1) % (ns.length:Int)) (OP _ (by omega)) (by simpa using ND _ (by omega));obtain⟨b,_,rfl⟩:=LS.mp m;rw[pL e];simp;exact⟨by omega,dD _ ⟨_,rfl⟩⟩
   ·rintro ae ⟨m,rfl⟩;refine pB λK1 dD _=>?_
    simp[isMut,R.mut];refine dD _ ?_;obtain⟨z,e⟩:=Gc m at_;simp[isMut,R.mut,e];exact hK _ ⟨_,_,_,_,_,by omega,rfl⟩
  ·exact hK _ ⟨_,_,_,_,_,h0,rfl⟩
 ·rintro ae ⟨fL,ji,x,y,z,h3,rfl⟩;refine pB ?_;rintro K hK -;simp[isMut,R.mut];refine⟨by omega,hK _ ?_⟩;refine pB ?_;rintro K hK -;simp[isMut,R.mut];refine⟨⟨by omega,by simpa using h2⟩,hK _ ?_⟩;simp;exact hE _ _ _ ⟨_,rfl⟩ (k _ _ (OP _ (by omega)) (ND _ (by omega)) ⟨_,_,_,rfl,h3⟩)
theorem tM{xs:List D}{i:Nat}(h:(numD m xs)[i]?=some d):∃x,xs[i]?=some x/\d=.tup [.int ((m+i:Nat):Int),x]:=by
 induction xs generalizing m i with
 | nil=>simp[numD] at h
 | cons a xs ih =>
  cases i with
  | zero=>simp[numD] at h;exact⟨a,rfl,h.symm⟩
  | succ i =>
   simp only[numD,MK] at h;obtain⟨x,e1,e2⟩:=ih h;exact⟨x,by simpa using e1,by rw[e2,show m+1+i=m+(i+1) from by omega]⟩
theorem y3{α:Type}{f:α->D}{xs:List α}{lo:Option Int}:∃ys:List α,cutD (xs.map f) lo hi=ys.map f/\(∀y∈ys,y∈xs)/\ys.length=min (HT.sIx xs.length xs.length hi - HT.sIx xs.length 0 lo) (xs.length - HT.sIx xs.length 0 lo):=by
 refine⟨(xs.drop (HT.sIx xs.length 0 lo)).take (HT.sIx xs.length xs.length hi - HT.sIx xs.length 0 lo),?_,?_,?_⟩
 ·unfold cutD;simp[OG,Qi]
 ·intro y h;exact Lv (Lo h)
 ·simp
theorem IU(ns:List Int):∃d,coF sx [.lst (ns.map .int)]=some d/\PotOk d:=by
 refine wX ?_;unfold sx;refine qX rfl ?_;rw[u8];refine pB λK hK _=>?_
 simp;refine hK _ ?_;obtain⟨cs,e,-,hl⟩:=y3 (f:=D.int) (xs:=ns) (lo:=none) (hi:=some 12);rw[e]
 have dY:cs.length=min 12 ns.length:=by
  rw[hl];simp[HT.sIx]
 refine qb (λae=>∃cs,∃x y z,ae=[x,some (.own (map D.int cs)),y,z]) (λK hK _=>?_) ?_
 ·simp;obtain⟨ms,e,-,hm⟩:=y3 (f:=D.int) (xs:=ns) (lo:=some 12) (hi:=some 63);rw[e];refine qL (J:=λi Γ=>∃cs:List Int,∃y z,cs.length=min 12 ns.length/\Γ=[some (.val (.lst (ns.map .int))),some (.own (cs.map .int)),y,z]) ⟨cs,_,_,dY,rfl⟩ ?_ ?_
  ·rintro i d Γ hd ⟨cs,y,z,hc,rfl⟩;obtain⟨x,e1,rfl⟩:=tM hd;rw[E_,Mq] at e1;obtain⟨n,e1,rfl⟩:=e1;have hi:i < ms.length:=(D_.mp e1).1
   have ph:12 < ns.length:=by
    simp[HT.sIx] at hm;omega
   simp[isMut,R.mut];have jm:cs.length=12:=by omega
   have oH:((i:Int) % 12)=((i % 12:Nat):Int):=by omega
   rw[oH];have bH:i % 12 < cs.length:=by omega
   rw[pL (a:=D.int cs[i % 12]) (by rw[qS];simp[bH])];simp;refine⟨(cs.set (i % 12) (cs[i % 12]+n)).map .int,?_,?_⟩
   ·unfold stF L2.ixN;rw[if_pos (by omega),if_pos (by simp;omega),show((i:Int) % 12).toNat=i % 12 from by omega];simp
   ·exact⟨cs.set (i % 12) (cs[i % 12]+n),by simpa using hc,by simp⟩
  ·rintro Γ ⟨cs,y,z,hc,rfl⟩;exact hK _ ⟨cs,_,_,_,rfl⟩
 ·rintro ae ⟨cs,x,y,z,rfl⟩;simp[flR,fin];exact⟨cs,0,0,rfl,by omega⟩
theorem Bc{α:Type}(d:α){xs:List α}(hl:kz.length=xs.length):(srtK d kz xs).Perm xs:=by
 have p:=Ld.mp (rm {} kz.reverse).1;unfold srtK;refine(OT _).trans ((p.map _).trans ?_)
 have e:(Mm xs.reverse.length).map (λi=>xs.reverse.getD i d)=xs.reverse:=by
  refine OO (by simp) λi h1 h2=>?_
  simp at h1;simp[h1]
 rw[LA,hl,←LA];show List.Perm ((Mm xs.reverse.length).map _) xs;rw[e];exact OT xs
theorem Gq{α:Type}(d:α)(f:α->Int)(xs:List α):((srtK d (xs.map f) xs).map f).Pairwise λa b=>b<=a:=by
 obtain⟨pm,up⟩:=rm {} (xs.map f).reverse;have p:=Ld.mp pm;unfold srtK;rw[OU,PY,MS,PD];refine Mx.mpr λi j hi hj lt=>?_
 have hn:(permK (xs.map f).reverse).size=xs.length:=by rw[pm.size];simp
 have lj:j < (xs.map f).reverse.length:=by rw[Ky,hn] at hj;simpa using hj
 have li:i < (xs.map f).reverse.length:=by omega
 have u:=up i j lt lj
 have aI:∀k (hk:k < (permK (xs.map f).reverse).toList.length),gt (permK (xs.map f).reverse) k=(permK (xs.map f).reverse).toList[k]/\(permK (xs.map f).reverse).toList[k] < xs.length:=λk hk=>by
  have m:=(p.mem_iff).mp (LG hk);refine⟨?_,by simpa using m⟩;unfold gt;rw[LV,←K4,i_ hk];rfl
 obtain⟨a1,a2⟩:=aI i hi;obtain⟨b1,b2⟩:=aI j hj;rw[a1,b1] at u;unfold ltR at u
 have key:∀k,k < xs.length->(xs.map f).reverse.getD k 0=f (xs.reverse.getD k d):=λk hk=>by
  rw[←OU,q_,q_,E_,i_ (by simpa using hk)];rfl
 rw[key _ a2,key _ b2] at u;simp only[decide_eq_false_iff_not,Int.not_lt] at u;exact u
abbrev Falls(l:List Int):Prop:=l.Pairwise λa b=>b<=a
theorem yp:∀{l m:List Int},l.Perm m->Falls l->Falls m->l=m
 | [],m,p,_,_=>p.nil_eq
 | a::l,[],p,_,_=>absurd p.length_eq (by simp)
 | a::l,b::m,p,h,h'=>by
  obtain⟨h1,h2⟩:=G_.mp h;obtain⟨g1,g2⟩:=G_.mp h'
  have e:a=b:=by
   have x1:a∈b::m:=p.mem_iff.mp g_;have x2:b∈a::l:=p.mem_iff.mpr g_
   rcases m_.mp x1 with z | z
   ·exact z
   ·rcases m_.mp x2 with y | y
    ·exact y.symm
    ·have:=g1 a z;have:=h1 b y;omega
  subst e;rw[yp (p.cons_inv) h2 g2]
theorem uy:∀{l:List Int},(∀x∈l,0<=x)->0<=l.sum
 | [],_=>by simp
 | a::l,h=>by
  have:=uy λx hx=>h x (j_ a hx)
  have:=h a g_;rw[Nj];omega
theorem Dh(h:∀x∈l,0<=x):∀m,(l.drop m).sum<=l.sum:=by
 induction l with
 | nil=>intro m;simp
 | cons a l ih =>
  intro m;cases m with
  | zero=>simp
  | succ m =>
   have:=ih (λx hx=>h x (j_ a hx)) m;have:=h a g_;rw[M2,Nj];omega
theorem uq{m:List Int}(p:l.Perm m):l.sum=m.sum:=by
 induction p with
 | nil=>rfl
 | cons x _ ih=>rw[Nj,Nj,ih]
 | swap x y l=>simp only[Nj];omega
 | trans _ _ h1 h2=>rw[h1,h2]
noncomputable def mn(a b:Int):Int:=if b < a then b else a
theorem xU:∀(xs:List Int) (x:Int),(∀y∈xs,y<=x)->xs.foldl mx x=x
 | [],x,_=>rfl
 | y::xs,x,h=>by
  have:mx x y=x:=by
   unfold mx;rw[if_neg (by have:=h y g_;omega)]
  rw[Mk,this];exact xU xs x λz hz=>h z (j_ y hz)
theorem Eh{x:Int}{xs:List Int}(f:Falls (x::xs)):maxI 0 (x::xs)=x:=xU xs x (G_.mp f).1
theorem xF:∀{l:List Int}{m:Int},(∀x∈l,x<=m)->(l.map (mn · m)).sum=l.sum
 | [],m,_=>rfl
 | a::l,m,h=>by
  rw[KB,Nj,Nj,xF λx hx=>h x (j_ a hx)]
  have:mn a m=a:=by
   unfold mn;rw[if_neg (by have:=h a g_;omega)]
  rw[this]
theorem wQ:∀{l:List Int}{m:Int},(∀x∈l,m<=x)->(l.map (mn · m)).sum=l.length*m
 | [],m,_=>by simp
 | a::l,m,h=>by
  rw[KB,Nj,wQ λx hx=>h x (j_ a hx)]
  have:mn a m=m:=by
   unfold mn;have:=h a g_;split<;>omega
  rw[this,Lc,Int.natCast_succ,Int.add_mul,Int.one_mul];omega
theorem Cr(f:Falls l)(nn:∀x∈l,0<=x)(k:Nat):0<=maxI 0 (l.drop k)/\(l.map (mn · (maxI 0 (l.drop k)))).sum - k*maxI 0 (l.drop k)=(l.drop k).sum:=by
 cases e:l.drop k with
 | nil =>
  have z:(l.map (mn · 0)).sum=l.length*0:=wQ nn;show 0<=(0:Int)/\(l.map (mn · 0)).sum - k*0=0;rw[z];simp
 | cons x xs =>
  have fd:Falls (x::xs):=by
   have:=f.sublist (Rt k l);rw[e] at this;exact this
  rw[Eh fd]
  have lk:k<=l.length:=by
   rcases MW l.length k with h | h
   ·rw[Mv (Nv h)] at e;cases e
   ·exact h
  have cut:=Li k l;have x0:x∈l:=Lv (by rw[e];exact g_);refine⟨nn x x0,?_⟩;have all:=f;rw[←cut] at all;obtain⟨_,_,gU⟩:=Og.mp all;have s1:((l.take k).map (mn · x)).sum=(l.take k).length*x:=wQ λy hy=>gU y hy x (by rw[e];exact g_)
  have s2:((l.drop k).map (mn · x)).sum=(l.drop k).sum:=xF λy hy=>by
   rw[e] at hy
   rcases m_.mp hy with z | z
   ·omega
   ·exact(G_.mp fd).1 y z
  have s3:(l.map (mn · x)).sum=k*x+(x::xs).sum:=by
   have h1:=congrArg (λz=>(z.map (mn · x)).sum) cut;rw[MD,PK,s1,s2,e,K7,L5 lk] at h1;exact h1.symm
  rw[s3];omega
noncomputable def span(p:Int×Int):List Int:=(Mm (p.2+1 - p.1).toNat).map λ(k:Nat)=>p.1+(k:Int)
noncomputable def nums(ss:List (Int×Int)):List Int:=setI (ss.flatMap span)
def SOk(p:Int×Int):Prop:=0<=p.1/\p.1<=1000/\-1<=p.2/\p.2<=1000
theorem uf(p:Int×Int):rngD p.1 (p.2+1 - p.1).toNat=(span p).map D.int:=by
 unfold rngD span;rw[MS];rfl
theorem u4{p:Int×Int}(h:SOk p):(span p).length<=1001:=by
 obtain⟨h1,h2,h3,h4⟩:=h;unfold span;simp;omega
theorem ul:∀{ss:List (Int×Int)},(∀p∈ss,SOk p)->(ss.flatMap span).length<=1001*ss.length
 | [],_=>by simp
 | p::ss,h=>by
  have h1:=u4 (h p g_);have h2:=ul λq hq=>h q (j_ p hq)
  rw[M_,KJ,Lc];omega
theorem CO(h:(setI ns).length<=299):setIF [.lst (ns.map D.int)]=some ((setI ns).map .int):=by
 unfold setIF;simp only[tF];exact if_pos h
theorem B3(hb:∀p∈ss,SOk p)(hl:ss.length<=100)(few:(nums ss).length<=299):coF rL [.lst (ss.map prD)]=some ((nums ss).map .int):=by
 have:∃d,coF rL [.lst (ss.map prD)]=some d/\d=(nums ss).map .int:=by
  refine wX ?_;unfold rL;refine qX rfl ?_;rw[wV];refine pB λK hK _=>?_
  simp;refine hK _ ?_;refine qb (λae=>∃x y,ae=[x,some (.own ((ss.flatMap span).map .int)),y]) (λK hK _=>?_) ?_
  ·simp;refine qL (J:=λi Γ=>∃x,Γ=[some (.val (.lst (ss.map prD))),some (.own (((ss.take i).flatMap span).map .int)),x]) ⟨none,by simp⟩ ?_ ?_
   ·rintro i d Γ hd ⟨x,rfl⟩;rw[E_,Mq] at hd;obtain⟨p,e1,rfl⟩:=hd;have hp:=hb p (LB e1);have ok:=hp;obtain⟨h1,h2,h3,h4⟩:=hp;have tk:ss.take (i+1)=ss.take i++[p]:=by rw[MR,e1];rfl
    have fl:=ul (ss:=ss.take i) λq hq=>hb q (Lo hq)
    have tl:(ss.take i).length<=100:=by rw[K7];omega
    have sl:=u4 ok;simp[isMut,R.mut,prD];refine⟨⟨⟨by omega,by omega⟩,by omega,by omega⟩,?_,?_⟩
    ·rw[←Qi,←List.length_flatMap,uf,y_];omega
    ·rw[tk,Qy,MD,uf];simp
   ·rintro Γ ⟨x,rfl⟩;refine hK _ ⟨some (.val (.lst (ss.map prD))),x,?_⟩;rw[y_,N6]
  ·rintro ae ⟨x,y,rfl⟩;simp[flR];rw[pL (CO few)];simp[fin,nums]
 obtain⟨d,e,rfl⟩:=this;exact e
noncomputable def gapsL(l:List Int):List (Int×Int):=((l.zip (l.drop 1)).filter λp=>decide (p.1+1 < p.2)).map λp=>(p.1+1,p.2 - 1)
theorem cut1(l:List Int):cutD (l.map D.int) (some 1) none=(l.drop 1).map D.int:=by
 unfold cutD;rw[y_,OG];cases l with
 | nil=>simp[HT.sIx]
 | cons a l =>
  simp[HT.sIx];exact K3 (by simp)
theorem zS(l m:List Int):pairsD (l.map D.int) (m.map D.int)=(l.zip m).map λp=>D.tup [.int p.1,.int p.2]:=by
 unfold pairsD;rw[List.zip_map,MS];rfl
theorem A6(hl:l.length<=1000):coF rR [.lst (l.map D.int)]=some ((gapsL l).map prD):=by
 have:∃d,coF rR [.lst (l.map D.int)]=some d/\d=(gapsL l).map prD:=by
  refine wX ?_;unfold rR;refine qX rfl ?_;rw[uU];simp[flR];refine wq (l.zip (l.drop 1)) (λp=>D.tup [.int p.1,.int p.2]) (λp=>decide (p.1+1 < p.2)) (λp=>.tup [.int (p.1+1),.int (p.2 - 1)]) ?_;simp;rw[cut1];refine⟨?_,by omega,⟨_,rfl⟩,?_⟩
  ·rw[zS,Qj]
  ·unfold gapsL;rw[Qj,MS];rfl
 obtain⟨d,e,rfl⟩:=this;exact e
noncomputable def cutL(l:List Int)(lo hi:Option Int):List Int:=(l.drop (HT.sIx l.length 0 lo)).take (HT.sIx l.length l.length hi - HT.sIx l.length 0 lo)
theorem Im(l:List Int)(lo hi:Option Int):cutD (l.map D.int) lo hi=(cutL l lo hi).map D.int:=by
 unfold cutD cutL;simp[OG,Qi]
noncomputable def wt(cs:List Int)(p:Int×Int):Int:=(cutL cs (some p.1) (some (p.2+1))).sum
theorem z6(cs:List Int)(p:Int×Int):cvF qD [prD p,.lst (cs.map D.int)]=some (.int (wt cs p)):=by
 refine uC ?_;unfold qD;refine qX rfl ?_;rw[wH];simp[flR,prD,Im];rw[pL (rX _)];simp[fin,wt]
theorem FI{p:Int×Int}(h1:0<=p.1)(h2:p.1<=p.2+1)(h3:p.2 < cs.length):wt cs p=((cs.drop p.1.toNat).take (p.2+1 - p.1).toNat).sum:=by
 have e1:HT.sIx cs.length 0 (some p.1)=p.1.toNat:=by
  unfold HT.sIx;simp only[];rw[if_neg (by omega)];omega
 have e2:HT.sIx cs.length cs.length (some (p.2+1))=(p.2+1).toNat:=by
  unfold HT.sIx;simp only[];rw[if_neg (by omega)];omega
 unfold wt cutL;rw[e1,e2,show(p.2+1).toNat - p.1.toNat=(p.2+1 - p.1).toNat by omega]
theorem xT(cs:List Int):∀gs:List (Int×Int),keysL (fn1 (cvF qD) (consA (nm 0) (consA (nm 1) nilA))) (.lst (cs.map D.int)) (gs.map prD)=some (gs.map (wt cs))
 | []=>rfl
 | p::gs=>by
  have e:(fn1 (cvF qD) (consA (nm 0) (consA (nm 1) nilA))) [some (.val (prD p)),some (.val (.lst (cs.map D.int)))]=some (.int (wt cs p),[some (.val (prD p)),some (.val (.lst (cs.map D.int)))]):=by
   have:wp (fn1 (cvF qD) (consA (nm 0) (consA (nm 1) nilA))) [some (.val (prD p)),some (.val (.lst (cs.map D.int)))] λd Γ=>d=.int (wt cs p)/\Γ=[some (.val (prD p)),some (.val (.lst (cs.map D.int)))]:=by
    simp;rw[z6];simp
   obtain⟨d,Γ,e,rfl,rfl⟩:=this;exact e
  rw[KB,keysL,e];dsimp only;rw[xT cs gs];rfl
theorem Dd{α β:Type}(f:α->β)(d:α)(d':β){xs:List α}(hl:kz.length=xs.length):srtK d' kz (xs.map f)=(srtK d kz xs).map f:=by
 have p:=Ld.mp (rm {} kz.reverse).1;unfold srtK;rw[OU,MS];refine congrArg _ (OH λi hi=>?_);have m:=p.mem_iff.mp hi;have bY:i < xs.reverse.length:=by simp at m;simp;omega
 rw[←OU,q_,E_,i_ bY];show f xs.reverse[i]=f (xs.reverse.getD i d);rw[q_,i_ bY];rfl
noncomputable def markB(cs:List Int)(gs:List (Int×Int))(m w k:Int):Bool:=decide (0<=k)&&decide (w=(gs.map λp=>mn (wt cs p) k).sum - (m - 1)*k)
abbrev Up(l:List Int):Prop:=l.Pairwise λa b=>a < b
theorem pY{p:Int×Int}{x:Int}:x∈span p↔p.1<=x/\x<=p.2:=by
 unfold span;rw[LS];constructor
 ·rintro⟨k,hk,rfl⟩;rw[M3] at hk;omega
 ·rintro⟨h1,h2⟩;exact⟨(x - p.1).toNat,by rw[M3];omega,by omega⟩
theorem sO(p:Int×Int):Up (span p):=by
 unfold span Up;rw[PD];exact Mf.imp (λh=>by omega) PF
theorem zU{m:List Int}(h1:Up l)(h2:Up m)(h:∀a∈l,∀b∈m,a < b):Up (l++m):=Og.mpr ⟨h1,h2,h⟩
theorem sR{a b c:Int}(h1:a<=b+1)(h2:b<=c):span (a,c)=span (a,b)++span (b+1,c):=by
 refine su (sO _) (zU (sO _) (sO _) λx hx y hy=>?_) λx=>?_
 ·rw[pY] at hx hy;dsimp only at hx hy;omega
 ·rw[Lg,pY,pY,pY];dsimp only;omega
theorem rK(a:Int):span (a,a)=[a]:=by
 refine su (sO _) (Nr _ _) λx=>?_
 rw[pY,A_];dsimp only;omega
theorem qp(a b:Int)(l:List Int):gapsL (a::b::l)=if a+1 < b then(a+1,b - 1)::gapsL (b::l) else gapsL (b::l):=by
 show(List.filter _ ((a,b)::((b::l).zip l))).map _=_;rw[N8];by_cases h:a+1 < b
 ·rw[if_pos (by simpa using h),if_pos h,KB];rfl
 ·rw[if_neg (show ¬decide (a+1 < b)=true by simpa using h),if_neg h];rfl
inductive Jn:Int->Int->List Int->List (Int×Int)->List (Int×Int)->List (Int×Int)->Prop
 | nil {lo a:Int}:Jn lo a [] [(lo,a)] [] []
 | adj {lo a b:Int}{l:List Int}{row t u:List (Int×Int)}:b=a+1->Jn lo b l row t u->Jn lo a (b::l) row t u
 | cut {lo a b:Int}{l:List Int}{row t u:List (Int×Int)}:a+1 < b->Jn b b l row t u->Jn lo a (b::l) ((lo,a)::row) ((a+1,b - 1)::t) u
 | over {lo a b:Int}{l:List Int}{row t u:List (Int×Int)}:a+1 < b->Jn lo b l row t u->Jn lo a (b::l) row t ((a+1,b - 1)::u)
theorem Jn.perm{lo a:Int}{row t u:List (Int×Int)}(h:Jn lo a l row t u):(t++u).Perm (gapsL (a::l)):=by
 induction h with
 | nil=>exact NE _
 | adj e _ ih=>rw[qp,if_neg (by omega)];exact ih
 | cut e _ ih=>rw[qp,if_pos e];exact ih.cons _
 | over e _ ih=>rw[qp,if_pos e];exact List.perm_middle.trans (ih.cons _)
theorem Jn.len{lo a:Int}{row t u:List (Int×Int)}(h:Jn lo a l row t u):row.length=t.length+1:=by
 induction h with
 | nil=>rfl
 | adj e _ ih=>exact ih
 | cut e _ ih=>rw[Lc,Lc,ih]
 | over e _ ih=>exact ih
def RowUp(n:Int):Int->List (Int×Int)->Prop
 | _,[]=>True
 | a,p::ss=>a < p.1/\p.1<=p.2/\p.2 < n/\RowUp n p.2 ss
theorem RowUp.low{n c:Int}:∀{ss:List (Int×Int)}{a:Int},RowUp n a ss->c<=a->RowUp n c ss
 | [],_,_,_=>trivial
 | p::ss,a,h,hc=>⟨by have:=h.1;omega,h.2.1,h.2.2.1,h.2.2.2⟩
theorem Jn.row{n lo a:Int}{l:List Int}{row t u:List (Int×Int)}(h:Jn lo a l row t u):lo<=a->(∀x∈a::l,x < n)->RowUp n (lo - 1) row:=by
 induction h with
 | nil=>exact λh1 h2=>⟨by dsimp only;omega,h1,h2 _ g_,trivial⟩
 | adj e _ ih=>exact λh1 h2=>ih (by omega) λx hx=>h2 x (j_ _ hx)
 | cut e _ ih=>exact λh1 h2=>⟨by dsimp only;omega,h1,h2 _ g_,(ih (KN _) λx hx=>h2 x (j_ _ hx)).low (by dsimp only;omega)⟩
 | over e _ ih=>exact λh1 h2=>ih (by omega) λx hx=>h2 x (j_ _ hx)
theorem RowUp.up{n:Int}:∀{ss:List (Int×Int)}{a:Int},RowUp n a ss->Up (ss.flatMap span)/\∀x∈ss.flatMap span,a < x/\x < n
 | [],a,_=>⟨Mf.nil,λx hx=>by simp at hx⟩
 | p::ss,a,h=>by
  obtain⟨h1,h2,h3,h4⟩:=h;obtain⟨g1,g2⟩:=RowUp.up h4;rw[M_];refine⟨zU (sO p) g1 λx hx y hy=>?_,λx hx=>?_⟩
  ·have:=(pY.mp hx).2;have:=(g2 y hy).1;omega
  ·rcases Lg.mp hx with z | z
   ·have:=pY.mp z;omega
   ·have:=g2 x z;omega
theorem Jn.has{lo a:Int}{row t u:List (Int×Int)}(h:Jn lo a l row t u):lo<=a->(∀x,lo<=x->x<=a->x∈row.flatMap span)/\∀x∈a::l,x∈row.flatMap span:=by
 induction h with
 | @nil lo a =>
  intro h1
  have key:∀x,lo<=x->x<=a->x∈[(lo,a)].flatMap span:=λx h1 h2=>by
   rw[M_,List.flatMap_nil,LD,pY];exact⟨h1,h2⟩
  exact⟨key,λx hx=>by rw[A_] at hx;subst hx;exact key _ h1 (KN _)⟩
 | adj e _ ih =>
  intro h1;obtain⟨g1,g2⟩:=ih (by omega)
  exact⟨λx a b=>g1 x a (by omega),λx hx=>by
   rcases m_.mp hx with z | z
   ·subst z;exact g1 _ h1 (by omega)
   ·exact g2 x z⟩
 | @cut lo a b l row t u e _ ih =>
  intro h1;obtain⟨g1,g2⟩:=ih (KN _)
  have key:∀x,lo<=x->x<=a->x∈((lo,a)::row:List (Int×Int)).flatMap span:=λx h1 h2=>by
   rw[M_];exact MT _ (pY.mpr ⟨h1,h2⟩)
  refine⟨key,λx hx=>?_⟩
  rcases m_.mp hx with z | z
  ·subst z;exact key _ h1 (KN _)
  ·rw[M_];exact KW _ (g2 x z)
 | over e _ ih =>
  intro h1;obtain⟨g1,g2⟩:=ih (by omega)
  exact⟨λx a b=>g1 x a (by omega),λx hx=>by
   rcases m_.mp hx with z | z
   ·subst z;exact g1 _ h1 (by omega)
   ·exact g2 x z⟩
noncomputable def sumN(P:Int->Bool)(f:Int->Int)(l:List Int):Int:=((l.filter λx=>!P x).map f).sum
theorem uv(P:Int->Bool)(f:Int->Int)(l m:List Int):sumN P f (l++m)=sumN P f l+sumN P f m:=by
 unfold sumN;rw[List.filter_append,MD,PK]
theorem uk{P:Int->Bool}{f:Int->Int}{a:Int}(h:P a=true):sumN P f [a]=0:=by
 unfold sumN;rw[N8,h];rfl
theorem F9{P:Int->Bool}{f:Int->Int}(h:∀x∈l,P x=false):sumN P f l=(l.map f).sum:=by
 unfold sumN;rw[OI.mpr λx hx=>by rw[h x hx];rfl]
theorem Jn.sum{P:Int->Bool}{f:Int->Int}{lo a:Int}{row t u:List (Int×Int)}(h:Jn lo a l row t u):lo<=a->(∀x∈a::l,P x=true)->(∀g∈gapsL (a::l),∀x∈span g,P x=false) →
  sumN P f (row.flatMap span)=sumN P f (span (lo,a))+(u.map λg=>((span g).map f).sum).sum:=by
 induction h with
 | nil =>
  intro _ _ _;rw[M_,List.flatMap_nil,LD];simp
 | @adj lo a b l row t u e _ ih =>
  intro h1 h2 h3;rw[qp,if_neg (by omega)] at h3;rw[ih (by omega) (λx hx=>h2 x (j_ _ hx)) h3,sR (show lo<=a+1 by omega) (show a<=b by omega),uv];have:span (a+1,b)=[b]:=by rw[e];exact rK _
  rw[this,uk (h2 b (by simp))];omega
 | @cut lo a b l row t u e _ ih =>
  intro h1 h2 h3;rw[qp,if_pos e] at h3;rw[M_,uv,ih (KN _) (λx hx=>h2 x (j_ _ hx)) (λg hg=>h3 g (j_ _ hg)),rK,uk (h2 b (by simp))];omega
 | @over lo a b l row t u e _ ih =>
  intro h1 h2 h3;rw[qp,if_pos e] at h3
  have c1:span (lo,b)=span (lo,a)++(span (a+1,b - 1)++[b]):=by
   rw[sR (show lo<=a+1 by omega) (show a<=b by omega),sR (show a+1<=(b - 1)+1 by omega) (show b - 1<=b by omega),Q0,rK]
  rw[ih (by omega) (λx hx=>h2 x (j_ _ hx)) (λg hg=>h3 g (j_ _ hg)),c1,uv,uv,uk (h2 b (by simp)),F9 (h3 _ g_),KB,Nj];omega
theorem tL:∀{l:List Int}{a:Int},Up (a::l)->∀g∈gapsL (a::l),a < g.1/\g.1<=g.2/\∀x∈span g,x∉a::l
 | [],a,_,g,hg=>by simp[gapsL] at hg
 | b::l,a,u,g,hg=>by
  obtain⟨u1,u2⟩:=G_.mp u;have ab:=u1 b g_;rw[qp] at hg
  have old:g∈gapsL (b::l)->a < g.1/\g.1<=g.2/\∀x∈span g,x∉a::b::l:=λhg=>by
   obtain⟨g1,g2,g3⟩:=tL u2 g hg;refine⟨by omega,g2,λx hx z=>?_⟩
   rcases m_.mp z with z | z
   ·have:=(pY.mp hx).1;omega
   ·exact g3 x hx z
  split at hg
  ·rcases m_.mp hg with z | z
   ·subst z;refine⟨by dsimp only;omega,by dsimp only;omega,λx hx z=>?_⟩;have hx:=pY.mp hx;dsimp only at hx
    rcases m_.mp z with z | z
    ·omega
    ·rcases m_.mp z with z | z
     ·omega
     ·have:=(G_.mp u2).1 x z;omega
   ·exact old z
  ·exact old hg
theorem uM{n:Int}:∀{l:List Int},(∀x∈l,x < n)->∀g∈gapsL l,g.2 < n
 | [],_,g,hg=>by simp[gapsL] at hg
 | [a],_,g,hg=>by simp[gapsL] at hg
 | a::b::l,h,g,hg=>by
  rw[qp] at hg;have h':∀x∈b::l,x < n:=λx hx=>h x (j_ _ hx)
  split at hg
  ·rcases m_.mp hg with z | z
   ·subst z;have:=h b (by simp);dsimp only;omega
   ·exact uM h' g z
  ·exact uM h' g hg
theorem xY{n:Int}:∀{l:List Int}{a:Int},Up (a::l)->(∀x∈a::l,x < n)->a+2*(gapsL (a::l)).length < n
 | [],a,_,h=>by have:=h a g_;simpa[gapsL] using this
 | b::l,a,u,h=>by
  obtain⟨u1,u2⟩:=G_.mp u;have ab:=u1 b g_;have:=xY (n:=n) u2 λx hx=>h x (j_ _ hx)
  rw[qp];split
  ·rw[Lc];omega
  ·omega
theorem wv{n:Int}:∀{l:List Int}{a:Int},Up l->(∀x∈l,a<=x/\x < n)->(l.length:Int)<=(n - a).toNat
 | [],_,_,_=>by rw[List.length_nil];omega
 | b::l,a,u,h=>by
  obtain⟨u1,u2⟩:=G_.mp u;have:=wv (n:=n) (a:=b+1) u2 λx hx=>⟨by have:=u1 x hx;omega,(h x (j_ _ hx)).2⟩
  have:=h b g_;rw[Lc];omega
theorem uh(c:Int×Int->Bool):∀{l:List Int}{a:Int} (lo:Int),Up (a::l)->Jn lo a l ((lo::((gapsL (a::l)).filter c).map λg=>g.2+1).zip ((((gapsL (a::l)).filter c).map λg=>g.1 - 1)++[(a::l).getLast (by simp)])) ((gapsL (a::l)).filter c) ((gapsL (a::l)).filter λg=>!c g)
 | [],a,lo,_=>Jn.nil
 | b::l,a,lo,u=>by
  obtain⟨u1,u2⟩:=G_.mp u;have ab:=u1 b g_;rw[qp,OV (by simp)];by_cases h:a+1 < b
  ·rw[if_pos h,N8,N8];cases e:c (a+1,b - 1) with
   | true =>
    rw[if_pos rfl,if_neg (by simp),KB,KB,Ph,NS];have e1:(a+1 - 1:Int)=a:=by omega
    have e2:(b - 1+1:Int)=b:=by omega
    dsimp only;rw[e1,e2];exact Jn.cut h (uh c b u2)
   | false =>
    rw[if_neg (by simp),if_pos (by simp)];exact Jn.over h (uh c lo u2)
  ·rw[if_neg h];exact Jn.adj (by omega) (uh c lo u2)
theorem sn:∀{l:List Int},Up l->(gapsL l).Pairwise λg h=>g.1 < h.1
 | [],_=>by simp[gapsL]
 | [a],_=>by simp[gapsL]
 | a::b::l,u=>by
  obtain⟨u1,u2⟩:=G_.mp u;have ih:=sn u2;rw[qp];split
  ·refine G_.mpr ⟨λg hg=>?_,ih⟩;have:=(tL u2 g hg).1;dsimp only;omega
  ·exact ih
theorem Al:∀{l m:List (Int×Int)},(l.Pairwise λg h=>g.1 < h.1)->(m.Pairwise λg h=>g.1 < h.1)->(∀x,x∈l↔x∈m)->l=m
 | [],[],_,_,_=>rfl
 | [],b::m,_,_,h=>absurd ((h b).mpr g_) (by simp)
 | a::l,[],_,_,h=>absurd ((h a).mp g_) (by simp)
 | a::l,b::m,u,v,h=>by
  obtain⟨u1,u2⟩:=G_.mp u;obtain⟨v1,v2⟩:=G_.mp v
  have e:a=b:=by
   rcases m_.mp ((h a).mp g_) with z | z
   ·exact z
   ·rcases m_.mp ((h b).mpr g_) with y | y
    ·exact y.symm
    ·have:=v1 a z;have:=u1 b y;omega
  subst e;rw[Al u2 v2 λx=>?_];constructor
  ·intro hx
   rcases m_.mp ((h x).mp (j_ a hx)) with z | z
   ·have:=u1 x hx;rw[z] at this;omega
   ·exact z
  ·intro hx
   rcases m_.mp ((h x).mpr (j_ a hx)) with z | z
   ·have:=v1 x hx;rw[z] at this;omega
   ·exact z
theorem yY:∀{l:List (Int×Int)}{a b:Int×Int},(l.Pairwise λg h=>g.1 < h.1)->a∈l->b∈l->a.1=b.1->a=b
 | c::l,a,b,u,ha,hb,e=>by
  obtain⟨u1,u2⟩:=G_.mp u
  rcases m_.mp ha with z | z<;>rcases m_.mp hb with y | y
  ·rw[z,y]
  ·have:=u1 b y;rw[z] at e;omega
  ·have:=u1 a z;rw[y] at e;omega
  ·exact yY u2 z y e
theorem vp{l:List (Int×Int)}(u:l.Pairwise λg h=>g.1 < h.1):l.Nodup:=u.imp λh e=>by rw[e] at h;omega
theorem Bx{a b:Int×Int}(h:leD (prD a) (prD b)=true):a.1<=b.1:=by
 unfold leD prD at h;rw[rF] at h;unfold dlA at h;rw[cOA,cO] at h;unfold cI at h;by_cases c:b.1 < a.1
 ·rw[if_pos c] at h;simp at h
 ·omega
theorem Hz(u:Up N)(hs:∀x∈T,x∈gapsL N)(nd:T.Nodup):sortD (T.map prD)=((gapsL N).filter λg=>decide (g∈T)).map prD:=by
 have e0:sortD (T.map prD)=(T.mergeSort λa b=>leD (prD a) (prD b)).map prD:=by
  unfold sortD;exact(Q5 (r:=λa b=>leD (prD a) (prD b)) (s:=leD) (f:=prD) (l:=T) λ_ _ _ _=>rfl).symm
 have pm:(T.mergeSort λa b=>leD (prD a) (prD b)).Perm T:=Oh _ _;have up:(T.mergeSort λa b=>leD (prD a) (prD b)).Pairwise λa b=>leD (prD a) (prD b)=true:=Np (le:=λa b=>leD (prD a) (prD b)) (λa b c=>uT (prD a) (prD b) (prD c)) (λa b=>vh (prD a) (prD b)) T
 have gu:=sn u;rw[e0];refine congrArg _ (Al ?_ (gu.sublist Qz) λx=>?_)
 ·have dG:=Mf.and up (pm.nodup_iff.mpr nd);refine Sb (λ{a b} ha hb h=>?_) dG;have h1:=Bx h.1;have:a.1≠b.1:=λe=>h.2 (yY gu (hs a (pm.mem_iff.mp ha)) (hs b (pm.mem_iff.mp hb)) e)
  omega
 ·rw[pm.mem_iff,Pn,decide_eq_true_iff];exact⟨λh=>⟨hs x h,h⟩,λh=>h.2⟩
theorem vg(ds:List D){i:Int}(h:0<=i):cutD ds none (some i)=ds.take i.toNat:=by
 unfold cutD HT.sIx;simp only[];rw[if_neg (by omega),O7,Nat.sub_zero]
 rcases Rw i.toNat ds.length with c | c
 ·rw[L5 c]
 ·rw[Pf c,N6,K3 c]
theorem Dk(ds:List D){i:Int}(h:0<=i):cutD ds (some i) none=ds.drop i.toNat:=by
 unfold cutD HT.sIx;simp only[];rw[if_neg (by omega)]
 rcases Rw i.toNat ds.length with c | c
 ·rw[L5 c];refine K3 ?_;simp
 ·rw[Pf c,NX,Mv c,List.take_nil]
theorem Ca(ds:List D):cutD ds (some (-1)) none=ds.drop (ds.length - 1):=by
 unfold cutD HT.sIx;simp only[];rw[if_pos (by omega),show(-1+(ds.length:Int)).toNat=ds.length - 1 by omega];refine K3 ?_;simp
noncomputable def falL(cs N:List Int):List (Int×Int):=srtK (0,0) ((gapsL N).map (wt cs)) (gapsL N)
theorem qT(cs N:List Int):(falL cs N).Perm (gapsL N):=Bc _ (by simp)
noncomputable def fewW(cs N:List Int):List Int:=(falL cs N).map (wt cs)
noncomputable def cutG(cs N:List Int)(k:Nat):List (Int×Int):=(gapsL N).filter λg=>decide (g∈(falL cs N).take k)
noncomputable def rowF(cs N:List Int)(k:Nat):List (Int×Int):=(N.take 1++(cutG cs N k).map λ(g:Int×Int)=>g.2+1).zip (((cutG cs N k).map λ(g:Int×Int)=>g.1 - 1)++N.drop (N.length - 1))
theorem EG(h:∀d∈ds,dep d<=n):depA ds<=n:=by
 induction ds with
 | nil=>simp[depA]
 | cons d ds ih =>
  rw[depA];have h1:=h d g_;have h2:=ih λd hd=>h d (j_ _ hd)
  omega
theorem Ec{k:Nat}(u:Up N)(h:(gapsL N).length < 64):sortF [.lst (((falL cs N).take k).map prD)]=some ((cutG cs N k).map prD):=by
 have pm:=qT cs N;have hm:∀x∈(falL cs N).take k,x∈gapsL N:=λx hx=>pm.mem_iff.mp (Lo hx)
 have nd:((falL cs N).take k).Nodup:=(pm.nodup_iff.mpr (vp (sn u))).sublist (Po _ _)
 have ln:((falL cs N).take k).length < 64:=by
  have:=pm.length_eq;rw[K7];omega
 unfold cutG;generalize (falL cs N).take k=T at *;rw[←Hz u hm nd];refine xj ⟨by simpa using ln,?_,?_,.inr (.inl ?_)⟩
 ·unfold cmAll;rw[LI];intro a ha;rw[LI];intro b hb;obtain⟨x,_,rfl⟩:=LS.mp ha;obtain⟨y,_,rfl⟩:=LS.mp hb;simp[prD,cmB,cmA]
 ·have:depA (T.map prD)<=2:=EG λd hd=>by
   obtain⟨x,_,rfl⟩:=LS.mp hd;simp[prD,dep,depA]
  omega
 ·rw[LI];intro a ha;obtain⟨x,_,rfl⟩:=LS.mp ha;rfl
theorem Fu{K:Fl->Gm->Prop}{i:Nat}{g:List R->Option (R×List R)}{os:List D}(hj:Γ[j]?=some (some (.val d)))(h:coF g [d]=some os)(hi:i < Γ.length)(k:K .nx (Γ.set i (some (.val (.lst os))))):wp (setV i (frz (fn1 (coF g) (consA (nm j) nilA)))) Γ K:=by
 rw[sV,wo,Ie,uD,BP,hj];show wp nilA Γ _;rw[xQ,pL h];exact⟨hi,k⟩
theorem BF(h:(gapsL N).length < 64):sortLF (fn1 (cvF qD) (consA (nm 0) (consA (nm 1) nilA))) (.lst ((gapsL N).map prD)) (.lst (cs.map D.int))=some ((falL cs N).map prD):=by
 unfold sortLF;dsimp only;rw[xT];dsimp only;rw[if_pos (by simpa using h),Dd prD (0,0) .non (by simp)];rfl
theorem FQ{m:List Int}(h:l.length=m.length)(h2:l.length<=1000):zipLF [.lst (l.map D.int),.lst (m.map D.int)]=some ((l.zip m).map prD):=by
 unfold zipLF;dsimp only;rw[if_pos ⟨by simpa using h,by simpa using h2⟩,zS];rfl
section
variable{QD:D->Gm->Prop}{QS:Fl->Gm->Prop}
@[simp ↓] theorem JL{g:M D}:wp (sca g) Γ QD↔wp g Γ λd ae=>DL.scal d=true/\QD d ae:=by simp only[sca,pP,qO]
@[simp ↓] theorem Jq{t:M (List D)}:wp (retT t) Γ QS↔wp t Γ λds ae=>ds.length<=lim/\QS (.rt (.tfr ds)) ae:=by
 simp only[retT,pP,qO,qU]
end
@[simp] theorem Jk{i:Int}:DL.scal (.int i)=true:=rfl
theorem Bi{g:List R->Option (R×List R)}{os:List D}(h:wpF g (ds.map .val) λr _=>r=.tfr os):ctF g ds=some os:=by
 obtain⟨r,rs,e,rfl⟩:=h;unfold ctF;rw[e]
theorem Ct{k:Nat}(hb:∀p∈ss,SOk p)(hl:ss.length<=100)(few:(nums ss).length<=299)(ne:nums ss≠[])(bX:(gapsL (nums ss)).length < 64):
  ctF rZ [.lst (ss.map prD),.int ((k:Int)+1),.lst (cs.map D.int)]=some [.int ((fewW cs (nums ss)).drop k).sum,.lst ((rowF cs (nums ss) k).map prD),.int (maxI 0 ((fewW cs (nums ss)).drop k))]:=by
 have up:Up (nums ss):=sF _;have n1:=B3 hb hl few;obtain⟨N,hN⟩:∃N,nums ss=N:=⟨_,rfl⟩;rw[hN] at few ne bX up n1 ⊢;have gl:=A6 (l:=N) (by omega);have fl:=(qT cs N).length_eq;have cl:(cutG cs N k).length<=(gapsL N).length:=List.length_filter_le _ _;refine Bi ?_;unfold rZ;refine qX rfl ?_;rw[wk];refine pB λK hK _=>Fu rfl n1 (show 3 < 9 by decide) (hK _ ?_)
 dsimp only[map,length,Lh,List.append,HAppend.hAppend,Append.append,List.set];refine pB λK hK _=>?_
 simp[sortLam];rw[pL gl];refine⟨.lst (cs.map D.int),_,rfl,?_⟩;dsimp only;rw[pL (BF bX)];refine⟨by simp,hK _ ?_⟩;refine pB λK hK _=>?_
 simp;rw[vg _ (by omega),←Qi,Nf,pL (Ec up bX)];refine⟨by simp,hK _ ?_⟩;refine pB λK hK _=>?_
 simp;refine rb ((falL cs N).drop k) prD (λ_=>true) (λp=>.int (wt cs p)) ?_;simp[z6];rw[Dk _ (by omega),Nf,←OG];refine⟨rfl,by omega,hK _ ?_⟩
 have e6:((List.drop k (falL cs N)).filter λ_=>true).map (λp=>D.int (wt cs p))=((fewW cs N).drop k).map D.int:=by
  unfold fewW;rw[OI.mpr (by simp),←OG,MS];rfl
 rw[e6];unfold rowF;generalize (fewW cs N).drop k=ws;generalize cutG cs N k=O at *;clear e6 fl gl n1 hb;refine pB λK hK _=>?_
 simp;refine rb O prD (λ_=>true) (λg=>.int (g.2+1)) ?_;simp[prD];have fo:O.filter (λ_=>true)=O:=OI.mpr (by simp);rw[vg _ (by omega),fo];refine⟨by omega,by rw[K7];simp;omega,hK _ ?_⟩
 have e7:(N.map D.int).take (Int.toNat 1)++O.map (λg=>D.int (g.2+1))=(N.take 1++O.map λ(g:Int×Int)=>g.2+1).map D.int:=by
  rw[MD,Qi,MS];rfl
 rw[e7];have nl:0 < N.length:=QA.mpr ne
 have l7:(N.take 1++O.map λ(g:Int×Int)=>g.2+1).length=O.length+1:=by
  rw[KJ,K7,y_];omega
 clear e7;generalize (N.take 1++O.map λ(g:Int×Int)=>g.2+1)=L at *;refine pB λK hK _=>?_
 simp[un1,negI];refine rb O prD (λ_=>true) (λg=>.int (g.1 - 1)) ?_;simp[prD];rw[Ca,fo];refine⟨by omega,by rw[L3];simp;omega,hK _ ?_⟩
 have e8:O.map (λg=>D.int (g.1 - 1))++(N.map D.int).drop ((N.map D.int).length - 1)=((O.map λ(g:Int×Int)=>g.1 - 1)++N.drop (N.length - 1)).map D.int:=by
  rw[MD,OG,MS,y_];rfl
 rw[e8]
 have l8:((O.map λ(g:Int×Int)=>g.1 - 1)++N.drop (N.length - 1)).length=O.length+1:=by
  rw[KJ,L3,y_];omega
 clear e8;generalize ((O.map λ(g:Int×Int)=>g.1 - 1)++N.drop (N.length - 1))=M at *;simp[flR];rw[pL (rX ws)];simp;rw[pL (FQ (by omega) (by omega))];simp;rw[pL (DV 0 ws)];simp[fin]
section
variable{QS:Fl->Gm->Prop}{QB:Bool->Gm->Prop}{QL:List D->Gm->Prop}{QK:List (Int×D)->Gm->Prop}
@[simp ↓] theorem JP{i:Nat}{g:M (List (Int×D))}:wp (setK i g) Γ QS↔wp g Γ λd ae=>i < ae.length/\QS .nx (ae.set i (some (.dic d))):=by simp[setK]
@[simp ↓] theorem JN{i:Nat}:wp (lookK i) Γ QK↔match Γ[i]? with
  | some (some (.dic aj))=>QK aj Γ
  | _=>False:=by
 unfold wp lookK
 rcases e:Γ[i]? with _ | _ | r
 ·simp
 ·simp
 ·cases r<;>simp<;>exact⟨λ⟨_,_,⟨h1,h2⟩,q⟩=>by subst h1;subst h2;exact q,λq=>⟨_,_,⟨rfl,rfl⟩,q⟩⟩
@[simp ↓] theorem Jj{i:Nat}:wp (tookK i) Γ QK↔match Γ[i]? with
  | some (some (.dic aj))=>QK aj (Γ.set i none)
  | _=>False:=by
 unfold wp tookK
 rcases e:Γ[i]? with _ | _ | r
 ·simp
 ·simp
 ·cases r<;>simp<;>exact⟨λ⟨_,_,⟨h1,h2⟩,q⟩=>by subst h1;subst h2;exact q,λq=>⟨_,_,⟨rfl,rfl⟩,q⟩⟩
@[simp ↓] theorem Kb{i:Nat}{F:List (Int×D)->Option (List (Int×D))}:wp (wrK i F) Γ QS↔match Γ[i]? with
  | some (some (.dic aj))=>∃es,F aj=some es/\QS .nx (Γ.set i (some (.dic es)))
  | _=>False:=by
 unfold wp wrK
 rcases e:Γ[i]? with _ | _ | r
 ·simp
 ·simp
 ·cases r with
  | dic aj =>
   rcases he:F aj with _ | es
   ·simp[he]
   ·simp[he];exact⟨λ⟨_,_,⟨h1,h2⟩,q⟩=>by subst h1;subst h2;exact q,λq=>⟨_,_,⟨rfl,rfl⟩,q⟩⟩
  | _=>simp
@[simp ↓] theorem J4{i:Nat}:wp (retK i) Γ QS↔wp (tookK i) Γ λd ae=>QS (.rt (.dic d)) ae:=by simp only[retK,pP,qU]
@[simp ↓] theorem JV{i:Nat}:wp (putG i gk gv) Γ QS↔wp gv Γ λd ae=>wp (lookK i) ae λ_ aq=>wp gk aq λn aP=>wp (wrK i (putGF n d)) aP QS:=by simp only[putG,pP]
@[simp ↓] theorem Jg:wp dlit0 Γ QK↔QK [] Γ:=by simp only[dlit0,qU]
end
theorem EN{g:List R->Option (R×List R)}{d:List (Int×D)}(h:wpF g (ds.map .val) λr _=>r=.dic d):ckF g ds=some d:=by
 obtain⟨r,a8,e,rfl⟩:=h;unfold ckF;rw[e]
noncomputable def addN(ao:List Int)(x:Int):List Int:=if x∈ao then ao else ao++[x]
noncomputable def hadL(l:List Int):List Int:=l.foldl addN []
theorem zJ(l:List Int)(x:Int):hadL (l++[x])=addN (hadL l) x:=by
 unfold hadL;rw[Oq];rfl
theorem EQ{P:List Int->Prop}(h0:P [])(hs:∀l x,P l->P (l++[x]))(l:List Int):P l:=by
 have key:∀m:List Int,P m.reverse:=by
  intro m
  induction m with
  | nil=>exact h0
  | cons x m ih=>rw[Oj];exact hs _ _ ih
 have:=key l.reverse
 rwa [Qk] at this
theorem ur(l:List Int):(hadL l).Nodup/\(hadL l).length<=l.length/\(∀x,x∈hadL l↔x∈l)/\(l.Nodup->hadL l=l):=by
 induction l using EQ with
 | h0=>exact⟨List.nodup_nil,B_ _,λx=>Iff.rfl,λ_=>rfl⟩
 | hs l x ih =>
  obtain⟨h1,h2,h3,h4⟩:=ih;rw[zJ];unfold addN;by_cases c:x∈hadL l
  ·rw[if_pos c];refine⟨h1,by simp;omega,λy=>?_,λnd=>?_⟩
   ·rw[h3,Lg,A_];exact⟨.inl,λz=>z.elim id λe=>by subst e;exact(h3 _).mp c⟩
   ·have:=(OW.mp nd).2.2 x ((h3 x).mp c) x (by simp);exact absurd rfl this
  ·rw[if_neg c];refine⟨OW.mpr ⟨h1,by simp,λa ha b hb e=>?_⟩,by simp;omega,λy=>?_,λnd=>?_⟩
   ·rw[A_] at hb;subst e;subst hb;exact c ha
   ·rw[Lg,Lg,h3]
   ·rw[h4 (OW.mp nd).1]
noncomputable def tabL(l:List Int):List (Int×D):=l.map λx=>(x,.bl true)
theorem xq(k:Int):∀l:List Int,(valD (tabL l) k).isSome=decide (k∈l)
 | []=>rfl
 | x::l=>by
  show(valD ((x,D.bl true)::tabL l) k).isSome=_;rw[valD];by_cases e:x=k
  ·rw[if_pos e];simp[e]
  ·rw[if_neg e,xq k l];have:¬k=x:=λz=>e z.symm
   simp[this]
theorem BR(k:Int)(h:l.length < 1000000):putGF (.int k) (.bl true) (tabL l)=some (tabL (addN l k)):=by
 unfold putGF;dsimp only;rw[if_pos (by unfold tabL lim;simpa using h),xq];unfold addN;by_cases c:k∈l
 ·rw[if_pos c,if_pos (by simpa using c)];unfold tabL;rw[MS];refine congrArg _ (OH λx _=>?_);show(if x=k then(x,D.bl true) else(x,D.bl true))=_;split<;>rfl
 ·rw[if_neg c,if_neg (by simpa using c)];unfold tabL;rw[MD];rfl
theorem wd(l:List Int):(tabL l).map (·.1)=l:=by
 unfold tabL;rw[MS];exact List.map_id _
noncomputable def cAt(cs:List Int)(x:Int):Int:=cs.getD x.toNat 0
theorem xM{g:Int×Int}(h1:0<=g.1)(h2:g.1<=g.2)(h3:g.2 < cs.length):((span g).map (cAt cs)).sum=wt cs g:=by
 rw[FI h1 (by omega) h3];refine congrArg sum (OO ?_ λi hi hj=>?_)
 ·unfold span;simp;omega
 ·unfold span at hi;simp at hi;simp only[span,N0,OZ,OR,PH];unfold cAt;have e:(g.1+(i:Int)).toNat=g.1.toNat+i:=by omega
  rw[e,q_,i_ (by omega)];rfl
def Gd(n:Int)(N:List Int):Prop:=Up N/\∀x∈N,0<=x/\x < n
noncomputable def inN(N:List Int)(x:Int):Bool:=decide (x∈N)
theorem II{a:Int}{row t u:List (Int×Int)}(h:Gd cs.length (a::l))(j:Jn a a l row t u):sumN (inN (a::l)) (cAt cs) (row.flatMap span)=(u.map (wt cs)).sum:=by
 obtain⟨up,rg⟩:=h;have ga:=tL up;have gb:=uM (n:=cs.length) λx hx=>(rg x hx).2
 rw[j.sum (KN a) (λx hx=>by unfold inN;simpa using hx) (λg hg x hx=>by unfold inN;simpa using(ga g hg).2.2 x hx),rK,uk (by unfold inN;simp),Int.zero_add];refine congrArg sum (OH λg hg=>?_);have hg:g∈gapsL (a::l):=j.perm.mem_iff.mp (KW _ hg);have a0:=(rg a g_).1;have:=ga g hg;exact xM (by omega) this.2.1 (gb g hg)
theorem xb(u:Up N)(hs:∀x∈T,x∈gapsL N)(nd:T.Nodup):((gapsL N).filter λg=>decide (g∈T)).Perm T:=by
 have n1:((gapsL N).filter λg=>decide (g∈T)).Nodup:=(vp (sn u)).sublist Qz;refine u6 _ _ n1 (λx hx=>by simpa using(Pn.mp hx).2) ?_;exact Ak _ _ nd λx hx=>Pn.mpr ⟨hs x hx,by simpa using hx⟩
theorem yA(cs N:List Int)(k:Nat):∀x∈(falL cs N).take k,x∈gapsL N:=λx hx=>(qT cs N).mem_iff.mp (Lo hx)
theorem xp(u:Up N)(k:Nat):((falL cs N).take k).Nodup:=((qT cs N).nodup_iff.mpr (vp (sn u))).sublist (Po _ _)
theorem Gh(l:List Int)(h:l≠[]):l.drop (l.length - 1)=[l.getLast h]:=by
 have:0 < l.length:=QA.mpr h;rw[KC (by omega),List.getLast_eq_getElem,Mv (by omega)]
theorem vV{a:Int}(u:Up (a::l))(k:Nat):Jn a a l (rowF cs (a::l) k) (cutG cs (a::l) k) ((gapsL (a::l)).filter λg=>!decide (g∈(falL cs (a::l)).take k)):=by
 have j:=uh (λg=>decide (g∈(falL cs (a::l)).take k)) a u;have e:(a::l).drop ((a::l).length - 1)=[(a::l).getLast (by simp)]:=Gh _ _;unfold rowF;rw[e];exact j
theorem Cz{a:Int}(h:Gd cs.length (a::l))(k:Nat):sumN (inN (a::l)) (cAt cs) ((rowF cs (a::l) k).flatMap span)=((fewW cs (a::l)).drop k).sum:=by
 have j:=vV (cs:=cs) h.1 k;rw[II h j];have s1:=uq (j.perm.map (wt cs));have s2:=uq ((qT cs (a::l)).map (wt cs));have s3:((cutG cs (a::l) k).map (wt cs)).sum=(((falL cs (a::l)).take k).map (wt cs)).sum:=uq ((xb h.1 (yA cs _ k) (xp h.1 k)).map (wt cs))
 have s4:((falL cs (a::l)).map (wt cs)).sum=(((falL cs (a::l)).take k).map (wt cs)).sum+((fewW cs (a::l)).drop k).sum:=by
  unfold fewW;rw[←OG,←PK,←MD,Li]
 rw[MD,PK,s3] at s1;omega
theorem BE{a:Int}(u:Up (a::l))(k:Nat):(rowF cs (a::l) k).length<=k+1:=by
 rw[(vV (cs:=cs) u k).len];have:=(xb u (yA cs _ k) (xp (cs:=cs) u k)).length_eq;have h2:(cutG cs (a::l) k).length=((falL cs (a::l)).take k).length:=this;rw[h2,K7];omega
theorem Hw{n a:Int}{row t u:List (Int×Int)}(h:Gd n (a::l))(j:Jn a a l row t u):RowUp n (-1) row:=
 (j.row (n:=n) (KN a) λx hx=>(h.2 x hx).2).low (by have:=(h.2 a g_).1;omega)
theorem Av{n:Int}(hn:n<=1000):∀{ss:List (Int×Int)}{a:Int},-1<=a->RowUp n a ss->∀p∈ss,SOk p
 | q::ss,a,ha,h,p,hp=>by
  obtain⟨h1,h2,h3,h4⟩:=h
  rcases m_.mp hp with z | z
  ·subst z;exact⟨by omega,by omega,by omega,by omega⟩
  ·exact Av hn (a:=q.2) (by omega) h4 p z
theorem Iw{n a:Int}(h:RowUp n a ss):nums ss=ss.flatMap span:=su (sF _) h.up.1 λx=>q5
theorem FH{n:Int}(h:Gd n N)(hn:n<=100):N.length<=100:=by
 have:=wv (n:=n) (a:=0) h.1 h.2;omega
theorem yh{n:Int}(h:Gd n N)(hn:n<=100):(gapsL N).length < 64:=by
 cases N with
 | nil=>simp[gapsL]
 | cons a l =>
  have:=xY (n:=n) h.1 λx hx=>(h.2 x hx).2
  have:=(h.2 a g_).1;omega
theorem yP(cs N:List Int):Falls (fewW cs N):=Gq _ _ _
theorem F'(h:∀x∈cs,0<=x)(p:Int×Int):0<=wt cs p:=uy λx hx=>h x (Lv (Lo hx))
theorem Ek(h:∀x∈cs,0<=x)(N:List Int):∀x∈fewW cs N,0<=x:=λx hx=>by
 obtain⟨g,_,rfl⟩:=LS.mp hx;exact F' h g
theorem Ht(h:∀x∈cs,0<=x)(N:List Int)(k:Nat):markB cs (gapsL N) (k+1) ((fewW cs N).drop k).sum (maxI 0 ((fewW cs N).drop k))=true:=by
 obtain⟨h1,h2⟩:=Cr (yP cs N) (Ek h N) k;unfold markB;generalize maxI 0 ((fewW cs N).drop k)=m at *
 have e:((gapsL N).map λp=>mn (wt cs p) m).sum=((fewW cs N).map (mn · m)).sum:=by
  unfold fewW;rw[MS];exact(uq ((qT cs N).map _)).symm
 rw[e,show((k:Int)+1 - 1)=k by omega,h2];simp[h1]
theorem at_c{x:Int}(h0:0<=x)(h1:x < cs.length):atI (cs.map D.int) x=some (.int (cAt cs x)):=by
 obtain⟨j,rfl⟩:∃j:Nat,x=j:=⟨x.toNat,by omega⟩;rw[qS,E_];unfold cAt;rw[Nf,q_,i_ (by omega)];rfl
theorem vq(hb:∀p∈ss,SOk p)(hl:ss.length<=100):ckF ra [.lst (ss.map prD)]=some (tabL (hadL (ss.flatMap span))):=by
 refine EN ?_;unfold ra;refine qX rfl ?_;rw[vU];refine pB λK hK _=>?_
 simp;refine hK _ ?_;refine qb (λae=>∃x y z,ae=[some (.val (.lst (ss.map prD))),some (.dic (tabL (hadL (ss.flatMap span)))),x,y,z]) (λK hK _=>?_) ?_
 ·simp;refine qL (J:=λi Γ=>∃x y z,Γ=[some (.val (.lst (ss.map prD))),some (.dic (tabL (hadL ((ss.take i).flatMap span)))),x,y,z]) ⟨none,none,none,rfl⟩ ?_ ?_
  ·rintro i d Γ hd ⟨x,y,z,rfl⟩;rw[E_,Mq] at hd;obtain⟨p,e1,rfl⟩:=hd;have ok:=hb p (LB e1);obtain⟨h1,h2,h3,h4⟩:=id ok
   have tk:(ss.take (i+1)).flatMap span=(ss.take i).flatMap span++span p:=by
    rw[MR,e1,Qy];simp
   have fl:=ul (ss:=ss.take i) λq hq=>hb q (Lo hq)
   have tl:(ss.take i).length<=100:=by rw[K7];omega
   have sl:=u4 ok;rw[tk];generalize (ss.take i).flatMap span=A at *;simp[prD];rw[uf];refine⟨⟨⟨by omega,by omega⟩,by omega,by omega⟩,?_⟩;refine qL (J:=λj Γ=>∃z,Γ=[some (.val (.lst (ss.map prD))),some (.dic (tabL (hadL (A++(span p).take j)))),some (.val (.int p.1)),some (.val (.int p.2)),z]) ⟨z,by simp⟩ ?_ ?_
   ·rintro j d Γ hd ⟨z,rfl⟩;rw[E_,Mq] at hd;obtain⟨n,e2,rfl⟩:=hd
    have t2:A++(span p).take (j+1)=A++(span p).take j++[n]:=by
     rw[MR,e2];simp
    have ln:=(ur (A++(span p).take j)).2.1;rw[KJ,K7] at ln;simp;rw[BR n (by omega),t2,zJ]
   ·rintro Γ ⟨z,rfl⟩;rw[y_,N6];exact⟨_,_,_,rfl⟩
  ·rintro Γ ⟨x,y,z,rfl⟩;refine hK _ ⟨x,y,z,?_⟩;rw[y_,N6]
 ·rintro ae ⟨x,y,z,rfl⟩;simp[flR,fin]
theorem zx(xs:List D)(x:D):deq (.lst (xs++[x])) (.lst [])=false:=by
 cases xs<;>simp[deq,deqA]
@[simp] theorem vN{α:Type}{a b c d:α}{ds:List α}:atI (a::b::c::d::ds) 3=some d:=by
 rw[show(3:Int)=((3:Nat):Int) from rfl,DL.qS];rfl
@[simp] theorem GK{α:Type}{a b c d e:α}{ds:List α}:atI (a::b::c::d::e::ds) 4=some e:=by
 rw[show(4:Int)=((4:Nat):Int) from rfl,DL.qS];rfl
theorem HR{QL:List D->Gm->Prop}(J:Nat->List D->Gm->Prop)(h:wp it Γ λds ae=>ds.length<=lim/\J 0 [] ae/\(∀(i:Nat) d ao a aq,ds[i]?=some d->J i ao aq->wp (aE d) (a::aq) λ_ aP=>wp ts aP λb bn=>b=true/\wp el bn λx gr=>∃a' gw,gr=a'::gw/\J (i+1) (ao++[x]) gw)/\∀ao aq,J ds.length ao aq->QL ao aq):wp (compO 1 it aE ts el) Γ QL:=by
 unfold compO;rw[pP];refine h.mono λds ae ⟨hl,h0,hs,hq⟩=>?_
 rw[if_pos hl]
 have key:∀(es:List D) (i:Nat) (ao:List D) (a:Option R) (aq:Gm),ds.drop i=es->i<=ds.length->J i ao aq->∃r a' cU,compM aE ts el es (a::aq)=some (r,a'::cU)/\J ds.length (ao++r) cU:=by
  intro es
  induction es with
  | nil =>
   intro i ao a aq hd hi hj
   have:i=ds.length:=by
    have:=P_.mp hd;omega
   subst this;exact⟨[],a,aq,rfl,by simpa using hj⟩
  | cons d es ih =>
   intro i ao a aq hd hi hj
   have bH:i < ds.length:=by
    rcases MW i ds.length with z | z
    ·exact z
    ·rw[LN z] at hd;cases hd
   have e1:ds[i]?=some d:=by
    have:=KC bH;rw[hd] at this;cases this;exact i_ bH
   have e2:ds.drop (i+1)=es:=by
    have:=KC bH;rw[hd] at this;injection this with _ q
    exact q.symm
   obtain⟨_,aP,g1,b,bn,g2,rfl,x,gr,g3,a',gw,rfl,jG⟩:=hs i d ao a aq e1 hj;obtain⟨r,oI,cU,g4,mK⟩:=ih (i+1) (ao++[x]) a' gw e2 bH jG;refine⟨x::r,oI,cU,?_,by simpa using mK⟩;rw[compM];unfold bnd;rw[g1];dsimp only;rw[g2];dsimp only;rw[if_pos rfl];rw[g3];dsimp only;rw[g4];rfl
 obtain⟨r,a',cU,e,hj⟩:=key ds 0 [] none ae rfl (K' _) h0;refine⟨r,cU,?_,hq r cU (by simpa using hj)⟩;have e':compM aE ts el ds (Lh 1 none++ae)=some (r,a'::cU):=e;unfold inC;rw[e'];rfl
theorem vi:∀ss:List (Int×Int),depA (ss.map prD)<=1
 | []=>by simp[depA]
 | p::ss=>by
  have:=vi ss;rw[KB,depA];have e:dep (prD p)=1:=by simp[prD,dep,depA]
  omega
theorem Em{Q:R->List D->Prop}(hc:PotOk c)(k:∀(cs:List Int) c',1<=cs.length->cs.length<=100->(∀x∈cs,0<=x)->(∀x∈cs,x<=10 ^ 57)->PotOk c'->Q (.own (cs.map D.int)) c'):wpB um c [] Q:=by
 refine wF rfl λKE hE _=>?_
 rw[vP];refine qb (λae=>∃c n,PotOk c/\1<=n/\n<=100/\ae=[some (.bor c),some (.val (.int n)),none]) (λK hK _=>?_) ?_
 ·simp[isMut,R.mut];refine qa hc (by omega) (by omega) λa c a1 a2 hc=>?_
  simp[isMut,R.mut];refine qa hc (by omega) (by omega) λb c b1 b2 hc=>?_
  simp[isMut,R.mut];refine qa hc (by omega) (by omega) λi c i1 i2 hc=>?_
  have:i=0\/i=1\/i=2\/i=3:=by omega
  rcases this with rfl | rfl | rfl | rfl<;>simp[vN]<;>exact hK _ ⟨c,_,hc,by omega,by omega,rfl⟩
 rintro ae ⟨c,n,hc,n1,n2,rfl⟩;refine qb (λae=>∃c t,PotOk c/\1<=t/\t<=10 ^ 56/\ae=[some (.bor c),some (.val (.int n)),some (.val (.int t))]) (λK hK _=>?_) ?_
 ·simp[isMut,R.mut];refine qa hc (by omega) (by omega) λi c i1 i2 hc=>?_
  have:i=0\/i=1\/i=2\/i=3:=by omega
  rcases this with rfl | rfl | rfl | rfl<;>simp[vN]<;>exact hK _ ⟨c,_,hc,by omega,by omega,rfl⟩
 rintro ae ⟨c,t,hc,t1,t2,rfl⟩;simp
 have it:wp (fn1 rngI1 (consA (nm 1) nilA)) [some (.bor c),some (.val (.int n)),some (.val (.int t))] λds ae=>ds=rngD 0 n.toNat/\ae=[some (.bor c),some (.val (.int n)),some (.val (.int t))]:=by
  simp;omega
 have ln:(rngD 0 n.toNat).length=n.toNat:=by unfold rngD;simp
 refine HR (λi ao Γ=>∃(c:List D) (xs:List Int),PotOk c/\xs.length=i/\(∀x∈xs,0<=x/\x<=10 ^ 57)/\ao=xs.map D.int/\Γ=[some (.bor c),some (.val (.int n)),some (.val (.int t))]) (it.mono ?_);rintro ds ae ⟨rfl,rfl⟩;refine⟨by rw[ln];unfold lim;omega,⟨c,[],hc,rfl,by simp,rfl,rfl⟩,?_,?_⟩
 ·rintro i d ao a aq hd ⟨c,xs,hc,hi,h0,rfl,rfl⟩;refine⟨(),_,rfl,?_⟩;show wp _ [some (.val d),some (.bor c),some (.val (.int n)),some (.val (.int t))] _;simp[isMut,R.mut];refine qa hc (by omega) (by omega) λa c a1 a2 hc=>?_
  simp[isMut,R.mut];refine qa hc (by omega) (by omega) λb c b1 b2 hc=>?_
  simp;refine⟨by omega,_,_,⟨rfl,rfl⟩,c,hc,xs++[a*b],by simp[hi],λx hx=>?_,by simp,rfl⟩
  rcases Lg.mp hx with z | z
  ·exact h0 x z
  ·rw[A_.mp z];refine⟨Int.mul_nonneg a1 b1,?_⟩;have:=Int.mul_le_mul (show a<=9 by omega) (show b<=10 ^ 56 by omega) b1 (by decide);omega
 ·rintro ao aq ⟨c,xs,hc,hi,h0,rfl,rfl⟩;rw[ln] at hi;exact hE _ _ _ ⟨_,rfl⟩ (k xs c (by omega) (by omega) (λx hx=>(h0 x hx).1) (λx hx=>(h0 x hx).2) hc)
def StOk(n:Int)(p:Int×Int):Prop:=0<=p.1/\p.1<=p.2/\p.2 < n
theorem CQ{n:Int}{Q:R->List D->Prop}(hc:PotOk c)(n1:1<=n)(n2:n<=100)(k:∀(ss:List (Int×Int)) c',1<=ss.length->ss.length<=12->(∀p∈ss,StOk n p)->PotOk c'->Q (.val (.lst (ss.map prD))) c'):wpB uN c [.int n] Q:=by
 refine wF rfl λKE hE _=>?_
 rw[vZ];refine pB λK hK _=>?_
 simp;refine hK _ ?_;refine pB λK hK _=>?_
 simp[isMut,R.mut];refine qa hc (by omega) (by omega) λm c m1 m2 hc=>?_
 simp;refine⟨by omega,?_⟩;refine qL (J:=λi Γ=>∃(c:List D) (ss:List (Int×Int)) (x y z:Option R),PotOk c/\ss.length=i/\(∀p∈ss,StOk n p)/\Γ=[some (.bor c),some (.val (.int n)),some (.own (ss.map prD)),x,y,z]) ⟨c,[],none,none,none,hc,rfl,by simp,rfl⟩ ?_ ?_
 ·rintro i d Γ hd ⟨c,ss,x,y,z,hc,hi,hs,rfl⟩
  have il:i < 12:=by
   have:=D_.mp hd;obtain⟨h,_⟩:=this;unfold rngD at h;simp at h;omega
  refine⟨(),_,rfl,?_⟩;show wp _ [some (.bor c),some (.val (.int n)),some (.own (ss.map prD)),some (.val d),y,z] _;refine qb (λae=>∃c a,PotOk c/\0<=a/\a < n/\ae=[some (.bor c),some (.val (.int n)),some (.own (ss.map prD)),some (.val d),some (.val (.int a)),z]) (λK hK _=>?_) ?_
  ·simp[isMut,R.mut];refine qa hc (by omega) (by omega) λa c a1 a2 hc=>?_
   simp;exact hK _ ⟨c,a,hc,a1,a2,rfl⟩
  rintro ae ⟨c,a,hc,a1,a2,rfl⟩;refine qb (λae=>∃c a,PotOk c/\0<=a/\a < n/\ae=[some (.bor c),some (.val (.int n)),some (.own (ss.map prD)),some (.val d),some (.val (.int a)),z]) (λK hK _=>?_) ?_
  ·rcases List.eq_nil_or_concat ss with rfl | ⟨ke,p,rfl⟩
   ·simp[isMut,R.mut,DL.vA,dep,depA];exact hK _ ⟨c,a,hc,a1,a2,rfl⟩
   ·have hp:=hs p (by simp);unfold StOk at hp;have d0:depA []<=99:=by simp[depA]
    have e:(ke.concat p).map prD=ke.map prD++[prD p]:=by simp
    rw[e] at hK ⊢;have d1:=vi (ke.concat p);rw[e] at d1;simp[isMut,R.mut,zx,dep,d0];refine⟨by omega,qa hc (by omega) (by omega) λb c b1 b2 hc=>?_⟩;simp;by_cases b0:b=0
    ·simp[b0,isMut,R.mut,un1,negI,Hr,prD];refine qa hc (by omega) (by omega) λe c e1 e2 hc=>?_
     simp;exact hK _ ⟨c,_,hc,by omega,by omega,rfl⟩
    ·simp[b0];exact hK _ ⟨c,a,hc,a1,a2,rfl⟩
  rintro ae ⟨c,a,hc,a1,a2,rfl⟩;refine qb (λae=>∃c b,PotOk c/\a<=b/\b < n/\ae=[some (.bor c),some (.val (.int n)),some (.own (ss.map prD)),some (.val d),some (.val (.int a)),some (.val (.int b))]) (λK hK _=>?_) ?_
  ·simp[isMut,R.mut];refine qa hc (by omega) (by omega) λe c e1 e2 hc=>?_
   simp[isMut,R.mut];refine qa hc (by omega) (by omega) λb c b1 b2 hc=>?_
   have:b=0\/b=1\/b=2\/b=3\/b=4:=by omega
   rcases this with rfl | rfl | rfl | rfl | rfl<;>simp[vN,GK]<;>exact hK _ ⟨c,_,hc,by omega,by omega,rfl⟩
  rintro ae ⟨c,b,hc,b1,b2,rfl⟩;simp[isMut,R.mut];refine⟨by omega,c,hc,ss++[(a,b)],by simp[hi],λu v hx=>?_,rfl,by simp[prD]⟩
  rcases Lg.mp hx with z | z
  ·exact hs _ z
  ·rw[A_.mp z];exact⟨a1,b1,b2⟩
 ·rintro Γ ⟨c,ss,x,y,z,hc,hi,hs,rfl⟩;have ln:(rngD 0 (1+m).toNat).length=(1+m).toNat:=by unfold rngD;simp
  rw[ln] at hi;refine hK _ ?_;simp;exact hE _ _ _ ⟨_,rfl⟩ (k ss c (by omega) (by omega) hs hc)
theorem CV(cs N:List Int):(fewW cs N).length=(gapsL N).length:=by
 unfold fewW;rw[y_];exact(qT cs N).length_eq
theorem Dg{n:Int}(h:∀p∈ss,StOk n p):Gd n (nums ss):=by
 refine⟨sF _,λx hx=>?_⟩;unfold nums at hx;rw[q5,List.mem_flatMap] at hx;obtain⟨p,hp,hx⟩:=hx;have:=h p hp;unfold StOk at this;have:=pY.mp hx;omega
theorem Fb{n:Int}(h:∀p∈ss,StOk n p)(h1:1<=ss.length):∃a l,nums ss=a::l:=by
 cases ss with
 | nil=>simp at h1
 | cons p ss =>
  have:p.1∈nums (p::ss):=by
   unfold nums;rw[q5,List.mem_flatMap];refine⟨p,by simp,pY.mpr ?_⟩;have:=h p (by simp);unfold StOk at this;omega
  cases e:nums (p::ss) with
  | nil=>rw[e] at this;cases this
  | cons a l=>exact⟨a,l,rfl⟩
theorem F5{n:Int}(hn:n<=100){p:Int×Int}(h:StOk n p):SOk p:=by
 unfold StOk at h;exact⟨by omega,by omega,by omega,by omega⟩
theorem RowUp.few{n:Int}:∀{ss:List (Int×Int)}{a:Int},RowUp n a ss->a < n->a+ss.length < n
 | [],a,_,h=>by simpa using h
 | p::ss,a,⟨h1,h2,h3,h4⟩,_=>by
  have:=RowUp.few h4 h3;rw[Lc];omega
noncomputable def badB(n:Int)(p:Int×Int):Bool:=decide (p.1 < 0)||(decide (p.2 < p.1)||decide (n<=p.2))
noncomputable def touB(q:(Int×Int)×(Int×Int)):Bool:=decide (q.2.1<=q.1.2)
theorem wc{n:Int}:∀{ss:List (Int×Int)}{a:Int},-1<=a->(RowUp n a ss↔(∀p∈ss,badB n p=false)/\(∀q∈ss.zip (ss.drop 1),touB q=false)/\∀p r,ss=p::r->a < p.1)
 | [],a,_=>by simp[RowUp]
 | p::ss,a,ha=>by
  constructor
  ·rintro⟨h1,h2,h3,h4⟩;obtain⟨i1,i2,i3⟩:=(wc (a:=p.2) (by omega)).mp h4;refine⟨λx hx=>?_,λx hx=>?_,λp' r e=>by cases e;exact h1⟩
   ·rcases m_.mp hx with rfl | hx
    ·unfold badB;simp;omega
    ·exact i1 x hx
   ·cases ss with
    | nil=>simp at hx
    | cons q ss =>
     rw[Qj,tail_cons,NS] at hx
     rcases m_.mp hx with rfl | hx
     ·have:=i3 q ss rfl;unfold touB;simp;omega
     ·exact i2 x (by simpa using hx)
  ·rintro⟨b1,b2,b3⟩;have hp:=b1 p g_;unfold badB at hp;simp at hp;refine⟨b3 p ss rfl,by omega,by omega,(wc (a:=p.2) (by omega)).mpr ⟨λx hx=>b1 x (j_ _ hx),λx hx=>b2 x ?_,λq r e=>?_⟩⟩
   ·cases ss with
    | nil=>simp at hx
    | cons q ss =>
     rw[Qj,tail_cons] at hx ⊢;rw[NS];exact j_ _ hx
   ·subst e;have:=b2 (p,q) (by rw[Qj,tail_cons,NS];exact g_);unfold touB at this;simpa using this
theorem CH{n:Int}:RowUp n (-1) ss↔ss.filter (badB n)=[]/\(ss.zip (ss.drop 1)).filter touB=[]:=by
 rw[wc (KN _),NG,NG];constructor
 ·rintro⟨h1,h2,_⟩;exact⟨λp hp=>by rw[h1 p hp];decide,λq hq=>by rw[h2 q hq];decide⟩
 ·rintro⟨h1,h2⟩;refine⟨λp hp=>Rx.mpr (h1 p hp),λq hq=>Rx.mpr (h2 q hq),λp r e=>?_⟩;have:=h1 p (by rw[e];exact g_);unfold badB at this;simp at this;omega
noncomputable def gst(P:Int->Bool)(f:Int->Int)(st:List Int×Option Int)(x:Int):List Int×Option Int:=
 if P x=true then(match st.2 with
  | some w=>(st.1++[w],none)
  | none=>(st.1,none)) else(st.1,some (match st.2 with
  | none=>f x
  | some w=>w+f x))
theorem xo{P:Int->Bool}{f:Int->Int}:∀(xs:List Int) (F:List Int) (w:Int),(∀x∈xs,P x=false)->xs.foldl (gst P f) (F,some w)=(F,some (w+(xs.map f).sum))
 | [],F,w,_=>by simp
 | x::xs,F,w,h=>by
  have e:gst P f (F,some w) x=(F,some (w+f x)):=by
   unfold gst;rw[if_neg (by rw[h x g_];decide)]
  rw[Mk,e,xo xs F _ λy hy=>h y (j_ _ hy),KB,Nj,Int.add_assoc]
theorem Gg{P:Int->Bool}{f:Int->Int}{x:Int}{xs:List Int}{F:List Int}(h:∀y∈x::xs,P y=false):(x::xs).foldl (gst P f) (F,none)=(F,some ((x::xs).map f).sum):=by
 have e:gst P f (F,none) x=(F,some (f x)):=by
  unfold gst;rw[if_neg (by rw[h x g_];decide)]
 rw[Mk,e,xo xs F _ λy hy=>h y (j_ _ hy),KB,Nj]
theorem uG{P:Int->Bool}{f:Int->Int}{x:Int}{F:List Int}(h:P x=true):gst P f (F,none) x=(F,none):=by
 unfold gst;rw[if_pos h]
theorem AT{P:Int->Bool}{f:Int->Int}{x w:Int}{F:List Int}(h:P x=true):gst P f (F,some w) x=(F++[w],none):=by
 unfold gst;rw[if_pos h]
theorem Ho{P:Int->Bool}{f:Int->Int}{x:Int}{F:List Int}(h:P x=false):gst P f (F,none) x=(F,some (f x)):=by
 unfold gst;rw[if_neg (by rw[h];decide)]
theorem Fk{P:Int->Bool}{f:Int->Int}{x w:Int}{F:List Int}(h:P x=false):gst P f (F,some w) x=(F,some (w+f x)):=by
 unfold gst;rw[if_neg (by rw[h];decide)]
theorem vY:∀{l:List Int}{a:Int},Up (a::l)->a<=(a::l).getLast (by simp)
 | l,a,u=>by
  have m:=List.getLast_mem (l:=a::l) (by simp)
  rcases m_.mp m with z | z
  ·rw[z];exact KN _
  ·exact Py ((G_.mp u).1 _ z)
theorem sN{a b:Int}(h:a<=b):span (a,b)=a::span (a+1,b):=by
 have:=sR (a:=a) (b:=a) (c:=b) (by omega) h;rw[rK] at this;exact this
theorem zf{P:Int->Bool}{f:Int->Int}:∀{l:List Int}{a:Int} (F:List Int),Up (a::l)->(∀x,a<=x->P x=decide (x∈a::l)) →
  (span (a,(a::l).getLast (by simp))).foldl (gst P f) (F,none)=(F++(gapsL (a::l)).map (λg=>((span g).map f).sum),none)
 | [],a,F,u,h=>by
  have ha:P a=true:=by rw[h a (KN _)];simp
  rw[List.getLast_singleton,rK,Mk,uG ha];simp[gapsL]
 | b::l,a,F,u,h=>by
  have uc:=G_.mp u;have pi:a < b:=uc.1 b g_;have mL:b<=(b::l).getLast (by simp):=vY uc.2;have ha:P a=true:=by rw[h a (KN _)];simp
  have hb:P b=true:=by rw[h b (by omega)];simp
  have h':∀x,b<=x->P x=decide (x∈b::l):=λx hx=>by
   rw[h x (by omega)];have ne:x≠a:=by omega
   simp[ne]
  have ih:∀G,(span (b,(b::l).getLast (by simp))).foldl (gst P f) (G,none)=(G++(gapsL (b::l)).map (λg=>((span g).map f).sum),none):=λG=>zf G uc.2 h'
  rw[OV (by simp),qp];generalize (b::l).getLast (by simp)=L at *;rw[sN (by omega),Mk,uG ha];by_cases g:a+1 < b
  ·rw[if_pos g,sR (a:=a+1) (b:=b - 1) (c:=L) (by omega) (by omega),Oq,Q0]
   have ak:∀y∈span (a+1,b - 1),P y=false:=λy hy=>by
    have hy:=pY.mp hy;rw[h y (by dsimp only at hy;omega)];refine decide_eq_false λz=>?_
    rcases m_.mp z with z | z
    ·dsimp only at hy;omega
    rcases m_.mp z with z | z
    ·dsimp only at hy;omega
    ·have:=(G_.mp uc.2).1 y z;dsimp only at hy;omega
   have e1:=Gg (P:=P) (f:=f) (F:=F) (x:=a+1) (xs:=span (a+1+1,b - 1)) (by rw[←sN (by omega)];exact ak);rw[←sN (by omega)] at e1;rw[e1,KB];have e2:=ih (F++[((span (a+1,b - 1)).map f).sum]);rw[sN mL,Mk,uG hb] at e2;rw[sN mL,Mk,AT hb,e2];simp
  ·rw[if_neg g];have e:a+1=b:=by omega
   rw[e];exact ih F
theorem xH{m:Int}:∀(xs:List Int) (x:Int),(m=x\/m∈xs)->(∀y∈x::xs,m<=y)->xs.foldl mi x=m
 | [],x,h,_=>by
  rcases h with h | h
  ·exact h.symm
  ·cases h
 | y::xs,x,h,hm=>by
  rw[Mk];have h1:=hm x g_;have h2:=hm y (by simp);refine xH xs _ ?_ λz hz=>?_
  ·unfold mi
   rcases h with h | h
   ·rw[if_neg (by omega)];exact .inl h
   ·rcases m_.mp h with h | h
    ·subst h;by_cases q:m < x
     ·rw[if_pos q];exact .inl rfl
     ·rw[if_neg q];exact .inl (by omega)
    ·exact .inr h
  ·rcases m_.mp hz with z' | z'
   ·subst z';unfold mi;split<;>omega
   ·exact hm z (by simp[z'])
theorem zO{m:Int}:∀(xs:List Int) (x:Int),(m=x\/m∈xs)->(∀y∈x::xs,y<=m)->xs.foldl mx x=m
 | [],x,h,_=>by
  rcases h with h | h
  ·exact h.symm
  ·cases h
 | y::xs,x,h,hm=>by
  rw[Mk];have h1:=hm x g_;have h2:=hm y (by simp);refine zO xs _ ?_ λz hz=>?_
  ·unfold mx
   rcases h with h | h
   ·rw[if_neg (by omega)];exact .inl h
   ·rcases m_.mp h with h | h
    ·subst h;by_cases q:x < m
     ·rw[if_pos q];exact .inl rfl
     ·rw[if_neg q];exact .inl (by omega)
    ·exact .inr h
  ·rcases m_.mp hz with z' | z'
   ·subst z';unfold mx;split<;>omega
   ·exact hm z (by simp[z'])
theorem F2{m:Int}(h1:m∈ns)(h2:∀x∈ns,m<=x):minI ns=m:=by
 cases ns with
 | nil=>cases h1
 | cons x xs=>exact xH xs x (m_.mp h1) h2
theorem By{m:Int}(h1:m∈ns)(h2:∀x∈ns,x<=m):maxI 0 ns=m:=by
 cases ns with
 | nil=>cases h1
 | cons x xs=>exact zO xs x (m_.mp h1) h2
theorem yd:∀{l:List Int}{a x:Int},Up (a::l)->x∈a::l->x<=(a::l).getLast (by simp)
 | [],a,x,_,h=>by
  rw[A_.mp h];exact KN _
 | b::l,a,x,u,h=>by
  have uc:=G_.mp u;rw[OV (by simp)]
  rcases m_.mp h with z | z
  ·have:=vY uc.2;have:=uc.1 b g_;omega
  ·exact yd uc.2 z
section
variable{QD:D->Gm->Prop}{QL:List D->Gm->Prop}
@[simp ↓] theorem Kv{g:M (List (Int×D))}:wp (frzK g) Γ QD↔wp g Γ λaj ae=>QD (.dct (aj.map (·.1))) ae:=by simp only[frzK,pP,qU]
@[simp ↓] theorem J6{g:M D}:wp (itDc g) Γ QL↔wp g Γ λd ae=>wp (lft (dctI d)) ae QL:=by simp only[itDc,pP]
end
@[simp] theorem JZ{k:Int}:inDF neg (.int k) (.dct ns)=some (.bl (if neg then !decide (k∈ns) else decide (k∈ns))):=rfl
@[simp] theorem JQ:dctI (.dct ns)=some (ns.map D.int):=rfl
theorem Cv(h:0 < ns.length):minKF [.dct ns]=some (.int (minI ns)):=if_pos h
theorem F7(h:0 < ns.length):maxKF [.dct ns]=some (.int (maxI 0 ns)):=if_pos h
noncomputable def wO:Option Int->D
 | none=>.non
 | some w=>.int w
theorem Aj(hN:nums ss=N)(x:Int):x∈hadL (ss.flatMap span)↔x∈N:=by
 rw[←hN];unfold nums;simp only[(ur (ss.flatMap span)).2.2.1 x,q5]
theorem An{a:Int}(hb:∀p∈ss,SOk p)(hl:ss.length<=100)(hN:nums ss=a::l)(gd:Gd cs.length (a::l))(hn:cs.length<=100):
  cvF r8 [.lst (ss.map prD),.lst (cs.map D.int)]=some (.lst (((gapsL (a::l)).map (wt cs)).map D.int)):=by
 have t1:=vq hb hl;have mem:=λx=>Aj hN x
 obtain⟨T,eT⟩:∃T,T=hadL (ss.flatMap span):=⟨_,rfl⟩;rw[←eT] at t1 mem;have a1:=gd.2 a g_;obtain⟨L,eL⟩:∃L,L=(a::l).getLast (by simp):=⟨_,rfl⟩;have Lm:L∈a::l:=by rw[eL];exact List.getLast_mem _
 have aL:a<=L:=by rw[eL];exact vY gd.1
 have L1:=gd.2 L Lm
 have lo:minI T=a:=F2 ((mem a).mpr g_) λx hx=>by
  rcases m_.mp ((mem x).mp hx) with z | z
  ·omega
  ·exact Py ((G_.mp gd.1).1 x z)
 have hi:maxI 0 T=L:=By ((mem L).mpr Lm) λx hx=>by
  have hx:=(mem x).mp hx;rw[eL];exact yd gd.1 hx
 have tl:0 < T.length:=by
  cases T with
  | nil=>have:=(mem a).mpr g_;cases this
  | cons _ _=>simp
 have all:=zf (P:=λx=>decide (x∈T)) (f:=cAt cs) [] gd.1 λx hx=>by simp only[mem x]
 rw[←eL,Pw] at all
 have ws:(gapsL (a::l)).map (λg=>((span g).map (cAt cs)).sum)=(gapsL (a::l)).map (wt cs):=by
  refine OH λg hg=>?_
  have ga:=tL gd.1 g hg;have gb:=uM (n:=cs.length) (λx hx=>(gd.2 x hx).2) g hg;exact xM (by omega) ga.2.1 gb
 rw[ws] at all;have mk:=Cv tl;have mM:=F7 tl;rw[lo] at mk;rw[hi] at mM;clear lo hi ws eL mem;generalize (gapsL (a::l)).map (wt cs)=W at *;refine uC ?_;refine sf rfl λKE hE _=>?_
 rw[wM];refine pB λK hK _=>?_
 simp;rw[pL t1];rw[wd];refine⟨by simp,hK _ ?_⟩;refine pB λK hK _=>?_
 simp;refine hK _ ?_;refine pB λK hK _=>?_
 simp;refine hK _ ?_;refine pB λK hK hR=>?_
 simp;rw[pL mk];simp;rw[pL mM];simp;have sr:=uf (a,L);dsimp only at sr;rw[sr]
 have sl:∀x∈span (a,L),0<=x/\x < (cs.length:Int):=λx hx=>by
  have:=pY.mp hx;dsimp only at this;omega
 refine⟨by omega,?_⟩;refine qL (J:=λi Γ=>∃F w x,((span (a,L)).take i).foldl (gst (λx=>decide (x∈T)) (cAt cs)) ([],none)=(F,w)/\F.length<=i/\Γ=[some (.val (.lst (ss.map prD))),some (.val (.lst (cs.map D.int))),some (.val (.dct T)),some (.own (F.map D.int)),some (.val (wO w)),x]) ⟨[],none,none,rfl,B_ _,rfl⟩ ?_ ?_
 ·rintro i d Γ hd ⟨F,w,x,e,fl,rfl⟩;rw[E_,Mq] at hd;obtain⟨n,e1,rfl⟩:=hd;have nb:=sl n (LB e1)
  have il:i < 1000:=by
   have h1:=(D_.mp e1).1;unfold span at h1;simp at h1;omega
  have tk:((span (a,L)).take (i+1)).foldl (gst (λx=>decide (x∈T)) (cAt cs)) ([],none)=gst (λx=>decide (x∈T)) (cAt cs) (F,w) n:=by
   rw[MR,e1,Option.toList_some,Oq,e];rfl
  rw[tk];have fL:=at_c nb.1 nb.2;refine⟨(),_,rfl,?_⟩;show wp _ [some (.val (.lst (ss.map prD))),some (.val (.lst (cs.map D.int))),some (.val (.dct T)),some (.own (F.map D.int)),some (.val (wO w)),some (.val (.int n))] _;by_cases hn:n∈T
  ·cases w with
   | none =>
    simp[hn,wO,isNF,isN];exact⟨F,none,uG (by simpa using hn),by omega,rfl,rfl⟩
   | some v =>
    simp[hn,wO,isNF,isN,isMut,R.mut];refine pB λK1 dD _=>?_
    simp[isMut,R.mut];refine⟨by omega,dD _ ?_⟩;simp;exact⟨F++[v],none,AT (by simpa using hn),by rw[KJ];exact Nat.succ_le_succ fl,by simp,rfl⟩
  ·cases w with
   | none =>
    simp[hn,wO,isNF,isN,fL];exact⟨F,some (cAt cs n),Ho (by simpa using hn),by omega,rfl,rfl⟩
   | some v =>
    simp[hn,wO,isNF,isN,fL];exact⟨F,some (v+cAt cs n),Fk (by simpa using hn),by omega,rfl,rfl⟩
 ·rintro Γ ⟨F,w,x,e,fl,rfl⟩;rw[y_,N6,all] at e;cases e;refine hK _ ?_;simp;exact hE _ _ ⟨_,rfl,rfl⟩
noncomputable def thD(w:Int)(row:List (Int×Int))(m:Int):D:=.tup [.int w,.lst (row.map prD),.int m]
structure Row(cs:List Int)(row:List (Int×Int)):Prop where
 ok:∀p∈row,SOk p
 few:row.length<=100
 mem:∀x∈row.flatMap span,0<=x/\x < (cs.length:Int)
 len:(row.flatMap span).length<=100
 nums:nums row=row.flatMap span
 nd:(row.flatMap span).Nodup
theorem zW{row:List (Int×Int)}(hn:cs.length<=100)(h0:1<=cs.length)(ru:RowUp cs.length (-1) row):Row cs row:=by
 have hu:=ru.up;have hm:∀x∈row.flatMap span,0<=x/\x < (cs.length:Int):=λx hx=>by have:=hu.2 x hx;omega
 refine⟨Av (n:=cs.length) (by omega) (KN _) ru,?_,hm,?_,Iw ru,hu.1.imp λh e=>by rw[e] at h;omega⟩
 ·have:=ru.few (by omega);omega
 ·have:=wv (n:=cs.length) (a:=0) hu.1 hm;omega
theorem cut1P(l:List (Int×Int)):cutD (l.map prD) (some 1) none=(l.drop 1).map prD:=by
 unfold cutD;rw[y_,OG];cases l with
 | nil=>simp[HT.sIx]
 | cons a l =>
  simp[HT.sIx];exact K3 (by simp)
theorem ER(l m:List (Int×Int)):pairsD (l.map prD) (m.map prD)=(l.zip m).map λp=>D.tup [prD p.1,prD p.2]:=by
 unfold pairsD;rw[List.zip_map,MS];rfl
theorem HS{α:Type}(l:List α):depA (l.map λ_=>D.int 1)=0:=by
 induction l with
 | nil=>rfl
 | cons x l ih=>rw[KB,depA,ih];rfl
theorem As{c:M Bool}{A h:M Fl}{QS:Fl->Gm->Prop}(e:c Γ=some (false,Γ))(hh:wp h Γ QS):wp (seqS (ifS c A (ret .nx)) h) Γ QS:=
 pB λK hK hR=>⟨.nx,Γ,by simp[ifS,bnd,e,ret],hK _ hh⟩
theorem wg{i:Nat}{g:M D}{h:M Fl}{QS:Fl->Gm->Prop}(e:g Γ=some (d,Γ))(hi:Nat.blt i Γ.length=true)(hh:wp h (Γ.set i (some (.val d))) QS):wp (seqS (setV i g) h) Γ QS:=
 pB λK hK hR=>⟨.nx,_,by have bY:i < Γ.length:=PZ hi;simp[setV,bnd,e,putS,ret,bY],hK _ hh⟩
theorem wpE{α:Type}{g:M α}{d:α}{Q:α->Gm->Prop}(e:g Γ=some (d,Γ))(h:Q d Γ):wp g Γ Q:=⟨_,_,e,h⟩
theorem xR{b:Int}:∀(xs:List Int) (x:Int),x<=b->(∀y∈xs,y<=b)->xs.foldl mx x<=b
 | [],x,h,_=>h
 | y::xs,x,h,hb=>by
  rw[Mk];refine xR xs _ ?_ λz hz=>hb z (j_ _ hz)
  have:=hb y g_;unfold mx;split<;>omega
theorem G8{b:Int}(b0:0<=b)(h:∀x∈l,x<=b):maxI 0 l<=b:=by
 cases l with
 | nil=>exact b0
 | cons x xs=>exact xR xs x (h x g_) λy hy=>h y (j_ _ hy)
theorem catD{A C:M D}{xs zs:List D}(e1:A Γ=some (.lst xs,Γ))(e2:C Γ=some (.lst ys,Γ))(h:catF (.lst xs) (.lst ys)=some zs):frz (op2 catF A C) Γ=some (.lst zs,Γ):=by
 simp only[frz,op2,bnd,e1,e2,lft,h,ret]
theorem GL{w m:Int}{row:List (Int×Int)}(hl:row.length<=1000):cvF uK [thD w row m]=some (.bl true):=by
 refine uC ?_;refine sf rfl λKE hE _=>?_
 rw[wC];refine As rfl ?_;refine wg (d:=.lst ([w,m].map D.int)) rfl rfl ?_;show wp _ [some (.val (thD w row m)),some (.val (.lst ([w,m].map D.int))),none] _;refine qb (λae=>∃(ns:List Int) (x:Option R),ns.length<=3000/\ae=[some (.val (thD w row m)),some (.val (.lst (ns.map D.int))),x]) (λK hK _=>?_) ?_
 ·rw[xz];refine wpE (d:=row.map prD) rfl ?_;refine qL (J:=λi ae=>∃(ns:List Int) (x:Option R),ns.length<=2+2*i/\ae=[some (.val (thD w row m)),some (.val (.lst (ns.map D.int))),x]) ⟨[w,m],none,by simp,rfl⟩ ?_ ?_
  ·rintro i d Γ hd ⟨ns,x,nl,rfl⟩;rw[E_,Mq] at hd;obtain⟨p,e1,rfl⟩:=hd;have il:=(D_.mp e1).1;refine⟨(),_,rfl,?_⟩;show wp _ [some (.val (thD w row m)),some (.val (.lst (ns.map D.int))),some (.val (prD p))] _;refine As rfl ?_
   have h':catF (.lst (ns.map D.int)) (.lst [.int p.1,.int p.2])=some ((ns++[p.1,p.2]).map D.int):=by
    unfold catF;dsimp only;rw[if_pos (by rw[y_];unfold lim;show _+2<=_;omega),MD];rfl
   exact sV.mpr (wpE (catD rfl rfl h') ⟨by show 1 < 3;decide,ns++[p.1,p.2],_,by rw[KJ];show _+2<=_;omega,rfl⟩)
  ·rintro Γ ⟨ns,x,nl,rfl⟩;rw[y_] at nl;exact hK _ ⟨ns,x,by omega,rfl⟩
 rintro ae ⟨ns,x,nl,rfl⟩;simp;refine rb ns D.int (λ_=>false) (λ_=>.int 1) ?_;simp;have ff:ns.filter (λ_=>false)=[]:=NG.mpr (by simp);rw[ff];exact⟨by omega,λx _=>wpE rfl (wpE rfl ⟨rfl,wpE rfl (wpE rfl ⟨rfl,_,rfl⟩)⟩),by simp[dep,depA],hE _ _ ⟨_,rfl,rfl⟩⟩
theorem Dp(h:∀x∈l,0<=x):∀m,(l.take m).sum<=l.sum:=λm=>by
 have e:(l.take m).sum+(l.drop m).sum=l.sum:=by rw[←PK,Li]
 have:=uy (l:=l.drop m) λx hx=>h x (Lv hx)
 omega
theorem E4(nn:∀x∈cs,0<=x)(p:Int×Int):wt cs p<=cs.sum:=by
 unfold wt cutL;refine Int.le_trans (Dp (λx hx=>nn x (Lv hx)) _) (Dh nn _)
theorem GX(nn:∀x∈cs,0<=x)(k:Nat):maxI 0 ((fewW cs N).drop k)<=cs.sum:=G8 (uy nn) λx hx=>by
 obtain⟨p,_,rfl⟩:=LS.mp (Lv hx);exact E4 nn p
theorem IF{a b:Int}(h:leD (.int a) (.int b)=true):a<=b:=by
 unfold leD at h;by_cases c:b < a
 ·simp[dl,cO,cI,c] at h
 ·omega
theorem Bj:sortD (((gapsL N).map (wt cs)).map D.int)=(fewW cs N).reverse.map D.int:=by
 obtain⟨T,eT⟩:∃T,T=(gapsL N).map (wt cs):=⟨_,rfl⟩;rw[←eT]
 have e0:sortD (T.map D.int)=(T.mergeSort λa b=>leD (.int a) (.int b)).map D.int:=by
  unfold sortD;exact(Q5 (r:=λa b=>leD (.int a) (.int b)) (s:=leD) (f:=D.int) (l:=T) λ_ _ _ _=>rfl).symm
 have pm:(T.mergeSort λa b=>leD (.int a) (.int b)).Perm T:=Oh _ _;have up:(T.mergeSort λa b=>leD (.int a) (.int b)).Pairwise λa b=>leD (.int a) (.int b)=true:=Np (le:=λa b=>leD (.int a) (.int b)) (λa b c=>uT (.int a) (.int b) (.int c)) (λa b=>vh (.int a) (.int b)) T
 rw[e0];refine congrArg _ ?_;have p2:(fewW cs N).Perm T:=by rw[eT];exact(qT cs N).map _
 have h:=yp (l:=(T.mergeSort λa b=>leD (.int a) (.int b)).reverse) (m:=fewW cs N) ((OT _).trans (pm.trans p2.symm)) (PY.mpr (up.imp λh=>IF h)) (yP cs N);rw[←h,Qk]
theorem DP(l:List Int)(k:Nat):(l.reverse.take (l.length - k)).sum=(l.drop k).sum:=by
 have:l.reverse.take (l.length - k)=(l.drop k).reverse:=by
  rw[List.take_reverse]
  rcases Rw k l.length with h | h
  ·rw[show l.length - (l.length - k)=k by omega]
  ·rw[show l.length - (l.length - k)=l.length by omega,NX,Mv h]
 rw[this,List.sum_reverse]
theorem Ch{row:List (Int×Int)}{a:Int}{many w m:Int}(hb:∀p∈ss,SOk p)(hl:ss.length<=100)(hN:nums ss=a::l)(gd:Gd cs.length (a::l))(hn:cs.length<=100)(m0:0<=many)(m1:many<=1000)(c0:0<=m)(c1:(row.length:Int)<=many)(ru:RowUp cs.length (-1) row)(c4:∀x∈a::l,x∈row.flatMap span)(c5:w=sumN (inN (a::l)) (cAt cs) (row.flatMap span))(c6:w=((gapsL (a::l)).map λp=>mn (wt cs p) m).sum - (many - 1)*m):
  cvF tU [.lst (ss.map prD),.int many,.lst (cs.map D.int),thD w row m]=some (.bl true):=by
 have mem:=λx=>Aj hN x
 have gf:=yh gd (by omega);have gW:=An hb hl hN gd hn;have mN:=vq hb hl;have h0:1<=cs.length:=by have:=gd.2 a g_;omega
 have R1:=zW hn h0 ru;have rl:=R1.few;have t3:=vq R1.ok R1.few;rw[(ur (row.flatMap span)).2.2.2 R1.nd] at t3;have hm:=R1.mem;have aY:=R1.len;obtain⟨c2,c3⟩:=CH.mp ru;have e9:(gapsL (a::l)).map (λp=>mn (wt cs p) m)=((gapsL (a::l)).map (wt cs)).map λx=>mn x m:=by rw[MS];rfl
 rw[e9] at c6;have wl:((gapsL (a::l)).map (wt cs)).length < 64:=by rw[y_];exact gf
 have tl:(hadL (ss.flatMap span)).length<=1000000:=by
  have h1:=(ur (ss.flatMap span)).2.1;have h2:=ul hb;omega
 clear e9 gf hN hb R1 ru;generalize (gapsL (a::l)).map (wt cs)=W at *;generalize hadL (ss.flatMap span)=T at *;generalize row.flatMap span=H at *;generalize a::l=N at *;have d1:∀{α:Type} (l:List α),dep (D.lst (l.map λ_=>D.int 1))<=100:=λl=>by rw[dep,HS];omega
 refine uC ?_;refine sf rfl λKE hE _=>?_
 rw[vw];refine pB λK hK _=>⟨_,_,rfl,hK _ ?_⟩
 show wp _ [some (.val (.lst (ss.map prD))),some (.val (.int many)),some (.val (.lst (cs.map D.int))),some (.val (thD w row m)),some (.val (.int w)),some (.val (.lst (row.map prD))),some (.val (.int m)),none,none] _;have oJ:¬m < 0:=by omega
 refine pB λK hK hR=>?_
 simp[oJ];rw[if_neg (by omega)];refine hK _ ?_;clear hK hR
 have p1:∀a b:Int,(a,b)∈row->if a < 0 then a < 0\/b < a\/(cs.length:Int)<=b else if b < a then a < 0\/b < a\/(cs.length:Int)<=b else decide ((cs.length:Int)<=b)=(decide (a < 0)||(decide (b < a)||decide ((cs.length:Int)<=b))):=λa b _=>by
  by_cases h1:a < 0
  ·simp[h1]
  ·by_cases h2:b < a
   ·simp[h1,h2]
   ·simp[h1,h2]
 refine pB λK hK hR=>?_
 simp;refine wq row prD (badB cs.length) (λ_=>.int 1) ?_;simp[prD,badB];refine⟨by omega,p1,d1 _,?_⟩;rw[if_pos (by rw[QC];exact c2)];refine hK _ ?_;clear hK hR p1;obtain⟨aR,kf⟩:∃aR,aR=[some (R.val (.lst (ss.map prD))),some (.val (.int many)),some (.val (.lst (cs.map D.int))),some (.val (thD w row m)),some (.val (.int w)),some (.val (.lst (row.map prD))),some (.val (.int m)),none,none]:=⟨_,rfl⟩;have zl:(row.zip (row.drop 1)).length<=1000000:=by rw[R6];omega
 have it:wp (fn1 zipI (consA (nm 5) (consA (sl3 slF (nm 5) (prt (ret (D.int 1))) (ret none)) nilA))) aR λds ae=>ds=(row.zip (row.drop 1)).map (λp=>D.tup [prD p.1,prD p.2])/\ae=aR:=by
  rw[kf];simp;rw[cut1P,ER,Qj]
 have el:∀x∈row.zip (row.drop 1),∀(a b:Option R),wp (tgTup 2 (tgCons (tgN 0) (tgCons (tgN 1) tgNil)) (D.tup [prD x.1,prD x.2])) (a::b::aR) λ_ aq=>wp (tst (op2 geI (op2 ixF (nm 0) (ret (D.int 1))) (op2 ixF (nm 1) (ret (D.int 0))))) aq λb aP=>b=touB x/\(if b=true then wp (ret (D.int 1)) aP λy bn=>y=D.int 1/\∃a' b',bn=a'::b'::aR else ∃a' b',aP=a'::b'::aR):=λx _ a b=>by
  obtain⟨⟨a1,a2⟩,⟨b1,b2⟩⟩:=x;simp[prD,touB]
 show wp _ [some (R.val (.lst (ss.map prD))),some (.val (.int many)),some (.val (.lst (cs.map D.int))),some (.val (thD w row m)),some (.val (.int w)),some (.val (.lst (row.map prD))),some (.val (.int m)),none,none] _;rw[←kf];refine pB λK hK hR=>?_
 simp;refine wq (row.zip (row.drop 1)) (λp=>D.tup [prD p.1,prD p.2]) touB (λ_=>.int 1) (it.mono ?_);rintro ds ae ⟨rfl,rfl⟩;refine⟨rfl,zl,el,d1 _,?_⟩;rw[if_pos (by rw[QC];exact c3)];refine hK _ ?_;clear hK hR it el zl;subst kf;clear c2 c3;refine pB λK hK _=>?_
 simp;rw[pL mN,wd];refine⟨by simp,hK _ ?_⟩;clear hK mN;refine pB λK hK _=>?_
 simp;rw[pL t3,wd];refine⟨by simp,hK _ ?_⟩;clear hK t3;refine pB λK hK hR=>?_
 simp;refine rb T D.int (λx=>!inN H x) (λ_=>.int 1) ?_;simp[inN];refine⟨tl,d1 _,?_⟩;rw[if_pos λx hx=>c4 x ((mem x).mp hx)];refine hK _ ?_;clear hK hR;have e5:∀x,(!decide (x∈T))=!inN N x:=λx=>by unfold inN;simp only[mem x]
 have e7:(H.filter λx=>!inN N x).map (λx=>D.int (cAt cs x))=((H.filter λx=>!inN N x).map (cAt cs)).map D.int:=by rw[MS];rfl
 have e8:((H.filter λx=>!inN N x).map (cAt cs)).sum=sumN (inN N) (cAt cs) H:=rfl;refine pB λK hK hR=>?_
 simp;refine rb H D.int (λx=>!inN N x) (λx=>.int (cAt cs x)) ?_;simp[e5];refine⟨by omega,λx hx=>?_,?_⟩
 ·intro _;rw[pL (at_c (hm x hx).1 (hm x hx).2)];exact⟨rfl,_,rfl⟩
 rw[e7,pL (rX _),e8,←c5];simp[deq,dep];refine hK _ ?_;clear hK hR e7 e8
 have e9:(List.filter (λ_=>true) W).map (λx=>D.int (mn x m))=(W.map λx=>mn x m).map D.int:=by
  rw[OI.mpr (by simp),MS];rfl
 simp;refine rb W D.int (λ_=>true) (λx=>.int (mn x m)) ?_;simp;rw[pL gW];simp;refine⟨by omega,λx _=>?_,?_⟩
 ·unfold mn;rw[Int.min_def];split<;>split<;>omega
 rw[e9,pL (rX _)];simp[dep];refine⟨.inl ⟨by omega,by omega⟩,hE _ _ ⟨_,rfl,?_⟩⟩;rw[←c6];simp
theorem uu{g:List R->Option (R×List R)}{t:M (List D)}{QD:D->Gm->Prop}(hj:Γ[j]?=some (some (.own c)))(ht:t Γ=some (ds,Γ))(k:wpB g c ds λr c'=>∃d,r=.val d/\QD d (Γ.set j (some (.own c')))):wp (cbV j g t) Γ QD:=by
 obtain⟨r,c',e1,d,rfl,k⟩:=k
 have e2:callB j g t Γ=some (.val d,Γ.set j (some (.own c'))):=by
  unfold callB mutS;have:isMut Γ j=true:=by unfold isMut;rw[hj];rfl
  rw[this];simp only[bnd,ht,hj,e1,if_true]
 exact⟨d,_,by simp[cbV,bnd,lft,asV,e2],k⟩
theorem Fx{g:List R->Option (R×List R)}{t:M (List D)}{QL:List D->Gm->Prop}(hj:Γ[j]?=some (some (.own c)))(ht:t Γ=some (ds,Γ))(k:wpB g c ds λr c'=>∃d,r=.own d/\QL d (Γ.set j (some (.own c')))):wp (cbO j g t) Γ QL:=by
 obtain⟨r,c',e1,d,rfl,k⟩:=k
 have e2:callB j g t Γ=some (.own d,Γ.set j (some (.own c'))):=by
  unfold callB mutS;have:isMut Γ j=true:=by unfold isMut;rw[hj];rfl
  rw[this];simp only[bnd,ht,hj,e1,if_true]
 exact⟨d,_,by simp[cbO,bnd,lft,asO,e2],k⟩
theorem fn1E{F:List D->Option D}{t:M (List D)}(e1:t Γ=some (ds,Γ))(e2:F ds=some d):fn1 F t Γ=some (d,Γ):=by simp only[fn1,bnd,e1,lft,e2]
theorem consE{g:M D}{t:M (List D)}(e1:g Γ=some (d,Γ))(e2:t Γ=some (ds,Γ)):consA g t Γ=some (d::ds,Γ):=by simp only[consA,bnd,e1,e2,ret]
theorem orE{a b:M Bool}(e1:a Γ=some (false,Γ))(e2:b Γ=some (false,Γ)):orT a b Γ=some (false,Γ):=by simp[orT,bnd,e1,e2]
theorem neE{A C:M D}(e1:A Γ=some (d,Γ))(e2:C Γ=some (d,Γ))(h:dep d<=100):tst (op2 (eqF true) A C) Γ=some (false,Γ):=by
 have e3:eqF true d d=some (.bl false):=by
  unfold eqF;rw[if_pos ⟨h,h⟩,DL.vA];rfl
 simp only[tst,op2,bnd,e1,e2,lft,e3,asB]
theorem notE{A:M D}(e:A Γ=some (.bl true,Γ)):notT (tst A) Γ=some (false,Γ):=by simp[notT,tst,bnd,e,lft,asB,ret]
theorem gtE{A C:M D}{x y:Int}(e1:A Γ=some (.int x,Γ))(e2:C Γ=some (.int y,Γ))(h:x<=y):tst (op2 gtI A C) Γ=some (false,Γ):=by
 have e3:gtI (.int x) (.int y)=some (.bl false):=by
  show some (D.bl (decide (x > y)))=_;rw[decide_eq_false (by omega)]
 simp only[tst,op2,bnd,e1,e2,lft,e3,asB]
theorem Ib{g:List R->Option (R×List R)}{i:Nat}{t:M (List D)}{os:List D}{Q:Fl->Gm->Prop}(e1:t Γ=some (ds,Γ))(e2:ctF g ds=some os)(hi:Nat.blt i Γ.length=true)(k:wp (ax os) Γ Q):wp (tellS g i t ax) Γ Q:=by
 obtain⟨f,ah,e3,q⟩:=k;have bY:i < Γ.length:=PZ hi;exact⟨f,ah,by simp only[tellS,bnd,e1,lft,e2,if_pos bY,e3],q⟩
theorem yF{i:Nat}{c:M Bool}{aq:Gm}{Q:Fl->Gm->Prop}(e:c ((Γ.map hidR).set i (some (.val (.tup ds))))=some (false,aq))(k:wp (ax ds) Γ Q):wp (tstP i c ax ds) Γ Q:=by
 obtain⟨f,ah,e3,q⟩:=k;exact⟨f,ah,by simp only[tstP,e,e3],q⟩
theorem Fe{i:Nat}{h:M Fl}{es:List D}{Q:Fl->Gm->Prop}(e:ds[n]?=some (.lst es))(k:wp h (Γ.set i none) Q):wp (clrP i n h ds) Γ Q:=by
 obtain⟨f,ah,e3,q⟩:=k;exact⟨f,ah,by simp only[clrP,e,e3],q⟩
theorem G0(w:Int):cvF (r9 8) [.int w,.int w]=some (.bl true):=by
 have e:cvF (r9 8) [.int w,.int w]=some (.bl (w == w)):=rfl;rw[e,beq_self_eq_true]
theorem FW(h:(gapsL N).length < 64):sortF [.lst (((gapsL N).map (wt cs)).map D.int)]=some ((fewW cs N).reverse.map D.int):=by
 rw[←Bj];refine xj ⟨by simpa using h,?_,?_,.inl ?_⟩
 ·unfold cmAll;rw[LI];intro a ha;rw[LI];intro b hb;obtain⟨x,_,rfl⟩:=LS.mp ha;obtain⟨y,_,rfl⟩:=LS.mp hb;simp[cmB]
 ·rw[vR];omega
 ·rw[LI];intro a ha;obtain⟨x,_,rfl⟩:=LS.mp ha;rfl
theorem law_true(ns:List Int)(hl:ns.length<=63):∃rs,qY [.val (.lst (ns.map D.int))]=some (.val (.bl true),rs):=by
 have key:wpF qY [.val (.lst (ns.map D.int))] λr _=>r=.val (.bl true):=by
  refine sf rfl λKE hE _=>?_
  rw[wx];obtain⟨c,e,hc⟩:=IU ns;refine pB λK hK _=>?_
  simp;rw[pL e];refine⟨by simp,hK _ ?_⟩;clear hK e;generalize ns.map D.int=S at *;refine pB λK hK hR=>?_
  simp;refine qL (J:=λi Γ=>∃c x2 x3 x4 x5 x6 x7 x8 x9 bV,PotOk c/\Γ=[some (.val (.lst S)),some (.own c),x2,x3,x4,x5,x6,x7,x8,x9,bV]) ⟨c,none,none,none,none,none,none,none,none,none,hc,rfl⟩ ?_ ?_
  ·rintro i d Γ hd ⟨c,x2,x3,x4,x5,x6,x7,x8,x9,bV,hc,rfl⟩;refine⟨(),_,rfl,?_⟩;show wp _ [some (.val (.lst S)),some (.own c),some (.val d),x3,x4,x5,x6,x7,x8,x9,bV] _;generalize some (R.val d)=x2';refine qb (λae=>∃(c:List D) (k:Nat),PotOk c/\k<=99/\ae=[some (.val (.lst S)),some (.own c),x2',some (.val (.int ((k:Int)+1))),x4,x5,x6,x7,x8,x9,bV]) (λK hK _=>?_) ?_
   ·refine sV.mpr (uX.mpr (wo.mpr (BM.mpr (uD.mpr (uX.mpr (wpE rfl (uu rfl rfl (qa hc (by decide) (by decide) λt1 c t2 t3 hc=>⟨_,rfl,wpE (d:=.int (1+t1)) rfl (uD.mpr (uX.mpr (wpE rfl (uu rfl rfl (qa hc (by decide) (by decide) λu1 c u2 u3 hc=>⟨_,rfl,wpE (d:=.int (1+u1)) rfl (uD.mpr (wpE rfl (xQ.mpr ?_)))⟩)))))⟩))))))));refine wpE (d:=[.int (1+t1),.int (1+u1),.int 100]) rfl (uu rfl rfl (qa hc (by decide) (by decide) λj c j1 j2 hc=>⟨_,rfl,?_⟩));have:j=0\/j=1\/j=2:=by omega
    rcases this with rfl | rfl | rfl
    ·refine wpE (d:=.int (1+t1)) rfl ⟨by show 3 < 11;decide,hK _ ⟨c,t1.toNat,hc,by omega,?_⟩⟩;rw[show(t1.toNat:Int)+1=1+t1 by omega];rfl
    ·refine wpE (d:=.int (1+u1)) rfl ⟨by show 3 < 11;decide,hK _ ⟨c,u1.toNat,hc,by omega,?_⟩⟩;rw[show(u1.toNat:Int)+1=1+u1 by omega];rfl
    ·exact wpE (d:=.int 100) rfl ⟨by show 3 < 11;decide,hK _ ⟨c,99,hc,by omega,rfl⟩⟩
   rintro ae ⟨c,k,hc,k1,rfl⟩;obtain⟨t,et⟩:∃t:Int,t=(k:Int)+1:=⟨_,rfl⟩;rw[←et];refine qb (λae=>∃(c:List D) (cs:List Int),PotOk c/\1<=cs.length/\cs.length<=100/\(∀x∈cs,0<=x)/\ae=[some (.val (.lst S)),some (.own c),x2',some (.val (.int t)),some (.val (.lst (cs.map D.int))),x5,x6,x7,x8,x9,bV]) (λK hK _=>?_) ?_
   ·exact sV.mpr (wo.mpr (Fx rfl rfl (Em hc λcs c h1 h2 h3 h4 hc=>⟨_,rfl,by show 4 < 11;decide,hK _ ⟨c,cs,hc,h1,h2,h3,rfl⟩⟩)))
   rintro ae ⟨c,cs,hc,n1,n2,nn,rfl⟩;refine qb (λae=>∃(c:List D) (ss:List (Int×Int)),PotOk c/\1<=ss.length/\ss.length<=12/\(∀p∈ss,StOk cs.length p)/\ae=[some (.val (.lst S)),some (.own c),x2',some (.val (.int t)),some (.val (.lst (cs.map D.int))),some (.val (.lst (ss.map prD))),x6,x7,x8,x9,bV]) (λK hK _=>?_) ?_
   ·refine sV.mpr (uu rfl rfl (CQ (n:=((cs.map D.int).length:Int)) hc (by rw[y_];omega) (by rw[y_];omega) λss c h1 h2 h3 hc=>⟨_,rfl,by show 5 < 11;decide,hK _ ⟨c,ss,hc,h1,h2,?_,rfl⟩⟩));rw[y_] at h3;exact h3
   rintro ae ⟨c,ss,hc,s1,s2,sk,rfl⟩;have gX:ss.length<=100:=LL s2 (by decide);have nI:(cs.length:Int)<=100:=Int.ofNat_le.mpr n2;obtain⟨a,l,hN⟩:=Fb sk s1;have gd:=Dg sk;rw[hN] at gd;have kh:∀p∈ss,SOk p:=λp hp=>F5 nI (sk p hp)
   have gl:=FH gd nI;have gf:=yh gd nI
   have few:ctF rZ [.lst (ss.map prD),.int t,.lst (cs.map D.int)]=some [.int ((fewW cs (a::l)).drop k).sum,.lst ((rowF cs (a::l) k).map prD),.int (maxI 0 ((fewW cs (a::l)).drop k))]:=by
    have:=Ct (cs:=cs) (k:=k) kh gX (by rw[hN];exact LL gl (by decide)) (by rw[hN];simp) (by rw[hN];exact gf);rw[hN] at this;rw[et];exact this
   have gW:=An kh gX hN gd n2;have srt:=FW (cs:=cs) gf;have j:=vV (cs:=cs) gd.1 k;have ru:=Hw gd j;have mk:=Ht nn (a::l) k;unfold markB at mk;rw[LQ,decide_eq_true_eq,decide_eq_true_eq] at mk;have fB:=Ch (row:=rowF cs (a::l) k) (many:=t) (w:=((fewW cs (a::l)).drop k).sum) (m:=maxI 0 ((fewW cs (a::l)).drop k)) kh gX hN gd n2 (by omega) (by omega) mk.1 (by have:=BE (cs:=cs) gd.1 k;omega) ru (j.has (KN a)).2 (Cz gd k).symm (by rw[et];exact mk.2);have made:=GL (w:=((fewW cs (a::l)).drop k).sum) (m:=maxI 0 ((fewW cs (a::l)).drop k)) (row:=rowF cs (a::l) k) (LL (zW n2 n1 ru).few (by decide));have le:=GX (N:=a::l) nn k;have fl:=CV cs (a::l);have jj:sumF [.lst (((fewW cs (a::l)).reverse.take ((fewW cs (a::l)).length - k)).map D.int)]=some (.int ((fewW cs (a::l)).drop k).sum):=by rw[←DP];exact rX _
   obtain⟨w,ew⟩:∃w,w=((fewW cs (a::l)).drop k).sum:=⟨_,rfl⟩;obtain⟨m,em⟩:∃m,m=maxI 0 ((fewW cs (a::l)).drop k):=⟨_,rfl⟩;obtain⟨row,er⟩:∃row,row=rowF cs (a::l) k:=⟨_,rfl⟩;obtain⟨W,eW⟩:∃W,W=fewW cs (a::l):=⟨_,rfl⟩;rw[←ew,←em,←er] at few fB made;rw[←em] at le;rw[←ew,←eW] at jj;rw[←eW] at srt fl;clear mk j ru ew em er eW
   refine wg (d:=.lst (W.reverse.map D.int)) (by
    have e0:fn1 sortF (consA (fn1 (cvF r8) (consA (nm 5) (consA (nm 4) nilA))) nilA) [some (.val (.lst S)),some (.own c),x2',some (.val (.int t)),some (.val (.lst (cs.map D.int))),some (.val (.lst (ss.map prD))),x6,x7,x8,x9,bV]=some (W.reverse.map D.int,[some (.val (.lst S)),some (.own c),x2',some (.val (.int t)),some (.val (.lst (cs.map D.int))),some (.val (.lst (ss.map prD))),x6,x7,x8,x9,bV]):=by
     have e1:=consE (Γ:=[some (.val (.lst S)),some (.own c),x2',some (.val (.int t)),some (.val (.lst (cs.map D.int))),some (.val (.lst (ss.map prD))),x6,x7,x8,x9,bV]) (t:=nilA) (fn1E (t:=consA (nm 5) (consA (nm 4) nilA)) rfl gW) rfl;simp only[fn1,bnd] at e1 ⊢;rw[e1];simp only[lft,srt]
    simp only[frz,bnd,e0,ret]) rfl ?_
   show wp _ [some (.val (.lst S)),some (.own c),x2',some (.val (.int t)),some (.val (.lst (cs.map D.int))),some (.val (.lst (ss.map prD))),some (.val (.lst (W.reverse.map D.int))),x7,x8,x9,bV] _;refine qb (λae=>ae=[some (.val (.lst S)),some (.own c),x2',some (.val (.int t)),some (.val (.lst (cs.map D.int))),some (.val (.lst (ss.map prD))),some (.val (.lst (W.reverse.map D.int))),some (.val (.int w)),x8,x9,bV]) (λK hK _=>?_) ?_
   ·simp;rw[vg _ (by omega),show(max 0 ((W.length:Int) - t+1)).toNat=W.length - k by omega,←OU,←Qi,pL jj];exact⟨by simp,hK _ rfl⟩
   rintro ae rfl;refine wg (d:=.tup [.lst (ss.map prD),.lst (cs.map D.int)]) rfl rfl ?_;show wp _ [some (.val (.lst S)),some (.own c),x2',some (.val (.int t)),some (.val (.lst (cs.map D.int))),some (.val (.lst (ss.map prD))),some (.val (.lst (W.reverse.map D.int))),some (.val (.int w)),some (.val (.tup [.lst (ss.map prD),.lst (cs.map D.int)])),x9,bV] _;rw[xz];refine wpE (d:=rngD 0 2) rfl ?_;have dp:=vi ss;have dh:dep (.tup [.lst (ss.map prD),.lst (cs.map D.int)])<=100:=by simp[dep,depA];omega
   refine qL (J:=λi Γ=>∃x9 bV,Γ=[some (.val (.lst S)),some (.own c),x2',some (.val (.int t)),some (.val (.lst (cs.map D.int))),some (.val (.lst (ss.map prD))),some (.val (.lst (W.reverse.map D.int))),some (.val (.int w)),some (.val (.tup [.lst (ss.map prD),.lst (cs.map D.int)])),x9,bV]) ⟨x9,bV,rfl⟩ ?_ ?_
   ·rintro i d Γ hd ⟨x9,bV,rfl⟩;refine⟨(),_,rfl,?_⟩;show wp _ [some (.val (.lst S)),some (.own c),x2',some (.val (.int t)),some (.val (.lst (cs.map D.int))),some (.val (.lst (ss.map prD))),some (.val (.lst (W.reverse.map D.int))),some (.val (.int w)),some (.val (.tup [.lst (ss.map prD),.lst (cs.map D.int)])),some (.val d),bV] _;refine Ib rfl few rfl (yF (orE (neE (d:=.tup [.lst (ss.map prD),.lst (cs.map D.int)]) rfl rfl dh) (orE (notE (fn1E rfl made)) (notE (fn1E rfl (G0 w))))) (yF (orE (notE (fn1E rfl fB)) (gtE (x:=m) (y:=cs.sum) rfl (fn1E rfl (rX cs)) le)) (Fe (es:=row.map prD) rfl ?_)));refine Ck.mpr (wpE (neE (d:=.tup [.lst (ss.map prD),.lst (cs.map D.int)]) rfl rfl dh) ?_);rw[if_neg (by decide)];exact qU.mpr ⟨_,_,rfl⟩
   ·rintro Γ ⟨x9,bV,rfl⟩;exact⟨c,_,_,_,_,_,_,_,_,_,hc,rfl⟩
  ·rintro Γ ⟨c,x2,x3,x4,x5,x6,x7,x8,x9,bV,hc,rfl⟩;refine hK _ ?_;simp;exact hE _ _ ⟨_,rfl,rfl⟩
 obtain⟨r,rs,e,rfl⟩:=key;exact⟨rs,e⟩
end Own
namespace PySem.W.Fast
theorem tw11184368962967299283:True:=⟨⟩
theorem tw4367422952889127755:True:=⟨⟩
theorem tw8229343581883190769:True:=⟨⟩
theorem tw17601611560257730582:True:=⟨⟩
theorem tw3283012113057154936:True:=⟨⟩
theorem tw18118303361644890958:True:=⟨⟩
theorem tw16809415566695003253:True:=⟨⟩
theorem tw7721781373576860510:True:=⟨⟩
theorem tw9240368321116849361:True:=⟨⟩
theorem tw17531177637189753662:True:=⟨⟩
theorem tw16117376464207488081:True:=⟨⟩
theorem tw6118227379542632086:True:=⟨⟩
theorem tw7348018206678741912:True:=⟨⟩
theorem tw9489408604757330427:True:=⟨⟩
theorem tw8656354813420953200:True:=⟨⟩
theorem tw654048436187683681:True:=⟨⟩
theorem tw11498951058692337105:True:=⟨⟩
theorem tw12775324294710797995:True:=⟨⟩
theorem tw6488087349458833876:True:=⟨⟩
theorem tw18358130463233214358:True:=⟨⟩
theorem tw17201608763810357014:True:=⟨⟩
theorem tw656153639420787312:True:=⟨⟩
theorem tw2880037950044521527:True:=⟨⟩
theorem tw4422852115304852671:True:=⟨⟩
theorem tw16201245050030292342:True:=⟨⟩
theorem tw9889906880132386527:True:=⟨⟩
theorem tw18038411799089744890:True:=⟨⟩
theorem tw4314531450470755205:True:=⟨⟩
theorem tw6482086386708614985:True:=⟨⟩
theorem tw18374952163139535776:True:=⟨⟩
theorem tw2255534342151582319:True:=⟨⟩
theorem tw8946658828006981884:True:=⟨⟩
theorem tw726109352790442513:True:=⟨⟩
theorem tw3969968467842118803:True:=⟨⟩
theorem tw11373881280907050554:True:=⟨⟩
theorem tw15441225482114424320:True:=⟨⟩
theorem tw9080576873297313044:True:=⟨⟩
theorem tw1130754534899806481:True:=⟨⟩
theorem tw13013685185069118784:True:=⟨⟩
theorem tw17175939787263115689:True:=⟨⟩
theorem tw13920951211024620924:True:=⟨⟩
theorem tw14678592709932548474:True:=⟨⟩
theorem tw11169980286119962387:True:=⟨⟩
theorem tw8062617194992084892:True:=⟨⟩
theorem tw6124363581048760246:True:=⟨⟩
theorem tw11338606141447581899:True:=⟨⟩
theorem tw5511047634429043407:True:=⟨⟩
theorem tw16569408660458154212:True:=⟨⟩
theorem tw13378757438028422175:True:=⟨⟩
theorem tw9863908360697710470:True:=⟨⟩
theorem tw17950890647927264159:True:=⟨⟩
theorem tw9468230621783792078:True:=⟨⟩
theorem tw18267491235857779061:True:=⟨⟩
theorem tw4423938397232920784:True:=⟨⟩
theorem tw4926485741811008591:True:=⟨⟩
theorem tw11137866326218288230:True:=⟨⟩
theorem tw10184242207574352342:True:=⟨⟩
theorem tw5830594760399993378:True:=⟨⟩
theorem tw369307221509124594:True:=⟨⟩
theorem tw9942174688865508827:True:=⟨⟩
theorem tw11544787465403061778:True:=⟨⟩
theorem tw3133577085721424597:True:=⟨⟩
theorem tw13631872534680282850:True:=⟨⟩
theorem tw5076376732292977477:True:=⟨⟩
theorem tw13349430243694102304:True:=⟨⟩
theorem tw5978249334792040882:True:=⟨⟩
theorem tw12188181945738062746:True:=⟨⟩
theorem tw4133287866980630354:True:=⟨⟩
theorem tw3898462517824736354:True:=⟨⟩
theorem tw1078185449611913539:True:=⟨⟩
theorem tw6663896857138836899:True:=⟨⟩
theorem tw5165519082888347003:True:=⟨⟩
theorem tw11113660702421373146:True:=⟨⟩
theorem tw5039889199365317774:True:=⟨⟩
theorem tw17223817164364094398:True:=⟨⟩
theorem tw14824843166100904474:True:=⟨⟩
theorem tw5466473282445146001:True:=⟨⟩
theorem tw391039135884459360:True:=⟨⟩
theorem tw17796643462486213707:True:=⟨⟩
theorem tw3471490119196278298:True:=⟨⟩
theorem tw18325412585001099362:True:=⟨⟩
theorem tw14440151198118169636:True:=⟨⟩
theorem tw7858600035410928302:True:=⟨⟩
theorem tw7689984642508977203:True:=⟨⟩
theorem tw1441626129954504546:True:=⟨⟩
theorem tw16846058723319702184:True:=⟨⟩
theorem tw7460738387105225934:True:=⟨⟩
theorem tw9808577179845453841:True:=⟨⟩
theorem tw9625373214255757919:True:=⟨⟩
theorem tw1602334811047035905:True:=⟨⟩
theorem tw4110721609932359619:True:=⟨⟩
theorem tw14389811705203255105:True:=⟨⟩
theorem tw632217393636095771:True:=⟨⟩
theorem tw12218521252143054548:True:=⟨⟩
theorem tw322158003115528487:True:=⟨⟩
end PySem.W.Fast
open PySem PySem.W PyProof.Rows
set_option maxRecDepth 100000 in
set_option maxHeartbeats 0 in
theorem PySem.Challenge.cw_roofpost_k63_few_stretches_told_holds : PySem.Challenge.rw_roofpost_k63_few_stretches_told.Holds := by
 w_on;(refine holds_law (by decide +kernel) λoR=>?_);k_head;(case hw=>w_witness2)
 k_fill
 refine Own.walk (l:=PySem.Challenge.rw_roofpost_k63_few_stretches_told) Own.law_true rfl rfl ?W ?NT (λw h Y=>PySem.W.km_in_of Y) ?F
 (case W=>exact Nc.mp (by kernel_rfl))
 (case NT=>intro p;kernel_rfl)
 case F =>
  intro w mg fa h KX G fV;refine' Own.all_mk fV (Own.dn KX G ?_ ?_ ?_ ?_) (Own.dn KX G ?_ ?_ ?_ ?_) (Own.dn KX G ?_ ?_ ?_ ?_) (Own.dn KX G ?_ ?_ ?_ ?_) (Own.dn KX G ?_ ?_ ?_ ?_) (Own.dn KX G ?_ ?_ ?_ ?_) (Own.dn KX G ?_ ?_ ?_ ?_) (Own.dn KX G ?_ ?_ ?_ ?_) (Own.dn KX G ?_ ?_ ?_ ?_) (Own.dn KX G ?_ ?_ ?_ ?_) (Own.dn KX G ?_ ?_ ?_ ?_) (Own.dn KX G ?_ ?_ ?_ ?_) (Own.dn KX G ?_ ?_ ?_ ?_) (Own.dn KX G ?_ ?_ ?_ ?_) (Own.dn KX G ?_ ?_ ?_ ?_) (LP KX G ?_) (LP KX G ?_) (LP KX G ?_) (LP KX G ?_) (LP KX G ?_) (LP KX G ?_) (LP KX G ?_) (LP KX G ?_) (LP KX G ?_) (LP KX G ?_) (LP KX G ?_) (LP KX G ?_) (LP KX G ?_) (LP KX G ?_) (LP KX G ?_) ?T0
  (case T0=>kernel_rfl)
  any_goals k_is
