import PyProof.Rows.All
import Wide.All
import OpenK.AllK
import Wide.FinOn
import Lean
import PyProof.EqAt
import PyProof.EqKinds
import PyProof.TupleCall
import PyProof.NeKinds
import PyProof.IsiSeqPairs
import PyProof.IsiNone
import KE.KSortTup
import KE.KRevSl
import KE.KIntText
import KE.KIsAll
import PyProof.ExcArgsOwn
import PyProof.ExcAttrAll.ValueError
import PyProof.NsDelKeeps
import PyProof.InstStoreFacts
import PyProof.Conv_int_bool
import PyProof.SliceStr2
import PyProof.StrBlock2
import PySem.Challenge.RW_roofpost_k72_texts_bent
set_option Elab.async false
set_option linter.all false
open Array (toList)
open Array.Perm (trans)
open Char (ofNat toNat)
open Function (comp_def)
open List (length map map_tail take_zero)
open List.Pairwise (imp_of_mem of_map)
open List.Perm (swap)
open Option (getD_none map_some)
open Or (inr)
open PUnit (unit)
open PyProof.Rows (boot_max mul_one_list split_pos)
open PySem (boot_len)
open PySem.Builtin.Frozenset (newClass slot0 updateFrom)
open PySem.Builtin.List (listExtendWith listFitsIndex listLengthHint)
open PySem.Builtin.Range (rangeSize)
open PySem.Builtin.Slice (sliceApplied)
open PySem.Builtin.SmallTypes (stopIteration)
open PySem.Builtin.Str (tooLong)
open PySem.Builtin.Tuple (tupleHashOf tupleItemsOf)
open PySem.Challenge (rw_roofpost_k72_texts_bent)
open PySem.Data (fields seq)
open PySem.IsiPair (bool_bool bool_int bool_list bool_str int_bool int_list int_str int_tuple str_bool str_int str_list str_str str_tuple)
open PySem.NumText (digitsVal)
open PySem.Obj (putSet)
open PySem.SeqAt (ne_of_list_tuple)
open PySem.StrLaws (join_split)
open PySem.Value (type)
open PySem.W (codeIn methodObj)
open Sum (inl)
set_option maxRecDepth 100000
open PySem renaming wpAny_bind→a_,Value→b_,Shared→c_,starEach→d_,wpAny_pure→f_,Addr→g_,wpAny→o_,model→q_,Program→v_,sizeLine→z_,Expr→D_,World→F_,Heap→G_,backTo→J_,wpAny_truthy_bool→K_,compareOp→Tl,Stmt→Tr,wpAny_newObj_type→Tw,sizeLine_eq→TH,wpAny_mono→TJ,wpAny_callSpecial?_slot→TL,wpAny_field→TM,wpAny_call_entry→TN,mainGlobals→TU,foldedSetIterable→TV,wpAny_setState_of→TX,wpAny_holding→TZ,NameKind→T4,SetTable→Ub,bootBuiltins→Ud,Around→Uh,wpAny_Call_Name_kw→Ui,codeAny_mono→Uk,Builtin→Ul,codeAny_builtin→Uq,behindInMarks→Us,assignEach→Ut,bindArgs→Uu,wpAny_seqItems→Uv,swapsWith→Uy,wpAny_passesOwn→Uz,binaryOp→UA,lastMarks→UC,wpAny_setField→UE,cLine→UI,slicePicked→UJ,wpAny_pyIter_tuple→UM,attributeBase→UQ,wpAny_pyIter_list→UV,wpAny_of_eq→UZ,codeAny_call_builtin→U3,Keyword→U4,wpAny_isInstance→U5,FuncData→U8,wpAny_comprehension_free→U_,wpAny_attempt→Va,wpAny_execs_nil→Ve,IsPair→Vg,wpAny_setField_rec→Vh,sliceBounds→Vj,keywordEach→Vk,noteFrame→Vl,rawInt→Vo,ofAClassStatement→Vw,searchCouldBeSeen→Vx,wpAny_loadPart_at→VB,codeAny→VL,plainId_quiet→VT,strLen_append→VU,letOwnedTupleGo→VY,wpAny_setEntries_of→V4,Scope→Wc,assign→We,pyNext→Wh,typeIs_str→Wk,wpAny_FormattedValue_plain→Wu,holding→WB,slot_list_getitem→WD,hashByValue→WI,wpAny_getItem_list_slice→WN,PassesOwn→WT,noFill_tuple_add→WU,backToKw→WW,pickOrder→W0,wpAny_askSetting→W1,call_meets→Xd,wpAny_specialOf→Xo,codeAny_of_tree→Xp,builtinLookup_eq_fast→Xr,weight_type_call_type→Xs,wpAny_formatField_int→Xu,wpAny_setFlight_noneW→Xv,pyIter→XB,IsPart→XG,compEnvC→XJ,firstArgMember→XN,wpAny_updateSeq_pair→XO,isSubtype_stop→XR,wpAny_runValue→XZ,callerA→X8,wpAny_standAt→Yf,swapsWithSole→Yg,swappedStores→Yh,seq_tuple_add→Yi,evalPart_none→Yj,IsZip→Ym,wpAny_call→Yq,wpAny_rule→Ys,isInstance→Yu,wpAny_assign_Name→Yx,getItem→Yy,BindsTo→Yz,concat_meets→YA,wpAny_typeOf→YB,wpAny_pyIter_enum→YH,wpAny_storeSet_of→YM,wpAny_pyIter_slot→YQ,typeOf→YX,strValues→YZ,setFlight→Y0,Model→Y2,Walks→Y3,again→Y4,subscripted→Y5,seqIndex_of→Y7,wpAny_throw→Y8,notedBy→Zb,builtinsNs→Zd,isTrue→Ze,wpAny_Name→Zf,bindL→Zk,bindC→Zl,standAt→Zy,collect→ZD,setNext→ZG
open PySem.Heap renaming get?_push_of_some→e_,get?_push_size→s_,lt_size→B_,get?_update_other→N_,get?_update_self→Uj,size_push→UR
open Bool renaming false_ne_true→h_,and_eq_true→u_,and_assoc→Vq,not_eq_true'→Vu,not_not→VA,and_eq_false_iff→VD,not_true→VQ,false_eq_true→VR,false_and→Wj,true_and→WS,and_false→XM,or_eq_false_iff→XT,and_true→Yl,eq_false_iff→YO
open List renaming mem_cons_of_mem→i_,all_eq_true→j_,mem_singleton→k_,mem_cons_self→m_,getElem?_eq_getElem→n_,size_toArray→p_,getD_eq_getElem?_getD→t_,mem_cons→w_,getElem?_eq_some_iff→x_,length_map→y_,mem_map→C_,mem_append→I_,mem_append_right→L_,length_replicate→M_,map_cons→O_,replicate→P_,length_append→R_,length_cons→S_,getElem?_map→Tp,mem_filter→Tq,exists_of_findSome?_eq_some→Ts,getElem?_set_ne→Tu,drop_eq_getElem_cons→Tx,length_eq_zero_iff→TB,mem_of_getElem?→TC,exists_cons_of_length_eq_add_one→TQ,mem_append_left→T6,filter_cons_of_pos→T9,getElem?_append_left→T_,getElem_mem→Ua,nodup_cons→Ue,getElem?_append_right→Uf,mem_range→Um,append_nil→Uo,range→Ur,getElem?_eq_none→Uw,getElem?_replicate→UD,getElem?_set_self→UK,length_set→UL,range_succ_eq_map→UN,filter_cons_of_neg→UO,mem_of_mem_take→UP,length_singleton→US,drop_of_length_le→UW,mem_filterMap→U7,forIn_cons→Vf,length_drop→Vi,filterMap_cons→Vn,all_cons→Vp,drop_eq_nil_of_le→Vs,nodup_append→Vz,length_filter_eq_length_iff→VC,take_append_drop→VG,getElem?_drop→VM,pairwise_cons→VO,drop_append_of_le_length→VV,getElem_toArray→VX,dropLast_concat_getLast→V2,filter_eq_self→V5,dropWhile_cons→V6,reverse_cons→V7,forIn_nil→Wa,nodup_nil→Wb,drop_succ_cons→Wn,getElem_range→Wo,mergeSort_perm→Wq,append_of_mem→Wt,filter_append→Ww,findSome?_eq_none_iff→Wx,getElem?_zip_eq_some→Wz,pairwise_iff_getElem→WA,getElem_map→WF,take_length→WJ,Pairwise→WO,length_erase_of_mem→WQ,getElem?_cons_succ→WY,filter_cons→W6,append_inj'→W7,getElem?_cons_zero→W8,length_tail→W9,take_sublist→Xa,length_range→Xe,take_of_length_le→Xh,map_append→Xj,getElem?_reverse→Xt,length_filter_le→Xx,length_take→XC,not_mem_nil→XQ,drop_eq_nil_iff→XS,any_eq_true→XY,mem_flatMap→X4,mem_of_mem_drop→X5,sum_cons→X6,take_succ→X9,take_succ_cons→X',getElem_of_mem→X_,findSome?_cons→Yc,map_congr_left→Yd,mem_map_of_mem→Ye,zip_cons_cons→Yt,map_mergeSort→Yw,append_assoc→YE,any_cons→YF,pairwise_map→YK,foldl_append→YN,map_take→YU,map_map→Zc,of_mem_zip→Zm,Nodup→Zr,filter→Zv,set_set→ZB,all_map→ZC
open Array renaming getElem?_eq_getElem→l_,getElem?_eq_some_iff→A_,length_toList→Tv,getD_eq_getD_getElem?→Ux,getElem?_eq_none→UF,getElem_mem→UX,perm_iff_toList_perm→U2,mem_iff_getElem?→U6,mem_of_getElem?→VF,getElem?_toList→VH,getElem_of_mem→VW,size_extract→V9,size_setIfInBounds→WR,getElem?_extract→Xf,forIn_toList→Xg,getElem_toList→XU,mem_toList_iff→XW,getElem?_push→Yb,getD→ZL
open Nat renaming le_refl→r_,lt_of_lt_of_le→E_,le_trans→H_,ne_of_lt→Q_,zero_le→Tz,lt_irrefl→Ug,lt_succ_of_lt→Vb,lt_trichotomy→Vc,le_add_right→Vr,lt_or_ge→Vt,lt_succ_self→Vy,ne_of_gt→Wg,le_of_not_lt→WX,not_lt_zero→Xn,le_of_ble_eq_true→Xy,le_of_lt→XA,succ_pos→XV,eq_zero_or_pos→Yv,le_of_eq→YD,le_of_lt_succ→YJ,zero_add→Zq,le_succ→ZE,mod_lt→ZF
open Option.some renaming inj→Tn
open Ne renaming symm→Tt
open Option renaming map_eq_some_iff→TF,isSome_iff_exists→U9,bind_eq_some_iff→W5
open PyProof.Rows renaming callWith_type1→TK,slot_tuple_getitem→UB,AllBare→Vm,callWith_builtin1→VI,seqObj→VJ,envOfC→VZ,subscriptTail_builtinR→Xb,boot_isinstance→Xm,subscriptTail→Yk,Subscript_→Yo,IntsAre→YC,IsTup→Y1,chain_link→Zh,ite_ff→Zi,ite_tt→Zj
open PySem.W renaming mg_none_of→TR,hideAll→V',hideAll_none→V_,Looks→WG,fnOf→WM,of_hideAll→Xi,Frag→Xw,looks_mroIn→X3,kas_rev→YI,looks_findIn→YT,hideAll_get→Y9,mroIn→Y',findIn→Zu,mg_of→Zx,OpenLaw→Zz,WShape→ZA,kitOne→ZI
open PySem.Txt renaming split→TY,join→Zt,mul→ZJ
open PySem.F renaming called_set→T7,slot_zip_next→V0,slot_tuple_iterator_next→Wp,args_str_split_2→Wv,entry_str_split→WK,args_tuple_add_2→WV,slot_str_split→W4,entry_tuple_add→Xk,plainAttrs_list→Xl,slot_enumerate_next→Xq,slot_tuple_add→XE,plainAttrs_str→X2,args_zip_next_1→YG,slot_tuple_hash→YL,plain_list_iadd→YR,entry_type_call→YS,slot_gs_get→Y_
open PySem.SetTable renaming insertAt→Uc,runEnd→UU,below→VE,bits→Ya,leap→Za,turns→Zs
open PyProof.Rows.F renaming plain_set_update_loop→UG,entry_set_update_loop→WZ
open Int renaming eq_ofNat_of_zero_le→UH,emod_lt_of_pos→Vv,toNat_natCast→VN,emod_nonneg→WH
open PySem.Obj renaming isFreed_of_fields→UT,data_mapFields→U0,cls_mapFields→WE,mapFields→W3,mapSeq→Xc
open PySem.Str renaming length_append→UY,ofString→Wm,join→YV
open Prod.mk renaming injEq→Vd
open PySem.SetTable.layClean renaming free→VP
open PySem.Around renaming under_plainId→VS
open Classical renaming byContradiction→V1
open Nat.succ renaming inj→V8
open PySem.Calls renaming Name_function_global→Wd,spliced_nil→WC,evalArgs_plain→XH,Constant_str→Yn,spliced_cons→Yp
open PySem.SetTable.probe renaming go→Wr
open PySem.Code renaming quiet_builtin→Ws
open PySem.PassesOwn renaming never→WL
open PySem.AutoSeq1 renaming wpAny_loadPart'→WP
open Sum renaming inr→W_
open PySem.Builtin.Slice renaming slicePlaces→XF,sliceAdjust→Y6
open ForInStep renaming done→XX,yield→Zo
open PySem.Builtin.Str renaming occurrences→X0
open PySem.Data renaming cell→X7
open PySem.Builtin.Tuple renaming tupleExact→Yr
open PySem.NumText renaming AllDigits→YW
open PySem.SeqAt renaming RcNeAt→YY,EqAt→ZK
open Prod renaming ext→Zn
open PySem.Builtin.SmallTypes renaming nextOf→Zp
open False renaming elim→Zw
open PySem.Value renaming builtin→ZH
theorem wSaid:PySem.Challenge.rw_roofpost_k72_texts_bent.wellSaid=true:=by decide +kernel
local macro_rules|`(tactic|omega)=>`(tactic|first|with_reducible decide|with_reducible assumption|with_reducible (refine Nat.le_trans (m:=?x) ?p ?q;(case p=>assumption);(case q=>decide))|with_reducible (refine Int.le_trans (b:=?x) ?p ?q;(case p=>assumption);(case q=>decide))|with_reducible (refine Int.lt_of_lt_of_le (b:=?x) ?p ?q;(case p=>assumption);(case q=>decide))|with_reducible (refine Nat.lt_of_le_of_lt (m:=?x) ?p ?q;(case p=>assumption);(case q=>decide))|lia|omega (config:={}))
noncomputable section
variable{us vs ag its' gN bB:List PySem.Value}{u cd pm ct oc vl vu fl:PySem.Value}{g':Array PySem.GenState}{t' i j k n tk m ep ar kk:Nat}{d':PySem.Drawn}{ch fp ex:List PySem.Addr}{gF aa pn:List (PySem.Addr×PySem.Obj)}{N ps cU N':List PySem.Str}{A:PySem.Around}{s' s2 aD s0:PySem.Shared}{pos aP p1 aT aC p2 py eN tp p' p3 np:PySem.Pos}{y qual z:PySem.Str}{tg ie:PySem.Expr}{hi:Option Int}{op bH dI:PySem.CmpOp}{fd:PySem.FuncData}{mg:PySem.Str->Option PySem.Value}{base h' aH h₀:PySem.Heap}{scope:PySem.Scope}{params:PySem.Arguments}{an od:Option PySem.Addr}{dQ:Array (Option PySem.Value)}{ak cells aj:Array PySem.Value}{T ni:String}{l C l1 l2 fa S:PySem.Addr}{args:List PySem.W.WData}{iG bo bJ aF:List PySem.Expr}{sa sb:List PySem.Stmt}{env:PySem.Env}{neg:Bool}{ns hs:List Int}{eqf:Nat->Bool}{rs aQ L qs:List (Int×Int)}{dJ eu bK bM bO aU:PySem.Tok}{cs:List Nat}{way:Int}
namespace L2
open PySem PySem.Spec PyProof.Rows
abbrev Key:=Sum Int Str
noncomputable def keyIs:Key->b_->Bool
 | .inl k,v=>b_.isInt k v
 | .inr x,v=>b_.isStrOf x v
noncomputable def keyH(w:F_):Key->Int
 | .inl k=>hashInt k
 | .inr x=>hashStr w x
theorem vt:∀{k:Key}{v:b_},keyIs k v=true->(∃i t,k=inl i/\v=b_.int i t)\/(∃x t,k=W_ x/\v=b_.str x t)
 | .inl i,v,h=>by
  obtain⟨t,e⟩:=b_.isInt_shape (k:=i) (v:=v) h;exact .inl ⟨i,t,rfl,e⟩
 | .inr x,v,h=>by
  obtain⟨t,e⟩:=b_.isStrOf_shape (x:=x) (v:=v) h;exact .inr ⟨x,t,rfl,e⟩
theorem Nc(a b:Int):decide ((inl a:Key)=inl b)=(a == b):=by
 by_cases e:a=b
 ·subst e;simp
 ·have h:¬(inl a:Key)=inl b:=λq=>e (inl.inj q)
  rw[decide_eq_false h];exact(beq_eq_false_iff_ne.mpr e).symm
theorem Ir(a b:Str):decide ((W_ a:Key)=W_ b)=decide (a=b):=by
 by_cases e:a=b
 ·subst e;simp
 ·have h:¬(W_ a:Key)=W_ b:=λq=>e (W_.inj q)
  rw[decide_eq_false h,decide_eq_false e]
theorem Nt(a:Int)(b:Str):decide ((inl a:Key)=W_ b)=false:=decide_eq_false (λq=>nomatch q)
theorem P5(a:Str)(b:Int):decide ((W_ a:Key)=inl b)=false:=decide_eq_false (λq=>nomatch q)
noncomputable def mixKind(prog:v_)(w:F_):PySem.KeyKind prog w Key where
 is:=keyIs
 hash:=keyH w
 inj:=λv a b ha hb=>by
  rcases vt ha with⟨i,t,rfl,rfl⟩ | ⟨x,t,rfl,rfl⟩
  ·rcases vt hb with⟨j,u,rfl,e⟩ | ⟨y,u,rfl,e⟩
   ·injection e with e1 _;rw[e1]
   ·exact nomatch e
  ·rcases vt hb with⟨j,u,rfl,e⟩ | ⟨y,u,rfl,e⟩
   ·exact nomatch e
   ·injection e with e1 _;rw[e1]
 byValue:=λk v h=>by
  rcases vt h with⟨i,t,rfl,rfl⟩ | ⟨x,t,rfl,rfl⟩<;>rfl
 pyHash:=λhv h=>by
  rcases vt hv with⟨i,t,rfl,rfl⟩ | ⟨x,t,rfl,rfl⟩
  ·exact wpAny_pyHash_int h
  ·exact wpAny_pyHash_str h
 eqBool:=λhu hv h=>by
  rcases vt hu with⟨i,t,rfl,rfl⟩ | ⟨x,t,rfl,rfl⟩
  ·rcases vt hv with⟨j,u,rfl,rfl⟩ | ⟨y,u,rfl,rfl⟩
   ·rw[Nc] at h;exact wpAny_eqBool_int h
   ·rw[Nt] at h;exact SeqAt.EqAt.int_str i t y u _ _ _ _ h
  ·rcases vt hv with⟨j,u,rfl,rfl⟩ | ⟨y,u,rfl,rfl⟩
   ·rw[P5] at h;exact SeqAt.EqAt.str_int x t j u _ _ _ _ h
   ·rw[Ir] at h;exact wpAny_eqBool_str h
 «strs»:=λk x t v h=>by
  rcases vt h with⟨i,u,rfl,e⟩ | ⟨y,u,rfl,e⟩
  ·exact nomatch e
  ·injection e with e1 _
   subst e1;cases v<;>rfl
inductive V where
 | non | bl (b:Bool) | int (i:Int) | str (x:Str) | byt (b:Array UInt8) | flt (b:UInt64) | ref (a:g_) | ty (n:String)
 deriving DecidableEq
def RelV:V->b_->Prop
 | .non,u=>u=b_.none
 | .bl b,u=>u=b_.bool b
 | .int i,u=>∃t,u=b_.int i t
 | .str x,u=>∃t,u=b_.str x t
 | .byt b,u=>∃t,u=b_.bytes b t
 | .flt b,u=>∃t,u=b_.float b t
 | .ref a,u=>u=b_.ref a
 | .ty n,u=>u=type n
abbrev Vals:List V->List b_->Prop:=Paired RelV
theorem Vals.length{xs:List V}(r:Vals xs us):xs.length=us.length:=Paired.length r
theorem Vals.get:∀{xs:List V}{us:List b_}{i:Nat}{x:V},Vals xs us->xs[i]?=some x->∃u,us[i]?=some u/\RelV x u
 | _,_,_,_,.nil,e=>by simp at e
 | _,_,0,_,.cons r _,e=>by simp at e;subst e;exact⟨_,rfl,r⟩
 | _,_,i+1,x,.cons _ t,e=>by
  obtain⟨u,h1,h2⟩:=Vals.get (i:=i) (x:=x) t (by simpa using e);exact⟨u,by simpa using h1,h2⟩
theorem Vals.set{x:V}{u:b_}(r:RelV x u):∀{xs:List V}{us:List b_} (i:Nat),Vals xs us->Vals (xs.set i x) (us.set i u)
 | _,_,_,.nil=>.nil
 | _,_,0,.cons _ t=>.cons r t
 | _,_,i+1,.cons q t=>.cons q (Vals.set r i t)
theorem Vals.append:∀{xs ys:List V}{us ws:List b_},Vals xs us->Vals ys ws->Vals (xs++ys) (us++ws)
 | _,_,_,_,.nil,s=>s
 | _,_,_,_,.cons r t,s=>.cons r (Vals.append t s)
theorem Vals.take:∀{xs:List V}{us:List b_} (n:Nat),Vals xs us->Vals (xs.take n) (us.take n)
 | _,_,0,_=>.nil
 | _,_,_+1,.nil=>.nil
 | _,_,n+1,.cons r t=>.cons r (Vals.take n t)
theorem Vals.drop:∀{xs:List V}{us:List b_} (n:Nat),Vals xs us->Vals (xs.drop n) (us.drop n)
 | _,_,0,r=>r
 | _,_,_+1,.nil=>.nil
 | _,_,n+1,.cons _ t=>Vals.drop n t
def RelO:Option V->Option b_->Prop
 | some v,some u=>RelV v u
 | none,none=>True
 | _,_=>False
def KV{κ:Type}:List (κ×V)->List (κ×b_)->Prop:=Paired λ(p:κ×V) (q:κ×b_)=>p.1=q.1/\RelV p.2 q.2
noncomputable def kV:Key->V
 | .inl i=>.int i
 | .inr x=>.str x
inductive HO where
 | lst (xs:List V)
 | tup (xs:List V)
 | dK (bf:List (Key×V)) | dT (bf:List (List Key×V))
 | set (S:Int->Bool) (n:Nat)
 | ins (C dx:g_) (fs:List (Str×V))
 | own (x:g_)
 | xd (fs:List (Str×V))
 | met (f x:g_)
 | rng (lo hi:Int)
 | frz (o:Obj) (u:HO)
 | tbl (ps:Array b_)
 | ext (φ:G_->Prop)
abbrev Hp:=g_->Option HO
noncomputable def upd(H:Hp)(a:g_)(o:HO):Hp:=λb=>if b=a then some o else H b
theorem t6{H:Hp}{a:g_}{o:HO}:upd H a o a=some o:=by unfold upd;rw[if_pos rfl]
theorem tG{H:Hp}{a b:g_}{o:HO}(h:b≠a):upd H a o b=H b:=by unfold upd;rw[if_neg h]
theorem u9{H:Hp}{a b:g_}{o:HO}(h:H a=some o)(h':H b=none):a≠b:=by
 intro e;subst e;rw[h] at h';cases h'
section
variable (P:v_)(w:F_)
def ObjOk(H:Hp)(h:G_)(a:g_):HO->Prop
 | .lst xs=>xs.length<=z_/\∃(ag:List b_) (n:Nat),Vals xs ag/\h.get? a=some { cls:=.type "list", data:=.seq ag.toArray n }
 | .tup xs=>xs.length<=z_/\∃ag:List b_,Vals xs ag/\Y1 h a ag.toArray
 | .dK bf=>bf.length<=z_/\(a == sysModules)=false/\∃vs,KV bf vs/\h.DictOf (mixKind P w) a vs
 | .dT bf=>bf.length<=z_/\(a == sysModules)=false/\∃xs:List (List Key×g_×b_),
   Paired (λ(p:List Key×V) (q:List Key×g_×b_)=>p.1=q.1/\H q.2.1=some (.tup (p.1.map kV))/\RelV p.2 q.2.2) bf xs ∧
   ∃o es ep,h.get? a=some o/\o.ExactDict/\o.data=.dict es ep/\es.toList=xs.map (entryOfKey (tupleKind (mixKind P w)))/\(xs.map (·.1)).Nodup
 | .set S n=>h.SetOf (intKind P w) a S n
 | .ins C dx fs=>H dx=some (.own a)/\fs.length<=1000/\dx≠a/\h.get? a=some (PySem.W.instObj C dx) ∧
   ∃mA,h.Ns1 dx mA/\(∀f,RelO (fs.lookup f) (mA f))/\PySem.Within mA (fs.map (·.1))
 | .own _=>∃o,h.get? a=some o
 | .xd fs=>∃mA,h.Ns1 a mA/\∀f,RelO (fs.lookup f) (mA f)
 | .rng lo hi=>∃t u v,h.get? a=some { cls:=.type "range", data:=.fields #[.int lo t,.int hi u,.int 1 v] }
 | .frz o u=>h.get? a=some o/\ObjOk H h a u
 | .tbl ps=>h.get? a=some { cls:=.none,data:=.fields ps }
 | .met f x=>h.get? a=some (methodObj (.ref f) (.ref x))
 | .ext φ=>φ h/\(∃o,h.get? a=some o)/\∀h1 h2:G_,φ h1->(∀o,h1.get? a=some o->h2.get? a=some o)->φ h2
def HOk(H:Hp)(h:G_):Prop:=∀a o,H a=some o->ObjOk P w H h a o
end
section
variable{P:v_}{w:F_}{H H':Hp}{h:G_}{a:g_}{o:HO}
theorem ObjOk.lt(x:ObjOk P w H h a o):a < h.objs.size:=by
 cases o with
 | lst xs=>obtain⟨_,_,_,_,e⟩:=x;exact B_ e
 | tup xs=>obtain⟨_,_,_,p⟩:=x;exact p.lt
 | dK bf=>obtain⟨_,_,_,_,o,_,_,e,_⟩:=x;exact B_ e
 | dT bf=>obtain⟨_,_,_,_,o,_,_,e,_⟩:=x;exact B_ e
 | set S n=>obtain⟨o,_,_,_,e,_⟩:=x;exact B_ e
 | ins C dx fs=>obtain⟨_,_,_,e,_⟩:=x;exact B_ e
 | own y=>obtain⟨_,e⟩:=x;exact B_ e
 | xd fs=>obtain⟨_,⟨_,_,_,e,_⟩,_⟩:=x;exact B_ e
 | rng lo hi=>obtain⟨_,_,_,e⟩:=x;exact B_ e
 | frz ob u=>obtain⟨e,_⟩:=x;exact B_ e
 | tbl ps=>exact B_ (show h.get? a=some _ from x)
 | met f y=>exact B_ (show h.get? a=some _ from x)
 | ext φ=>obtain⟨_,⟨_,e⟩,_⟩:=x;exact B_ e
theorem Paired.mapP{α Y:Type}{F G:α->Y->Prop}:∀{l₁:List α}{l₂:List Y},Paired F l₁ l₂->(∀a b,F a b->G a b)->Paired G l₁ l₂
 | _,_,.nil,_=>.nil
 | _,_,.cons r t,f=>.cons (f _ _ r) (Paired.mapP t f)
theorem ObjOk.stay(x:ObjOk P w H h a o)(k:∀b u,(b=a\/H b=some (.own a))->h.get? b=some u->h'.get? b=some u)(ho:∀b,H b=some (.own a)->H' b=some (.own a))(ht:∀b xs,H b=some (.tup xs)->H' b=some (.tup xs)):ObjOk P w H' h' a o:=by
 induction o with
 | lst xs=>obtain⟨z,ag,n,r,e⟩:=x;exact⟨z,ag,n,r,k _ _ (.inl rfl) e⟩
 | tup xs=>obtain⟨z,ag,r,ob,e,c⟩:=x;exact⟨z,ag,r,ob,k _ _ (.inl rfl) e,c⟩
 | dK bf=>obtain⟨z,y,vs,r,ob,es,ep,e,c⟩:=x;exact⟨z,y,vs,r,ob,es,ep,k _ _ (.inl rfl) e,c⟩
 | dT bf =>
  obtain⟨z,y,xs,r,ob,es,ep,e,c⟩:=x;exact⟨z,y,xs,Paired.mapP r λp q z=>⟨z.1,ht _ _ z.2.1,z.2.2⟩,ob,es,ep,k _ _ (.inl rfl) e,c⟩
 | set S n=>obtain⟨ob,es,ep,t,e,c⟩:=x;exact⟨ob,es,ep,t,k _ _ (.inl rfl) e,c⟩
 | ins C dx fs =>
  obtain⟨d,z,ne,e,mA,⟨od,es,ep,e2,c⟩,r⟩:=x;exact⟨ho _ d,z,ne,k _ _ (.inl rfl) e,mA,⟨od,es,ep,k _ _ (.inr d) e2,c⟩,r⟩
 | own y=>obtain⟨ob,e⟩:=x;exact⟨ob,k _ _ (.inl rfl) e⟩
 | xd fs=>obtain⟨mA,⟨od,es,ep,e,c⟩,r⟩:=x;exact⟨mA,⟨od,es,ep,k _ _ (.inl rfl) e,c⟩,r⟩
 | rng lo hi=>obtain⟨t,u,v,e⟩:=x;exact⟨t,u,v,k _ _ (.inl rfl) e⟩
 | frz ob u ih=>obtain⟨e,q⟩:=x;exact⟨k _ _ (.inl rfl) e,ih q⟩
 | tbl ps =>
  have e:h.get? a=some { cls:=.none,data:=.fields ps }:=x;show h'.get? a=some { cls:=.none,data:=.fields ps };exact k a _ (.inl rfl) e
 | met f y =>
  have e:h.get? a=some (methodObj (.ref f) (.ref y)):=x;show h'.get? a=some (methodObj (.ref f) (.ref y));exact k a _ (.inl rfl) e
 | ext φ=>obtain⟨p,⟨o,e⟩,st⟩:=x;exact⟨st _ _ p λo q=>k _ _ (.inl rfl) q,⟨o,k _ _ (.inl rfl) e⟩,st⟩
theorem HOk.lt(x:HOk P w H h)(e:H a=some o):a < h.objs.size:=(x a o e).lt
theorem HOk.fresh(x:HOk P w H h)(e:h.objs.size<=a):H a=none:=by
 cases q:H a with
 | none=>rfl
 | some u=>exact absurd (E_ (x.lt q) e) (Ug _)
theorem HOk.kept(x:HOk P w H h)(k:∀b u,h.get? b=some u->h'.get? b=some u):HOk P w H h':=λa o e =>
 (x a o e).stay (λb u _ q=>k b u q) (λ_ q=>q) λ_ _ q=>q
theorem HOk.laid(x:HOk P w H h)(k:∀b u,h.get? b=some u->h'.get? b=some u)(hp:h.objs.size<=a)(new:ObjOk P w (upd H a o) h' a o):HOk P w (upd H a o) h':=λb u e=>by
 have hn:=x.fresh hp;by_cases hb:b=a
 ·subst hb;rw[t6] at e;cases e;exact new
 ·rw[tG hb] at e;exact(x b u e).stay (λc v _ q=>k c v q) (λc q=>by rw[tG (u9 q hn)];exact q) λc xs q=>by rw[tG (u9 q hn)];exact q
end
def Rd(H:Hp)(a:g_)(u:HO):Prop:=H a=some u\/∃o,H a=some (.frz o u)
theorem Rd.ok{P:v_}{w:F_}{H:Hp}{h:G_}{a:g_}{u:HO}(r:Rd H a u)(x:HOk P w H h):ObjOk P w H h a u:=by
 rcases r with r | ⟨o,r⟩
 ·exact x a u r
 ·obtain⟨_,q⟩:=x a _ r;exact q
def Mut:Option HO->Prop
 | some (.lst _)=>True
 | some (.dK _)=>True
 | some (.dT _)=>True
 | some (.set _ _)=>True
 | some (.ins _ _ _)=>True
 | some (.ext _)=>True
 | _=>False
section
variable{P:v_}{w:F_}{H:Hp}{h:G_}{x e:g_}{o':HO}
theorem HOk.write(ok:HOk P w H h)(mu:Mut (H x))(he:e=x\/H e=some (.own x))(k:∀b u,b≠e->h.get? b=some u->h'.get? b=some u)(fR:∃u,h'.get? e=some u)(new:ObjOk P w (upd H x o') h' x o'):HOk P w (upd H x o') h':=λb u q=>by
 have jE:∀c y,H c=some (.own y)->c≠x:=λc y r z=>by subst z;rw[r] at mu;exact mu
 have lO:∀c xs,H c=some (.tup xs)->c≠x:=λc xs r z=>by subst z;rw[r] at mu;exact mu
 by_cases hb:b=x
 ·subst hb;rw[t6] at q;cases q;exact new
 ·rw[tG hb] at q;by_cases hbe:b=e
  ·have q':H b=some (.own x):=by
    rcases he with z | z
    ·exact absurd (hbe.trans z) hb
    ·rw[hbe];exact z
   rw[q] at q';cases q';obtain⟨v,hv⟩:=fR;exact⟨v,by rw[hbe];exact hv⟩
  ·refine(ok b u q).stay (λc v hc r=>k c v ?_ r) (λc r=>by rw[tG (jE c b r)];exact r) λc xs r=>by rw[tG (lO c xs r)];exact r
   rcases hc with rfl | hc
   ·exact hbe
   ·rintro rfl
    rcases he with z | z
    ·exact jE c b hc z
    ·rw[hc] at z;cases z;exact hb rfl
end
structure Un(fs ex:List g_)(H H':Hp)(h h':G_):Prop where
 keep:∀b o,h.get? b=some o->H b=none->b∉fs->b∉ex->h'.get? b=some o
 slot:∀b o,h.get? b=some o->H b=none->b∈fs->b∉ex->∃sl,h'.get? b=some { o with slots:=sl }
 free:∀b o,h.get? b=some o->H b=none->b∉ex->H' b=none
 there:∀b o,h.get? b=some o->b∉ex->∃o',h'.get? b=some o'
 tups:∀b xs,H b=some (.tup xs)->H' b=some (.tup xs)
 frzs:∀b o u,H b=some (.frz o u)->H' b=some (.frz o u)
 tbls:∀b ps,H b=some (.tbl ps)->∃more,H' b=some (.tbl (ps++more))
section
variable{fs oN rZ:List g_}{H H1 H2:Hp}{h h1 h2:G_}{a x e:g_}{o:HO}
theorem Un.any(u:Un fs ex H H1 h h1){b:g_}{ob:Obj}(q:h.get? b=some ob)(n:H b=none)(hx:b∉ex):∃sl,h1.get? b=some { ob with slots:=sl }:=by
 by_cases hb:b∈fs
 ·exact u.slot b ob q n hb hx
 ·exact⟨ob.slots,u.keep b ob q n hb hx⟩
theorem Un.kept(k:∀b u,h.get? b=some u->h'.get? b=some u):Un fs ex H H h h':=
 ⟨λb ob q _ _ _=>k b ob q,λb ob q _ _ _=>⟨ob.slots,k b ob q⟩,λ_ _ _ n _=>n,λb ob q _=>⟨ob,k b ob q⟩,λ_ _ q=>q,λ_ _ _ q=>q,λ_ ps q=>⟨#[],by rw[q];simp⟩⟩
theorem Un.refl:Un fs ex H H h h:=Un.kept λ_ _ q=>q
theorem Un.laid(k:∀b u,h.get? b=some u->h'.get? b=some u)(hp:h.objs.size<=a)(hn:H a=none):Un fs ex H (upd H a o) h h' where
 keep:=λb u q _ _ _=>k b u q
 slot:=λb u q _ _ _=>⟨u.slots,k b u q⟩
 free:=λb u q n _=>by rw[tG (Q_ (E_ (B_ q) hp))];exact n
 there:=λb u q _=>⟨u,k b u q⟩
 tups:=λb xs q=>by rw[tG (u9 q hn)];exact q
 frzs:=λb u xs q=>by rw[tG (u9 q hn)];exact q
 tbls:=λb ps q=>⟨#[],by rw[tG (u9 q hn),q];simp⟩
theorem Un.write(mu:Mut (H x))(he:e=x\/H e=some (.own x))(k:∀b u,b≠e->h.get? b=some u->h'.get? b=some u)(fR:∃u,h'.get? e=some u):Un fs ex H (upd H x o) h h':=by
 have hx:∀b,H b=none->b≠x:=λb n z=>by subst z;rw[n] at mu;exact mu
 have hb:∀b,H b=none->b≠e:=λb n z=>by
  subst z
  rcases he with r | r
  ·exact hx b n r
  ·rw[n] at r;cases r
 have hm:∀b u,H b=some u->¬Mut (some u)->b≠x:=λb u q nm z=>by subst z;rw[q] at mu;exact nm mu
 refine⟨λb u q n _ _=>k b u (hb b n) q,λb u q n _ _=>⟨u.slots,k b u (hb b n) q⟩,λb u q n _=>by rw[tG (hx b n)];exact n,λb u q _=>?_,
  λb xs q=>by rw[tG (hm b _ q λz=>z)];exact q,λb u xs q=>by rw[tG (hm b _ q λz=>z)];exact q,λb ps q=>⟨#[],by rw[tG (hm b _ q λz=>z),q];simp⟩⟩
 by_cases hbe:b=e
 ·subst hbe;exact fR
 ·exact⟨u,k b u hbe q⟩
end
noncomputable def trk(h:G_)(H:Hp):List g_:=(Ur h.objs.size).filter λa=>(H a).isSome
noncomputable def hidT(h:G_)(H:Hp):G_:=PySem.W.hideAll h (trk h H)
theorem Qx(h:G_)(H:Hp):(hidT h H).objs.size=h.objs.size:=PySem.W.hideAll_size _ _
theorem OA{h:G_}{H:Hp}{b:g_}{o:Obj}(e:h.get? b=some o)(n:H b=none):(hidT h H).get? b=some o:=
 PySem.W.hideAll_get _ e λhm=>by
  have q:(H b).isSome=true:=(Tq.mp hm).2;rw[n] at q;simp at q
theorem Lx{h:G_}{H:Hp}{b:g_}{o:Obj}(e:(hidT h H).get? b=some o):h.get? b=some o/\H b=none:=by
 have e':h.get? b=some o:=PySem.W.of_hideAll (trk h H) e;refine⟨e',?_⟩;cases q:H b with
 | none=>rfl
 | some x =>
  have hm:b∈trk h H:=Tq.mpr ⟨Um.mpr (B_ e'),by simp[q]⟩;have z:(hidT h H).get? b=none:=PySem.W.hideAll_none (trk h H) hm;rw[z] at e;cases e
structure Mod(K:PySem.W.Frag)(mg:Str->Option b_)(base:G_):Prop where
 kin:K.In base
 glob:base.Ns TU mg
 blt:∃mb,base.Ns Zd mb/\∀x:Str,x ≠ "__name__"->mb x=Ud x
 nolimit:base.NoLimit
structure Cx where
 prog:v_
 w:F_
 K:PySem.W.Frag
 mg:Str->Option b_
 base:G_
 A:Uh
 N:List Str
 s₀:c_
 H₀:Hp
 env:Env
 outer:List Env
 stack:List Env
 ex:List g_
 fn:Str->Bool
 calm:Bool
 pn:List (g_×Obj)
 xe:b_->c_->Prop
noncomputable def frs(l:List Env):List g_:=l.filterMap (·.frame)
noncomputable abbrev Cx.fs(X:Cx):List g_:=frs X.outer
def Vis(sc:Wc)(x:Str):Prop:=sc.names.lookup x=some .local\/sc.names.lookup x=some .cell\/sc.names.lookup x=some .free
def Loc(sc:Wc)(x:Str):Prop:=sc.names.lookup x=some .local\/sc.names.lookup x=some .cell
noncomputable def visB(s:Wc)(x:Str):Bool:=match s.names.lookup x with|some .local=>true|some .cell=>true|some .free=>true|_=>false
noncomputable def locB(s:Wc)(x:Str):Bool:=match s.names.lookup x with|some .local=>true|some .cell=>true|_=>false
noncomputable def fnB(X:Cx)(x:Str):Bool:=X.fn x||match X.env.scope.names.lookup x with|some .local=>true|_=>false
theorem visI{s:Wc}{x:Str}(h:visB s x=true):Vis s x:=by
 unfold visB at h;unfold Vis;split at h<;>simp_all
theorem locI{s:Wc}{x:Str}(h:locB s x=true):Loc s x:=by
 unfold locB at h;unfold Loc;split at h<;>simp_all
theorem fnI{X:Cx}{x:Str}(h:fnB X x=true):X.fn x=true\/X.env.scope.names.lookup x=some .local:=by
 unfold fnB at h;cases e:X.fn x with
 | true=>exact .inl rfl
 | false=>rw[e,Bool.false_or] at h;split at h<;>simp_all
def Look(env:Env)(h:G_)(m:Str->Option b_)(x:Str)(u:b_):Prop:=
 (env.kindOf x=some .local/\m x=some u)\/((env.kindOf x=some .cell\/env.kindOf x=some .free)/\∃c,env.cells.lookup x=some c/\h.IsCell c (some u))
structure Cx.Ok(X:Cx):Prop where
 mod:Mod X.K X.mg X.base
 kind:X.env.scope.kind=.function
 glob:X.env.globals=TU
 blt:X.env.builtins=Zd
 above:X.s₀.heap.objs.size<=X.env.locals
 inj:∀x y c,X.env.cells.lookup x=some c->X.env.cells.lookup y=some c->x=y
 has:∀x,(X.env.kindOf x=some .cell\/X.env.kindOf x=some .free)->∃c,X.env.cells.lookup x=some c
 cab:∀x c,X.fn x=true->X.env.cells.lookup x=some c->X.s₀.heap.objs.size<=c
 hd:X.calm=true->X.A.handled=none
 frames:X.A.frames=some X.stack
 stk:X.stack=X.outer\/(X.stack=X.env::X.outer/\X.env.frame=some X.env.locals)
 exf:∀b∈X.ex,b≠X.env.locals/\∀x c,X.env.cells.lookup x=some c->c≠b
 bs:∀b o,X.base.get? b=some o->X.s₀.heap.get? b=some o/\X.H₀ b=none
 bsz:X.base.objs.size<=X.s₀.heap.objs.size
 noex:∀b o,X.base.get? b=some o->b∉X.ex
 exfs:∀b∈X.ex,b∉X.fs
 funs:X.s₀.heap.FunFrames X.base X.outer
 frf:∀b∈X.fs,X.H₀ b=none
structure Inv(X:Cx)(aa:List (g_×Obj))(U:List (Option V))(H:Hp)(s:c_):Prop where
 ok:X.Ok
 os:s.os=X.s₀.os
 bare:Vm s.gens
 base:Un X.fs X.ex X.H₀ H X.s₀.heap s.heap
 loc:∃m,s.heap.Ns X.env.locals m/\∀(i:Nat) (x:Str) (v:V),X.N[i]?=some x->U[i]?=some (some v)->Vis X.env.scope x->∃u,RelV v u/\Look X.env s.heap m x u
 cell:∀x c,X.env.cells.lookup x=some c->∃v,s.heap.IsCell c v
 free:H X.env.locals=none
 freeC:∀x c,X.env.cells.lookup x=some c->H c=none
 pin:∀p∈X.pn++aa,s.heap.get? p.1=some p.2/\H p.1=none/\p.1≠X.env.locals/\p.1∉X.fs/\∀v,p.2.data≠.cell v
 hok:HOk X.prog X.w H s.heap
 len:U.length=X.N.length
section
variable{X:Cx}{U:List (Option V)}{H H':Hp}{s:c_}
theorem Cx.Ok.nofr(ok:X.Ok){b:g_}{o:Obj}(e:X.base.get? b=some o):b∉X.fs:=λhb=>by
 have:=(ok.funs.mem hb).1;rw[e] at this;cases this
theorem Inv.bs(I:Inv X aa U H s):∀b o,X.base.get? b=some o->s.heap.get? b=some o/\H b=none:=λb o e =>
 ⟨I.base.keep b o (I.ok.bs b o e).1 (I.ok.bs b o e).2 (I.ok.nofr e) (I.ok.noex b o e),I.base.free b o (I.ok.bs b o e).1 (I.ok.bs b o e).2 (I.ok.noex b o e)⟩
theorem Inv.bk(I:Inv X aa U H s):∀b o,X.base.get? b=some o->s.heap.get? b=some o:=λb o e=>(I.bs b o e).1
theorem Inv.mod(I:Inv X aa U H s):Mod X.K X.mg X.base:=I.ok.mod
theorem Inv.kIn(I:Inv X aa U H s):X.K.In s.heap:=I.ok.mod.kin.keeps I.bk
theorem Inv.lt(I:Inv X aa U H s):X.env.locals < s.heap.objs.size:=let ⟨_,hn,_⟩:=I.loc;hn.lt
theorem Inv.sz(I:Inv X aa U H s):X.s₀.heap.objs.size<=s.heap.objs.size:=H_ I.ok.above (XA I.lt)
theorem Inv.nofs(I:Inv X aa U H s){a:g_}(h:s.heap.objs.size<=a):a∉X.fs:=λhb=>by
 obtain⟨_,o,ho,_⟩:=I.ok.funs.mem hb;exact absurd (E_ (B_ ho) (H_ I.sz h)) (Ug _)
theorem Inv.cne(I:Inv X aa U H s):∀x c,X.env.cells.lookup x=some c->c≠X.env.locals:=λx c e z=>by
 obtain⟨v,o,ho,hd⟩:=I.cell x c e;obtain⟨m,⟨o',es,ep,bV,cP,_⟩,_⟩:=I.loc;rw[z,bV] at ho;cases ho;rw[cP] at hd;cases hd
theorem Inv.funs(I:Inv X aa U H s):s.heap.FunFrames X.base X.outer:=by
 have all:∀(l:List Env),(∀b∈frs l,b∈X.fs)->X.s₀.heap.FunFrames X.base l->s.heap.FunFrames X.base l:=by
  intro l
  induction l with
  | nil=>intro _ _;trivial
  | cons env r ih =>
   intro hs hl;obtain⟨hk,⟨L,o,hf,hn,ho,hd⟩,hr⟩:=hl;have hL:L∈X.fs:=hs L (by unfold frs;rw[Vn,hf];exact m_);obtain⟨sl,e⟩:=I.base.slot L o ho (I.ok.frf L hL) hL λz=>I.ok.exfs L z hL
   exact⟨hk,⟨L,_,hf,hn,e,hd⟩,ih (λb hb=>hs b (by unfold frs;rw[Vn,hf];exact i_ _ hb)) hr⟩
 exact all X.outer (λ_ hb=>hb) I.ok.funs
theorem Inv.stack(I:Inv X aa U H s):s.heap.FunFrames X.base X.stack:=by
 rcases I.ok.stk with e | ⟨e,hf⟩
 ·rw[e];exact I.funs
 ·rw[e];obtain⟨m,hn,_⟩:=I.loc;refine .cons (by rw[I.ok.kind];decide) hf hn ?_ I.funs;exact G_.get?_none_of_le (H_ I.ok.bsz I.ok.above)
theorem Inv.stkSub(I:Inv X aa U H s):∀b∈frs X.stack,b∈X.env.locals::X.fs:=λb hb=>by
 rcases I.ok.stk with e | ⟨e,hf⟩
 ·rw[e] at hb;exact i_ _ hb
 ·rw[e] at hb;unfold frs at hb;rw[Vn,hf] at hb;exact hb
theorem Inv.stkFree(I:Inv X aa U H s):∀b∈frs X.stack,H b=none:=λb hb=>by
 rcases w_.mp (I.stkSub b hb) with e | hb
 ·rw[e];exact I.free
 ·obtain⟨_,o,ho,_⟩:=I.ok.funs.mem hb;exact I.base.free b o ho (I.ok.frf b hb) λz=>I.ok.exfs b z hb
theorem Inv.stepN(I:Inv X aa U H s)(bj:∀b∈ch,(b∈X.ex\/X.s₀.heap.get? b=none)/\b≠X.env.locals/\(∀x c,X.env.cells.lookup x=some c->c≠b)/\∀p∈X.pn++aa,p.1≠b)(keep:∀b o,b≠X.env.locals->b∉X.fs->b∉ch->s.heap.get? b=some o->H b=none->h'.get? b=some o)(slot:∀b o,b≠X.env.locals->b∈X.fs->b∉ch->s.heap.get? b=some o->H b=none->∃sl,h'.get? b=some { o with slots:=sl })(free:∀b o,b∉ch->s.heap.get? b=some o->H b=none->H' b=none)(there:∀b o,b∉ch->s.heap.get? b=some o->∃o',h'.get? b=some o')(tups:∀b xs,H b=some (.tup xs)->H' b=some (.tup xs))(frzs:∀b o u,H b=some (.frz o u)->H' b=some (.frz o u))(tbls:∀b ps,H b=some (.tbl ps)->∃more,H' b=some (.tbl (ps++more)))(ns:∀m,s.heap.Ns X.env.locals m->h'.Ns X.env.locals m)(hok:HOk X.prog X.w H' h')(hg:Vm g'):
  Inv X aa U H' { s with heap:=h',gens:=g',drawn:=d',toks:=t' }:=by
 have fS:∀b o,X.s₀.heap.get? b=some o->b≠X.env.locals:=λb o e=>Q_ (E_ (B_ e) I.ok.above)
 have fT:∀b o,X.s₀.heap.get? b=some o->b∉X.ex->b∉ch:=λb o e hx hb=>by
  rcases(bj b hb).1 with z | z
  ·exact hx z
  ·rw[z] at e;cases e
 have gE:∀x c,X.env.cells.lookup x=some c->∀v,s.heap.IsCell c v->h'.IsCell c v:=λx c e v ⟨o,ho,hd⟩=>by
  have cQ:c∉ch:=λz=>(bj c z).2.2.1 x c e rfl
  by_cases hc:c∈X.fs
  ·obtain⟨sl,q⟩:=slot c o (I.cne x c e) hc cQ ho (I.freeC x c e);exact⟨_,q,hd⟩
  ·exact⟨o,keep c o (I.cne x c e) hc cQ ho (I.freeC x c e),hd⟩
 refine⟨I.ok,I.os,hg,⟨λb o e n hb hx=>?_,λb o e n hb hx=>?_,λb o e n hx=>?_,λb o e hx=>?_,λb xs e=>tups b xs (I.base.tups b xs e),λb o xs e=>frzs b o xs (I.base.frzs b o xs e),λb ps e=>?_⟩,?_,λx c e=>?_,?_,λx c e=>?_,λp hp=>?_,hok,I.len⟩
 ·exact keep b o (fS b o e) hb (fT b o e hx) (I.base.keep b o e n hb hx) (I.base.free b o e n hx)
 ·obtain⟨sl,e1⟩:=I.base.slot b o e n hb hx;obtain⟨jT,e2⟩:=slot b _ (fS b o e) hb (fT b o e hx) e1 (I.base.free b o e n hx);exact⟨jT,e2⟩
 ·obtain⟨o',e1⟩:=I.base.there b o e hx;exact free b o' (fT b o e hx) e1 (I.base.free b o e n hx)
 ·obtain⟨o',e1⟩:=I.base.there b o e hx;exact there b o' (fT b o e hx) e1
 ·obtain⟨m1,e1⟩:=I.base.tbls b ps e;obtain⟨m2,e2⟩:=tbls b _ e1;exact⟨m1++m2,by rw[e2,Array.append_assoc]⟩
 ·obtain⟨m,hn,hl⟩:=I.loc;refine⟨m,ns m hn,λi x v e1 e2 e3=>?_⟩;obtain⟨u,r,l⟩:=hl i x v e1 e2 e3;refine⟨u,r,?_⟩
  rcases l with l | ⟨k,c,e,z⟩
  ·exact .inl l
  ·exact .inr ⟨k,c,e,gE x c e _ z⟩
 ·obtain⟨v,z⟩:=I.cell x c e;exact⟨v,gE x c e v z⟩
 ·obtain⟨m,⟨o,_,_,ho,_⟩,_⟩:=I.loc;exact free _ o (λz=>(bj _ z).2.1 rfl) ho I.free
 ·obtain⟨v,o,ho,hd⟩:=I.cell x c e;exact free c o (λz=>(bj c z).2.2.1 x c e rfl) ho (I.freeC x c e)
 ·obtain⟨e,n,ne,nf,d⟩:=I.pin p hp;have cQ:p.1∉ch:=λz=>(bj p.1 z).2.2.2 p hp rfl
  exact⟨keep p.1 p.2 ne nf cQ e n,free p.1 p.2 cQ e n,ne,nf,d⟩
theorem Inv.step(I:Inv X aa U H s)(bj:∀b∈ch,(b∈X.ex\/X.s₀.heap.objs.size<=b)/\b≠X.env.locals/\(∀x c,X.env.cells.lookup x=some c->c≠b)/\∀p∈X.pn++aa,p.1≠b)(keep:∀b o,b≠X.env.locals->b∉X.fs->b∉ch->s.heap.get? b=some o->H b=none->h'.get? b=some o)(slot:∀b o,b≠X.env.locals->b∈X.fs->b∉ch->s.heap.get? b=some o->H b=none->∃sl,h'.get? b=some { o with slots:=sl })(free:∀b o,b∉ch->s.heap.get? b=some o->H b=none->H' b=none)(there:∀b o,b∉ch->s.heap.get? b=some o->∃o',h'.get? b=some o')(tups:∀b xs,H b=some (.tup xs)->H' b=some (.tup xs))(frzs:∀b o u,H b=some (.frz o u)->H' b=some (.frz o u))(tbls:∀b ps,H b=some (.tbl ps)->∃more,H' b=some (.tbl (ps++more)))(ns:∀m,s.heap.Ns X.env.locals m->h'.Ns X.env.locals m)(hok:HOk X.prog X.w H' h')(hg:Vm g'):
  Inv X aa U H' { s with heap:=h',gens:=g',drawn:=d',toks:=t' }:=
 I.stepN (λb hb=>⟨(bj b hb).1.imp id G_.get?_none_of_le,(bj b hb).2⟩) keep slot free there tups frzs tbls ns hok hg
theorem Inv.un(I:Inv X aa U H s)(u:Un X.fs [] H H' s.heap h')(hok:HOk X.prog X.w H' h'):Inv X aa U H' { s with heap:=h',toks:=t' }:=by
 obtain⟨m,⟨o,es,ep,ho,r⟩,_⟩:=id I.loc;obtain⟨sl,hL⟩:=u.any ho I.free (by simp)
 exact I.step (g':=s.gens) (d':=s.drawn) (ch:=[]) (λ_ z=>nomatch z) (λb o _ hb _ e n=>u.keep b o e n hb (by simp)) (λb o _ hb _ e n=>u.slot b o e n hb (by simp)) (λb o _ e n=>u.free b o e n (by simp)) (λb o _ e=>u.there b o e (by simp)) u.tups u.frzs u.tbls (λm' hm=>by
  obtain⟨o',es',jU,bV,r'⟩:=hm;rw[ho] at bV;cases bV
  exact⟨_,es',jU,hL,r'⟩) hok I.bare
theorem Inv.callN(I:Inv X aa U H s)(u:Un (frs X.stack) ch H H' s.heap h')(hok:HOk X.prog X.w H' h')(hg:Vm g')(bj:∀b∈ch,(b∈X.ex\/X.s₀.heap.get? b=none)/\b≠X.env.locals/\(∀x c,X.env.cells.lookup x=some c->c≠b)/\∀p∈X.pn++aa,p.1≠b):
  Inv X aa U H' { s with heap:=h',gens:=g',drawn:=d',toks:=t' }:=by
 obtain⟨m,⟨o,es,ep,ho,r⟩,_⟩:=id I.loc;obtain⟨sl,hL⟩:=u.any ho I.free λz=>(bj _ z).2.1 rfl
 exact I.stepN (ch:=ch) bj (λb o hL hb hc e n=>u.keep b o e n (λz=>(w_.mp (I.stkSub b z)).elim hL hb) hc) (λb o _ _ hc e n=>u.any e n hc) (λb o hc e n=>u.free b o e n hc) (λb o hc e=>u.there b o e hc) u.tups u.frzs u.tbls (λm' hm=>by
  obtain⟨o',es',jU,bV,r'⟩:=hm;rw[ho] at bV;cases bV
  exact⟨_,es',jU,hL,r'⟩) hok hg
theorem Inv.call(I:Inv X aa U H s)(u:Un (frs X.stack) ch H H' s.heap h')(hok:HOk X.prog X.w H' h')(hg:Vm g')(bj:∀b∈ch,(b∈X.ex\/X.s₀.heap.objs.size<=b)/\b≠X.env.locals/\(∀x c,X.env.cells.lookup x=some c->c≠b)/\∀p∈X.pn++aa,p.1≠b):
  Inv X aa U H' { s with heap:=h',gens:=g',drawn:=d',toks:=t' }:=
 I.callN u hok hg λb hb=>⟨(bj b hb).1.imp id G_.get?_none_of_le,(bj b hb).2⟩
theorem Inv.turned{it:g_}(I:Inv X aa U H s)(k:∀b o,b≠it->s.heap.get? b=some o->h'.get? b=some o)(hn:H it=none)(hL:it≠X.env.locals)(h1:it∈X.ex\/X.s₀.heap.objs.size<=it)(h2:∀x c,X.env.cells.lookup x=some c->c≠it)(h3:∀p∈X.pn++aa,p.1≠it):Inv X aa U H { s with heap:=h',toks:=t' }:=by
 have lP:∀b u,H b=some u->b≠it:=λb u e z=>by rw[z,hn] at e;cases e
 refine I.step (g':=s.gens) (d':=s.drawn) (ch:=[it]) (λb hb=>?_) (λb o _ _ hc e _=>k b o (λz=>hc (by simp[z])) e) (λb o _ _ hc e _=>⟨o.slots,k b o (λz=>hc (by simp[z])) e⟩) (λ_ _ _ _ n=>n)
  (λb o hc e=>⟨o,k b o (λz=>hc (by simp[z])) e⟩) (λ_ _ e=>e) (λ_ _ _ e=>e) (λb ps e=>⟨#[],by rw[e];simp⟩) (λm hm=>?_) (λb u e=>?_) I.bare
 ·have e:b=it:=by simpa using hb
  subst e;exact⟨h1,hL,h2,h3⟩
 ·obtain⟨o,es,ep,ho,r⟩:=hm;exact⟨o,es,ep,k _ o (Tt hL) ho,r⟩
 ·refine(I.hok b u e).stay (λc v hc q=>k c v ?_ q) (λ_ q=>q) λ_ _ q=>q
  rcases hc with z | z
  ·rw[z];exact lP b u e
  ·exact lP c _ z
theorem Inv.tok(I:Inv X aa U H s)(t:Nat):Inv X aa U H { s with toks:=t }:=I.un (h':=s.heap) (t':=t) Un.refl I.hok
theorem Inv.kept(I:Inv X aa U H s)(k:∀b u,s.heap.get? b=some u->h'.get? b=some u):Inv X aa U H { s with heap:=h',toks:=t' }:=I.un (Un.kept k) (I.hok.kept k)
theorem Inv.laid{a:g_}{o:HO}(I:Inv X aa U H s)(k:∀b u,s.heap.get? b=some u->h'.get? b=some u)(hp:s.heap.objs.size<=a)(new:ObjOk X.prog X.w (upd H a o) h' a o):
  Inv X aa U (upd H a o) { s with heap:=h',toks:=t' }:=I.un (Un.laid k hp (I.hok.fresh hp)) (I.hok.laid k hp new)
theorem Inv.write{x e:g_}{o:HO}(I:Inv X aa U H s)(mu:Mut (H x))(he:e=x\/H e=some (.own x))(k:∀b u,b≠e->s.heap.get? b=some u->h'.get? b=some u)(fR:∃u,h'.get? e=some u)(new:ObjOk X.prog X.w (upd H x o) h' x o):Inv X aa U (upd H x o) { s with heap:=h',toks:=t' }:=I.un (Un.write mu he k fR) (I.hok.write mu he k fR new)
theorem Inv.pins_of(I:Inv X aa U H s)(h:∀p∈gF,s.heap.get? p.1=some p.2/\H p.1=none/\p.1≠X.env.locals/\p.1∉X.fs/\∀v,p.2.data≠.cell v):Inv X gF U H s:=
 ⟨I.ok,I.os,I.bare,I.base,I.loc,I.cell,I.free,I.freeC,λp hp=>(I_.mp hp).elim (λz=>I.pin p (T6 _ z)) (h p),I.hok,I.len⟩
theorem CC(hN:N.Nodup){x:Str}(a:N[i]?=some x)(b:N[j]?=some x):i=j:=by
 obtain⟨h1,e1⟩:=x_.mp a;obtain⟨h2,e2⟩:=x_.mp b;exact(List.getElem_inj hN).mp (e1.trans e2.symm)
theorem Dt{M:Y2}{E:b_->c_->Prop}{x:Str}{v:V}{Q:Unit->c_->Prop}(I:Inv X aa U H s)(hN:X.N.Nodup)(hi:X.N[i]?=some x)(hx:Loc X.env.scope x)(r:RelV v u)(h:∀s',Inv X aa (U.set i (some v)) H s'->(∃a,G_.SameBut a s.heap s'.heap/\(a=X.env.locals\/X.env.cells.lookup x=some a))->Q () s')(hf:X.fn x=true\/X.env.scope.names.lookup x=some .local):o_ M A (storeName X.env x u) Q E s:=by
 obtain⟨m,hn,hl⟩:=id I.loc;have lQ:(X.env.scope.kind == .class||(X.env.scope.kind == .module&&X.env.locals != X.env.globals))=false:=by rw[I.ok.kind];rfl
 have jF:i < U.length:=by rw[I.len];exact(x_.mp hi).1
 have cne:=I.cne
 have dk:∀{a:g_}{h':G_},(∃o,s.heap.get? a=some o/\H a=none)->G_.SameBut a s.heap h'->HOk X.prog X.w H h':=λ{a h'} ha hs b ob e=>by
  obtain⟨_,_,gG⟩:=ha;refine(I.hok b ob e).stay (λc w' hc q=>(hs.2 c ?_).trans q) (λ_ q=>q) λ_ _ q=>q
  rintro rfl
  rcases hc with rfl | hc
  ·rw[gG] at e;cases e
  ·rw[gG] at hc;cases hc
 rcases hx with hk | hk
 ·refine wpAny_storeName_local hk hn (λh' ff hs=>?_) lQ;obtain⟨oL,_,_,lR,_⟩:=id hn;refine h _ ⟨I.ok,I.os,I.bare,⟨λb o e n hb hx=>?_,λb o e n hb hx=>?_,I.base.free,λb o e hx=>?_,I.base.tups,I.base.frzs,I.base.tbls⟩,⟨_,ff,λj y v' e1 e2 e3=>?_⟩,λy c e=>?_,I.free,I.freeC,λp hp=>?_,dk ⟨oL,lR,I.free⟩ hs,by simpa using I.len⟩ ⟨_,hs,.inl rfl⟩
  ·exact(hs.2 b (Q_ (E_ (B_ e) I.ok.above))).trans (I.base.keep b o e n hb hx)
  ·obtain⟨sl,e1⟩:=I.base.slot b o e n hb hx;exact⟨sl,(hs.2 b (Q_ (E_ (B_ e) I.ok.above))).trans e1⟩
  ·obtain⟨o',e1⟩:=I.base.there b o e hx;exact⟨o',(hs.2 b (Q_ (E_ (B_ e) I.ok.above))).trans e1⟩
  ·by_cases hj:j=i
   ·subst hj;rw[hi] at e1;cases e1;rw[UK jF] at e2;cases e2;exact⟨u,r,.inl ⟨hk,by simp⟩⟩
   ·rw[Tu (Tt hj)] at e2;obtain⟨u',r',q⟩:=hl j y v' e1 e2 e3;refine⟨u',r',?_⟩
    rcases q with⟨k,e⟩ | ⟨k,c,e,z⟩
    ·refine .inl ⟨k,?_⟩;have:y≠x:=λe=>hj (CC hN e1 (e▸hi))
     simp[this,e]
    ·exact .inr ⟨k,c,e,z.sameBut hs (cne y c e)⟩
  ·obtain⟨w',z⟩:=I.cell y c e;exact⟨w',z.sameBut hs (cne y c e)⟩
  ·obtain⟨e,n,ne,nf,d⟩:=I.pin p hp;exact⟨(hs.2 p.1 ne).trans e,n,ne,nf,d⟩
 ·have jV:X.fn x=true:=by
   rcases hf with z | z
   ·exact z
   ·rw[z] at hk;cases hk
  obtain⟨c,hc⟩:=I.ok.has x (.inl hk);obtain⟨w',z⟩:=I.cell x c hc;refine wpAny_storeName_cell I.ok.kind hk hc z (λh' bW hs=>?_);obtain⟨oc,lU,lV⟩:=id z;refine h { s with heap:=h' } ⟨I.ok,I.os,I.bare,⟨λb o e n hb hx=>?_,λb o e n hb hx=>?_,I.base.free,λb o e hx=>?_,I.base.tups,I.base.frzs,I.base.tbls⟩,⟨m,hn.sameBut hs (Tt (cne x c hc)),λj y v' e1 e2 e3=>?_⟩,λy c' e=>?_,I.free,I.freeC,λp hp=>?_,dk ⟨oc,lU,I.freeC x c hc⟩ hs,by simpa using I.len⟩ ⟨c,hs,.inr hc⟩
  ·exact(hs.2 b (Q_ (E_ (B_ e) (I.ok.cab x c jV hc)))).trans (I.base.keep b o e n hb hx)
  ·obtain⟨sl,e1⟩:=I.base.slot b o e n hb hx;exact⟨sl,(hs.2 b (Q_ (E_ (B_ e) (I.ok.cab x c jV hc)))).trans e1⟩
  ·obtain⟨o',e1⟩:=I.base.there b o e hx;exact⟨o',(hs.2 b (Q_ (E_ (B_ e) (I.ok.cab x c jV hc)))).trans e1⟩
  ·by_cases hj:j=i
   ·subst hj;rw[hi] at e1;cases e1;rw[UK jF] at e2;cases e2;exact⟨u,r,.inr ⟨.inl hk,c,hc,bW⟩⟩
   ·rw[Tu (Tt hj)] at e2;obtain⟨u',r',q⟩:=hl j y v' e1 e2 e3;refine⟨u',r',?_⟩
    rcases q with q | ⟨k,c',e,z'⟩
    ·exact .inl q
    ·refine .inr ⟨k,c',e,z'.sameBut hs ?_⟩;rintro rfl;exact hj (CC hN e1 (I.ok.inj _ _ _ e hc▸hi))
  ·by_cases jW:c'=c
   ·subst jW;exact⟨_,bW⟩
   ·obtain⟨w2,z2⟩:=I.cell y c' e;exact⟨w2,z2.sameBut hs jW⟩
  ·obtain⟨e,n,ne,nf,d⟩:=I.pin p hp;refine⟨(hs.2 p.1 ?_).trans e,n,ne,nf,d⟩;intro q;rw[q,lU] at e;have q':oc=p.2:=Tn e;exact d w' (by rw[←q'];exact lV)
theorem Ca{M:Y2}{E:b_->c_->Prop}{x:Str}{v:V}{Q:Unit->c_->Prop}(I:Inv X aa U H s)(hN:X.N.Nodup)(hi:X.N[i]?=some x)(hx:Loc X.env.scope x)(r:RelV v u)(h:∀s',Inv X aa (U.set i (some v)) H s'->Q () s')(hf:X.fn x=true\/X.env.scope.names.lookup x=some .local):o_ M A (storeName X.env x u) Q E s:=
 Dt I hN hi hx r (λs' I' _=>h s' I') hf
theorem Inv.call'(I:Inv X aa U H s)(ho:s'.os=s.os)(u:Un (frs X.stack) ch H H' s.heap s'.heap)(hok:HOk X.prog X.w H' s'.heap)(hg:Vm s'.gens)(bj:∀b∈ch,(b∈X.ex\/X.s₀.heap.objs.size<=b)/\b≠X.env.locals/\(∀x c,X.env.cells.lookup x=some c->c≠b)/\∀p∈X.pn++aa,p.1≠b):Inv X aa U H' s':=by
 obtain⟨h',g',d',t',o'⟩:=s';have e:o'=s.os:=ho;subst e;exact I.call (g':=g') (t':=t') (d':=d') u hok hg bj
end
abbrev XK:=b_->Option g_->Hp->Prop
abbrev St:=List (Option V)
abbrev VK:=V->Hp->Prop
abbrev TE:=St->Hp->VK->Prop
abbrev TT:=St->Hp->(Bool->Hp->Prop)->Prop
abbrev TA:=St->Hp->(List V->Hp->Prop)->Prop
structure Ends where
 nx:St->Hp->Prop
 rt:VK
 bk:St->Hp->Prop:=λ_ _=>False
 ct:St->Hp->Prop:=λ_ _=>False
abbrev TS:=Ends->St->Hp->Prop
def EP(X:Cx)(aa:List (g_×Obj))(U:St)(Q:VK)(u:b_)(s':c_):Prop:=∃v H',Inv X aa U H' s'/\RelV v u/\Q v H'
def TP(X:Cx)(aa:List (g_×Obj))(U:St)(Q:Bool->Hp->Prop)(b:Bool)(s':c_):Prop:=∃H',Inv X aa U H' s'/\Q b H'
def AP(X:Cx)(aa:List (g_×Obj))(U:St)(Q:List V->Hp->Prop)(us:List b_)(s':c_):Prop:=∃vs H',Inv X aa U H' s'/\Vals vs us/\Q vs H'
def SP(X:Cx)(aa:List (g_×Obj))(D:Ends)(f:Flow)(s':c_):Prop:=
 match f with
 | .next=>∃am H',Inv X aa am H' s'/\D.nx am H'
 | .brk=>∃am H',Inv X aa am H' s'/\D.bk am H'
 | .cont=>∃am H',Inv X aa am H' s'/\D.ct am H'
 | .ret u=>∃v am H',Inv X aa am H' s'/\RelV v u/\D.rt v H'
def PE(X:Cx)(e:D_)(t:TE):Prop:=
 ∀(aa:List (g_×Obj)) (s:c_) (U:St) (H:Hp) (Q:VK),Inv X aa U H s->t U H Q->o_ (q_ X.prog X.w) X.A (eval e X.env) (EP X aa U Q) X.xe s
def PT(X:Cx)(e:D_)(t:TT):Prop:=
 ∀(aa:List (g_×Obj)) (s:c_) (U:St) (H:Hp) (Q:Bool->Hp->Prop),Inv X aa U H s->t U H Q->o_ (q_ X.prog X.w) X.A (Ze e X.env (eval e X.env)) (TP X aa U Q) X.xe s
def PW(X:Cx)(e:D_)(t:TT):Prop:=
 ∀(bX:Sem b_) (aa:List (g_×Obj)) (s:c_) (U:St) (H:Hp) (Q:Bool->Hp->Prop),Inv X aa U H s->t U H Q->o_ (q_ X.prog X.w) X.A (Ze e X.env bX) (TP X aa U Q) X.xe s
def PA(X:Cx)(es:List D_)(t:TA):Prop:=
 ∀(pos:Pos) (aa:List (g_×Obj)) (s:c_) (U:St) (H:Hp) (Q:List V->Hp->Prop),Inv X aa U H s->t U H Q->o_ (q_ X.prog X.w) X.A (spliced (J_ pos (d_ es X.env))) (AP X aa U Q) X.xe s
def PS(X:Cx)(st:Tr)(t:TS):Prop:=
 ∀(aa:List (g_×Obj)) (s:c_) (U:St) (H:Hp) (D:Ends),Inv X aa U H s->t D U H->o_ (q_ X.prog X.w) X.A (exec st X.env) (SP X aa D) X.xe s
def PSs(X:Cx)(st:List Tr)(t:TS):Prop:=
 ∀(aa:List (g_×Obj)) (s:c_) (U:St) (H:Hp) (D:Ends),Inv X aa U H s->t D U H->o_ (q_ X.prog X.w) X.A (execs st X.env) (SP X aa D) X.xe s
theorem thn{α:Type}{t:Sem α}{Q Q':α->c_->Prop}{M:Y2}{E:b_->c_->Prop}{s:c_}(h:o_ M A t Q E s)(hQ:∀a s,Q a s->Q' a s):o_ M A t Q' E s:=TJ h hQ λ_ _ x=>x
section
variable {X:Cx}
noncomputable def tVar(i:Nat):TE:=λU H Q=>∃v,U[i]?=some (some v)/\Q v H
noncomputable def tC(v:V):TE:=λ_ H Q=>Q v H
theorem Pa{x:Str}(hN:X.N[i]?=some x)(hv:Vis X.env.scope x)(hd:(x == ("__debug__":Str))=false:=by decide)(cz:(x == ("__classdict__":Str))=false:=by decide):PE X (.Name x pos) (tVar i):=by
 intro aa s U H Q I h;obtain⟨v,e,h⟩:=h;obtain⟨m,hn,hl⟩:=I.loc;obtain⟨u,r,l⟩:=hl i x v hN e hv;have fin:EP X aa U Q u s:=⟨v,H,I,r,h⟩
 rcases l with⟨hk,hm⟩ | ⟨hk,c,hc,gI⟩
 ·exact Zf (wpAny_loadName_local I.ok.kind hk hn hm fin) hd
 ·rcases hk with hk | hk
  ·exact Zf (wpAny_loadName_cell I.ok.kind hk hc gI fin) hd
  ·exact Zf (wpAny_loadName_free I.ok.kind hk hc gI fin cz) hd
theorem Pz{i j pos}:PE X (.Constant (.int i) j pos) (tC (.int i)):=λ_ _ _ H _ I h=>wpAny_Constant_int ⟨.int i,H,I.tok _,⟨_,rfl⟩,h⟩
theorem Pt{b j pos}:PE X (.Constant (.bool b) j pos) (tC (.bl b)):=λ_ _ _ H _ I h=>Constant_bool ⟨.bl b,H,I,rfl,h⟩
theorem PX{j pos}:PE X (.Constant .none j pos) (tC .non):=λ_ _ _ H _ I h=>Constant_none ⟨.non,H,I,rfl,h⟩
theorem F4{x j pos}:PE X (.Constant (.str x) j pos) (tC (.str x)):=λ_ _ _ H _ I h=>Yn ⟨.str x,H,I.tok _,⟨_,rfl⟩,h⟩
def Gl(X:Cx)(x:Str):Prop:=X.env.kindOf x=some .globalImplicit
theorem wf{E:b_->c_->Prop}{s:c_}{U:St}{H:Hp}{x:Str}{Q:b_->c_->Prop}(I:Inv X aa U H s)(hg:Gl X x)(hm:X.mg x=some u)(h:Q u s)(hd:(x == ("__debug__":Str))=false:=by decide):o_ (q_ X.prog X.w) X.A (eval (.Name x pos) X.env) Q E s:=
 Wd I.ok.kind hg (Calls.loadGlobal_global (by rw[I.ok.glob];exact I.mod.glob.keeps I.bk) hm h) hd
theorem vi{E:b_->c_->Prop}{s:c_}{U:St}{H:Hp}{x:Str}{Q:b_->c_->Prop}(I:Inv X aa U H s)(hg:Gl X x)(hm:X.mg x=none)(hv:Ud x=some u)(h:Q u s)(hn:x ≠ "__name__":=by decide)(hd:(x == ("__debug__":Str))=false:=by decide):o_ (q_ X.prog X.w) X.A (eval (.Name x pos) X.env) Q E s:=by
 obtain⟨mb,h1,h2⟩:=I.mod.blt;exact Wd I.ok.kind hg (Calls.loadGlobal_builtin (by rw[I.ok.glob];exact I.mod.glob.keeps I.bk) hm (by rw[I.ok.blt];exact h1.keeps I.bk) ((h2 x hn).trans hv) h) hd
theorem u7{x:Str}{v:V}(hg:Gl X x)(hm:X.mg x=some u)(r:RelV v u)(hd:(x == ("__debug__":Str))=false:=by decide):PE X (.Name x pos) (tC v):=
 λ_ _ _ H _ I h=>wf I hg hm ⟨v,H,I,r,h⟩ hd
theorem Em{x:Str}{v:V}(hg:Gl X x)(hm:X.mg x=none)(hv:Ud x=some u)(r:RelV v u)(hn:x ≠ "__name__":=by decide)(hd:(x == ("__debug__":Str))=false:=by decide):PE X (.Name x pos) (tC v):=
 λ_ _ _ H _ I h=>vi I hg hm hv ⟨v,H,I,r,h⟩ hn hd
variable{a b:D_}{ta tb:TE}
noncomputable def tB(t:TE):TT:=λU H Q=>t U H λx H1=>∃c,x=.bl c/\Q c H1
theorem Ka{e:D_}{t:TE}(h:PE X e t)(he:∀bX,Ze e X.env bX=(do let v ←bX;Zy e.pos;WB [v] (truthy v)):=by intros;rfl):PT X e (tB t):=by
 intro aa s U H Q I hw;refine isTrue_plain (thn (h aa s U H _ I hw) λv s1 ⟨x,H1,I1,r1,q1⟩=>?_) (he _);obtain⟨d,rfl,q⟩:=q1;cases r1;exact K_ ⟨H1,I1,q⟩
variable{tA iB:TT}
noncomputable def tAnd(t u:TT):TT:=λU H Q=>t U H λc H1=>if c=true then u U H1 Q else Q false H1
noncomputable def tOr(t u:TT):TT:=λU H Q=>t U H λc H1=>if c=true then Q true H1 else u U H1 Q
noncomputable def tNot(t:TT):TT:=λU H Q=>t U H λc H1=>Q (!c) H1
theorem Lh(ha:PT X a tA):PW X (.BoolOp .And [a] pos) tA:=by
 intro wh aa s U H Q I h;refine isTrue_and (thn (ha aa s U H Q I h) λc s1 e=>?_);cases c with
 | true=>exact isTrue_and_nil e
 | false=>exact e
theorem OR(ha:PT X a tA):PW X (.BoolOp .Or [a] pos) tA:=by
 intro wh aa s U H Q I h;refine isTrue_or (thn (ha aa s U H Q I h) λc s1 e=>?_);cases c with
 | false=>exact isTrue_or_nil e
 | true=>exact e
theorem NI(ha:PT X a tA)(hb:PW X (.BoolOp .And (b::aF) pos) iB):PW X (.BoolOp .And (a::b::aF) pos) (tAnd tA iB):=by
 intro wh aa s U H Q I h;refine isTrue_and (thn (ha aa s U H _ I h) λc s1 ⟨H1,I1,q1⟩=>?_);cases c with
 | true=>exact hb wh aa s1 U H1 Q I1 q1
 | false=>exact⟨H1,I1,q1⟩
theorem NU(ha:PT X a tA)(hb:PW X (.BoolOp .Or (b::aF) pos) iB):PW X (.BoolOp .Or (a::b::aF) pos) (tOr tA iB):=by
 intro wh aa s U H Q I h;refine isTrue_or (thn (ha aa s U H _ I h) λc s1 ⟨H1,I1,q1⟩=>?_);cases c with
 | true=>exact⟨H1,I1,q1⟩
 | false=>exact hb wh aa s1 U H1 Q I1 q1
theorem J8(ha:PT X a tA):PT X (.UnaryOp .Not a pos) (tNot tA):=by
 intro aa s U H Q I h;exact isTrue_not (ha aa s U H (λc H1=>Q (!c) H1) I h)
noncomputable def tAndV(ta tb:TE):TE:=λU H Q=>ta U H λx H1=>∃c,x=.bl c/\if c=true then tb U H1 Q else Q (.bl false) H1
noncomputable def tNotV(ta:TE):TE:=λU H Q=>ta U H λx H1=>∃c,x=.bl c/\Q (.bl (!c)) H1
theorem J6{op}{t:TE}(h:PE X a t):PE X (.BoolOp op [a] pos) t:=λaa s U H Q I hw=>BoolOp_one (h aa s U H Q I hw)
theorem OZ(ha:PE X a ta)(hb:PE X (.BoolOp .And (b::aF) pos) tb):PE X (.BoolOp .And (a::b::aF) pos) (tAndV ta tb):=by
 intro aa s U H Q I h;refine BoolOp_and (thn (ha aa s U H _ I h) λv s1 ⟨x,H1,I1,r1,q1⟩=>?_);obtain⟨c,rfl,q1⟩:=q1;cases r1;refine K_ ?_;cases c with
 | true=>exact hb aa s1 U H1 Q I1 q1
 | false=>exact⟨.bl false,H1,I1,rfl,q1⟩
theorem PD(ha:PE X a ta):PE X (.UnaryOp .Not a pos) (tNotV ta):=by
 intro aa s U H Q I h;refine UnaryOp_ (thn (ha aa s U H _ I h) λv s1 ⟨x,H1,I1,r1,q1⟩=>?_);obtain⟨c,rfl,q1⟩:=q1;cases r1;exact not_of (K_ ⟨.bl (!c),H1,I1,rfl,q1⟩)
noncomputable def tIf(t:TT)(ta tb:TE):TE:=λU H Q=>t U H λc H1=>if c=true then ta U H1 Q else tb U H1 Q
theorem Mx{c:D_}(hc:PT X c tA)(ha:PE X a ta)(hb:PE X b tb):PE X (.IfExp c a b pos) (tIf tA ta tb):=by
 intro aa s U H Q I h;refine wpAny_IfExp (thn (hc aa s U H _ I h) λd s1 ⟨H1,I1,q1⟩=>?_);cases d with
 | true=>exact ha aa s1 U H1 Q I1 q1
 | false=>exact hb aa s1 U H1 Q I1 q1
end
def SqL(K:PySem.W.Frag)(H:Hp)(a:g_)(xs:List V):Prop:=
 Rd H a (.lst xs) ∨
  ∃(o:Obj) (ag:Array b_) (n:Nat),K.lookup a=some o/\o.cls=.type "list"/\o.dict=none/\o.data=.seq ag n/\ag.size<=z_/\Vals xs ag.toList
def SqT(K:PySem.W.Frag)(H:Hp)(a:g_)(xs:List V):Prop:=
 Rd H a (.tup xs) ∨
  ∃(o:Obj) (ag:Array b_) (n:Nat),K.lookup a=some o/\o.cls=.type "tuple"/\o.data=.seq ag n/\ag.size<=z_/\Vals xs ag.toList
noncomputable def absV:b_->Option V
 | .none=>some .non
 | .bool b=>some (.bl b)
 | .int i _=>some (.int i)
 | .str x _=>some (.str x)
 | .bytes b _=>some (.byt b)
 | .float b _=>some (.flt b)
 | .ref a=>some (.ref a)
 | .type n=>some (.ty n)
 | _=>none
theorem RelV.abs{x:V}(r:RelV x u):absV u=some x:=by
 cases x with
 | non=>cases r;rfl
 | bl _=>cases r;rfl
 | int _=>obtain⟨t,rfl⟩:=r;rfl
 | str _=>obtain⟨t,rfl⟩:=r;rfl
 | byt _=>obtain⟨t,rfl⟩:=r;rfl
 | flt _=>obtain⟨t,rfl⟩:=r;rfl
 | ref _=>cases r;rfl
 | ty _=>cases r;rfl
theorem RelV.inj{x y:V}(r:RelV x u)(q:RelV y u):x=y:=Tn (r.abs.symm.trans q.abs)
theorem Vals.inj:∀{xs ys:List V}{us:List b_},Vals xs us->Vals ys us->xs=ys
 | _,_,_,.nil,.nil=>rfl
 | _,_,_,.cons r t,.cons r' t'=>by rw[r.inj r',Vals.inj t t']
section
variable{X:Cx}{U:St}{H:Hp}{s:c_}{a:g_}{xs ys:List V}
theorem SqL.of{K:PySem.W.Frag}(h:H a=some (.lst xs)):SqL K H a xs:=.inl (.inl h)
theorem SqT.of{K:PySem.W.Frag}(h:H a=some (.tup xs)):SqT K H a xs:=.inl (.inl h)
theorem Inv.list(I:Inv X aa U H s)(h:SqL X.K H a xs):∃ag:List b_,Vals xs ag/\PlainL s.heap a ag.toArray/\xs.length<=z_:=by
 rcases h with h | ⟨o,ag,n,hk,hc,hd,hs,hz,r⟩
 ·obtain⟨z,ag,n,r,e⟩:=h.ok I.hok;exact⟨ag,r,⟨_,n,e,rfl,rfl,rfl⟩,z⟩
 ·refine⟨ag.toList,r,⟨o,n,I.kIn a o hk,hc,hd,by simpa using hs⟩,?_⟩;have e:=r.length;simp only[Tv] at e;omega
theorem Inv.tuple(I:Inv X aa U H s)(h:SqT X.K H a xs):∃ag:List b_,Vals xs ag/\Y1 s.heap a ag.toArray/\xs.length<=z_:=by
 rcases h with h | ⟨o,ag,n,hk,hc,hs,hz,r⟩
 ·obtain⟨z,ag,r,p⟩:=h.ok I.hok;exact⟨ag,r,p,z⟩
 ·refine⟨ag.toList,r,⟨o,I.kIn a o hk,hc,n,by simpa using hs⟩,?_⟩;have e:=r.length;simp only[Tv] at e;omega
theorem Inv.list_inj(I:Inv X aa U H s)(h:SqL X.K H a xs)(h':SqL X.K H a ys):xs=ys:=by
 obtain⟨ag,r,⟨o,n,e,_,_,d⟩,_⟩:=I.list h;obtain⟨its',r',⟨o',n',e',_,_,d'⟩,_⟩:=I.list h';rw[e] at e';cases e';rw[d] at d';injection d' with d1 _
 have:ag=its':=by simpa using congrArg toList d1
 subst this;exact r.inj r'
theorem Inv.tuple_inj(I:Inv X aa U H s)(h:SqT X.K H a xs)(h':SqT X.K H a ys):xs=ys:=by
 obtain⟨ag,r,⟨o,e,_,n,d⟩,_⟩:=I.tuple h;obtain⟨its',r',⟨o',e',_,n',d'⟩,_⟩:=I.tuple h';rw[e] at e';cases e';rw[d] at d';injection d' with d1 _
 have:ag=its':=by simpa using congrArg toList d1
 subst this;exact r.inj r'
end
noncomputable abbrev Cx.wish(X:Cx)(E:b_->c_->Prop):Cx:={ X with xe:=E }
noncomputable abbrev Cx.nox(X:Cx):Cx:=X.wish λ_ _=>False
theorem Cx.Ok.wish{X:Cx}(ok:X.Ok)(E:b_->c_->Prop):(X.wish E).Ok:=
 ⟨ok.mod,ok.kind,ok.glob,ok.blt,ok.above,ok.inj,ok.has,ok.cab,ok.hd,ok.frames,ok.stk,ok.exf,ok.bs,ok.bsz,ok.noex,ok.exfs,ok.funs,ok.frf⟩
theorem Cx.Ok.unwish{X:Cx}{E:b_->c_->Prop}(ok:(X.wish E).Ok):X.Ok:=
 ⟨ok.mod,ok.kind,ok.glob,ok.blt,ok.above,ok.inj,ok.has,ok.cab,ok.hd,ok.frames,ok.stk,ok.exf,ok.bs,ok.bsz,ok.noex,ok.exfs,ok.funs,ok.frf⟩
section
variable{X:Cx}{U:St}{H:Hp}{s:c_}{E:b_->c_->Prop}
theorem Inv.wish(I:Inv X aa U H s)(E:b_->c_->Prop):Inv (X.wish E) aa U H s:=⟨I.ok.wish E,I.os,I.bare,I.base,I.loc,I.cell,I.free,I.freeC,I.pin,I.hok,I.len⟩
theorem Inv.unwish(I:Inv (X.wish E) aa U H s):Inv X aa U H s:=⟨I.ok.unwish,I.os,I.bare,I.base,I.loc,I.cell,I.free,I.freeC,I.pin,I.hok,I.len⟩
theorem SP.unwish{D:Ends}{f:Flow}(h:SP (X.wish E) aa D f s'):SP X aa D f s':=by
 cases f with
 | next=>obtain⟨am,H',I,q⟩:=h;exact⟨am,H',I.unwish,q⟩
 | brk=>obtain⟨am,H',I,q⟩:=h;exact⟨am,H',I.unwish,q⟩
 | cont=>obtain⟨am,H',I,q⟩:=h;exact⟨am,H',I.unwish,q⟩
 | ret u=>obtain⟨v,am,H',I,r,q⟩:=h;exact⟨v,am,H',I.unwish,r,q⟩
theorem PE.nox{e:D_}{t:TE}(h:PE X.nox e t):PE X e t:=λaa s U H Q I hw =>
 TJ (h aa s U H Q (I.wish _) hw) (λ_ _ ⟨v,H',I',r,q⟩=>⟨v,H',I'.unwish,r,q⟩) λ_ _ z=>Zw z
theorem PSs.nox{st:List Tr}{t:TS}(h:PSs X.nox st t):PSs X st t:=λaa s U H D I hw =>
 TJ (h aa s U H D (I.wish _) hw) (λ_ _ q=>q.unwish) λ_ _ z=>Zw z
end
section
variable{X:Cx}{st:Tr}{aF:List Tr}{t u:TS}{e:D_}{te:TE}
noncomputable def tNext:TS:=λD U H=>D.nx U H
noncomputable def tSeq(t u:TS):TS:=λD U H=>t { D with nx:=u D } U H
theorem HA:PSs X [] tNext:=λ_ _ U H _ I h=>Ve ⟨U,H,I,h⟩
theorem CN(h1:PS X st t)(h2:PSs X aF u):PSs X (st::aF) (tSeq t u):=by
 intro aa s U H D I h;refine wpAny_execs_cons (thn (h1 aa s U H { D with nx:=u D } I h) λf s1 q=>?_);cases f with
 | next =>
  obtain⟨am,H',I',q⟩:=q;exact h2 aa s1 am H' D I' q
 | ret v=>exact q
 | brk=>exact q
 | cont=>exact q
theorem Gz(h1:PS X st t):PSs X [st] t:=by
 intro aa s U H D I h;refine wpAny_execs_cons (thn (h1 aa s U H D I h) λf s1 q=>?_);cases f with
 | next=>exact Ve q
 | ret v=>exact q
 | brk=>exact q
 | cont=>exact q
theorem Inv.quiet{U:St}{H:Hp}{s:c_}(I:Inv X aa U H s):interactive X.env=false:=by simp[interactive,I.ok.kind]
noncomputable def tDrop(te:TE):TS:=λD U H=>te U H λ_ H1=>D.nx U H1
theorem AJ(he:PE X e te)(hs:Uy e none pos.line X.env=pure false:=by rfl):PS X (.Expr e pos) (tDrop te):=by
 intro aa s U H D I h;exact wpAny_Expr_any (thn (he aa s U H _ I h) λv s1 ⟨x,H1,I1,r1,q1⟩=>⟨U,H1,I1,q1⟩) I.quiet hs
noncomputable def tRet(te:TE):TS:=λD U H=>te U H D.rt
theorem AI(he:PE X e te):PS X (.Return (some e) pos) (tRet te):=by
 intro aa s U H D I h;exact wpAny_Return_some (thn (he aa s U H _ I h) λv s1 ⟨x,H1,I1,r1,q1⟩=>⟨x,U,H1,I1,r1,q1⟩)
noncomputable def tIfS(c:TT)(t u:TS):TS:=λD U H=>c U H λb H1=>if b=true then t D U H1 else u D U H1
theorem Ej{c:D_}{a b:List Tr}{tc:TT}(hc:PT X c tc)(ha:PSs X a t)(hb:PSs X b u):PS X (.If c a b pos) (tIfS tc t u):=by
 intro aa s U H D I h;refine wpAny_If (thn (hc aa s U H _ I h) λd s1 ⟨H1,I1,q1⟩=>?_);cases d with
 | true=>exact ha aa s1 U H1 D I1 q1
 | false=>exact hb aa s1 U H1 D I1 q1
noncomputable def tNever:TS:=λ_ _ _=>False
theorem Jv:PS X st tNever:=λ_ _ _ _ _ _ h=>h.elim
end
abbrev TG:=V->St->Hp->(St->Hp->Prop)->Prop
abbrev TGs:=List V->St->Hp->(St->Hp->Prop)->Prop
def PG(X:Cx)(iC:D_)(t:TG):Prop:=
 ∀(aa:List (g_×Obj)) (s:c_) (U:St) (H:Hp) (v:V) (u:b_) (Q:St->Hp->Prop),Inv X aa U H s->RelV v u->t v U H Q →
  o_ (q_ X.prog X.w) X.A (We iC X.env u) (λ_ s'=>∃am H',Inv X aa am H' s'/\Q am H') X.xe s
def PGs(X:Cx)(ts:List D_)(t:TGs):Prop:=
 ∀(aa:List (g_×Obj)) (s:c_) (U:St) (H:Hp) (vs:List V) (us:List b_) (Q:St->Hp->Prop),Inv X aa U H s->Vals vs us->t vs U H Q →
  o_ (q_ X.prog X.w) X.A (assignInOrder ((Ut ts X.env).map (·.2)) us) (λ_ s'=>∃am H',Inv X aa am H' s'/\Q am H') X.xe s
abbrev TSet:=V->V->V->Hp->(Hp->Prop)->Prop
def PSet(X:Cx)(t:TSet):Prop:=
 ∀(aa:List (g_×Obj)) (s:c_) (U:St) (H:Hp) (o i v:V) (ov iv u:b_) (Q:Hp->Prop),Inv X aa U H s->RelV o ov->RelV i iv->RelV v u->t o i v H Q →
  o_ (q_ X.prog X.w) X.A (setItem ov iv u) (λ_ s'=>∃H',Inv X aa U H' s'/\Q H') X.xe s
section
variable{X:Cx}
noncomputable def gName(i:Nat):TG:=λv U H Q=>Q (U.set i (some v)) H
theorem O0{x:Str}(hN:X.N.Nodup)(hi:X.N[i]?=some x)(hx:Loc X.env.scope x)(hf:X.fn x=true\/X.env.scope.names.lookup x=some .local):PG X (.Name x pos) (gName i):=by
 intro aa s U H v u Q I r h;exact Yx (Ca I hN hi hx r (λs' I'=>⟨_,H,I',h⟩) hf)
noncomputable def gNil:TGs:=λvs U H Q=>vs=[]/\Q U H
noncomputable def gCons(t:TG)(u:TGs):TGs:=λvs U H Q=>∃v r,vs=v::r/\t v U H λam H'=>u r am H' Q
theorem JR:PGs X [] gNil:=by
 intro aa s U H vs us Q I r h;obtain⟨e,h⟩:=h;subst e;cases r;exact assignInOrder_nil ⟨U,H,I,h⟩
theorem Ni{e:D_}{es:List D_}{t:TG}{u:TGs}(h1:PG X e t)(h2:PGs X es u)(hs:(Ut (e::es) X.env).map (·.2)=We e X.env::(Ut es X.env).map (·.2):=by rfl):PGs X (e::es) (gCons t u):=by
 intro aa s U H vs us Q I r h;obtain⟨v,vr,e1,h⟩:=h;subst e1;cases r with
 | cons r rr =>
  rw[hs];refine assignInOrder_cons (thn (h1 aa s U H _ _ _ I r h) λ_ s1 ⟨bY,H1,I1,q1⟩=>?_);exact h2 aa s1 bY H1 _ _ Q I1 rr q1
noncomputable def gTup(K:PySem.W.Frag)(n:Nat)(t:TGs):TG:=λv U H Q=>∃a xs,v=.ref a/\SqT K H a xs/\xs.length=n/\t xs U H Q
theorem HK{es:List D_}{t:TGs}(hc:X.calm=true)(h:PGs X es t)(hn:(Ut es X.env).length=n:=by rfl)(jX:(Ut es X.env).findIdx? (·.1)=none:=by rfl):PG X (.Tuple es k pos) (gTup X.K n t):=by
 intro aa s U H v u Q I r hw;obtain⟨a,xs,e1,hq,hl,hw⟩:=hw;subst e1;cases r;obtain⟨ag,rv,ht,hz⟩:=I.tuple hq;refine assign_Tuple_tuple (I.ok.hd hc) ht (by simp[hn,←hl,rv.length]) jX λh' hx=>?_
 have I1:Inv X aa U H { s with heap:=h' }:=I.kept (t':=s.toks) λb o e=>hx b o (Q_ (B_ e)) e
 exact h aa _ U H xs _ Q I1 (by simpa using rv) hw
noncomputable def gSub(to ti:TE)(t:TSet):TG:=λv U H Q=>to U H λo H1=>ti U H1 λi H2=>t o i v H2 λH3=>Q U H3
theorem NO{o i:D_}{to ti:TE}{t:TSet}(ho:PE X o to)(hi:PE X i ti)(hs:PSet X t)(ha:∀v,We (.Subscript o i pos) X.env v=(do
   let ov ←WB [v] (eval o X.env)
   let iv ←WB [v,ov] (eval i X.env)
   Zy pos
   WB [v,ov,iv] (setItem ov iv v)
   release [v,ov,iv] []):=by intros;rfl):PG X (.Subscript o i pos) (gSub to ti t):=by
 intro aa s U H v u Q I r h;rw[ha];refine a_ (TZ (thn (ho aa s U H _ I h) λov s1 ⟨x,H1,I1,r1,q1⟩=>?_));refine a_ (TZ (thn (hi aa s1 U H1 _ I1 q1) λiv s2 ⟨y,H2,I2,r2,q2⟩=>?_));refine a_ (Yf (a_ (TZ (thn (hs aa s2 U H2 x y v ov iv u _ I2 r1 r2 r q2) λ_ s3 ⟨H3,I3,q3⟩=>?_))));exact wpAny_release ⟨U,H3,I3,q3⟩
noncomputable def tAsg(te:TE)(g:TG):TS:=λD U H=>te U H λx H1=>g x U H1 D.nx
theorem Dw{e:D_}{te:TE}{g:TG}(he:PE X e te)(hg:PG X tg g)(hs:Yg [tg] e pos.line X.env=pure false:=by rfl)(hw:Yh [tg] e X.env=pure none:=by rfl)(h1:(Ut [tg] X.env).map (·.2)=[We tg X.env]:=by rfl):PS X (.Assign [tg] e pos) (tAsg te g):=by
 intro aa s U H D I h;refine wpAny_Assign_stores (thn (he aa s U H _ I h) λv s1 ⟨x,H1,I1,r1,q1⟩=>?_) hs hw;rw[h1];exact thn (hg aa s1 U H1 x v _ I1 r1 q1) λ_ s2 q=>q
theorem CB{x:Str}{e:D_}{te:TE}(hN:X.N.Nodup)(hi:X.N[i]?=some x)(hx:Loc X.env.scope x)(he:PE X e te)(hs:Uy e (some (.Name x aP)) pos.line X.env=pure false:=by rfl)(hf:X.fn x=true\/X.env.scope.names.lookup x=some .local):
  PS X (.Assign [.Name x aP] e pos) (tAsg te (gName i)):=by
 intro aa s U H D I h;refine wpAny_Assign_Name (thn (he aa s U H _ I h) λv s1 ⟨y,H1,I1,r1,q1⟩=>?_) hs;exact Ca I1 hN hi hx r1 (λs2 I2=>⟨_,H1,I2,q1⟩) hf
end
section
variable{X:Cx}
noncomputable def tWhile(c:TT)(tb:TS):TS:=λD U H=>∃W:Nat->St->Hp->Prop,(∃m,W m U H)/\∀m U H,W m U H →
 c U H λb H1=>if b=true then ∃N:St->Hp->Prop,(∀am H',N am H'->∃m',m' < m/\W m' am H')/\tb { D with nx:=N,ct:=N,bk:=D.nx } U H1 else D.nx U H1
theorem JF{c:D_}{body:List Tr}{tc:TT}{tb:TS}(hp:WT (q_ X.prog X.w) X.A X.env X.xe)(hc:PT X c tc)(hb:PSs X body tb):PS X (.While c body [] pos) (tWhile tc tb):=by
 intro aa s U H D I h;obtain⟨W,⟨m0,w0⟩,turn⟩:=h;refine wpAny_While (codeAny_whileLoop (λn s'=>∃am H',Inv X aa am H' s'/\W n am H') ?_ m0 ⟨U,H,I,w0⟩);rintro n s1 ⟨bY,H1,I1,w1⟩;refine Uz hp (thn (hc aa s1 bY H1 _ I1 (turn n bY H1 w1)) λb s2 ⟨H2,I2,q2⟩=>?_);cases b with
 | true =>
  obtain⟨N,hN,q2⟩:=q2;rw[if_pos rfl];refine Uz hp (thn (hb aa s2 bY H2 _ I2 q2) λf s3 q3=>?_);cases f with
  | next =>
   obtain⟨dr,H3,I3,n3⟩:=q3;obtain⟨m',hm,w3⟩:=hN dr H3 n3;exact⟨m',hm,dr,H3,I3,w3⟩
  | cont =>
   obtain⟨dr,H3,I3,n3⟩:=q3;obtain⟨m',hm,w3⟩:=hN dr H3 n3;exact⟨m',hm,dr,H3,I3,w3⟩
  | brk=>exact q3
  | ret v=>exact q3
 | false =>
  rw[if_neg h_];exact Ve ⟨bY,H2,I2,q2⟩
end
structure It where
 go:Nat->Hp->Prop
 yld:Nat->Hp->V->Hp->Prop
 stop:Nat->Hp->Prop
def FpOk(X:Cx)(aa:List (g_×Obj))(H:Hp)(b:g_):Prop:=
 H b=none/\b≠X.env.locals/\b∉X.fs/\(b∈X.ex\/X.s₀.heap.objs.size<=b)/\(∀x c,X.env.cells.lookup x=some c->c≠b)/\∀p∈X.pn++aa,p.1≠b
theorem Inv.fpOk{X:Cx}{U:St}{H H':Hp}{s:c_}{b:g_}(I:Inv X aa U H s)(hb:s.heap.objs.size<=b)(hn:H' b=none):FpOk X aa H' b:=by
 refine⟨hn,Wg (E_ I.lt hb),I.nofs hb,.inr (H_ I.sz hb),λx c e z=>?_,λp hp z=>?_⟩
 ·obtain⟨v,q⟩:=I.cell x c e;exact absurd (E_ q.lt (by rw[z];exact hb)) (Ug _)
 ·exact absurd (E_ (B_ (I.pin p hp).1) (by rw[z];exact hb)) (Ug _)
structure Turn(P:v_)(w:F_)(K:PySem.W.Frag)(tg:D_)(J:It)(fp:List g_)(it:g_)(tn:Nat->G_->Prop):Prop where
 mem:it∈fp
 obj:∀i h,tn i h->∀b∈fp,∃o,h.get? b=some o/\∀v,o.data≠.cell v
 keep:∀i h h',tn i h->(∀b∈fp,∀o,h.get? b=some o->h'.get? b=some o)->tn i h'
 item:∀(X:Cx),X.prog=P->X.w=w->X.K=K->X.calm=true->∀(i:Nat) (aa:List (g_×Obj)) (s:c_) (U:St) (H:Hp) (E:b_->c_->Prop),Inv X aa U H s->(∀b∈fp,FpOk X aa H b)->tn i s.heap->J.go i H →
  o_ (q_ P w) X.A (Wh (.ref it)) (λr s1=>∃u,r=some u ∧
   o_ (q_ P w) X.A (VY tg (.ref it) u) (λ_ s2=>∃x H',Inv X aa U H' s2/\RelV x u/\J.yld i H x H'/\tn (i+1) s2.heap/\∀b∈fp,H' b=none) E s1) E s
 done:∀(X:Cx),X.prog=P->X.w=w->X.K=K->X.calm=true->∀(i:Nat) (aa:List (g_×Obj)) (s:c_) (U:St) (H:Hp) (E:b_->c_->Prop),Inv X aa U H s->(∀b∈fp,FpOk X aa H b)->tn i s.heap->J.stop i H →
  o_ (q_ P w) X.A (Wh (.ref it)) (λr s1=>r=none/\Inv X aa U H s1) E s
 self:∀(A:Uh) (i:Nat) (s:c_) (Q:b_->c_->Prop) (E:b_->c_->Prop),tn i s.heap->Q (.ref it) s->o_ (q_ P w) A (XB (.ref it)) Q E s
abbrev TI:=St->Hp->(It->Hp->Prop)->Prop
def PIE(X:Cx)(aa:List (g_×Obj))(U:St)(tg:D_)(R:It->Hp->Prop)(gJ:b_)(s2:c_):Prop:=
 ∃(it:g_) (fp:List g_) (tn:Nat->G_->Prop) (J:It) (H':Hp),gJ=.ref it/\Inv X aa U H' s2/\Turn X.prog X.w X.K tg J fp it tn/\tn 0 s2.heap/\(∀b∈fp,FpOk X aa H' b)/\R J H'
def PI(X:Cx)(tg iter:D_)(wi:TI):Prop:=
 ∀(aa:List (g_×Obj)) (s:c_) (U:St) (H:Hp) (R:It->Hp->Prop),Inv X aa U H s->wi U H R →
  o_ (q_ X.prog X.w) X.A (eval iter X.env) (λv s1=>o_ (q_ X.prog X.w) X.A (XB v) (PIE X aa U tg R) X.xe s1) X.xe s
theorem yJ{M:Y2}{E:b_->c_->Prop}{s:c_}{it:g_}{o:Obj}{n:String}{vs:Array b_}{Q:Unit->c_->Prop}(ho:s.heap.get? it=some o)(hc:o.cls=.type n)(hd:o.data=.fields vs)(hn:["enumerate", "zip", "dict_itemiterator", "dict_reverseitemiterator", "odict_iterator", "itertools.zip_longest", "itertools.pairwise"].contains n=false)(hQ:Q () s):o_ M A (VY tg (.ref it) u) Q E s:=by
 unfold VY
 cases tg<;>first
  | exact f_ hQ
  | (cases u<;>first
    | exact f_ hQ
    | (refine a_ (wpAny_load ho ?_)
       rw[hc,hd];show o_ M A (if(["enumerate", "zip", "dict_itemiterator", "dict_reverseitemiterator", "odict_iterator", "itertools.zip_longest", "itertools.pairwise"].contains n&&vs[0]? == some (Vo _))=true then _ else _) Q E s;rw[if_neg (by intro h;rw[hn,Wj] at h;cases h)]
       exact f_ hQ))
noncomputable def Itl(K:PySem.W.Frag)(a:g_):It:=
 ⟨λi H=>∃xs x,SqL K H a xs/\xs[i]?=some x,λi H x H'=>H'=H/\∀xs,SqL K H a xs->xs[i]?=some x,λi H=>∃xs,SqL K H a xs/\xs.length<=i⟩
noncomputable def Itt(K:PySem.W.Frag)(a:g_):It:=
 ⟨λi H=>∃xs x,SqT K H a xs/\xs[i]?=some x,λi H x H'=>H'=H/\∀xs,SqT K H a xs->xs[i]?=some x,λi H=>∃xs,SqT K H a xs/\xs.length<=i⟩
noncomputable def Itr(lo:Int)(n:Nat):It:=⟨λi _=>i < n,λi H x H'=>H'=H/\x=.int (lo+i),λi _=>n<=i⟩
theorem KF{P:v_}{w:F_}{K:PySem.W.Frag}(a it:g_):Turn P w K tg (Itl K a) [it] it (λi h=>h.IsListIter it a i) where
 mem:=by simp
 obj:=λi h st b hb=>by
  have e:b=it:=by simpa using hb
  subst e;obtain⟨o,e,c,d⟩:=st;exact⟨o,e,λv z=>by rw[d] at z;cases z⟩
 keep:=λi h h' st k=>st.at λo e=>k it (by simp) o e
 item:=by
  intro X hP hw hK hc i aa s U H E I hf st hg;subst hP hw hK;obtain⟨xs,x,hq,hx⟩:=hg;obtain⟨ag,rv,p,hz⟩:=I.list hq;obtain⟨u,hu,ru⟩:=rv.get hx;obtain⟨f0,f1,f2,f3,f4,f5⟩:=hf it (by simp);refine wpAny_pyNext_list_item st p.isList (x:=u) (by simpa using hu) λh' dy sb=>?_
  have I1:Inv X aa U H { s with heap:=h' }:=I.turned (t':=s.toks) (λb o hb e=>(sb.2 b hb).trans e) f0 f1 f3 f4 f5;obtain⟨o,e,c,d⟩:=id dy;exact⟨u,rfl,yJ (s:={ s with heap:=h' }) e c d (by decide) ⟨x,H,I1,ru,⟨rfl,λys hy=>by rw[I.list_inj hy hq];exact hx⟩,dy,λb hb=>(hf b hb).1⟩⟩
 done:=by
  intro X hP hw hK hc i aa s U H E I hf st hg;subst hP hw hK;obtain⟨xs,hq,hx⟩:=hg;obtain⟨ag,rv,p,hz⟩:=I.list hq;obtain⟨f0,f1,f2,f3,f4,f5⟩:=hf it (by simp);have hl:=rv.length;exact wpAny_pyNext_list_end (I.ok.hd hc) st p.isList (by simp;omega) λh' eb=>⟨rfl,I.turned (t':=s.toks) (λb o hb e=>eb b o hb e) f0 f1 f3 f4 f5⟩
 self:=λ_ _ _ _ _ st h=>wpAny_pyIter_listiter st h
theorem N8{P:v_}{w:F_}{K:PySem.W.Frag}(a it:g_):Turn P w K tg (Itt K a) [it] it (λi h=>h.IsTupleIter it a i) where
 mem:=by simp
 obj:=λi h st b hb=>by
  have e:b=it:=by simpa using hb
  subst e;obtain⟨o,e,c,d⟩:=st;exact⟨o,e,λv z=>by rw[d] at z;cases z⟩
 keep:=λi h h' st k=>st.at λo e=>k it (by simp) o e
 item:=by
  intro X hP hw hK hc i aa s U H E I hf st hg;subst hP hw hK;obtain⟨xs,x,hq,hx⟩:=hg;obtain⟨ag,rv,p,hz⟩:=I.tuple hq;obtain⟨u,hu,ru⟩:=rv.get hx;obtain⟨f0,f1,f2,f3,f4,f5⟩:=hf it (by simp);refine wpAny_pyNext_tuple_item st (show s.heap.IsTuple a ag.toArray from p) (x:=u) (by simpa using hu) λh' dy sb=>?_
  have I1:Inv X aa U H { s with heap:=h' }:=I.turned (t':=s.toks) (λb o hb e=>(sb.2 b hb).trans e) f0 f1 f3 f4 f5;obtain⟨o,e,c,d⟩:=id dy;exact⟨u,rfl,yJ (s:={ s with heap:=h' }) e c d (by decide) ⟨x,H,I1,ru,⟨rfl,λys hy=>by rw[I.tuple_inj hy hq];exact hx⟩,dy,λb hb=>(hf b hb).1⟩⟩
 done:=by
  intro X hP hw hK hc i aa s U H E I hf st hg;subst hP hw hK;obtain⟨xs,hq,hx⟩:=hg;obtain⟨ag,rv,p,hz⟩:=I.tuple hq;obtain⟨f0,f1,f2,f3,f4,f5⟩:=hf it (by simp);have hl:=rv.length;exact wpAny_pyNext_tuple_end (I.ok.hd hc) st (show s.heap.IsTuple a ag.toArray from p) (by simp;omega) λh' eb=>⟨rfl,I.turned (t':=s.toks) (λb o hb e=>eb b o hb e) f0 f1 f3 f4 f5⟩
 self:=λ_ _ _ _ _ st h=>wpAny_pyIter_tupleiter st h
theorem Lo{P:v_}{w:F_}{K:PySem.W.Frag}(it:g_)(lo:Int)(n:Nat):Turn P w K tg (Itr lo n) [it] it (λi h=>IsRangeIter h it (lo+(i:Nat)*1) ((n:Int) - (i:Nat)) 1) where
 mem:=by simp
 obj:=λi h st b hb=>by
  have e:b=it:=by simpa using hb
  subst e
  exact⟨_,st,λv z=>by
   have z':fields _=X7 v:=z
   cases z'⟩
 keep:=λi h h' st k=>k it (by simp) _ st
 item:=by
  intro X hP hw hK hc i aa s U H E I hf st hg;subst hP hw hK;obtain⟨f0,f1,f2,f3,f4,f5⟩:=hf it (by simp);have W:=Y3.range (prog:=X.prog) (w:=X.w) (I.ok.hd hc) it lo 1 n;refine W.item i s _ _ hg st λv h' tk hv dy kk=>?_
  obtain⟨t,rfl⟩:=hv;have I1:Inv X aa U H { s with heap:=h',toks:=tk }:=I.turned (λb o hb e=>kk b o (by simpa using hb) e) f0 f1 f3 f4 f5;refine⟨_,rfl,yJ (s:={ s with heap:=h',toks:=tk }) (n:= "range_iterator") dy rfl rfl (by decide) ⟨.int (lo+i),H,I1,⟨t,?_⟩,⟨rfl,rfl⟩,dy,λb hb=>(hf b hb).1⟩⟩;rw[Int.mul_one]
 done:=by
  intro X hP hw hK hc i aa s U H E I hf st hg;subst hP hw hK;obtain⟨f0,f1,f2,f3,f4,f5⟩:=hf it (by simp);exact wpAny_pyNext_range_end (I.ok.hd hc) st (by have:n<=i:=hg;omega) λh' eb=>⟨rfl,I.turned (t':=s.toks) (λb o hb e=>eb b o hb e) f0 f1 f3 f4 f5⟩
 self:=λ_ _ _ _ _ st h=>wpAny_pyIter_rangeiter st h
section
variable{X:Cx}
theorem De{U:St}{H:Hp}{s:c_}{R:It->Hp->Prop}{E:b_->c_->Prop}{lo hi:Int}{t u v:Tok}(I:Inv X aa U H s)(h1:-(2 ^ 62)<=lo)(h2:lo < 2 ^ 62)(h3:-(2 ^ 62)<=hi)(h4:hi < 2 ^ 62)(q:R (Itr lo (hi - lo).toNat) H):o_ (q_ X.prog X.w) X.A (XB (.ref s.heap.objs.size)) (PIE X aa U tg R) E { s with heap:=s.heap.push { cls:=.type "range", data:=.fields #[.int lo t,.int hi u,.int 1 v] },toks:=tk }:=by
 refine wpAny_pyIter_range (IsRange.new ..) (small_one h1 h2 h3 h4) ?_;have I1:Inv X aa U H { s with heap:=s.heap.push { cls:=.type "range", data:=.fields #[.int lo t,.int hi u,.int 1 v] },toks:=tk }:=I.kept λb o e=>e_ _ e
 refine⟨(s.heap.push { cls:=.type "range", data:=.fields #[.int lo t,.int hi u,.int 1 v] }).objs.size,[(s.heap.push { cls:=.type "range", data:=.fields #[.int lo t,.int hi u,.int 1 v] }).objs.size],_,_,H,rfl,
  I1.kept (t':=tk) λb o e=>e_ _ e,Lo _ lo (hi - lo).toNat,?_,λb hb=>?_,q⟩
 ·have e1:lo+((0:Nat):Int)*1=lo:=by simp
  have e2:(((hi - lo).toNat:Nat):Int) - ((0:Nat):Int)=rangeSize lo hi 1:=by rw[rangeSize_one];split<;>omega
  show IsRangeIter _ _ (lo+((0:Nat):Int)*1) ((((hi - lo).toNat:Nat):Int) - ((0:Nat):Int)) 1;rw[e1,e2];exact s_ _ rfl
 ·have e:b=(s.heap.push { cls:=.type "range", data:=.fields #[.int lo t,.int hi u,.int 1 v] }).objs.size:=by simpa using hb
  subst e;exact I1.fpOk (r_ _) (I1.hok.fresh (r_ _))
noncomputable def iRng1(ta:TA):TI:=λU H R=>ta U H λvs H1=>∃j:Int,vs=[.int j]/\-(2 ^ 62)<=j/\j < 2 ^ 62/\R (Itr 0 j.toNat) H1
noncomputable def iRng2(ta:TA):TI:=λU H R=>ta U H λvs H1=>∃i j:Int,vs=[.int i,.int j]/\(-(2 ^ 62)<=i/\i < 2 ^ 62/\-(2 ^ 62)<=j/\j < 2 ^ 62)/\R (Itr i (j - i).toNat) H1
theorem K9{a:D_}{ta:TA}{p:Pos}(hg:Gl X "range")(hm:X.mg "range"=none)(ha:PA X [a] ta)(hs:d_ [a] X.env=[(false,eval a X.env)]:=by rfl):PI X tg (.Call (.Name "range" p) [a] [] pos) (iRng1 ta):=by
 intro aa s U H R I h;refine Call_ (vi I hg hm boot_range (TK (thn (ha pos aa s U H _ I h) λus s1 ⟨vs,H1,I1,r1,q1⟩=>?_) hs rfl));obtain⟨j,e,q1,q2,q⟩:=q1;subst e;cases r1 with
 | cons r rr =>
  cases rr;obtain⟨t,rfl⟩:=r;exact call_range_1 (De I1 (by omega) (by omega) q1 q2 (by simpa using q))
theorem O8{a b:D_}{ta:TA}{p:Pos}(hg:Gl X "range")(hm:X.mg "range"=none)(ha:PA X [a,b] ta)(hs:d_ [a,b] X.env=[(false,eval a X.env),(false,eval b X.env)]:=by rfl)(dN:d_ [b] X.env=[(false,eval b X.env)]:=by rfl):
  PI X tg (.Call (.Name "range" p) [a,b] [] pos) (iRng2 ta):=by
 intro aa s U H R I h;refine Call_ (vi I hg hm boot_range (TK (thn (ha pos aa s U H _ I h) λus s1 ⟨vs,H1,I1,r1,q1⟩=>?_) (by rw[hs,dN]) (by rw[dN];rfl)));obtain⟨i,j,e,⟨q1,q2,q3,q4⟩,q⟩:=q1;subst e;cases r1 with
 | cons r rr =>
  cases rr with
  | cons r' rr =>
   cases rr;obtain⟨t,rfl⟩:=r;obtain⟨t',rfl⟩:=r';exact call_range_2 (De I1 q1 q2 q3 q4 q)
noncomputable def tFor(wi:TI)(g:TG)(tb:TS):TS:=λD U H=>wi U H λJ H1=>∃W:Nat->Nat->St->Hp->Prop,(∃m,W 0 m U H1)/\∀i m U H,W i m U H →
 (J.stop i H/\D.nx U H)\/(J.go i H/\∃N:St->Hp->Prop,(∀am H',N am H'->∃m',m' < m/\W (i+1) m' am H')/\∀x H',J.yld i H x H'->g x U H' λaR H2=>tb { D with nx:=N,ct:=N,bk:=D.nx } aR H2)
noncomputable def pinsAt(fp:List g_)(h:G_):List (g_×Obj):=fp.filterMap λb=>(h.get? b).map λo=>(b,o)
theorem yV{h:G_}{b:g_}{o:Obj}(hb:b∈fp)(e:h.get? b=some o):(b,o)∈pinsAt fp h:=U7.mpr ⟨b,hb,by rw[e];rfl⟩
theorem QF{h:G_}{p:g_×Obj}(hp:p∈pinsAt fp h):p.1∈fp/\h.get? p.1=some p.2:=by
 obtain⟨b,hb,e⟩:=U7.mp hp;cases q:h.get? b with
 | none=>rw[q] at e;cases e
 | some o =>
  rw[q] at e;have e':(b,o)=p:=Tn e;subst e';exact⟨hb,q⟩
theorem Inv.pinned{U:St}{H:Hp}{s:c_}(I:Inv X aa U H s)(hf:∀b∈fp,FpOk X aa H b)(ho:∀b∈fp,∃o,s.heap.get? b=some o/\∀v,o.data≠.cell v):Inv X (aa++pinsAt fp s.heap) U H s:=
 I.pins_of λp hp=>(I_.mp hp).elim (λz=>I.pin p (L_ _ z)) λz=>by
  obtain⟨hb,e⟩:=QF z;obtain⟨f0,f1,f2,_⟩:=hf p.1 hb;obtain⟨o,e',d⟩:=ho p.1 hb;rw[e] at e';cases e';exact⟨e,f0,f1,f2,d⟩
theorem Inv.unpinned{pl:List (g_×Obj)}{U:St}{H:Hp}{s:c_}(I:Inv X (aa++pl) U H s):Inv X aa U H s:=I.pins_of λp hp=>I.pin p (L_ _ (T6 _ hp))
theorem M3{iter:D_}{body:List Tr}{wi:TI}{g:TG}{tb:TS}(hp:WT (q_ X.prog X.w) X.A X.env X.xe)(hc:X.calm=true)(hi:PI X tg iter wi)(hg:PG X tg g)(hb:PSs X body tb)(hs:∀x,TV iter X.env x=pure x:=by intros;rfl):PS X (.For tg iter body [] pos) (tFor wi g tb):=by
 intro aa s U H D I h;refine wpAny_For (thn (hi aa s U H _ I h) λv s1 h1=>thn h1 λgJ s2 h2=>?_) hs;obtain⟨it,fp,tn,J,H2,e,I2,T,dO,f2,W,⟨m0,w0⟩,turn⟩:=h2;subst e
 -- what stays true of the iterator's objects through the gK
 have dz:∀{H':Hp},(∀b∈fp,H' b=none)->∀b∈fp,FpOk X aa H' b:=λhn b hb=>⟨hn b hb,(f2 b hb).2⟩
 refine codeAny_forLoop_any (λn s'=>∃i am H',Inv X aa am H' s'/\tn i s'.heap/\(∀b∈fp,H' b=none)/\W i n am H') ?_ m0 ⟨0,U,H2,I2,dO,λb hb=>(f2 b hb).1,w0⟩;rintro n s3 ⟨i,dr,H3,I3,fU,lW,w3⟩
 rcases turn i n dr H3 w3 with⟨stop,qn⟩ | ⟨go,N,hN,step⟩
 ·refine Uz hp (thn (T.done X rfl rfl rfl hc i aa s3 dr H3 X.xe I3 (dz lW) fU stop) λr s4 ⟨hr,I4⟩=>?_);subst hr;exact Ve ⟨dr,H3,I4,qn⟩
 ·refine Uz hp (thn (T.item X rfl rfl rfl hc i aa s3 dr H3 X.xe I3 (dz lW) fU go) λr s4 ⟨u,hr,h4⟩=>?_);subst hr;refine Uz hp (thn h4 λ_ s5 ⟨x,H5,I5,r5,y5,fV,iD⟩=>?_);have oO:=I5.pinned (dz iD) (T.obj _ _ fV);refine Uz hp (thn (hg _ s5 dr H5 x u _ oO r5 (step x H5 y5)) λ_ s6 ⟨oP,H6,I6,q6⟩=>?_);refine Uz hp (thn (hb _ s6 oP H6 _ I6 q6) λf s7 q7=>?_)
  have Y4:∀{dA:St}{H7:Hp},Inv X (aa++pinsAt fp s5.heap) dA H7 s7->N dA H7->∃m,m < n/\∃i am H',Inv X aa am H' s7/\tn i s7.heap/\(∀b∈fp,H' b=none)/\W i m am H':=λ{dA H7} I7 n7=>by
   obtain⟨m',hm,w7⟩:=hN dA H7 n7;refine⟨m',hm,i+1,dA,H7,I7.unpinned,T.keep _ _ _ fV λb hb o e=>(I7.pin (b,o) (L_ _ (L_ _ (yV hb e)))).1,λb hb=>?_,w7⟩;obtain⟨o,e,d⟩:=T.obj _ _ fV b hb;exact(I7.pin (b,o) (L_ _ (L_ _ (yV hb e)))).2.1
  cases f with
  | next=>obtain⟨dA,H7,I7,n7⟩:=q7;exact Y4 I7 n7
  | cont=>obtain⟨dA,H7,I7,n7⟩:=q7;exact Y4 I7 n7
  | brk=>obtain⟨dA,H7,I7,q7⟩:=q7;exact⟨dA,H7,I7.unpinned,q7⟩
  | ret v=>obtain⟨x7,dA,H7,I7,r7,q7⟩:=q7;exact⟨x7,dA,H7,I7.unpinned,r7,q7⟩
end
abbrev R2:=V->V->Hp->VK->Prop
def OpR(X:Cx)(f:b_->b_->Sem b_)(r:R2):Prop:=
 ∀(aa:List (g_×Obj)) (s:c_) (U:St) (H:Hp) (x y:V) (v u:b_) (Q:VK),Inv X aa U H s->RelV x v->RelV y u->r x y H Q →
  o_ (q_ X.prog X.w) X.A (f v u) (EP X aa U Q) X.xe s
def UnR(X:Cx)(f:b_->Sem b_)(r:V->Hp->VK->Prop):Prop:=
 ∀(aa:List (g_×Obj)) (s:c_) (U:St) (H:Hp) (x:V) (v:b_) (Q:VK),Inv X aa U H s->RelV x v->r x H Q →
  o_ (q_ X.prog X.w) X.A (f v) (EP X aa U Q) X.xe s
def CallR(X:Cx)(f:b_)(r:List V->Hp->VK->Prop):Prop:=
 ∀(aa:List (g_×Obj)) (s:c_) (U:St) (H:Hp) (xs:List V) (us:List b_) (Q:VK),Inv X aa U H s->Vals xs us->r xs H Q →
  o_ (q_ X.prog X.w) X.A (call f us) (EP X aa U Q) X.xe s
noncomputable def tOp(r:R2)(ta tb:TE):TE:=λU H Q=>ta U H λx H1=>tb U H1 λy H2=>r x y H2 Q
noncomputable def tUn(r:V->Hp->VK->Prop)(ta:TE):TE:=λU H Q=>ta U H λx H1=>r x H1 Q
noncomputable def rI(C:Int->Int->Prop)(g:Int->Int->V):R2:=λx y H Q=>∃i j,x=.int i/\y=.int j/\C i j/\Q (g i j) H
noncomputable def rI0(g:Int->Int->V):R2:=λx y H Q=>∃i j,x=.int i/\y=.int j/\Q (g i j) H
def rU(g:Int->V):V->Hp->VK->Prop:=λx H Q=>∃i,x=.int i/\Q (g i) H
section
variable{X:Cx}{a b c:D_}{ta tb tc:TE}
theorem binT(ha:PE X a ta)(hb:PE X b tb){s:c_}{U:St}{H:Hp}{R:V->V->Hp->Prop}(I:Inv X aa U H s)(h:ta U H λx H1=>tb U H1 λy H2=>R x y H2){Q:b_->c_->Prop}{f:b_->b_->Sem b_}(hf:∀v u s2 x y H2,Inv X aa U H2 s2->RelV x v->RelV y u->R x y H2->o_ (q_ X.prog X.w) X.A (f v u) Q X.xe s2):
  o_ (q_ X.prog X.w) X.A (eval a X.env) (λv aD=>o_ (q_ X.prog X.w) X.A (eval b X.env) (λu cR=>o_ (q_ X.prog X.w) X.A (f v u) Q X.xe cR) X.xe aD) X.xe s:=by
 refine thn (ha aa s U H _ I h) λv s1 ⟨x,H1,I1,r1,q1⟩=>?_
 refine thn (hb aa s1 U H1 _ I1 q1) λu s2 ⟨y,H2,I2,r2,q2⟩=>?_
 exact hf v u s2 x y H2 I2 r1 r2 q2
theorem Fi{op:Operator}{r:R2}(ho:OpR X (UA op) r)(ha:PE X a ta)(hb:PE X b tb):PE X (.BinOp a op b pos) (tOp r ta tb):=by
 intro aa s U H Q I h;exact wpAny_BinOp (binT ha hb I h λv u s2 x y H2 I2 rx ry q=>ho aa s2 U H2 x y v u Q I2 rx ry q)
theorem Iq{op:UnaryOp}{r:V->Hp->VK->Prop}(ho:UnR X (unaryOp op) r)(ha:PE X a ta):PE X (.UnaryOp op a pos) (tUn r ta):=by
 intro aa s U H Q I h;exact UnaryOp_ (thn (ha aa s U H _ I h) λv s1 ⟨x,H1,I1,r1,q1⟩=>ho aa s1 U H1 x v Q I1 r1 q1)
theorem opI{f:b_->b_->Sem b_}{C:Int->Int->Prop}{g:Int->Int->Int}(rule:∀(i j:Int) (t u:Tok) (s:c_) (Q:b_->c_->Prop) (E:b_->c_->Prop),C i j->Q (.int (g i j) s.toks) { s with toks:=s.toks+1 }->o_ (q_ X.prog X.w) X.A (f (.int i t) (.int j u)) Q E s):
  OpR X f (rI C λi j=>.int (g i j)):=by
 intro aa s U H x y v u Q I rx ry h;obtain⟨i,j,rfl,rfl,hc,q⟩:=h;obtain⟨t,rfl⟩:=rx;obtain⟨t',rfl⟩:=ry;exact rule i j t t' s _ _ hc ⟨.int (g i j),H,I.tok _,⟨_,rfl⟩,q⟩
theorem opI0{f:b_->b_->Sem b_}{g:Int->Int->Int}(rule:∀(i j:Int) (t u:Tok) (s:c_) (Q:b_->c_->Prop) (E:b_->c_->Prop),Q (.int (g i j) s.toks) { s with toks:=s.toks+1 }->o_ (q_ X.prog X.w) X.A (f (.int i t) (.int j u)) Q E s):
  OpR X f (rI0 λi j=>.int (g i j)):=by
 intro aa s U H x y v u Q I rx ry h;obtain⟨i,j,rfl,rfl,q⟩:=h;obtain⟨t,rfl⟩:=rx;obtain⟨t',rfl⟩:=ry;exact rule i j t t' s _ _ ⟨.int (g i j),H,I.tok _,⟨_,rfl⟩,q⟩
theorem opB0{f:b_->b_->Sem b_}{g:Int->Int->Bool}(rule:∀(i j:Int) (t u:Tok) (s:c_) (Q:b_->c_->Prop) (E:b_->c_->Prop),Q (.bool (g i j)) s->o_ (q_ X.prog X.w) X.A (f (.int i t) (.int j u)) Q E s):
  OpR X f (rI0 λi j=>.bl (g i j)):=by
 intro aa s U H x y v u Q I rx ry h;obtain⟨i,j,rfl,rfl,q⟩:=h;obtain⟨t,rfl⟩:=rx;obtain⟨t',rfl⟩:=ry;exact rule i j t t' s _ _ ⟨.bl (g i j),H,I,rfl,q⟩
def CPow(i j:Int):Prop:=0<=j/\j<=1000000/\i.natAbs < 2 ^ 64
def CMul(i j:Int):Prop:=(-(2 ^ 64) < i/\i < 2 ^ 64)\/(-(2 ^ 64) < j/\j < 2 ^ 64)
theorem CMul.ok{i j:Int}(h:CMul i j):IntMulOk i j:=by
 rcases h with⟨h1,h2⟩ | ⟨h1,h2⟩
 ·exact .of_left (intBits_le_64 h1 h2)
 ·exact .of_right (intBits_le_64 h1 h2)
theorem JY:OpR X (UA .Add) (rI0 λi j=>.int (i+j)):=opI0 λ_ _ _ _ _ _ _ q=>add_int q
theorem J5:OpR X (UA .Sub) (rI0 λi j=>.int (i - j)):=opI0 λ_ _ _ _ _ _ _ q=>sub_int q
theorem LL:OpR X (UA .Mult) (rI CMul λi j=>.int (i*j)):=opI λ_ _ _ _ _ _ _ hc q=>mul_int q hc.ok
theorem Lr:OpR X (UA .Mod) (rI (λ_ j=>0 < j) λi j=>.int (i % j)):=opI λi j _ _ _ _ _ hc q=>by
 have h1:(0:Int) < j:=hc;exact mod_int' (by omega) (by rw[Int.fmod_eq_emod_of_nonneg i (by omega)];exact q)
theorem IR:OpR X (UA .Pow) (rI CPow λi j=>.int (i ^ j.toNat)):=opI λ_ _ _ _ _ _ _ hc q=>pow_int_small hc.1 hc.2.1 hc.2.2 q
theorem unI{f:b_->Sem b_}{g:Int->Int}(rule:∀(i:Int) (t:Tok) (s:c_) (Q:b_->c_->Prop) (E:b_->c_->Prop),Q (.int (g i) s.toks) { s with toks:=s.toks+1 }->o_ (q_ X.prog X.w) X.A (f (.int i t)) Q E s):
  UnR X f (rU λi=>.int (g i)):=by
 intro aa s U H x v Q I rx h;obtain⟨i,rfl,q⟩:=h;obtain⟨t,rfl⟩:=rx;exact rule i t s _ _ ⟨.int (g i),H,I.tok _,⟨_,rfl⟩,q⟩
theorem IM:UnR X (unaryOp .USub) (rU λi=>.int (-i)):=unI λ_ _ _ _ _ q=>neg_int q
end
section
variable{X:Cx}{a b c:D_}{ta tb tc:TE}
theorem Au{U:St}{H:Hp}{s:c_}{Q:VK}{k k':Bool}(I:Inv X aa U H s)(q:Q (.bl k) H)(e:k=k'):EP X aa U Q (.bool k') s:=by
 subst e;exact⟨.bl k,H,I,rfl,q⟩
theorem vZ:OpR X (Tl .Lt) (rI0 λi j=>.bl (decide (i < j))):=opB0 λ_ _ _ _ _ _ _ q=>lt_int q
theorem vh:OpR X (Tl .LtE) (rI0 λi j=>.bl (decide (i<=j))):=opB0 λ_ _ _ _ _ _ _ q=>le_int q
theorem Fv:OpR X (Tl .Gt) (rI0 λi j=>.bl (decide (j < i))):=opB0 λ_ _ _ _ _ _ _ q=>gt_int q
theorem Ju:OpR X (Tl .GtE) (rI0 λi j=>.bl (decide (j<=i))):=opB0 λ_ _ _ _ _ _ _ q=>ge_int q
theorem PN:OpR X (Tl .Is) (λx y H Q=>y=.non/\Q (.bl (decide (x=.non))) H):=by
 intro aa s U H x y v u Q I rx ry h;obtain⟨rfl,q⟩:=h;cases ry;refine is_none_gen (Au I q ?_)
 cases x<;>first
  | (cases rx;rfl)
  | (obtain⟨t,rfl⟩:=rx;rfl)
theorem L0:OpR X (Tl .IsNot) (λx y H Q=>y=.non/\Q (.bl (!decide (x=.non))) H):=by
 intro aa s U H x y v u Q I rx ry h;obtain⟨rfl,q⟩:=h;cases ry;refine isnot_none_gen (Au I q ?_)
 cases x<;>first
  | (cases rx;rfl)
  | (obtain⟨t,rfl⟩:=rx;rfl)
theorem OpR.or{f:b_->b_->Sem b_}{r r':R2}(h:OpR X f r)(h':OpR X f r'):OpR X f (λx y H Q=>r x y H Q\/r' x y H Q):=by
 intro aa s U H x y v u Q I rx ry q
 rcases q with q | q
 ·exact h aa s U H x y v u Q I rx ry q
 ·exact h' aa s U H x y v u Q I rx ry q
theorem nomark(b:D_)(h:op≠.In:=by decide)(h2:op≠.NotIn:=by decide):Us op b=false:=by
 have e1:(op == CmpOp.In)=false:=by cases op<;>first | rfl | exact absurd rfl h
 have e2:(op == CmpOp.NotIn)=false:=by cases op<;>first | rfl | exact absurd rfl h2
 cases b<;>simp[Us,e1,e2]
theorem Po{r:R2}(ho:OpR X (Tl op) r)(ha:PE X a ta)(hb:PE X b tb)(hm:Us op b=false):PE X (.Compare a [op] [b] pos) (tOp r ta tb):=by
 intro aa s U H Q I h;exact wpAny_Compare1 (binT ha hb I h λv u s2 x y H2 I2 rx ry q=>ho aa s2 U H2 x y v u Q I2 rx ry q) hm
noncomputable def tTest(t:TE):TT:=λU H Q=>t U H λx H'=>∃k,x=.bl k/\Q k H'
theorem Ii{r:R2}(ho:OpR X (Tl op) r)(ha:PE X a ta)(hb:PE X b tb)(hm:Us op b=false):PT X (.Compare a [op] [b] pos) (tTest (tOp r ta tb)):=by
 intro aa s U H Q I h
 refine wpAny_isTrue_Compare1 (thn (ha aa s U H _ I h) λv s1 ⟨x,H1,I1,r1,q1⟩=>thn (hb aa s1 U H1 _ I1 q1) λu s2 ⟨y,H2,I2,r2,q2⟩ =>
  thn (ho aa s2 U H2 x y v u _ I2 r1 r2 q2) λc s3 ⟨z,H3,I3,r3,k,e,q3⟩=>?_) hm
 subst e;cases r3;exact K_ ⟨H3,I3,q3⟩
noncomputable def tChain(r r':R2)(ta tb tc:TE):TE:=λU H Q=>ta U H λx H1=>tb U H1 λy H2=>r x y H2 λz H3=>∃k,z=.bl k ∧
 (if k=true then tc U H3 λw' H4=>r' y w' H4 Q else Q (.bl false) H3)
theorem JM{r r':R2}(ho:OpR X (Tl op) r)(bV:OpR X (Tl bH) r')(ha:PE X a ta)(hb:PE X b tb)(hc:PE X c tc)(hm:UC [op,bH] [b,c]=false:=by with_unfolding_all rfl):PE X (.Compare a [op,bH] [b,c] pos) (tChain r r' ta tb tc):=by
 intro aa s U H Q I h
 refine Compare_chain (thn (ha aa s U H _ I h) λv s1 ⟨x,H1,I1,r1,q1⟩=>Zh (thn (hb aa s1 U H1 _ I1 q1) λu s2 ⟨y,H2,I2,r2,q2⟩ =>
  thn (ho aa s2 U H2 x y v u _ I2 r1 r2 q2) λd s3 ⟨z,H3,I3,r3,k,e,q3⟩=>?_)) hm
 subst e;cases r3;refine K_ ?_;cases k with
 | false=>exact Zi ⟨.bl false,H3,I3,rfl,q3⟩
 | true=>exact Zj (chain_last (thn (hc aa s3 U H3 _ I3 q3) λw' s4 ⟨z',H4,I4,r4,q4⟩=>bV aa s4 U H4 y z' u w' Q I4 r2 r4 q4))
theorem Ks{r r':R2}(ho:OpR X (Tl op) r)(bV:OpR X (Tl bH) r')(ha:PE X a ta)(hb:PE X b tb)(hc:PE X c tc)(hm:UC [op,bH] [b,c]=false:=by with_unfolding_all rfl):PT X (.Compare a [op,bH] [b,c] pos) (tTest (tChain r r' ta tb tc)):=by
 intro aa s U H Q I h
 refine isTrue_chain (thn (ha aa s U H _ I h) λv s1 ⟨x,H1,I1,r1,q1⟩=>test_link (thn (hb aa s1 U H1 _ I1 q1) λu s2 ⟨y,H2,I2,r2,q2⟩ =>
  thn (ho aa s2 U H2 x y v u _ I2 r1 r2 q2) λd s3 ⟨z,H3,I3,r3,k,e,q3⟩=>?_)) hm
 subst e;cases r3;refine K_ ?_;cases k with
 | false =>
  obtain⟨k',e',q'⟩:=q3;cases e';exact Zi ⟨H3,I3,q'⟩
 | true =>
  refine Zj (test_last (thn (hc aa s3 U H3 _ I3 q3) λw' s4 ⟨z',H4,I4,r4,q4⟩=>thn (bV aa s4 U H4 y z' u w' _ I4 r2 r4 q4) λd' s5 ⟨z2,H5,I5,r5,k2,e2,q5⟩=>?_));subst e2;cases r5;exact K_ ⟨H5,I5,q5⟩
theorem line63:(z_:Nat) < 2 ^ 63:=by rw[TH];decide
theorem Lm:OpR X (UA .Add) (λx y H Q=>∃i j,x=.str i/\y=.str j/\i.length+j.length<=z_/\Q (.str (i++j)) H):=by
 intro aa s U H x y v u Q I rx ry h;obtain⟨i,j,rfl,rfl,hz,q⟩:=h;obtain⟨t,rfl⟩:=rx;obtain⟨t',rfl⟩:=ry;exact add_str (λt' tk=>⟨.str (i++j),H,I.tok _,⟨_,rfl⟩,q⟩) hz
def PlainIxT(b:D_):Prop:=∀o i,Y5 b false o i=operate [o,i] (Yy o i)
theorem OJ(ha:PE X a ta)(hb:PE X b tb)(hs:PlainIxT b):
  PE X (.Subscript a b pos) (tOp (λx y H Q=>∃z i c,x=.str z/\y=.int i/\0<=i/\i < 2 ^ 63/\i < z.length/\z.cps[i.toNat]?=some c/\Q (.str ⟨#[c]⟩) H) ta tb):=by
 intro aa s U H Q I h;refine Yo (binT ha hb I h λv u s2 x y H2 I2 rx ry q=>?_);obtain⟨z,i,c,rfl,rfl,h0,r8,h1,hc,q⟩:=q;obtain⟨t,rfl⟩:=rx;obtain⟨t',rfl⟩:=ry;have e:seqIndex? i z.length=some i.toNat:=PySem.StrLaws.seqIndex_nonneg h0 h1
 exact tail_any (Wk s2 z t) slot_str_getitem.lookup (getItem_str (c:=c) (by
  have e1:decide (i < -(2 ^ 63:Int))=false:=decide_eq_false (by omega);have e2:decide (i>=2 ^ 63)=false:=decide_eq_false (by omega)
  rw[e1,e2]<;>rfl) (by rw[e];exact hc) ⟨.str ⟨#[c]⟩,H2,I2.tok _,⟨_,rfl⟩,q⟩) (hs _ _)
theorem vals1{x:V}(r:Vals [x] us):∃u,us=[u]/\RelV x u:=by
 cases r with
 | cons r1 r2=>cases r2;exact⟨_,rfl,r1⟩
theorem vals2{x y:V}(r:Vals [x,y] us):∃u w',us=[u,w']/\RelV x u/\RelV y w':=by
 cases r with
 | cons r1 r2 =>
  cases r2 with
  | cons r3 r4=>cases r4;exact⟨_,_,rfl,r1,r3⟩
theorem NY(hc:X.calm=true):CallR X (.builtin "min") (λxs H Q=>∃i j,xs=[.int i,.int j]/\Q (.int (if j < i then j else i)) H):=by
 intro aa s U H xs us Q I r h;obtain⟨i,j,rfl,q⟩:=h;obtain⟨u,w',rfl,⟨t,rfl⟩,⟨t',rfl⟩⟩:=vals2 r;refine min_two_ints (I.ok.hd hc) λh' tk k=>⟨_,H,I.kept k,?_,q⟩
 by_cases hj:j < i
 ·rw[if_pos hj,if_pos hj];exact⟨_,rfl⟩
 ·rw[if_neg hj,if_neg hj];exact⟨_,rfl⟩
theorem NC:CallR X (.type "str") (λxs H Q=>∃i,xs=[.int i]/\i.natAbs.log2 < 1920/\Q (.str (toString i)) H):=by
 intro aa s U H xs us Q I r h;obtain⟨i,rfl,hz,q⟩:=h;obtain⟨u,rfl,t,rfl⟩:=vals1 r;exact PySem.P.str_of_int hz ⟨.str _,H,I.tok _,⟨_,rfl⟩,q⟩
end
structure Room(k:Nat)(A:Uh):Prop where
 hd:A.handled=none
 dp:A.depth+3*k+5 < recursionLimit
 un:A.units+16*k+200 < UI
 gd:A.guards=some []
theorem Room.mono(r:Room k A)(h:j<=k):Room j A:=⟨r.hd,by have:=r.dp;omega,by have:=r.un;omega,r.gd⟩
theorem Room.deeper(r:Room (k+1) A)(env:Env):Room k (A.deeper env):=
 ⟨r.hd,by have:=r.dp;show A.depth+1+3*k+5 < _;omega,by have:=r.un;show A.units+3+16*k+200 < _;omega,r.gd⟩
theorem Room.depth(r:Room k A):A.depth < recursionLimit:=by have:=r.dp;omega
noncomputable def tNil:TA:=λ_ H Q=>Q [] H
noncomputable def tCons(ta:TE)(tr:TA):TA:=λU H Q=>ta U H λx H1=>tr U H1 λxs H2=>Q (x::xs) H2
section
variable{X:Cx}{e:D_}{es:List D_}{te:TE}{t:TA}
theorem wB:PA X [] tNil:=λ_ _ _ _ H Q I h=>WC ⟨[],H,I,.nil,h⟩
theorem uU(ha:PE X e te)(hr:PA X es t)(hs:d_ (e::es) X.env=(false,eval e X.env)::d_ es X.env:=by rfl):PA X (e::es) (tCons te t):=by
 intro pos aa s U H Q I h;rw[hs];show o_ _ _ (spliced ((false,eval e X.env)::J_ pos (d_ es X.env))) _ _ s;refine Yp (thn (ha aa s U H _ I h) λu s1 ⟨x,H1,I1,r1,q1⟩=>?_);exact thn (hr pos aa s1 U H1 _ I1 q1) λus s2 ⟨xs,H2,I2,r2,q2⟩=>⟨x::xs,H2,I2,.cons r1 r2,q2⟩
noncomputable def tTup(t:TA):TE:=λU H Q=>t U H λxs H1=>xs.length<=z_/\∀p,H1 p=none->Q (.ref p) (upd H1 p (.tup xs))
noncomputable def tLst(t:TA):TE:=λU H Q=>t U H λxs H1=>xs.length<=z_/\∀p,H1 p=none->Q (.ref p) (upd H1 p (.lst xs))
theorem G4{x1}(h:PA X es t):PE X (.Tuple es x1 pos) (tTup t):=by
 intro aa s U H Q I hq;refine wpAny_Tuple_spliced (thn (h pos aa s U H _ I hq) λus s1 ⟨xs,H1,I1,r,z,q⟩=>⟨by rw[←r.length];exact z,?_⟩);have hf:H1 s1.heap.objs.size=none:=I1.hok.fresh (r_ _);refine⟨.ref s1.heap.objs.size,upd H1 s1.heap.objs.size (.tup xs),I1.laid (t':=s1.toks) (λb u e=>e_ _ e) (r_ _) ?_,rfl,q _ hf⟩;exact⟨z,us,r,⟨_,s_ _ rfl,rfl,_,rfl⟩⟩
theorem QK(h:PA X es t):PE X (.List es pos) (tLst t):=by
 intro aa s U H Q I hq;refine wpAny_List_spliced (thn (h pos aa s U H _ I hq) λus s1 ⟨xs,H1,I1,r,z,q⟩=>⟨by rw[←r.length];exact z,?_⟩);have hf:H1 s1.heap.objs.size=none:=I1.hok.fresh (r_ _);refine⟨.ref s1.heap.objs.size,upd H1 s1.heap.objs.size (.lst xs),I1.laid (t':=s1.toks) (λb u e=>e_ _ e) (r_ _) ?_,rfl,q _ hf⟩;exact⟨z,us,0,r,s_ _ rfl⟩
end
abbrev Sp:=List V->Hp->VK->XK->Prop
abbrev CXT:=List Env->Hp->c_->XK->b_->c_->Prop
structure Env0(P:v_)(w:F_)(K:PySem.W.Frag)(mg:Str->Option b_)(base:G_)(A:Uh)(outer:List Env)(s:c_)(H:Hp):Prop where
 frames:A.frames=some outer
 mod:Mod K mg base
 bs:∀b o,base.get? b=some o->s.heap.get? b=some o/\H b=none
 bsz:base.objs.size<=s.heap.objs.size
 funs:s.heap.FunFrames base outer
 frf:∀b∈frs outer,H b=none
 hok:HOk P w H s.heap
 bare:Vm s.gens
def CE(outer:List Env)(P:v_)(w:F_)(H:Hp)(s:c_)(Q:VK)(u:b_)(s':c_):Prop:=
 ∃v H',s'.os=s.os/\Vm s'.gens/\Un (frs outer) [] H H' s.heap s'.heap/\HOk P w H' s'.heap/\RelV v u/\Q v H'
def CR(CX:CXT)(outer:List Env)(P:v_)(w:F_)(H:Hp)(s:c_)(Q:VK)(E:XK)(r:Result)(s':c_):Prop:=
 match r with
 | .ok (.ret u)=>CE outer P w H s Q u s'
 | .ok _=>False
 | .error e=>CX outer H s E e s'
structure FnOk(P:v_)(w:F_)(K:PySem.W.Frag)(mg:Str->Option b_)(base:G_)(CX:CXT)(k:Nat)(f:g_)(fd:U8)(ps:List Str)(sp:Sp):Prop where
 len:∀vs H Q E,sp vs H Q E->vs.length=ps.length
 run:∀(A:Uh) (outer:List Env) (s:c_) (H:Hp) (args:Args) (us:List b_) (vs:List V) (Q:VK) (E:XK),Room k A->Env0 P w K mg base A outer s H->Yz s fd args (ps.zip us)->Vals vs us->sp vs H Q E →
  VL (q_ P w) A (.call (.ref f) args) (CR CX outer P w H s Q E) s
section
variable{X:Cx}{U:St}{H:Hp}{s:c_}
theorem Inv.env0(I:Inv X aa U H s):Env0 X.prog X.w X.K X.mg X.base X.A X.stack s H:=
 ⟨I.ok.frames,I.ok.mod,I.bs,H_ I.ok.bsz I.sz,I.stack,I.stkFree,I.hok,I.bare⟩
theorem Inv.after{Q:VK}(I:Inv X aa U H s)(h:CE X.stack X.prog X.w H s Q u s'):EP X aa U Q u s':=by
 obtain⟨v,H',os,bare,un,hok,r,q⟩:=h;obtain⟨hh,g,d,t,jY⟩:=s';obtain rfl:jY=s.os:=os;exact⟨v,H',I.call (h':=hh) (g':=g) (d':=d) (t':=t) (ch:=[]) un hok bare (λb z=>absurd z (by simp)),r,q⟩
end
noncomputable def tCall(sp:Sp)(dP:List V)(E:XK)(t:TA):TE:=λU H Q=>t U H λvs H1=>sp (vs++dP) H1 Q E
def Binds(K:PySem.W.Frag)(fd:U8)(ps:List Str)(ds:List b_):Prop:=
 ∀(s:c_) (us:List b_),K.In s.heap->(us++ds).length=ps.length->Yz s fd ⟨us,[]⟩ (ps.zip (us++ds))
theorem Binds.all{K:PySem.W.Frag}(h:∀us:List b_,us.length=ps.length->Uu fd ⟨us,[]⟩=pure (ps.zip us)):Binds K fd ps []:=λs us _ hl=>by
 rw[Uo] at hl ⊢;exact .of_eq (h us hl)
def Passes(CX:CXT)(X:Cx)(E:XK):Prop:=∀(aa:List (g_×Obj)) (U:St) (H:Hp) (s:c_) (e:b_) (s':c_),Inv X aa U H s->CX X.stack H s E e s'->X.xe e s'
section
variable{X:Cx}{CX:CXT}{f:g_}{sp:Sp}{dP:List V}{ds:List b_}{E:XK}{x m:Str}{p:Pos}{e o:D_}{es:List D_}{ta:TE}{t:TA}
theorem GA{U:St}{H:Hp}{s:c_}{Q:VK}{vs:List V}(F:FnOk X.prog X.w X.K X.mg X.base CX k f fd ps sp)(hr:Room k X.A)(hb:Binds X.K fd ps ds)(hd:Vals dP ds)(hx:Passes CX X E)(I:Inv X aa U H s)(r:Vals vs us)(h:sp (vs++dP) H Q E):o_ (q_ X.prog X.w) X.A (call (.ref f) us) (EP X aa U Q) X.xe s:=by
 have r2:Vals (vs++dP) (us++ds):=r.append hd;have hl:(us++ds).length=ps.length:=by rw[←r2.length];exact F.len _ _ _ _ h
 refine Yq (Uk (F.run X.A X.stack s H ⟨us,[]⟩ (us++ds) (vs++dP) Q E hr I.env0 (hb s us I.kIn hl) r2 h) λr s' hq=>?_);cases r with
 | error e=>exact hx aa U H s e s' I hq
 | ok fl =>
  cases fl with
  | ret u=>exact I.after hq
  | next=>exact Zw hq
  | brk=>exact Zw hq
  | cont=>exact Zw hq
theorem AS(F:FnOk X.prog X.w X.K X.mg X.base CX k f fd ps sp)(hr:Room k X.A)(hg:Gl X x)(hm:X.mg x=some (.ref f))(hk:PySem.W.keepIn X.K (.ref f)=true)(hb:Binds X.K fd ps ds)(hd:Vals dP ds)(hx:Passes CX X E)(ha:PA X (e::es) t)(bh:(x == ("__debug__":Str))=false:=by decide)(he:d_ (e::es) X.env=(false,eval e X.env)::d_ es X.env:=by rfl)(aB:(J_ pos (d_ es X.env)).any (·.1)=false:=by rfl):
  PE X (.Call (.Name x p) (e::es) [] pos) (tCall sp dP E t):=by
 intro aa s U H Q I h;refine Ui (wf I hg hm ?_ bh);refine PySem.W.callWith_K (h₀:=X.base) I.ok.mod.kin hk (thn (ha pos aa s U H _ I h) λus s1 ⟨vs,H1,I1,r,q⟩=>⟨I1.kIn,?_⟩) he aB;exact GA F hr hb hd hx I1 r q
theorem L8(F:FnOk X.prog X.w X.K X.mg X.base CX k f fd ps sp)(hr:Room k X.A)(hg:Gl X x)(hm:X.mg x=some (.ref f))(hk:PySem.W.keepIn X.K (.ref f)=true)(hb:Binds X.K fd ps ds)(hd:Vals dP ds)(hx:Passes CX X E)(bh:(x == ("__debug__":Str))=false:=by decide):PE X (.Call (.Name x p) [] [] pos) (tCall sp dP E tNil):=by
 intro aa s U H Q I h;refine Ui (wf I hg hm ?_ bh);exact PySem.W.callWith_K0 I.kIn hk (GA (us:=[]) F hr hb hd hx I .nil h)
end
structure FnScope(N P:List Str)(sc:Wc):Prop where
 kind:sc.kind=.function
 co:sc.isCoroutine=false
 gen:sc.isGenerator=false
 nd:N.Nodup
 pre:N.take P.length=P
 par:∀x∈P,sc.names.lookup x=some .local\/sc.names.lookup x=some .cell
 nofree:∀y∈sc.names,y.2≠.free
theorem G8{kindOf:Str->Option T4}{x:Str}:∀{binds:List (Str×b_)}{m:Str->Option b_},(∀v,(x,v)∉binds)->Zk kindOf binds m x=m x
 | [],_,_=>rfl
 | (n,v)::r,m,h=>by
  unfold Zk;rw[G8 λw hw=>h w (i_ _ hw)];split
  ·have:x≠n:=by rintro rfl;exact h v m_
   simp[this]
  ·rfl
theorem EW{kindOf:Str->Option T4}{x:Str}:∀{binds:List (Str×b_)}{m:Str->Option b_},(∀v,(x,v)∉binds)->Zl kindOf binds m x=m x
 | [],_,_=>rfl
 | (n,v)::r,m,h=>by
  unfold Zl;rw[EW λw hw=>h w (i_ _ hw)];split
  ·rfl
  ·have:x≠n:=by rintro rfl;exact h v m_
   simp[this]
theorem F5{kindOf:Str->Option T4}{x:Str}{v:b_}:∀{P:List Str}{vs:List b_}{i:Nat}{m:Str->Option b_},P.Nodup->P[i]?=some x->vs[i]?=some v->kindOf x=some .local →
  Zk kindOf (P.zip vs) m x=some v
 | [],_,_,_,_,h,_,_=>by simp at h
 | _::_,[],_,_,_,_,h,_=>by simp at h
 | p::P,w::vs,0,m,nd,h1,h2,hk=>by
  simp at h1 h2;subst h1;subst h2;show Zk kindOf ((p,w)::P.zip vs) m p=_;unfold Zk;rw[G8 λv hv=>(Ue.mp nd).1 (Zm hv).1,if_pos hk];simp
 | p::P,w::vs,i+1,m,nd,h1,h2,hk=>by
  show Zk kindOf ((p,w)::P.zip vs) m x=_;unfold Zk;exact F5 (i:=i) (Ue.mp nd).2 (by simpa using h1) (by simpa using h2) hk
theorem Eu{kindOf:Str->Option T4}{x:Str}{v:b_}:∀{P:List Str}{vs:List b_}{i:Nat}{m:Str->Option b_},P.Nodup->P[i]?=some x->vs[i]?=some v->kindOf x≠some .local →
  Zl kindOf (P.zip vs) m x=some v
 | [],_,_,_,_,h,_,_=>by simp at h
 | _::_,[],_,_,_,_,h,_=>by simp at h
 | p::P,w::vs,0,m,nd,h1,h2,hk=>by
  simp at h1 h2;subst h1;subst h2;show Zl kindOf ((p,w)::P.zip vs) m p=_;unfold Zl;rw[EW λv hv=>(Ue.mp nd).1 (Zm hv).1,if_neg hk];simp
 | p::P,w::vs,i+1,m,nd,h1,h2,hk=>by
  show Zl kindOf ((p,w)::P.zip vs) m x=_;unfold Zl;exact Eu (i:=i) (Ue.mp nd).2 (by simpa using h1) (by simpa using h2) hk
noncomputable def start(N:List Str)(vs:List V):St:=vs.map some++P_ (N.length - vs.length) none
noncomputable def cxOf(CX:CXT)(P:v_)(w:F_)(K:PySem.W.Frag)(mg:Str->Option b_)(base:G_)(N:List Str)(qual:Str)(scope:Wc)(f:g_)(cd:b_)(A:Uh)(outer:List Env)(s:c_)(H:Hp)(E:XK):Cx where
 prog:=P
 w:=w
 K:=K
 mg:=mg
 base:=base
 A:=A.deeper (VZ qual scope s.heap.objs.size f cd)
 N:=N
 s₀:=s
 H₀:=H
 env:=VZ qual scope s.heap.objs.size f cd
 outer:=outer
 stack:=VZ qual scope s.heap.objs.size f cd::outer
 ex:=[]
 calm:=true
 fn:=λ_=>true
 pn:=[]
 xe:=λe s'=>o_ (q_ P w) (A.deeper (VZ qual scope s.heap.objs.size f cd)) (leaving (VZ qual scope s.heap.objs.size f cd) e) (λ_ fW=>CX outer H s E e fW) (λe' fW=>CX outer H s E e' fW) s'
theorem GJ{sc:Wc}{x:Str}(h:sc.names.lookup x=some .cell):∃c,(cellsFrom n sc.names []).lookup x=some c:=by
 have q:=PySem.W.cellsFrom_some sc.names n [] (.inl h);exact U9.mp q
theorem J4{CX:CXT}{P:v_}{w:F_}{K:PySem.W.Frag}{f:g_}{outer:List Env}{s s1:c_}{H:Hp}{E:XK}{vs:List V}(S:FnScope N ps scope)(hd:A.handled=none)(e0:Env0 P w K mg base A outer s H)(hl:vs.length=ps.length)(r:Vals vs us)(x:InCallC s s.heap.objs.size (Zk (VZ qual scope s.heap.objs.size f cd).kindOf (ps.zip us) λ_=>none) (cellsFrom (s.heap.objs.size+1) scope.names []) (Zl (VZ qual scope s.heap.objs.size f cd).kindOf (ps.zip us) λ_=>none) s1):
  Inv (cxOf CX P w K mg base N qual scope f cd A outer s H E) [] (start N vs) H s1:=by
 have aB:ps.length<=N.length:=by have:=congrArg length S.pre;rw[XC] at this;omega
 obtain⟨h1,tk,rfl,hk⟩:=x.done;have gL:∀b:g_,b∉(cxOf CX P w K mg base N qual scope f cd A outer s H E).ex:=λb z=>absurd (show b∈([]:List g_) from z) (by simp)
 refine⟨⟨e0.mod,S.kind,rfl,rfl,r_ _,λy z c h1 h2=>?_,λy hy=>?_,λy c _ h=>?_,λ_=>hd,Uh.frames_deeper e0.frames,.inr ⟨rfl,rfl⟩,λb z=>absurd z (gL b),e0.bs,e0.bsz,λb _ _=>gL b,λb z=>absurd z (gL b),e0.funs,e0.frf⟩,
  rfl,e0.bare,Un.kept hk,⟨_,x.toInCall.ns,λi y v h1 h2 h3=>?_⟩,λy c h=>⟨_,x.cell y c h⟩,e0.hok.fresh (r_ _),λy c h=>?_,λp hp=>absurd (show p∈([]:List (g_×Obj)) from hp) (by simp),e0.hok.kept hk,?_⟩
 ·exact name_of_addr x.apart (PySem.mem_of_lookup h1) (PySem.mem_of_lookup h2)
 ·have hy:scope.names.lookup y=some .cell\/scope.names.lookup y=some .free:=hy
  rcases hy with hy | hy
  ·exact GJ hy
  ·exact absurd rfl (S.nofree _ (PySem.mem_of_lookup hy))
 ·exact XA (x.above y c (PySem.mem_of_lookup h))
 ·have hi:i < vs.length:=by
   unfold start at h2;by_cases hi:i < vs.length
   ·exact hi
   ·rw[Uf (by simpa using hi)] at h2;rw[UD] at h2;split at h2<;>cases h2
  have ha:vs[i]?=some v:=by
   unfold start at h2;rw[T_ (by simpa using hi),Tp] at h2;cases e:vs[i]? with
   | none=>rw[e] at h2;cases h2
   | some a=>rw[e] at h2;cases h2;rfl
  obtain⟨u,hu,rv⟩:=r.get ha
  have hp:ps[i]?=some y:=by
   rw[←S.pre,List.getElem?_take_of_lt (by omega)];exact h1
  have lY:ps.Nodup:=by rw[←S.pre];exact S.nd.sublist (Xa _ _)
  refine⟨u,rv,?_⟩
  rcases S.par y (TC hp) with k | k
  ·exact .inl ⟨k,F5 lY hp hu k⟩
  ·obtain⟨c,e⟩:=GJ (n:=s.heap.objs.size+1) k;refine .inr ⟨.inl k,c,e,?_⟩;have q:=x.cell y c e;rw[Eu lY hp hu (by show scope.names.lookup y≠_;rw[k];decide)] at q;exact q
 ·exact e0.hok.fresh (XA (x.above y c (PySem.mem_of_lookup h)))
 ·unfold start;show _=N.length;rw[R_,y_,M_];omega
theorem GH{CX:CXT}{P:v_}{w:F_}{K:PySem.W.Frag}{f:g_}{name:Str}{body:List Tr}{dV kV bZ aA:b_}{sp:Sp}(lk:K.lookup f=some ⟨oc,od,.func (WM name qual params body scope dV kV bZ pm an aA ct),dQ⟩)(cz:codeIn K aA qual=true)(S:FnScope N ps scope)(len:∀vs H Q E,sp vs H Q E->vs.length=ps.length)(fh:∀(A:Uh) (outer:List Env) (s:c_) (H:Hp) (vs:List V) (Q:VK) (E:XK),Room k (A.deeper (VZ qual scope s.heap.objs.size f aA))->sp vs H Q E →
   ∃t,PSs (cxOf CX P w K mg base N qual scope f aA A outer s H E) body t/\t { nx:=λ_ H'=>Q .non H',rt:=Q } (start N vs) H):
  FnOk P w K mg base CX (k+1) f (WM name qual params body scope dV kV bZ pm an aA ct) ps sp:=by
 refine⟨len,λA outer s H args us vs Q E hr e0 hb r eH=>?_⟩;have hl:=len _ _ _ _ eH;have KX:K.In s.heap:=e0.mod.kin.keeps λb o e=>(e0.bs b o e).1
 have lim:s.heap.NoLimit:=e0.mod.nolimit.keeps λb o e=>(e0.bs b o e).1
 have jZ:∀y∈ps.zip us,scope.names.lookup y.1=some .local\/(scope.names.lookup y.1=some .cell/\((cellsFrom (s.heap.objs.size+1) scope.names []).lookup y.1).isSome=true):=λ⟨n,v⟩ hy=>by
  rcases S.par n (Zm hy).1 with q | q
  ·exact .inl q
  ·exact .inr ⟨q,PySem.W.cellsFrom_some _ _ _ (.inl q)⟩
 refine codeAny_call_function hr.depth (KX _ _ lk) rfl S.co S.gen rfl (PySem.W.codeRec_of KX cz) (hb _ _ _ _ ?_);refine wpAny_newFunctionEnv_cells S.kind jZ λenv he s1 x=>?_
 subst he;refine⟨lim.keeps x.toInCall.keep,codeAny_func ?_⟩;obtain⟨t,ht,hq⟩:=fh A outer s H vs Q E (hr.deeper _) eH;have I:Inv (cxOf CX P w K mg base N qual scope f aA A outer s H E) [] (start N vs) H s1:=J4 S hr.hd e0 hl r x;refine TJ (ht [] s1 (start N vs) H _ I hq) (λfl s' hs=>?_) λe s' hs=>hs
 have fin:∀{am:St}{H':Hp}{v:V}{u:b_},Inv (cxOf CX P w K mg base N qual scope f aA A outer s H E) [] am H' s'->RelV v u->Q v H'->CE outer P w H s Q u s':=
  λ{am H' v u} J rv q=>⟨v,H',J.os,J.bare,J.base,J.hok,rv,q⟩
 cases fl with
 | ret u =>
  obtain⟨v,am,H',J,rv,q⟩:=hs;exact fin J rv q
 | next =>
  obtain⟨am,H',J,q⟩:=hs;exact fin (v:=V.non) (u:=b_.none) J rfl q
 | brk =>
  obtain⟨_,_,_,q⟩:=hs;exact Zw q
 | cont =>
  obtain⟨_,_,_,q⟩:=hs;exact Zw q
section
variable{X:Cx}{x:Str}{p:Pos}{e:D_}{es:List D_}{t:TA}{id:String}{r:List V->Hp->VK->Prop}
noncomputable def tCB(r:List V->Hp->VK->Prop)(t:TA):TE:=λU H Q=>t U H λvs H1=>r vs H1 Q
theorem wn(hc:CallR X (.builtin id) r)(hg:Gl X x)(hm:X.mg x=none)(hv:Ud x=some (.builtin id))(ha:PA X (e::es) t)(hn:x ≠ "__name__":=by decide)(bh:(x == ("__debug__":Str))=false:=by decide)(he:d_ (e::es) X.env=(false,eval e X.env)::d_ es X.env:=by rfl)(aB:(J_ pos (d_ es X.env)).any (·.1)=false:=by rfl):PE X (.Call (.Name x p) (e::es) [] pos) (tCB r t):=by
 intro aa s U H Q I h;refine Ui (vi I hg hm hv ?_ hn bh);exact VI (thn (ha pos aa s U H _ I h) λus s1 ⟨vs,H1,I1,r1,q1⟩=>hc aa s1 U H1 vs us Q I1 r1 q1) he aB
theorem Bz(hc:CallR X (.type T) r)(hg:Gl X x)(hm:X.mg x=none)(hv:Ud x=some (.type T))(ha:PA X (e::es) t)(hn:x ≠ "__name__":=by decide)(bh:(x == ("__debug__":Str))=false:=by decide)(he:d_ (e::es) X.env=(false,eval e X.env)::d_ es X.env:=by rfl)(aB:(J_ pos (d_ es X.env)).any (·.1)=false:=by rfl):PE X (.Call (.Name x p) (e::es) [] pos) (tCB r t):=by
 intro aa s U H Q I h;refine Ui (vi I hg hm hv ?_ hn bh);exact TK (thn (ha pos aa s U H _ I h) λus s1 ⟨vs,H1,I1,r1,q1⟩=>hc aa s1 U H1 vs us Q I1 r1 q1) he aB
end
end L2
variable{xs ws zs:List L2.V}{o:L2.HO}{X:L2.Cx}{U am:L2.St}{H' H2 I I' G I0 J:L2.Hp}{ta:L2.TA}{sp:L2.Sp}{tl:L2.TE}{v0:L2.V}{dj:L2.R2}
namespace HT
open PySem PyProof.Rows
section
variable{prog:v_}{w:F_}{E:b_->c_->Prop}{s:c_}
theorem J0{t b:g_}{ws:List b_}{Q:b_->c_->Prop}(ht:Y1 s.heap t vs.toArray)(hb:Y1 s.heap b ws.toArray)(hv:vs≠[])(h1:ws=[]->Q (.ref t) s)(h2:ws≠[]->Q (.ref s.heap.objs.size) { s with heap:=s.heap.push { cls:=.type "tuple", data:=.seq (vs++ws).toArray } })(gM:vs.length+ws.length<=z_):o_ (q_ prog w) A (UA .Add (.ref t) (.ref b)) Q E s:=by
 obtain⟨⟨cls,dd,data,sl⟩,ho,hc,n,hd⟩:=id ht;obtain⟨⟨lZ,iE,data2,iF⟩,eJ,cT,n2,dB⟩:=id hb;simp only at hc hd cT dB;subst hc hd cT dB;have e:vs.toArray++ws.toArray=(vs++ws).toArray:=by simp
 by_cases hw:ws=[]
 ·exact YA ⟨_,ho,rfl⟩ ⟨_,eJ,rfl⟩ WU Yi XE Xk (WV _ _)
   (tuple_addW1 t b vs.toArray ws.toArray n n2 dd iE sl iF (by simpa using hv) (by simp[hw])) ⟨ho,eJ,h1 hw⟩
 ·refine YA ⟨_,ho,rfl⟩ ⟨_,eJ,rfl⟩ WU Yi XE Xk (WV _ _)
   (tuple_addW2 t b vs.toArray ws.toArray n n2 dd iE sl iF (by simpa using hv) (by simpa using hw) (by rw[p_,p_];exact gM)) ⟨ho,eJ,?_⟩
  rw[e];exact h2 hw
noncomputable def sIx(n d:Nat):Option Int->Nat
 | none=>d
 | some v=>if v < 0 then(v+(n:Int)).toNat else min v.toNat n
theorem Du(n d:Nat):sIx n d none=d:=rfl
theorem Ij(n d:Nat)(hd:d<=n)(o:Option Int):sIx n d o<=n:=by
 cases o with
 | none=>exact hd
 | some v =>
  show(if v < 0 then(v+(n:Int)).toNat else min v.toNat n)<=n;by_cases hv:v < 0
  ·rw[if_pos hv];omega
  ·rw[if_neg hv];exact Nat.min_le_right _ _
theorem DQ(v:Int)(n d:Nat):(if v < 0 then max (v+(n:Int)) 0 else min v (n:Int))=((sIx n d (some v):Nat):Int):=by
 show(if v < 0 then max (v+(n:Int)) 0 else min v (n:Int))=(((if v < 0 then(v+(n:Int)).toNat else min v.toNat n):Nat):Int);by_cases hv:v < 0
 ·simp only[if_pos hv];omega
 ·simp only[if_neg hv];omega
theorem K6(lo hi:Option Int)(n:Nat):Y6 lo hi 1 (n:Int)=(((sIx n 0 lo:Nat):Int),((sIx n n hi:Nat):Int)):=by
 have h1:¬((1:Int) < 0):=by omega
 unfold Y6;simp only[h1,if_false];refine Zn ?_ ?_
 ·cases lo with
  | none=>rfl
  | some v=>exact DQ v n 0
 ·cases hi with
  | none=>rfl
  | some v=>exact DQ v n n
theorem Md(i j:Nat):XF (i:Int) (j:Int) 1=j - i:=by
 unfold XF;have h1:(1:Int) > 0:=by omega
 simp only[h1,if_true,Int.ediv_one];split<;>omega
theorem GO{v:b_}{o:Option Int}{Q:Option Int->c_->Prop}(p:XG v o)(h:Q o s):o_ (q_ prog w) A (Ul.Slice.slicePartIndex v) Q E s:=by
 cases p with
 | none=>exact slicePart_none h
 | int i t=>exact slicePart_int h
theorem Jb{sl:g_}{lo:Option Int}{Q:Int×Int×Nat->c_->Prop}(hs:s.heap.IsSliceOf sl vl vu .none)(pl:XG vl lo)(pu:XG vu hi)(h:Q (((sIx n 0 lo:Nat):Int),1,sIx n n hi - sIx n 0 lo) s):o_ (q_ prog w) A (sliceApplied (.ref sl) (pure (n:Int))) Q E s:=by
 obtain⟨os,fi,l8,fX⟩:=id hs;unfold sliceApplied Ul.Slice.sliceFields;refine a_ (a_ (TM fi fX (x:=vl) rfl (a_ (TM fi fX (x:=vu) rfl (a_ (TM fi fX (x:=.none) rfl (f_ ?_)))))));refine a_ (slicePart_none ?_);show o_ _ _ (if((1:Int) == 0)=true then _ else _) _ _ s;rw[if_neg (by decide)];refine a_ (GO pl (a_ (GO pu (a_ (f_ ?_)))));show o_ _ _ (match Y6 lo hi 1 (n:Int) with | (lo,hi)=>pure (lo,(1:Int),XF lo hi 1)) _ _ s;rw[K6 lo hi n];show o_ _ _ (pure (((sIx n 0 lo:Nat):Int),(1:Int),XF ((sIx n 0 lo:Nat):Int) ((sIx n n hi:Nat):Int) 1)) _ _ s;rw[Md];exact f_ h
theorem O3(xs:Array b_)(i k:Nat):((Ur k).filterMap λ(m:Nat)=>xs[((i:Int)+(m:Int)*1).toNat]?).toArray=((xs.toList.drop i).take k).toArray:=by
 have e:(λ(m:Nat)=>xs[((i:Int)+(m:Int)*1).toNat]?)=λm=>xs[i+m]?:=by
  funext m
  have:((i:Int)+(m:Int)*1).toNat=i+m:=by omega
  rw[this]
 rw[e];have:=pick_run xs i k;rw[List.filterMap_map] at this;have e2:((λx=>xs[x]?)∘λx=>i+x)=λm=>xs[i+m]?:=rfl
 rw[e2] at this;rw[this]
theorem Nk{t sl:g_}{lo:Option Int}{Q:b_->c_->Prop}(ht:Y1 s.heap t ak)(hs:s.heap.IsSliceOf sl vl vu .none)(pl:XG vl lo)(pu:XG vu hi)(hw:¬(sIx ak.size 0 lo=0/\sIx ak.size ak.size hi=ak.size))(h:Q (.ref s.heap.objs.size) { s with heap:=s.heap.push { cls:=.type "tuple", data:=.seq ((ak.toList.drop (sIx ak.size 0 lo)).take (sIx ak.size ak.size hi - sIx ak.size 0 lo)).toArray } })(gM:ak.size<=z_):o_ (q_ prog w) A (Yy (.ref t) (.ref sl)) Q E s:=by
 have ef:sizeOk (.seq ((ak.toList.drop (sIx ak.size 0 lo)).take (sIx ak.size ak.size hi - sIx ak.size 0 lo)).toArray):=by
  show((ak.toList.drop (sIx ak.size 0 lo)).take (sIx ak.size ak.size hi - sIx ak.size 0 lo)).toArray.size<=z_;rw[p_,XC,Vi,Tv];omega
 have hj:sIx ak.size ak.size hi<=ak.size:=Ij _ _ (r_ _) hi;obtain⟨os,fi,l8,fX⟩:=id hs;have oQ:s.TypeIs (.ref sl) "slice":=⟨os,fi,l8⟩;unfold Yy
 try with_reducible refine TZ ?_
 first | refine a_ (f_ ?_) | skip
 refine a_ (wpAny_sequenceKey ht.typeIs (by decide) ?_)
 refine a_ (TL (name:=Wm "__getitem__") ht.typeIs UB
  (TN UB ht.typeIs entry_tuple_getitem ?_ (args_tuple_getitem _ _)))
 show o_ _ _ (tupleItemsOf (.ref t) >>= _) _ _ s;refine a_ (tupleItemsOf_ ht ?_);refine a_ (YB oQ ?_);rw[if_pos (by decide)];refine a_ (Jb hs pl pu ?_)
 have oR:¬((((sIx ak.size 0 lo:Nat):Int) == 0&&(1:Int) == 1&&(sIx ak.size ak.size hi - sIx ak.size 0 lo) == ak.size)=true):=by
  intro q;rw[u_,u_] at q;have q1:((sIx ak.size 0 lo:Nat):Int)=0:=eq_of_beq q.1.1;have q2:sIx ak.size ak.size hi - sIx ak.size 0 lo=ak.size:=eq_of_beq q.2;exact hw ⟨by omega,by omega⟩
 show o_ _ _ (if(((sIx ak.size 0 lo:Nat):Int) == 0&&(1:Int) == 1&&(sIx ak.size ak.size hi - sIx ak.size 0 lo) == ak.size)=true then _ else _) _ _ s;rw[if_neg oR,O3]
 first
  | exact a_ (m:=Yr _) (Tw (f_ ⟨_,rfl,f_ h⟩) ef)
  | exact a_ (m:=Yr _) (Tw (a_ (f_ (f_ ⟨_,rfl,f_ h⟩))) ef)
  | exact a_ (a_ (m:=Yr _) (Tw (f_ (f_ ⟨_,rfl,f_ h⟩)) ef))
  | exact a_ (a_ (m:=Yr _) (Tw (f_ ⟨_,rfl,f_ h⟩) ef))
end
end HT
namespace L2
open PySem PySem.Spec PyProof.Rows
abbrev TO:=St->Hp->(Option Int->Hp->Prop)->Prop
def PO(X:Cx)(e:Option D_)(t:TO):Prop:=
 ∀(aa:List (g_×Obj)) (s:c_) (U:St) (H:Hp) (Q:Option Int->Hp->Prop),Inv X aa U H s->t U H Q →
  o_ (q_ X.prog X.w) X.A (evalPart e X.env) (λu s'=>∃o H',Inv X aa U H' s'/\XG u o/\Q o H') X.xe s
noncomputable def tNoPart:TO:=λ_ H Q=>Q none H
noncomputable def tPart(t:TE):TO:=λU H Q=>t U H λx H1=>∃i,x=.int i/\Q (some i) H1
section
variable{e:D_}{te:TE}{lo hi:Option D_}{tl th:TO}
theorem NK:PO X none tNoPart:=by
 intro aa s U H Q I h;rw[Yj];exact f_ ⟨none,H,I,.none,h⟩
theorem Mw(h:PE X e te):PO X (some e) (tPart te):=by
 intro aa s U H Q I hw;rw[evalPart_some];refine thn (h aa s U H _ I hw) λu s1 ⟨x,H1,I1,r1,q1⟩=>?_
 obtain⟨i,rfl,q⟩:=q1;obtain⟨t,rfl⟩:=r1;exact⟨some i,H1,I1,.int i t,q⟩
def SlR(X:Cx)(r:V->Option Int->Option Int->Hp->VK->Prop):Prop:=
 ∀(aa:List (g_×Obj)) (s:c_) (U:St) (H:Hp) (x:V) (v vl vu:b_) (lo hi:Option Int) (sl:g_) (Q:VK),Inv X aa U H s->RelV x v->s.heap.IsSliceOf sl vl vu .none->XG vl lo->XG vu hi->r x lo hi H Q →
  ∃T id,typeLookup (.type T) "__getitem__"=pure (some (.builtin id))/\s.TypeIs v T/\o_ (q_ X.prog X.w) X.A (Yy v (.ref sl)) (EP X aa U Q) X.xe s
theorem SlR.or{r r':V->Option Int->Option Int->Hp->VK->Prop}(h:SlR X r)(h':SlR X r'):SlR X (λx lo hi H Q=>r x lo hi H Q\/r' x lo hi H Q):=by
 intro aa s U H x v vl vu lo hi sl Q I rx hs pl pu q
 rcases q with q | q
 ·exact h aa s U H x v vl vu lo hi sl Q I rx hs pl pu q
 ·exact h' aa s U H x v vl vu lo hi sl Q I rx hs pl pu q
noncomputable def tSl(r:V->Option Int->Option Int->Hp->VK->Prop)(te:TE)(tl th:TO):TE:=λU H Q=>te U H λx H1=>tl U H1 λl H2=>th U H2 λu H3=>r x l u H3 Q
theorem DD{r:V->Option Int->Option Int->Hp->VK->Prop}(hr:SlR X r)(he:PE X e te)(hl:PO X lo tl)(hu:PO X hi th):PE X (.Subscript e (.Slice lo hi none p2) pos) (tSl r te tl th):=by
 intro aa s U H Q I h;refine Yo (thn (he aa s U H _ I h) λv s1 ⟨x,H1,I1,r1,q1⟩=>?_);refine wpAny_Slice (thn (hl aa s1 U H1 _ I1 q1) λvl s2 ⟨l,H2,I2,pl,q2⟩=>thn (hu aa s2 U H2 _ I2 q2) λvu s3 ⟨u,H3,I3,pu,q3⟩=>?_);rw[Yj];refine f_ ?_;have I4:Inv X aa U H3 { s3 with heap:=s3.heap.push { cls:=.type "slice", data:=.fields #[vl,vu,.none] } }:=I3.kept (t':=s3.toks) λb ob q=>e_ _ q
 obtain⟨T,id,hT,ht,hg⟩:=hr aa { s3 with heap:=s3.heap.push { cls:=.type "slice", data:=.fields #[vl,vu,.none] } } U H3 x v vl vu l u s3.heap.objs.size Q I4 r1 (G_.IsSliceOf.new ..) pl pu q3;show o_ (q_ X.prog X.w) X.A (Yk e (.Slice lo hi none p2) v (.ref s3.heap.objs.size)) (EP X aa U Q) X.xe { s3 with heap:=s3.heap.push { cls:=.type "slice", data:=.fields #[vl,vu,.none] } };exact tail_any (ops:=[.ref s3.heap.objs.size,v]) ht hT hg (by with_unfolding_all rfl)
noncomputable def cutV(xs:List V)(lo hi:Option Int):List V:=(xs.drop (HT.sIx xs.length 0 lo)).take (HT.sIx xs.length xs.length hi - HT.sIx xs.length 0 lo)
theorem DY(xs:List V)(lo hi:Option Int):(cutV xs lo hi).length<=xs.length:=by
 unfold cutV;rw[XC,Vi];omega
def rSlT(K:PySem.W.Frag):V->Option Int->Option Int->Hp->VK->Prop:=λx lo hi H Q=>∃a xs,x=.ref a/\SqT K H a xs ∧
 ¬(HT.sIx xs.length 0 lo=0/\HT.sIx xs.length xs.length hi=xs.length)/\∀p,H p=none->Q (.ref p) (upd H p (.tup (cutV xs lo hi)))
theorem KH:SlR X (rSlT X.K):=by
 intro aa s U H x v vl vu lo hi sl Q I rx hs pl pu h;obtain⟨a,xs,rfl,hx,hw,q⟩:=h;cases rx;obtain⟨ag,r,ht,hz⟩:=I.tuple hx;have aZ:ag.toArray.size=xs.length:=by rw[p_];exact r.length.symm
 refine⟨"tuple", _,UB.lookup,ht.typeIs,?_⟩;refine HT.Nk ht hs pl pu (by rw[aZ];exact hw) ?_ (by rw[aZ];exact hz);rw[aZ];refine⟨.ref s.heap.objs.size,_,I.laid (t':=s.toks) (o:=.tup (cutV xs lo hi)) (λb ob q=>e_ _ q) (r_ _) ?_,rfl,q _ (I.hok.fresh (r_ _))⟩;exact⟨H_ (DY xs lo hi) hz,_,(r.drop (HT.sIx xs.length 0 lo)).take (HT.sIx xs.length xs.length hi - HT.sIx xs.length 0 lo),Y1.new _ _⟩
noncomputable def rCatT(K:PySem.W.Frag):R2:=λx y H Q=>∃a b xs ys,x=.ref a/\y=.ref b/\SqT K H a xs/\SqT K H b ys/\xs≠[]/\xs.length+ys.length<=z_ ∧
 (ys=[]->Q (.ref a) H)/\(ys≠[]->∀p,H p=none->Q (.ref p) (upd H p (.tup (xs++ys))))
theorem Vals.nil_iff(r:Vals xs us):us=[]↔xs=[]:=by
 cases r with
 | nil=>simp
 | cons _ _=>simp
theorem Pu:OpR X (UA .Add) (rCatT X.K):=by
 intro aa s U H x y v u Q I rx ry h;obtain⟨a,b,xs,ys,rfl,rfl,ha,hb,hx,hz,q1,q2⟩:=h;cases rx;cases ry;obtain⟨ag,r1,p1,_⟩:=I.tuple ha;obtain⟨eK,r2,p2,_⟩:=I.tuple hb;refine HT.J0 p1 p2 (λz=>hx (r1.nil_iff.mp z)) (λz=>⟨.ref a,H,I,rfl,q1 (r2.nil_iff.mp z)⟩) (λz=>?_) (by rw[←r1.length,←r2.length];exact hz);refine⟨.ref s.heap.objs.size,_,I.laid (t':=s.toks) (o:=.tup (xs++ys)) (λb ob q=>e_ _ q) (r_ _) ?_,rfl,q2 (λw=>z (r2.nil_iff.mpr w)) _ (I.hok.fresh (r_ _))⟩;exact⟨by rw[R_];exact hz,_,r1.append r2,Y1.new _ _⟩
end
noncomputable def ixN(n:Nat)(i:Int):Option Nat:=if 0<=i then(if i < n then some i.toNat else none) else if -(n:Int)<=i then some (i+n).toNat else none
noncomputable def atI{α:Type}(xs:List α)(i:Int):Option α:=(ixN xs.length i).bind λj=>xs[j]?
theorem Ey{i:Int}(h:ixN n i=some j):seqIndex? i n=some j/\j < n/\-(n:Int)<=i/\i < n:=by
 unfold ixN at h;by_cases h0:0<=i
 ·rw[if_pos h0] at h;by_cases h1:i < n
  ·rw[if_pos h1] at h;have e:i.toNat=j:=Tn h;exact⟨by rw[Y7 h0 h1,e],by omega,by omega,h1⟩
  ·rw[if_neg h1] at h;cases h
 ·rw[if_neg h0] at h;by_cases h1:-(n:Int)<=i
  ·rw[if_pos h1] at h;have e:(i+n).toNat=j:=Tn h;exact⟨by rw[seqIndex_neg (by omega) h1,e],by omega,h1,by omega⟩
  ·rw[if_neg h1] at h;cases h
theorem DI{α:Type}{xs:List α}{i:Int}{v:α}(h:atI xs i=some v):∃j,seqIndex? i xs.length=some j/\xs[j]?=some v/\j < xs.length/\-(xs.length:Int)<=i/\i < xs.length:=by
 unfold atI at h;cases e:ixN xs.length i with
 | none=>rw[e] at h;cases h
 | some j =>
  rw[e] at h;obtain⟨h1,h2,h3,h4⟩:=Ey e;exact⟨j,h1,h,h2,h3,h4⟩
def PlainIx(b:D_):Prop:=∀o i,Y5 b false o i=operate [o,i] (Yy o i)
def IxR(X:Cx)(r:R2):Prop:=
 ∀(value cE:D_) (aa:List (g_×Obj)) (s:c_) (U:St) (H:Hp) (x y:V) (v u:b_) (Q:VK),Inv X aa U H s->RelV x v->RelV y u->r x y H Q →
  Y5 cE false v u=operate [v,u] (Yy v u)->o_ (q_ X.prog X.w) X.A (Yk value cE v u) (EP X aa U Q) X.xe s
def MtR(X:Cx)(id:String)(r:V->List V->Hp->VK->Prop):Prop:=
 ∀(aa:List (g_×Obj)) (s:c_) (U:St) (H:Hp) (x:V) (xs:List V) (v:b_) (us:List b_) (Q:VK),Inv X aa U H s->RelV x v->Vals xs us->r x xs H Q →
  o_ (q_ X.prog X.w) X.A (call (.builtin id) (v::us)) (EP X aa U Q) X.xe s
section
variable{a b:D_}{ta tb:TE}
theorem IxR.or{r r':R2}(h:IxR X r)(h':IxR X r'):IxR X (λx y H Q=>r x y H Q\/r' x y H Q):=by
 intro value cE aa s U H x y v u Q I rx ry q hs
 rcases q with q | q
 ·exact h value cE aa s U H x y v u Q I rx ry q hs
 ·exact h' value cE aa s U H x y v u Q I rx ry q hs
theorem Eb{r:R2}(hr:IxR X r)(ha:PE X a ta)(hb:PE X b tb)(hs:PlainIx b):PE X (.Subscript a b pos) (tOp r ta tb):=by
 intro aa s U H Q I h;exact Yo (binT ha hb I h λv u s2 x y H2 I2 rx ry q=>hr a b aa s2 U H2 x y v u Q I2 rx ry q (hs _ _))
noncomputable def rIxL(K:PySem.W.Frag):R2:=λx y H Q=>∃p xs i v,x=.ref p/\y=.int i/\SqL K H p xs/\atI xs i=some v/\Q v H
noncomputable def rIxT(K:PySem.W.Frag):R2:=λx y H Q=>∃p xs i v,x=.ref p/\y=.int i/\SqT K H p xs/\atI xs i=some v/\Q v H
theorem Gj:IxR X (rIxL X.K):=by
 intro value cE aa s U H x y v u Q I rx ry h hs;obtain⟨p,xs,i,z,rfl,rfl,hq,he,q⟩:=h;cases rx;obtain⟨t,rfl⟩:=ry;obtain⟨ag,r,pl,hz⟩:=I.list hq;obtain⟨j,h1,h2,h3,h4,h5⟩:=DI he;obtain⟨w,ew,j0⟩:=r.get h2;have hl:=r.length;have hn:=line63;have fin:EP X aa U Q w s:=⟨z,H,I,j0,q⟩;by_cases h0:0<=i
 ·have hj:i.toNat=j:=by
   rw[Y7 h0 h5] at h1;exact Tn h1
  exact item_listR pl.isList h0 (by omega) (by rw[hj];simpa using ew) fin hs
 ·have hj:(i+(ag.toArray.size:Int)).toNat=j:=by
   rw[seqIndex_neg (by omega) h4] at h1;rw[p_,←hl];exact Tn h1
  exact Xb (x:=w) pl.isList.typeIs WD.lookup
   (wpAny_getItem_list_neg (Q:=λr s'=>r=w/\EP X aa U Q r s') pl.isList (by omega) (by rw[p_]<;>omega) (by omega) (by rw[hj];simpa using ew) ⟨rfl,fin⟩) hs
theorem Qr:IxR X (rIxT X.K):=by
 intro value cE aa s U H x y v u Q I rx ry h hs;obtain⟨p,xs,i,z,rfl,rfl,hq,he,q⟩:=h;cases rx;obtain⟨t,rfl⟩:=ry;obtain⟨ag,r,pl,hz⟩:=I.tuple hq;obtain⟨j,h1,h2,h3,h4,h5⟩:=DI he;obtain⟨w,ew,j0⟩:=r.get h2;have hl:=r.length;have hn:=line63;have fin:EP X aa U Q w s:=⟨z,H,I,j0,q⟩
 exact Xb (x:=w) pl.typeIs slot_tuple_getitem.lookup
  (getItem_tuple (j:=j) (Q:=λr s'=>r=w/\EP X aa U Q r s') pl (by omega) (by omega) (by rw[p_,←hl];exact h1) (by simpa using ew) ⟨rfl,fin⟩) hs
theorem Oe(ag:List b_)(n j:Nat)(u:b_):Xc (·.setIfInBounds j u) { cls:=.type "list", data:=.seq ag.toArray n }={ cls:=.type "list", data:=.seq (ag.set j u).toArray n }:=by
 simp[Xc]
theorem Inv.lst{H:Hp}{s:c_}{p:g_}(I:Inv X aa U H s)(h:H p=some (.lst xs)):
  ∃(ag:List b_) (n:Nat),Vals xs ag/\s.heap.get? p=some { cls:=.type "list", data:=.seq ag.toArray n }/\xs.length<=z_:=by
 obtain⟨z,ag,n,r,e⟩:=I.hok p _ h;exact⟨ag,n,r,e,z⟩
theorem Inv.lstUpd{H:Hp}{s:c_}{p:g_}{ys:List V}{n':Nat}{f:Obj->Obj}(I:Inv X aa U H s)(h:H p=some (.lst xs))(ho:s.heap.get? p=some { cls:=.type "list", data:=.seq ag.toArray n })(hf:f { cls:=.type "list", data:=.seq ag.toArray n }={ cls:=.type "list", data:=.seq its'.toArray n' })(r:Vals ys its')(hz:ys.length<=z_)(t:Nat):
  Inv X aa U (upd H p (.lst ys)) { s with heap:=s.heap.update p f,toks:=t }:=by
 have e:(s.heap.update p f).get? p=some { cls:=.type "list", data:=.seq its'.toArray n' }:=by
  rw[Uj f ho (by rw[hf]<;>rfl),hf]
 refine I.write (x:=p) (e:=p) (by rw[h];trivial) (.inl rfl) (λb u hb q=>(N_ _ _ (Tt hb)).trans q) ⟨_,e⟩ ?_;exact⟨hz,its',n',r,e⟩
def rSetL:V->V->V->Hp->(Hp->Prop)->Prop:=λo i v H Q=>∃p xs k j,o=.ref p/\i=.int k/\H p=some (.lst xs)/\ixN xs.length k=some j/\Q (upd H p (.lst (xs.set j v)))
theorem IH:PSet X rSetL:=by
 intro aa s U H o i v ov iv u Q I ro ri rv h;obtain⟨p,xs,k,j,rfl,rfl,hp,hj,q⟩:=h;cases ro;obtain⟨t,rfl⟩:=ri;obtain⟨ag,n,r,ho,hz⟩:=I.lst hp;obtain⟨h1,h2,h3,h4⟩:=Ey hj;have hl:=r.length;have hn:=line63
 have I':Inv X aa U (upd H p (.lst (xs.set j v))) { s with heap:=s.heap.update p (Xc (·.setIfInBounds j u)) }:=
  I.lstUpd hp ho (Oe ag n j u) (r.set rv j) (by rw[UL];exact hz) s.toks
 by_cases h0:0<=k
 ·have hk:k.toNat=j:=by
   rw[Y7 h0 h4] at h1;exact Tn h1
  exact PySem.W.ki_setAt ho h0 (by omega) (by rw[p_,←hl];exact h4) (by rw[hk];exact⟨_,I',q⟩)
 ·have hk:(k+(ag.toArray.size:Int)).toNat=j:=by
   rw[seqIndex_neg (by omega) h3] at h1;rw[p_,←hl];exact Tn h1
  exact PySem.W.ki_setBack ho (by omega) (by rw[p_,←hl];exact h3) (by omega) (by rw[hk];exact⟨_,I',q⟩)
theorem NV(lo hi:Option Int)(n:Nat):(Vj lo hi none n).1=((HT.sIx n 0 lo:Nat):Int)/\(Vj lo hi none n).2.1=((HT.sIx n n hi:Nat):Int)/\(Vj lo hi none n).2.2=1:=by
 refine⟨?_,?_,rfl⟩
 ·cases lo with
  | none=>simp[Vj,HT.sIx]
  | some i =>
   simp only[Vj,HT.sIx,getD_none,show(1:Int) > 0 by decide,if_true];by_cases h:i < 0
   ·simp only[h,if_true]<;>omega
   ·simp only[h,if_false]<;>omega
 ·cases hi with
  | none=>simp[Vj,HT.sIx]
  | some i =>
   simp only[Vj,HT.sIx,getD_none,show(1:Int) > 0 by decide,if_true];by_cases h:i < 0
   ·simp only[h,if_true]<;>omega
   ·simp only[h,if_false]<;>omega
theorem HP(ag:List b_)(lo hi:Option Int):slicePick ag.toArray lo hi none=((ag.drop (HT.sIx ag.length 0 lo)).take (HT.sIx ag.length ag.length hi - HT.sIx ag.length 0 lo)).toArray:=by
 obtain⟨h1,h2,h3⟩:=NV lo hi ag.toArray.size;unfold slicePick;rw[h1,h2,h3];simp only[sliceRange_one,pick_run,p_]<;>rfl
def rSlL(K:PySem.W.Frag):V->Option Int->Option Int->Hp->VK->Prop:=λx lo hi H Q=>∃a xs,x=.ref a/\SqL K H a xs/\∀p,H p=none->Q (.ref p) (upd H p (.lst (cutV xs lo hi)))
theorem OP:SlR X (rSlL X.K):=by
 intro aa s U H x v vl vu lo hi sl Q I rx hs pl pu h;obtain⟨a,xs,rfl,hx,q⟩:=h;cases rx;obtain⟨ag,r,ht,hz⟩:=I.list hx;have aZ:=r.length;refine⟨"list", _,WD.lookup,ht.isList.typeIs,?_⟩;refine WN ht.isList hs pl pu .none (by simp) ?_ (by rw[p_]<;>omega);rw[HP,←aZ];refine⟨.ref s.heap.objs.size,_,I.laid (t':=s.toks) (o:=.lst (cutV xs lo hi)) (λb ob q=>e_ _ q) (r_ _) ?_,rfl,q _ (I.hok.fresh (r_ _))⟩;exact⟨H_ (DY xs lo hi) hz,_,0,(r.drop (HT.sIx xs.length 0 lo)).take (HT.sIx xs.length xs.length hi - HT.sIx xs.length 0 lo),s_ _ rfl⟩
theorem Fs:CallR X (.builtin "len") (λxs H Q=>∃p ys,xs=[.ref p]/\(SqL X.K H p ys\/SqT X.K H p ys)/\Q (.int ys.length) H):=by
 intro aa s U H xs us Q I r h;obtain⟨p,ys,rfl,hq,q⟩:=h;obtain⟨u,rfl,rx⟩:=vals1 r;cases rx;have hn:=line63
 rcases hq with hq | hq
 ·obtain⟨ag,r',pl,hz⟩:=I.list hq;have aZ:=r'.length;exact Calls.call_len_list pl.isList (by simp only[p_]<;>omega) ⟨.int ys.length,H,I.tok _,⟨s.toks+1,by rw[p_,aZ]⟩,q⟩
 ·obtain⟨ag,r',pl,hz⟩:=I.tuple hq;have aZ:=r'.length;exact len_tuple pl (by simp only[p_]<;>omega) ⟨.int ys.length,H,I.tok _,⟨s.toks+1,by rw[p_,aZ]⟩,q⟩
theorem Ky:CallR X (.builtin "len") (λxs H Q=>∃z,xs=[.str z]/\z.length<=z_/\Q (.int z.length) H):=by
 intro aa s U H xs us Q I r h;obtain⟨z,rfl,hz,q⟩:=h;obtain⟨u,rfl,t,rfl⟩:=vals1 r;have hn:=line63;exact len_str (by omega) ⟨.int z.length,H,I.tok _,⟨_,rfl⟩,q⟩
theorem LF:CallR X (.type "list") (λxs H Q=>∃p ys,xs=[.ref p]/\(SqL X.K H p ys\/SqT X.K H p ys)/\∀l,H l=none->Q (.ref l) (upd H l (.lst ys))):=by
 intro aa s U H xs us Q I r h;obtain⟨p,ys,rfl,hq,q⟩:=h;obtain⟨u,rfl,rx⟩:=vals1 r;cases rx
 have fin:∀(ag:List b_),Vals ys ag->ys.length<=z_->∀(h':G_) (c':Nat),(∀b o',s.heap.get? b=some o'->h'.get? b=some o') →
   h'.get? s.heap.objs.size=some { cls:=.type "list", dict:=none,data:=.seq ag.toArray c',slots:=#[] }->EP X aa U Q (.ref s.heap.objs.size) { s with heap:=h' }:=λag r' hz h' c' kp e =>
  ⟨.ref s.heap.objs.size,_,I.laid (t':=s.toks) kp (r_ _) (show ObjOk X.prog X.w _ h' _ (.lst ys) from⟨hz,ag,c',r',e⟩),rfl,q _ (I.hok.fresh (r_ _))⟩
 rcases hq with hq | hq
 ·obtain⟨ag,r',pl,hz⟩:=I.list hq;have aZ:=r'.length;obtain⟨o,ho,hc,n,hd⟩:=pl.isList;exact call_list_seq p (.inl rfl) ho hc hd (λh' c' kp e=>fin ag r' hz h' c' kp e) (by simp only[p_]<;>omega)
 ·obtain⟨ag,r',pl,hz⟩:=I.tuple hq;have aZ:=r'.length;obtain⟨o,ho,hc,n,hd⟩:=pl;exact call_list_seq p (.inr rfl) ho hc hd (λh' c' kp e=>fin ag r' hz h' c' kp e) (by simp only[p_]<;>omega)
theorem HY:CallR X (.type "tuple") (λxs H Q=>∃p ys,xs=[.ref p]/\((SqL X.K H p ys/\∀l,H l=none->Q (.ref l) (upd H l (.tup ys)))\/(SqT X.K H p ys/\Q (.ref p) H))):=by
 intro aa s U H xs us Q I r h;obtain⟨p,ys,rfl,h⟩:=h;obtain⟨u,rfl,rx⟩:=vals1 r;cases rx
 rcases h with⟨hq,q⟩ | ⟨hq,q⟩
 ·obtain⟨ag,r',pl,hz⟩:=I.list hq;have aZ:=r'.length;refine call_tuple_list pl.isList (λh' kp=>?_) (by simp only[p_]<;>omega);have I1:Inv X aa U H { s with heap:=h' }:=I.kept (t':=s.toks) kp
  have I2:Inv X aa U (upd H h'.objs.size (.tup ys)) { s with heap:=h'.push { cls:=.type "tuple", data:=.seq ag.toArray } }:=
   I1.laid (t':=s.toks) (λb o e=>e_ _ e) (r_ _) (show ObjOk X.prog X.w _ _ _ (.tup ys) from⟨hz,ag,r',Y1.new _ _⟩)
  exact⟨.ref h'.objs.size,_,I2,rfl,q _ (I1.hok.fresh (r_ _))⟩
 ·obtain⟨ag,r',pl,hz⟩:=I.tuple hq;exact call_tuple_same pl ⟨.ref p,H,I,rfl,q⟩
def tyV(K:PySem.W.Frag)(T:String)(x:V)(H:Hp):Prop:=match x with
 | .str _=>T = "str"
 | .int _=>T = "int"
 | .ref p=>(T = "list"/\∃xs,SqL K H p xs)\/(T = "tuple"/\∃o,K.lookup p=some o/\o.cls=.type "tuple"/\o.dict=none) ∨
   (T = "dict"/\((∃bf,H p=some (.dK bf))\/∃bf,H p=some (.dT bf)))\/(T = "set"/\∃S n,H p=some (.set S n))
 | _=>False
theorem OU{H:Hp}{s:c_}{x:V}{v:b_}(I:Inv X aa U H s)(r:RelV x v)(ty:tyV X.K T x H):
  s.TypeIs v T/\∀a,v=.ref a->∃ob,s.heap.get? a=some ob/\ob.dict=none:=by
 cases x with
 | str z =>
  obtain⟨t,rfl⟩:=r
  cases(show T = "str" from ty)
  exact⟨Wk s z t,λ_ e=>nomatch e⟩
 | int i =>
  obtain⟨t,rfl⟩:=r
  cases(show T = "int" from ty)
  exact⟨typeIs_int s i t,λ_ e=>nomatch e⟩
 | ref p =>
  cases r
  rcases ty with⟨rfl,xs,hq⟩ | ⟨rfl,o,hk,hc,hd⟩ | ⟨rfl,hk⟩ | ⟨rfl,S,n,hk⟩
  ·obtain⟨ag,_,pl,_⟩:=I.list hq;refine⟨pl.isList.typeIs,λa e=>?_⟩;cases e;obtain⟨o,n,e,c,hd,_⟩:=pl;exact⟨o,e,hd⟩
  ·refine⟨⟨o,I.kIn p o hk,hc⟩,λa e=>?_⟩;cases e;exact⟨o,I.kIn _ o hk,hd⟩
  ·have z:∃o,s.heap.get? p=some o/\o.ExactDict:=by
    rcases hk with⟨bf,hk⟩ | ⟨bf,hk⟩
    ·obtain⟨_,_,_,_,o,_,_,e,ex,_⟩:=I.hok p _ hk;exact⟨o,e,ex⟩
    ·obtain⟨_,_,_,_,o,_,_,e,ex,_⟩:=I.hok p _ hk;exact⟨o,e,ex⟩
   obtain⟨o,e,ex⟩:=z;refine⟨⟨o,e,ex.1⟩,λa e2=>?_⟩;cases e2;exact⟨o,e,ex.2.1⟩
  ·obtain⟨o,_,_,_,e,ex,_⟩:=I.hok p _ hk;refine⟨⟨o,e,ex.1⟩,λa e2=>?_⟩;cases e2;exact⟨o,e,ex.2.1⟩
 | _=>exact Zw ty
noncomputable def tBM(K:PySem.W.Frag)(T:String)(r:V->List V->Hp->VK->Prop)(to:TE)(t:TA):TE:=λU H Q=>to U H λx H1=>tyV K T x H1/\t U H1 λxs H2=>r x xs H2 Q
variable{o e:D_}{es:List D_}{to:TE}{t:TA}{name:Str}{id:String}{r:V->List V->Hp->VK->Prop}
theorem wt(pa:PlainAttrs T)(slot:Slot T name id)(oU:YX (.builtin id)=pure (.type "method_descriptor"))(hm:MtR X id r)(ho:PE X o to)(ha:PA X (e::es) t)(bt:UQ o name X.env (eval o X.env)=eval o X.env:=by rfl)(bS:((J_ aC (d_ (e::es) X.env)).all (λx=>!x.1)&&(WW aC (Vk [] X.env)).all (λx=>x.1.isSome)
   &&decide ((e::es).length+([]:List U4).length+(if([]:List U4).isEmpty then 0 else 1) < 30))=true:=by rfl)(bu:(aT.endLine == aC.line)=true:=by rfl)(hs:d_ (e::es) X.env=(false,eval e X.env)::d_ es X.env:=by rfl)(aX:(J_ aC (d_ es X.env)).any (·.1)=false:=by rfl):
  PE X (.Call (.Attribute o name aT) (e::es) [] aC) (tBM X.K T r to t):=by
 intro aa s U H Q I h;refine wpAny_Call_method_late bt bS bu rfl (thn (ho aa s U H _ I h) λv s1 ⟨x,H1,I1,r1,ty,q1⟩=>?_);obtain⟨h1,h2⟩:=OU I1 r1 ty;refine⟨T,id,pa,slot,oU,h1,h2,?_⟩;have hA:=ha aC aa s1 U H1 _ I1 q1;rw[hs] at hA ⊢;refine Calls.callWith_builtin (by show(false||(J_ aC (d_ es X.env)).any (·.1))=false;rw[aX]<;>rfl) (XH ?_);exact thn hA λus s2 ⟨vs,H2,I2,r2,q2⟩=>hm aa s2 U H2 x vs v us Q I2 r1 r2 q2
end
def MtM(X:Cx)(id:String)(r:V->List V->Hp->VK->Prop):Prop:=
 ∀(aa:List (g_×Obj)) (s:c_) (U:St) (H:Hp) (x:V) (xs:List V) (v:b_) (us:List b_) (Q:VK),Inv X aa U H s->RelV x v->Vals xs us->r x xs H Q →
  o_ (q_ X.prog X.w) X.A (call (.builtin id) (v::us)) (EP X aa U Q) X.xe s
theorem Vals.one:∀{x:V}{us:List b_},Vals [x] us->∃u,us=[u]/\RelV x u
 | _,_,.cons r .nil=>⟨_,rfl,r⟩
theorem Vals.two{x y:V}{us:List b_}(h:Vals [x,y] us):∃u v,us=[u,v]/\RelV x u/\RelV y v:=by
 cases h with
 | cons r h=>cases h with
  | cons q h=>cases h;exact⟨_,_,rfl,r,q⟩
section
variable{H:Hp}{s:c_}{b:g_}{ys:List V}
theorem Inv.lset{f:Array b_->Array b_}(I:Inv X aa U H s)(hH:H l=some (.lst xs))(e:s.heap.get? l=some { cls:=.type "list", data:=.seq ag.toArray n })(hf:f ag.toArray=its'.toArray)(hv:Vals ys its')(hz:ys.length<=z_):
  Inv X aa U (upd H l (.lst ys)) { s with heap:=s.heap.update l (Xc f),toks:=t' }:=by
 have q:=PySem.IsL.update e f;rw[hf] at q;refine I.write (x:=l) (e:=l) (by rw[hH];exact trivial) (.inl rfl) (λb' u hb hu=>(N_ s.heap (Xc f) (Tt hb)).trans hu) ⟨_,q⟩ ?_;exact⟨hz,its',_,hv,q⟩
theorem Inv.lnew(I:Inv X aa U H s)(hv:Vals ys ag)(hz:ys.length<=z_):
  Inv X aa U (upd H s.heap.objs.size (.lst ys)) { s with heap:=s.heap.push { cls:=.type "list", data:=.seq ag.toArray },toks:=t' }:=
 I.laid (λ_ _ q=>e_ _ q) (r_ _) ⟨hz,ag,0,hv,s_ _ rfl⟩
theorem Inv.fresh(I:Inv X aa U H s):H s.heap.objs.size=none:=I.hok.fresh (r_ _)
theorem Inv.lstM(I:Inv X aa U H s)(hH:H l=some (.lst xs)):xs.length<=z_/\∃(ag:List b_) (n:Nat),Vals xs ag/\xs.length=ag.length/\s.heap.get? l=some { cls:=.type "list", data:=.seq ag.toArray n }:=by
 obtain⟨z,ag,n,r,e⟩:=I.hok l _ hH;exact⟨z,ag,n,r,r.length,e⟩
end
section
def rAppend:V->List V->Hp->VK->Prop:=λx vs H Q=>∃l xs y,x=.ref l/\vs=[y]/\H l=some (.lst xs)/\xs.length < z_/\Q .non (upd H l (.lst (xs++[y])))
theorem FL:MtM X "list.append" rAppend:=by
 intro aa s U H x vs v us Q I rx rv h;obtain⟨l,xs,y,rfl,rfl,hH,hz,q⟩:=h;cases rx;obtain⟨u,rfl,ru⟩:=rv.one;obtain⟨z,ag,n,r,hl,e⟩:=I.lstM hH;refine Xd F.slot_list_append ⟨_,e,rfl⟩ F.entry_list_append (F.args_list_append_2 _ _) (PySem.list_append l ag.toArray n u (by rw[p_];omega)) ⟨e,?_⟩;refine⟨.non,_,I.lset (its':=ag++[u]) hH e (by simp) (r.append (.cons ru .nil)) ?_,rfl,q⟩;rw[R_,US];omega
end
end L2
namespace Att
open PySem PySem.W PySem.Calls PyProof.Rows
theorem Mj{P:Params}{h:G_}:∀(ns:List Int) (vs:List b_),WellAll P h vs (ns.map WData.int)->YC vs ns:=by
 intro ns
 induction ns with
 | nil =>
  intro vs w;rw[List.map_nil] at w;cases w;exact .nil
 | cons n ns ih =>
  intro vs w;rw[O_] at w;cases w with
  | cons a b =>
   cases a;exact .cons _ _ (ih _ b)
theorem Jr{l:Zz}(hn:l.most=some n){P:Params}{h:G_}(fL:l.row.toRowW.claim.pre args=true)(j8:WellAll P h gN args):
  ∃a vs ns,gN=[b_.ref a]/\args=[WData.list (ns.map WData.int)]/\h.get? a=some { cls:=.type "list", data:=.seq vs.toArray }/\YC vs ns/\ns.length<=n:=by
 have oV:ZA.hasAll [] args [.list .int]=true:=(pre_splitW fL).1;have hc:l.pre.holds [] { args:=args }=true:=(pre_splitW fL).2;obtain⟨d,r,rfl,h1,h2⟩:=hasAllW_cons oV;obtain rfl:=hasAllW_nil h2;obtain⟨xs,rfl,h3⟩:=hasW_list h1;obtain⟨ns,rfl⟩:=items_int h3
 have aZ:ns.length<=n:=by
  unfold Zz.pre at hc
  have h4:(WTm.not (.lt (.lit (.int (n:Int))) (.len (.arg 0)))).holds [] { args:=[.list (ns.map .int)] }=true:=by
   have h4:=(holds_andW hc).1;rw[hn] at h4;exact h4
  have h5:=condW_of h4 (w_not (w_lt w_lit (w_len_list (w_arg rfl))));rw[y_] at h5;refine WX λq=>?_
  have q':(n:Int) < ((ns.length:Nat):Int):=by omega
  first
   | (rw[decide_eq_true q'] at h5;exact absurd h5 (by decide))
   | (simp at h5;omega)
 cases j8 with
 | cons w1 w2 =>
  cases w2;cases w1 with
  | list ho hall=>exact⟨_,_,ns,rfl,rfl,ho,Mj ns _ hall,aZ⟩
theorem ON(l:Zz)(args:List WData):l.row.toRowW.claim.post args (.bool true) args=true:=
 postW_of (r:=l.row.toRowW) (X:=(true == true))
  (show ZA.has [] (.bool true) .bool=true by first | rfl | decide | simp[ZA.has,ZA.arms,ZA.armsAll])
  (show(WTm.eq .res (.lit (.bool true))).value [] { args:=args,res:=some (.bool true),after:=args }=some (.bool (true == true)) from w_eq_bool (w_res rfl) w_lit) rfl
theorem Jd{l:Zz}{q:v_}{XP:(Str->Option b_)->G_->Prop}{YP:F_->G_->Prop}{d:DefRec}(hn:l.most=some n)(gO:d.params.defaults=[])(call:∀(w:F_) (s₀ aD:c_) (mg mb:Str->Option b_) (fa:g_) (o:Obj) (pm cd bZ:b_) (a:g_) (vs:List b_) (ns:List Int),
   Ground q cU [] XP w s₀ mg mb aD.heap->YP w aD.heap →
   aD.heap.get? fa=some o->o.data=.func (docDef d.name d.params d.body d.scope pm cd bZ)->aD.heap.CodeRec cd d.name->mg d.name=some (.ref fa) →
   aD.heap.get? a=some { cls:=.type "list", data:=.seq vs.toArray }->YC vs ns->ns.length<=n->aD.gens=#[] →
   VL (q_ l.prog w) X8 (.call (.ref fa) ⟨[.ref a],[]⟩) (λr s'=>r=.ok (.ret (.bool true))/\OldK aD.heap s'.heap/\s'.os=aD.os/\Vm s'.gens) aD):
  WalkO q cU XP YP l.row.toRowW d [] (λf vs=>PySem.call f vs):=by
 intro w s₀ aD mg mb G tz fa o pm cd bZ dV kV ho hd cz hD gP hg args gN as fL rV l9 j8 ma;obtain rfl:dV=.none:=Dflts.none hD gO;obtain rfl:kV=.none:=Dflts.noKw hD;obtain⟨a,vs,ns,rfl,rfl,gQ,fj,aZ⟩:=Jr hn fL j8;refine enter_call (Uk (call w s₀ aD mg mb fa o pm cd bZ a vs ns G tz ho (fd_plain hd) cz gP gQ fj aZ hg) λr s' hq=>?_);obtain⟨rfl,h2,h3,h4⟩:=hq;exact⟨.inl ⟨.bool true,.bool true,[],rfl,λ_=>rfl,.bool true,ON l _,λ_=>⟨WO.nil,λ_ hm=>(nomatch hm)⟩⟩,h2,h3,h4⟩
end Att
namespace L2
open PySem PySem.Spec PyProof.Rows
theorem FX:∀{vs:List b_}{ns:List Int},YC vs ns->Vals (ns.map V.int) vs
 | _,_,.nil=>.nil
 | _,_,.cons n t h=>.cons ⟨t,rfl⟩ (FX h)
def Only(H:Hp):Prop:=∀b,H b=none\/∃o xs,H b=some (.frz o (.lst xs))
noncomputable def defArgs(s:Tr):Arguments:=match s with
 | .FunctionDef _ a _ _ _ _ _ _ _ _=>a
 | _=>{ posonlyargs:=[],args:=[],vararg:=none,kwonlyargs:=[],kw_defaults:=[],kwarg:=none,defaults:=[] }
noncomputable def defBody(s:Tr):List Tr:=match s with
 | .FunctionDef _ _ b _ _ _ _ _ _ _=>b
 | _=>[]
noncomputable def defScope(s:Tr):Wc:=match s with
 | .FunctionDef _ _ _ _ _ _ sc _ _ _=>sc
 | _=>{ kind:=.function,names:=[],isGenerator:=false,isCoroutine:=false }
noncomputable abbrev CX0:CXT:=λ_ _ _ _ _ _=>False
noncomputable abbrev E0:XK:=λ_ _ _=>False
theorem pass0:Passes CX0 X E0:=λ_ _ _ _ _ _ _ h=>h.elim
structure Fun(K:PySem.W.Frag)(x qual:Str)(st:Tr)(f:g_)(fd:U8):Prop where
 ex:∃(oc:b_) (od:Option g_) (kV bZ pm:b_) (an:Option g_) (aA ct:b_) (dQ:Array (Option b_)),
  fd=WM x qual (defArgs st) (defBody st) (defScope st) .none kV bZ pm an aA ct/\K.lookup f=some ⟨oc,od,.func fd,dQ⟩/\codeIn K aA qual=true
 kp:PySem.W.keepIn K (.ref f)=true
section
variable{P:v_}{w:F_}{K:PySem.W.Frag}
theorem Fun.ok{x:Str}{st:Tr}{f:g_}(F:Fun K x qual st f fd)(S:FnScope N ps (defScope st))(len:∀vs H Q E,sp vs H Q E->vs.length=ps.length)(fh:∀(aA:b_) (A:Uh) (outer:List Env) (s:c_) (H:Hp) (vs:List V) (Q:VK) (E:XK),Room k (A.deeper (VZ qual (defScope st) s.heap.objs.size f aA))->sp vs H Q E →
   ∃t,PSs (cxOf CX0 P w K mg base N qual (defScope st) f aA A outer s H E).nox (defBody st) t/\t { nx:=λ_ H'=>Q .non H',rt:=Q } (start N vs) H):FnOk P w K mg base CX0 (k+1) f fd ps sp:=by
 obtain⟨oc,od,kV,bZ,pm,an,aA,ct,dQ,rfl,lk,cz⟩:=F.ex;refine GH lk cz S len λA outer s H vs Q E hr eH=>?_
 obtain⟨t,h,q⟩:=fh aA A outer s H vs Q E hr eH;exact⟨t,h.nox,q⟩
theorem Fun.binds{x:Str}{st:Tr}{f:g_}(F:Fun K x qual st f fd)(h:∀(kV bZ pm:b_) (an:Option g_) (aA ct:b_) (us:List b_),us.length=ps.length->Uu (WM x qual (defArgs st) (defBody st) (defScope st) .none kV bZ pm an aA ct) ⟨us,[]⟩=pure (ps.zip us)):Binds K fd ps []:=by
 obtain⟨oc,od,kV,bZ,pm,an,aA,ct,dQ,rfl,lk,cz⟩:=F.ex;exact .all (h kV bZ pm an aA ct)
theorem MR{x:Str}{st:Tr}{f:g_}{kV bZ aA:b_}(l:K.lookup f=some ⟨oc,od,.func (WM x qual (defArgs st) (defBody st) (defScope st) .none kV bZ pm an aA ct),dQ⟩)(c:codeIn K aA qual=true)(k:PySem.W.keepIn K (.ref f)=true):Fun K x qual st f (WM x qual (defArgs st) (defBody st) (defScope st) .none kV bZ pm an aA ct):=⟨⟨oc,od,kV,bZ,pm,an,aA,ct,dQ,rfl,l,c⟩,k⟩
end
section
theorem pv(i:Nat){x:Str}(hN:X.N[i]?=some x:=by rfl)(hv:visB X.env.scope x=true:=by rfl)(hd:(x == ("__debug__":Str))=false:=by decide)(cz:(x == ("__classdict__":Str))=false:=by decide):PE X (.Name x pos) (tVar i):=Pa hN (visI hv) hd cz
end
theorem iteF{A B:Prop}(h:B):if false=true then A else B:=by
 rw[if_neg h_];exact h
theorem iteT{A B:Prop}(h:A):if true=true then A else B:=by
 rw[if_pos rfl];exact h
def Same(H H':Hp):Prop:=∀b o,H b=some o->H' b=some o
theorem Same.refl(H:Hp):Same H H:=λ_ _ h=>h
theorem Same.trans{H H1:Hp}(a:Same H H1)(b:Same H1 H2):Same H H2:=λc o h=>b c o (a c o h)
theorem Same.free{H:Hp}(e:Same H H')(h:H' l=Option.none):H l=Option.none:=by
 cases q:H l with
 | none=>rfl
 | some o =>
  rw[e l o q] at h;cases h
end L2
set_option maxHeartbeats 4000000
namespace DL
open PySem PySem.Spec PyProof.Rows L2
inductive D where
 | non | bl (b:Bool) | int (i:Int) | str (x:Str) | tup (xs:List D) | lst (xs:List D) | exc (x:Str) (n:Option Int)
noncomputable def clOf(K:PySem.W.Frag)(x:Str):g_:=match PySem.W.nsIn K TU x with
 | some (some (.ref C))=>C
 | _=>0
noncomputable def ExO(K:PySem.W.Frag)(a:g_)(x:Str)(d:Option g_):HO:=.ext λh=>∃o vs,h.get? a=some o/\o.cls=.ref (clOf K x)/\o.data=.fields vs/\∀dx,d=some dx->o.dict=some dx
def ExN(I:Hp)(d:Option g_)(n:Option Int):Prop:=∀k,n=some k->∃dx,d=some dx/\I dx=some (.xd [("number", .int k)])
def RdK(K:PySem.W.Frag)(I:Hp)(a:g_)(xs:List V):Prop:=Rd I a (.lst xs)\/∃(ag:List b_) (n:Nat),K.lookup a=some { cls:=.type "list", data:=.seq ag.toArray n }/\Vals xs ag/\ag.length<=z_
theorem RdK.of{K:PySem.W.Frag}{a:g_}(h:I a=some (.lst xs)):RdK K I a xs:=.inl (.inl h)
theorem RdK.sq{K:PySem.W.Frag}{a:g_}(h:RdK K I a xs):SqL K I a xs:=by
 rcases h with h | ⟨ag,n,h1,h2,h3⟩
 ·exact .inl h
 ·exact .inr ⟨_,ag.toArray,n,h1,rfl,rfl,rfl,by simpa using h3,by simpa using h2⟩
mutual
def Is(K:PySem.W.Frag)(I:Hp):D->V->Prop
 | .non,v=>v=.non
 | .bl b,v=>v=.bl b
 | .int i,v=>v=.int i
 | .str x,v=>v=.str x
 | .tup ds,v=>∃a xs,v=.ref a/\SqT K I a xs/\IsA K I ds xs
 | .lst ds,v=>∃a xs,v=.ref a/\RdK K I a xs/\IsA K I ds xs
 | .exc x n,v=>∃a d,v=.ref a/\I a=some (ExO K a x d)/\ExN I d n
def IsA(K:PySem.W.Frag)(I:Hp):List D->List V->Prop
 | [],xs=>xs=[]
 | d::ds,xs=>∃x r,xs=x::r/\Is K I d x/\IsA K I ds r
end
section
variable{K:PySem.W.Frag}{H:Hp}
theorem Same.rd{a:g_}(e:Same I I')(h:Rd I a o):Rd I' a o:=by
 rcases h with h | ⟨u,h⟩
 ·exact .inl (e _ _ h)
 ·exact .inr ⟨u,e _ _ h⟩
theorem Same.rdK{a:g_}(e:Same I I')(h:RdK K I a xs):RdK K I' a xs:=by
 rcases h with h | h
 ·exact .inl (Same.rd e h)
 ·exact .inr h
theorem Same.sqT{a:g_}(e:Same I I')(h:SqT K I a xs):SqT K I' a xs:=by
 rcases h with h | h
 ·exact .inl (Same.rd e h)
 ·exact .inr h
mutual
theorem Is.mono(e:Same I I'):∀{d:D}{v:V},Is K I d v->Is K I' d v
 | .non,_,h=>by rw[Is] at h ⊢;exact h
 | .bl _,_,h=>by rw[Is] at h ⊢;exact h
 | .int _,_,h=>by rw[Is] at h ⊢;exact h
 | .str _,_,h=>by rw[Is] at h ⊢;exact h
 | .tup ds,v,h=>by
  rw[Is] at h ⊢;obtain⟨a,xs,e1,e2,e3⟩:=h;exact⟨a,xs,e1,Same.sqT e e2,IsA.mono e e3⟩
 | .lst ds,v,h=>by
  rw[Is] at h ⊢;obtain⟨a,xs,e1,e2,e3⟩:=h;exact⟨a,xs,e1,Same.rdK e e2,IsA.mono e e3⟩
 | .exc x n,v,h=>by
  rw[Is] at h ⊢;obtain⟨a,d,e1,e2,e3⟩:=h;exact⟨a,d,e1,e _ _ e2,λk z=>let ⟨dx,q1,q2⟩:=e3 k z;⟨dx,q1,e _ _ q2⟩⟩
theorem IsA.mono(e:Same I I'):∀{ds:List D}{xs:List V},IsA K I ds xs->IsA K I' ds xs
 | [],_,h=>by rw[IsA] at h ⊢;exact h
 | d::ds,xs,h=>by
  rw[IsA] at h ⊢;obtain⟨x,r,e1,e2,e3⟩:=h;exact⟨x,r,e1,Is.mono e e2,IsA.mono e e3⟩
end
theorem IsA.nil:IsA K I [] []:=by rw[IsA]
theorem IsA.cons{d:D}{ds:List D}{x:V}(h:Is K I d x)(t:IsA K I ds xs):IsA K I (d::ds) (x::xs):=by
 rw[IsA];exact⟨x,xs,rfl,h,t⟩
theorem IsA.nil_inv(h:IsA K I [] xs):xs=[]:=by rw[IsA] at h;exact h
theorem IsA.cons_inv{d:D}{ds:List D}(h:IsA K I (d::ds) xs):∃x r,xs=x::r/\Is K I d x/\IsA K I ds r:=by rw[IsA] at h;exact h
theorem IsA.length:∀{ds:List D}{xs:List V},IsA K I ds xs->ds.length=xs.length
 | [],xs,h=>by rw[h.nil_inv]<;>rfl
 | d::ds,xs,h=>by
  obtain⟨x,r,rfl,_,t⟩:=h.cons_inv;simp[IsA.length t]
theorem IsA.get:∀{ds:List D}{xs:List V}{i:Nat}{d:D},IsA K I ds xs->ds[i]?=some d->∃x,xs[i]?=some x/\Is K I d x
 | [],xs,i,d,h,e=>by simp at e
 | c::ds,xs,0,d,h,e=>by
  obtain⟨x,r,rfl,hx,t⟩:=h.cons_inv;simp at e;subst e;exact⟨x,rfl,hx⟩
 | c::ds,xs,i+1,d,h,e=>by
  obtain⟨x,r,rfl,hx,t⟩:=h.cons_inv;obtain⟨y,e1,e2⟩:=IsA.get (i:=i) t (by simpa using e);exact⟨y,by simpa using e1,e2⟩
theorem IsA.append:∀{ds es:List D}{xs ys:List V},IsA K I ds xs->IsA K I es ys->IsA K I (ds++es) (xs++ys)
 | [],es,xs,ys,h,t=>by rw[h.nil_inv];exact t
 | d::ds,es,xs,ys,h,t=>by
  obtain⟨x,r,rfl,hx,h'⟩:=h.cons_inv;exact IsA.cons hx (IsA.append h' t)
theorem IsA.take:∀{ds:List D}{xs:List V} (n:Nat),IsA K I ds xs->IsA K I (ds.take n) (xs.take n)
 | ds,xs,0,h=>by rw[take_zero,take_zero];exact IsA.nil
 | [],xs,n+1,h=>by rw[h.nil_inv];exact IsA.nil
 | d::ds,xs,n+1,h=>by
  obtain⟨x,r,rfl,hx,h'⟩:=h.cons_inv;rw[X',X'];exact IsA.cons hx (IsA.take n h')
theorem IsA.drop:∀{ds:List D}{xs:List V} (n:Nat),IsA K I ds xs->IsA K I (ds.drop n) (xs.drop n)
 | ds,xs,0,h=>by rw[List.drop_zero,List.drop_zero];exact h
 | [],xs,n+1,h=>by rw[h.nil_inv];exact IsA.nil
 | d::ds,xs,n+1,h=>by
  obtain⟨x,r,rfl,hx,h'⟩:=h.cons_inv;rw[Wn,Wn];exact IsA.drop n h'
theorem IsA.set{d:D}{x:V}(q:Is K I d x):∀{ds:List D}{xs:List V} (n:Nat),IsA K I ds xs->IsA K I (ds.set n d) (xs.set n x)
 | [],xs,n,h=>by rw[h.nil_inv];exact IsA.nil
 | c::ds,xs,0,h=>by
  obtain⟨y,r,rfl,hx,h'⟩:=h.cons_inv;exact IsA.cons q h'
 | c::ds,xs,n+1,h=>by
  obtain⟨y,r,rfl,hx,h'⟩:=h.cons_inv;exact IsA.cons hx (IsA.set q n h')
theorem IsA.reverse:∀{ds:List D}{xs:List V},IsA K I ds xs->IsA K I ds.reverse xs.reverse
 | [],xs,h=>by rw[h.nil_inv];exact IsA.nil
 | d::ds,xs,h=>by
  obtain⟨x,r,rfl,hx,h'⟩:=h.cons_inv;rw[V7,V7];exact IsA.append (IsA.reverse h') (IsA.cons hx IsA.nil)
theorem IsA.one{d:D}(h:IsA K I [d] xs):∃x,xs=[x]/\Is K I d x:=by
 obtain⟨x,r,rfl,hx,t⟩:=h.cons_inv;rw[t.nil_inv];exact⟨x,rfl,hx⟩
theorem IsA.two{d e:D}(h:IsA K I [d,e] xs):∃x y,xs=[x,y]/\Is K I d x/\Is K I e y:=by
 obtain⟨x,r,rfl,hx,t⟩:=h.cons_inv;obtain⟨y,rfl,hy⟩:=t.one;exact⟨x,y,rfl,hx,hy⟩
theorem tJ{i:Int}{v:V}(h:Is K I (.int i) v):v=.int i:=by rw[Is] at h;exact h
theorem uv{i:Bool}{v:V}(h:Is K I (.bl i) v):v=.bl i:=by rw[Is] at h;exact h
theorem ug{i:Str}{v:V}(h:Is K I (.str i) v):v=.str i:=by rw[Is] at h;exact h
theorem uY{v:V}(h:Is K I .non v):v=.non:=by rw[Is] at h;exact h
theorem tR{ds:List D}{v:V}(h:Is K I (.tup ds) v):∃a xs,v=.ref a/\SqT K I a xs/\IsA K I ds xs:=by rw[Is] at h;exact h
theorem tW{ds:List D}{v:V}(h:Is K I (.lst ds) v):∃a xs,v=.ref a/\RdK K I a xs/\IsA K I ds xs:=by rw[Is] at h;exact h
theorem AQ{x:Str}{n:Option Int}{v:V}(h:Is K I (.exc x n) v):∃a d,v=.ref a/\I a=some (ExO K a x d)/\ExN I d n:=by rw[Is] at h;exact h
theorem Is.exc{x:Str}{n:Option Int}{a:g_}{d:Option g_}(h:I a=some (ExO K a x d))(q:ExN I d n):Is K I (.exc x n) (.ref a):=by rw[Is];exact⟨a,d,rfl,h,q⟩
theorem Is.int(i:Int):Is K I (.int i) (.int i):=by rw[Is]
theorem Is.bl(i:Bool):Is K I (.bl i) (.bl i):=by rw[Is]
theorem Is.str(i:Str):Is K I (.str i) (.str i):=by rw[Is]
theorem Is.non:Is K I .non .non:=by rw[Is]
theorem Is.tup{ds:List D}{a:g_}(h:SqT K I a xs)(t:IsA K I ds xs):Is K I (.tup ds) (.ref a):=by rw[Is];exact⟨a,xs,rfl,h,t⟩
theorem Is.lst{ds:List D}{a:g_}(h:RdK K I a xs)(t:IsA K I ds xs):Is K I (.lst ds) (.ref a):=by rw[Is];exact⟨a,xs,rfl,h,t⟩
end
inductive R where
 | val (d:D) | own (ds:List D) | bor (ds:List D) | fro (ds:List D) | dic (bf:List (Int×D))
noncomputable def R.mut:R->Bool
 | .val _=>false
 | .own _=>true
 | .bor _=>true
 | .fro _=>false
 | .dic _=>false
noncomputable def R.ptr:R->Bool
 | .val _=>false
 | .own _=>true
 | .bor _=>true
 | .fro _=>false
 | .dic _=>true
abbrev Gm:=List (Option R)
def Mt(K:PySem.W.Frag)(G I H:Hp)(ds:List D)(v:V):Prop:=∃p xs,v=.ref p/\H p=some (.lst xs)/\I p=none/\G p=none/\IsA K I ds xs
def IsK(K:PySem.W.Frag)(I:Hp)(bf:List (Int×D))(xs:List (Key×V)):Prop:=xs.map (·.1)=bf.map (λq=>inl q.1)/\IsA K I (bf.map (·.2)) (xs.map (·.2))
theorem IsK.mono{K:PySem.W.Frag}{bf:List (Int×D)}{xs:List (Key×V)}(e:Same I I')(h:IsK K I bf xs):IsK K I' bf xs:=⟨h.1,h.2.mono e⟩
def MtK(K:PySem.W.Frag)(G I H:Hp)(bf:List (Int×D))(v:V):Prop:=∃p xs,v=.ref p/\H p=some (.dK xs)/\I p=none/\G p=none/\IsK K I bf xs
def SlotOk(K:PySem.W.Frag)(G I H:Hp):R->V->Prop
 | .val d,v=>Is K I d v
 | .own ds,v=>Mt K G I H ds v
 | .bor ds,v=>Mt K G I H ds v
 | .fro ds,v=>∃p xs,v=.ref p/\I p=some (.lst xs)/\G p=none/\IsA K I ds xs
 | .dic bf,v=>MtK K G I H bf v
theorem SlotOk.mt{K:PySem.W.Frag}{H:Hp}{r:R}{v:V}(h:SlotOk K G I H r v)(m:r.ptr=true):∃p xs,v=.ref p/\H p=some xs/\I p=none/\G p=none:=by
 cases r with
 | val d=>cases m
 | own ds=>obtain⟨p,xs,e1,e2,e3,e4,_⟩:=h;exact⟨p,_,e1,e2,e3,e4⟩
 | bor ds=>obtain⟨p,xs,e1,e2,e3,e4,_⟩:=h;exact⟨p,_,e1,e2,e3,e4⟩
 | fro ds=>cases m
 | dic ds=>obtain⟨p,xs,e1,e2,e3,e4,_⟩:=h;exact⟨p,_,e1,e2,e3,e4⟩
structure Rep(K:PySem.W.Frag)(B:Nat->Option (Option V))(G I H:Hp)(U:L2.St)(Γ:Gm):Prop where
 iH:Same I H
 gH:Same G H
 len:U.length=Γ.length
 slot:∀(i:Nat) (r:R),Γ[i]?=some (some r)->∃v,U[i]?=some (some v)/\SlotOk K G I H r v
 dist:∀(i j:Nat) (r r':R) (v:V),Γ[i]?=some (some r)->Γ[j]?=some (some r')->r.ptr=true->r'.ptr=true->U[i]?=some (some v)->U[j]?=some (some v)->i=j
 bor:∀(i:Nat) (ds:List D),Γ[i]?=some (some (.bor ds))->U[i]?=B i
structure Grow(G I I':Hp):Prop where
 up:Same I I'
 new:∀b o,I' b=some o->I b=some o\/G b=none
theorem Grow.refl(G I:Hp):Grow G I I:=⟨Same.refl _,λ_ _ h=>.inl h⟩
theorem Grow.trans{I1 I2:Hp}(a:Grow G I I1)(b:Grow G I1 I2):Grow G I I2:=⟨a.up.trans b.up,λc o h=>by
 rcases b.new c o h with h1 | h1
 ·exact a.new c o h1
 ·exact .inr h1⟩
section
variable{K:PySem.W.Frag}{B:Nat->Option (Option V)}{H:Hp}{Γ:Gm}
theorem Rep.ext(r:Rep K B G I H U Γ)(hI:Same I I')(hH:Same H H')(iH:Same I' H')(new:∀b o,I' b=some o->I b=some o\/H b=none):Rep K B G I' H' U Γ where
 iH:=iH
 gH:=r.gH.trans hH
 len:=r.len
 slot:=λi q e=>by
  obtain⟨v,e1,e2⟩:=r.slot i q e;refine⟨v,e1,?_⟩
  have mt:∀ds,Mt K G I H ds v->Mt K G I' H' ds v:=λds h=>by
   obtain⟨p,xs,h1,h2,h3,h4,h5⟩:=h;refine⟨p,xs,h1,hH _ _ h2,?_,h4,h5.mono hI⟩;cases z:I' p with
   | none=>rfl
   | some o =>
    rcases new p o z with z1 | z1
    ·rw[h3] at z1;cases z1
    ·rw[h2] at z1;cases z1
  cases q with
  | val d=>exact Is.mono hI e2
  | dic ds =>
   obtain⟨p,xs,h1,h2,h3,h4,h5⟩:=e2;refine⟨p,xs,h1,hH _ _ h2,?_,h4,h5.mono hI⟩;cases z:I' p with
   | none=>rfl
   | some o =>
    rcases new p o z with z1 | z1
    ·rw[h3] at z1;cases z1
    ·rw[h2] at z1;cases z1
  | own ds=>exact mt ds e2
  | bor ds=>exact mt ds e2
  | fro ds=>obtain⟨p,xs,f1,f2,f3,f4⟩:=e2;exact⟨p,xs,f1,hI _ _ f2,f3,f4.mono hI⟩
 dist:=r.dist
 bor:=r.bor
theorem uu{H:Hp}{p:g_}(h:H p=none)(o:HO):Same H (upd H p o):=λb u q=>by rw[tG (u9 q h)];exact q
theorem FM{I H:Hp}{p:g_}(h:Same I H)(o:HO):Same (upd I p o) (upd H p o):=λb u q=>by
 by_cases e:b=p
 ·subst e;rw[t6] at q ⊢;exact q
 ·rw[tG e] at q ⊢;exact h b u q
theorem Rep.iFree(r:Rep K B G I H U Γ){p:g_}(h:H p=none):I p=none:=r.iH.free h
theorem Rep.gFree(r:Rep K B G I H U Γ){p:g_}(h:H p=none):G p=none:=r.gH.free h
theorem Rep.alloc(r:Rep K B G I H U Γ){p:g_}(h:H p=none)(o:HO):Rep K B G (upd I p o) (upd H p o) U Γ:=
 r.ext (uu (r.iFree h) o) (uu h o) (FM r.iH o) λb u q=>by
  by_cases e:b=p
  ·subst e;exact .inr h
  ·rw[tG e] at q;exact .inl q
theorem Rep.growAlloc(r:Rep K B G I H U Γ){p:g_}(h:H p=none)(o:HO):Grow G I (upd I p o):=⟨uu (r.iFree h) o,λb u q=>by
 by_cases e:b=p
 ·subst e;exact .inr (r.gFree h)
 ·rw[tG e] at q;exact .inl q⟩
theorem Rep.fresh(r:Rep K B G I H U Γ){p:g_}(h:H p=none)(o:HO):Rep K B G I (upd H p o) U Γ:=
 r.ext (Same.refl _) (uu h o) (r.iH.trans (uu h o)) λb u q=>.inl q
def Apart(U:L2.St)(Γ:Gm)(p:g_):Prop:=∀(j:Nat) (r:R),Γ[j]?=some (some r)->r.ptr=true->U[j]?≠some (some (.ref p))
theorem Rep.apart(r:Rep K B G I H U Γ){p:g_}(h:H p=none):Apart U Γ p:=λj q e m z=>by
 obtain⟨v,e1,e2⟩:=r.slot j q e;obtain⟨p',xs,h1,h2,_,_⟩:=e2.mt m;rw[e1] at z;subst h1;cases z;rw[h] at h2;cases h2
theorem Rep.freeze(r:Rep K B G I H U Γ){p:g_}(h:H p=some (.lst xs))(hi:I p=none)(a:Apart U Γ p):Rep K B G (upd I p (.lst xs)) H U Γ where
 iH:=λb u q=>by
  by_cases e:b=p
  ·subst e;rw[t6] at q;cases q;exact h
  ·rw[tG e] at q;exact r.iH b u q
 gH:=r.gH
 len:=r.len
 slot:=λi q e=>by
  obtain⟨v,e1,e2⟩:=r.slot i q e;refine⟨v,e1,?_⟩;have up:=uu hi (.lst xs)
  have mt:q.ptr=true->∀ds,Mt K G I H ds v->Mt K G (upd I p (.lst xs)) H ds v:=λm ds h=>by
   obtain⟨p',cf,h1,h2,h3,h4,h5⟩:=h;refine⟨p',cf,h1,h2,?_,h4,h5.mono up⟩;have ne:p'≠p:=λz=>a i q e m (by rw[e1,h1,z])
   rw[tG ne];exact h3
  cases q with
  | val d=>exact Is.mono up e2
  | dic ds =>
   obtain⟨p',cf,h1,h2,h3,h4,h5⟩:=e2;refine⟨p',cf,h1,h2,?_,h4,h5.mono up⟩;have ne:p'≠p:=λz=>a i _ e rfl (by rw[e1,h1,z])
   rw[tG ne];exact h3
  | own ds=>exact mt rfl ds e2
  | bor ds=>exact mt rfl ds e2
  | fro ds=>obtain⟨p,xs,f1,f2,f3,f4⟩:=e2;exact⟨p,xs,f1,up _ _ f2,f3,f4.mono up⟩
 dist:=r.dist
 bor:=r.bor
theorem growFreeze{G I:Hp}{p:g_}(hi:I p=none)(hg:G p=none):Grow G I (upd I p (.lst xs)):=⟨uu hi _,λb u q=>by
 by_cases e:b=p
 ·subst e;exact .inr hg
 ·rw[tG e] at q;exact .inl q⟩
theorem ul{α:Type}{l:List α}{a b:α}(h:(l.set i a)[j]?=some b):(j=i/\b=a/\i < l.length)\/(j≠i/\l[j]?=some b):=by
 by_cases e:j=i
 ·subst e;by_cases hl:j < l.length
  ·rw[UK hl] at h;cases h;exact .inl ⟨rfl,rfl,hl⟩
  ·rw[Uw (by rw[UL];omega)] at h;cases h
 ·rw[Tu (Tt e)] at h;exact .inr ⟨e,h⟩
theorem Rep.forget(r:Rep K B G I H U Γ)(i:Nat):Rep K B G I H U (Γ.set i none) where
 iH:=r.iH
 gH:=r.gH
 len:=by rw[UL];exact r.len
 slot:=λj q e=>by
  rcases ul e with⟨_,z,_⟩ | ⟨_,z⟩
  ·cases z
  ·exact r.slot j q z
 dist:=λj k q q' v e e'=>by
  rcases ul e with⟨_,z,_⟩ | ⟨_,z⟩
  ·cases z
  rcases ul e' with⟨_,z',_⟩ | ⟨_,z'⟩
  ·cases z'
  exact r.dist j k q q' v z z'
 bor:=λj ds e=>by
  rcases ul e with⟨_,z,_⟩ | ⟨_,z⟩
  ·cases z
  ·exact r.bor j ds z
theorem Rep.learn(r:Rep K B G I H U Γ){q:R}{v:V}(hv:U[i]?=some (some v))(ok:SlotOk K G I H q v)(ha:q.ptr=true->∀p,v=.ref p->∀(j:Nat) (r:R),j≠i->Γ[j]?=some (some r)->r.ptr=true->U[j]?≠some (some (.ref p)))(hb:∀ds,q=.bor ds->U[i]?=B i):Rep K B G I H U (Γ.set i (some q)) where
 iH:=r.iH
 gH:=r.gH
 len:=by rw[UL];exact r.len
 slot:=λj q' e=>by
  rcases ul e with⟨rfl,z,_⟩ | ⟨_,z⟩
  ·cases z;exact⟨v,hv,ok⟩
  ·exact r.slot j q' z
 dist:=λj k q1 q2 w e e' m1 m2 s1 s2=>by
  rcases ul e with⟨rfl,z,_⟩ | ⟨n1,z⟩
  ·cases z
   rcases ul e' with⟨rfl,z',_⟩ | ⟨n2,z'⟩
   ·rfl
   ·obtain⟨p,xs,e1,_⟩:=ok.mt m1;rw[hv] at s1;cases s1;exact absurd (e1▸s2) (ha m1 p e1 k q2 n2 z' m2)
  ·rcases ul e' with⟨rfl,z',_⟩ | ⟨n2,z'⟩
   ·cases z';obtain⟨p,xs,e1,_⟩:=ok.mt m2;rw[hv] at s2;cases s2;exact absurd (e1▸s1) (ha m2 p e1 j q1 n1 z m1)
   ·exact r.dist j k q1 q2 w z z' m1 m2 s1 s2
 bor:=λj ds e=>by
  rcases ul e with⟨rfl,z,_⟩ | ⟨_,z⟩
  ·cases z;exact hb ds rfl
  ·exact r.bor j ds z
theorem Rep.store(r:Rep K B G I H U Γ){q:R}{v:V}(hi:i < U.length)(ok:SlotOk K G I H q v)(ha:q.ptr=true->∀p,v=.ref p->Apart U Γ p)(hb:∀ds,q≠.bor ds):Rep K B G I H (U.set i (some v)) (Γ.set i (some q)):=by
 have r1:Rep K B G I H (U.set i (some v)) (Γ.set i none):={
  iH:=r.iH,gH:=r.gH,len:=by rw[UL,UL];exact r.len
  slot:=λj q' e=>by
   rcases ul e with⟨_,z,_⟩ | ⟨n,z⟩
   ·cases z
   ·rw[Tu (Tt n)];exact r.slot j q' z
  dist:=λj k q1 q2 w e e' m1 m2 s1 s2=>by
   rcases ul e with⟨_,z,_⟩ | ⟨n1,z⟩
   ·cases z
   rcases ul e' with⟨_,z',_⟩ | ⟨n2,z'⟩
   ·cases z'
   rw[Tu (Tt n1)] at s1;rw[Tu (Tt n2)] at s2;exact r.dist j k q1 q2 w z z' m1 m2 s1 s2
  bor:=λj ds e=>by
   rcases ul e with⟨_,z,_⟩ | ⟨n,z⟩
   ·cases z
   ·rw[Tu (Tt n)];exact r.bor j ds z }
 have r2:=r1.learn (i:=i) (q:=q) (v:=v) (by rw[UK hi]) ok (λm p e j q' n z m' s=>by
  rcases ul z with⟨_,z',_⟩ | ⟨_,z'⟩
  ·cases z'
  ·rw[Tu (Tt n)] at s
   exact ha m p e j q' z' m' s) (λds e=>absurd e (hb ds))
 rw[ZB] at r2;exact r2
theorem Rep.write(r:Rep K B G I H U Γ){q q':R}{p:g_}{ys:List V}{ds:List D}(hq:Γ[i]?=some (some q))(hm:q.ptr=true)(hs:U[i]?=some (some (.ref p)))(h:H p=some (.lst xs))(dC:q'=.own ds\/(q'=.bor ds/\∃es,q=.bor es))(hd:IsA K I ds ys):
  Rep K B G I (upd H p (.lst ys)) U (Γ.set i (some q')):=by
 obtain⟨v,e1,e2⟩:=r.slot i q hq;obtain⟨p',cf,h1,h2,h3,h4⟩:=e2.mt hm;have hp:p'=p:=by rw[hs] at e1;subst h1;cases e1;rfl
 subst hp;have fk:∀(j:Nat) (r':R),j≠i->Γ[j]?=some (some r')->r'.ptr=true->U[j]?≠some (some (.ref p')):=λj r' n z m s=>n (r.dist j i r' q _ z hq m hm s hs)
 have sI:Same I (upd H p' (.lst ys)):=λb u z=>by
  have ne:b≠p':=λe=>by subst e;rw[h3] at z;cases z
  rw[tG ne];exact r.iH b u z
 have sG:Same G (upd H p' (.lst ys)):=λb u z=>by
  have ne:b≠p':=λe=>by subst e;rw[h4] at z;cases z
  rw[tG ne];exact r.gH b u z
 have r1:Rep K B G I (upd H p' (.lst ys)) U (Γ.set i none):={
  iH:=sI,gH:=sG,len:=by rw[UL];exact r.len
  slot:=λj q1 e=>by
   rcases ul e with⟨_,z,_⟩ | ⟨n,z⟩
   ·cases z
   obtain⟨w,e3,e4⟩:=r.slot j q1 z;refine⟨w,e3,?_⟩
   have mt:q1.ptr=true->∀ds,Mt K G I H ds w->Mt K G I (upd H p' (.lst ys)) ds w:=λm ds hh=>by
    obtain⟨p2,j9,g1,g2,g3,g4,g5⟩:=hh;refine⟨p2,j9,g1,?_,g3,g4,g5⟩;have ne:p2≠p':=λz2=>fk j q1 n z m (by rw[e3,g1,z2])
    rw[tG ne];exact g2
   cases q1 with
   | val d=>exact e4
   | dic ds =>
    obtain⟨p2,j9,g1,g2,g3,g4,g5⟩:=e4;refine⟨p2,j9,g1,?_,g3,g4,g5⟩;have ne:p2≠p':=λz2=>fk j _ n z rfl (by rw[e3,g1,z2])
    rw[tG ne];exact g2
   | own ds=>exact mt rfl ds e4
   | bor ds=>exact mt rfl ds e4
   | fro ds=>exact e4
  dist:=(r.forget i).dist
  bor:=(r.forget i).bor }
 have md:Mt K G I (upd H p' (.lst ys)) ds (.ref p'):=⟨p',ys,rfl,t6,h3,h4,hd⟩
 have r2:=r1.learn (i:=i) (q:=q') (v:=.ref p') hs (by rcases dC with rfl | ⟨rfl,_⟩<;>exact md) (λm p2 e j r' n z m' s=>by
  cases e
  rcases ul z with⟨_,z',_⟩ | ⟨_,z'⟩
  ·cases z'
  ·exact fk j r' n z' m' s) (λes e=>by
  rcases dC with rfl | ⟨rfl,es',rfl⟩
  ·cases e
  ·exact r.bor i es' hq)
 rw[ZB] at r2;exact r2
end
end DL
variable{ys ds:List DL.D}{Γ af ai ac:DL.Gm}{F F' fC:DL.D->DL.D->Option DL.D}{rr:DL.R}{x0:Option DL.R}
namespace DL
open PySem PySem.Spec PyProof.Rows L2
noncomputable abbrev M(α:Type):=Gm->Option (α×Gm)
noncomputable def ret{α:Type}(a:α):M α:=λΓ=>some (a,Γ)
noncomputable def bnd{α Y:Type}(m:M α)(f:α->M Y):M Y:=λΓ=>match m Γ with
 | some (a,ac)=>f a ac
 | none=>none
noncomputable def lft{α:Type}(o:Option α):M α:=λΓ=>match o with
 | some a=>some (a,Γ)
 | none=>none
theorem lX{α Y:Type}{m:M α}{f:α->M Y}{b:Y}(h:bnd m f Γ=some (b,af)):∃a ac,m Γ=some (a,ac)/\f a ac=some (b,af):=by
 unfold bnd at h;cases e:m Γ with
 | none=>rw[e] at h;cases h
 | some q=>obtain⟨a,ac⟩:=q;rw[e] at h;exact⟨a,ac,rfl,h⟩
theorem tN{α:Type}{o:Option α}{a:α}(h:lft o Γ=some (a,af)):o=some a/\af=Γ:=by
 unfold lft at h;cases o with
 | none=>cases h
 | some b=>cases h;exact⟨rfl,rfl⟩
section
variable (K:PySem.W.Frag)(B:Nat->Option (Option V))
def KD(G I:Hp)(U:L2.St)(af:Gm)(d:D)(Q:VK):Prop:=∀v H' I',Rep K B G I' H' U af->Grow G I I'->Is K I' d v->Q v H'
def KO(G I:Hp)(U:L2.St)(af:Gm)(ds:List D)(Q:VK):Prop:=∀p xs H' I',Rep K B G I' H' U af->Grow G I I'->H' p=some (.lst xs)->I' p=none->G p=none->Apart U af p->IsA K I' ds xs->Q (.ref p) H'
def KT(G I:Hp)(U:L2.St)(af:Gm)(b:Bool)(Q:Bool->Hp->Prop):Prop:=∀H' I',Rep K B G I' H' U af->Grow G I I'->Q b H'
def KA(G I:Hp)(U:L2.St)(af:Gm)(ds:List D)(Q:List V->Hp->Prop):Prop:=∀vs H' I',Rep K B G I' H' U af->Grow G I I'->IsA K I' ds vs->Q vs H'
noncomputable def tD(g:M D):TE:=λU H Q=>∃G I Γ d af,Rep K B G I H U Γ/\g Γ=some (d,af)/\KD K B G I U af d Q
noncomputable def tO(g:M (List D)):TE:=λU H Q=>∃G I Γ ds af,Rep K B G I H U Γ/\g Γ=some (ds,af)/\KO K B G I U af ds Q
noncomputable def tTD(g:M Bool):TT:=λU H Q=>∃G I Γ b af,Rep K B G I H U Γ/\g Γ=some (b,af)/\KT K B G I U af b Q
noncomputable def tAD(g:M (List D)):TA:=λU H Q=>∃G I Γ ds af,Rep K B G I H U Γ/\g Γ=some (ds,af)/\KA K B G I U af ds Q
end
abbrev BB:=Nat->Option (Option V)
def ED(X:Cx)(B:BB)(e:D_)(g:M D):Prop:=PE X e (tD X.K B g)
def EO(X:Cx)(B:BB)(e:D_)(g:M (List D)):Prop:=PE X e (tO X.K B g)
def TD(X:Cx)(B:BB)(e:D_)(g:M Bool):Prop:=PT X e (tTD X.K B g)
def TW(X:Cx)(B:BB)(e:D_)(g:M Bool):Prop:=PW X e (tTD X.K B g)
def AD(X:Cx)(B:BB)(es:List D_)(g:M (List D)):Prop:=PA X es (tAD X.K B g)
section
variable{e:D_}
theorem PE.imp{t t':TE}(h:PE X e t)(f:∀U H Q,t' U H Q->t U H Q):PE X e t':=λaa s U H Q I q=>h aa s U H Q I (f U H Q q)
theorem PT.imp{t t':TT}(h:PT X e t)(f:∀U H Q,t' U H Q->t U H Q):PT X e t':=λaa s U H Q I q=>h aa s U H Q I (f U H Q q)
theorem PW.imp{t t':TT}(h:PW X e t)(f:∀U H Q,t' U H Q->t U H Q):PW X e t':=λwh aa s U H Q I q=>h wh aa s U H Q I (f U H Q q)
theorem PA.imp{es:List D_}{t t':TA}(h:PA X es t)(f:∀U H Q,t' U H Q->t U H Q):PA X es t':=λpos aa s U H Q I q=>h pos aa s U H Q I (f U H Q q)
end
section
variable{K:PySem.W.Frag}{B:BB}{I1 I2 H H1:Hp}{d:D}{Q:VK}
theorem KD.now(k:KD K B G I U Γ d Q)(r:Rep K B G I H U Γ){v:V}(h:Is K I d v):Q v H:=k v H I r (Grow.refl _ _) h
theorem KD.after(k:KD K B G I U af d Q)(g:Grow G I I1):KD K B G I1 U af d Q:=λv H' I' r g' h=>k v H' I' r (g.trans g') h
theorem KO.after(k:KO K B G I U af ds Q)(g:Grow G I I1):KO K B G I1 U af ds Q:=λp xs H' I' r g'=>k p xs H' I' r (g.trans g')
theorem KT.after{b:Bool}{Q:Bool->Hp->Prop}(k:KT K B G I U af b Q)(g:Grow G I I1):KT K B G I1 U af b Q:=λH' I' r g'=>k H' I' r (g.trans g')
theorem KD.tup(k:KD K B G I U Γ (.tup ds) Q)(r:Rep K B G I H U Γ){p:g_}(hp:H p=none)(h:IsA K I ds xs):Q (.ref p) (upd H p (.tup xs)):=
 k _ _ _ (r.alloc hp _) (r.growAlloc hp _) (Is.tup (SqT.of t6) (h.mono (uu (r.iFree hp) _)))
theorem KO.new(k:KO K B G I U Γ ds Q)(r:Rep K B G I H U Γ){p:g_}(hp:H p=none)(h:IsA K I ds xs):Q (.ref p) (upd H p (.lst xs)):=
 k p xs _ I (r.fresh hp _) (Grow.refl _ _) t6 (r.iFree hp) (r.gFree hp) (r.apart hp) h
end
section
variable{B:BB}{a b c e:D_}{es:List D_}{ga gb gc:M D}
noncomputable def frz(g:M (List D)):M D:=bnd g λds=>ret (.lst ds)
theorem tx{g:M (List D)}(h:EO X B e g):ED X B e (frz g):=PE.imp h λU H Q q=>by
 obtain⟨G,I,Γ,d,af,r,e1,k⟩:=q;obtain⟨ds,ac,e2,e3⟩:=lX e1;cases e3;refine⟨G,I,Γ,ds,_,r,e2,λp xs H' I' r' g h1 h2 h3 h4 h5=>?_⟩;exact k _ _ _ (r'.freeze h1 h2 h4) (g.trans (growFreeze h2 h3)) (Is.lst (RdK.of t6) (h5.mono (uu h2 _)))
noncomputable def nm(i:Nat):M D:=λΓ=>match Γ[i]? with
 | some (some (.val d))=>some (d,Γ)
 | some (some (.own ds))=>some (.lst ds,Γ.set i (some (.val (.lst ds))))
 | some (some (.fro ds))=>some (.lst ds,Γ)
 | _=>none
theorem Fz{x:Str}(h:PE X (.Name x pos) (tVar i)):ED X B (.Name x pos) (nm i):=PE.imp h λU H Q q=>by
 obtain⟨G,I,Γ,d,af,r,e1,k⟩:=q;unfold nm at e1;cases e:Γ[i]? with
 | none=>rw[e] at e1;cases e1
 | some o =>
  cases o with
  | none=>rw[e] at e1;cases e1
  | some q =>
   obtain⟨v,h1,h2⟩:=r.slot i q e;cases q with
   | val d'=>rw[e] at e1;cases e1;exact⟨v,h1,k.now r h2⟩
   | bor ds=>rw[e] at e1;cases e1
   | dic ds=>rw[e] at e1;cases e1
   | fro ds=>rw[e] at e1;cases e1;obtain⟨p,xs,rfl,f1,f2,f3⟩:=h2;exact⟨_,h1,k.now r (Is.lst (RdK.of f1) f3)⟩
   | own ds =>
    rw[e] at e1;cases e1;obtain⟨p,xs,rfl,g1,g2,g3,g4⟩:=h2;refine⟨_,h1,k _ _ (upd I p (.lst xs)) ?_ (growFreeze g2 g3) (Is.lst (RdK.of t6) (g4.mono (uu g2 _)))⟩
    have ap:Apart U (Γ.set i none) p:=λj q' z m s=>by
     rcases ul z with⟨_,z',_⟩ | ⟨n,z'⟩
     ·cases z'
     ·exact n (r.dist j i q' (.own ds) _ z' e m rfl s h1)
    have r1:=(r.forget i).freeze g1 g2 ap;have r2:=r1.learn (i:=i) (q:=.val (.lst ds)) h1 (Is.lst (RdK.of t6) (g4.mono (uu g2 _))) (λm=>nomatch m) (λ_ z=>nomatch z);rw[ZB] at r2;exact r2
theorem ed_c{d:D}{v:V}(h:PE X e (tC v))(hd:∀I,Is X.K I d v):ED X B e (ret d):=PE.imp h λU H Q q=>by
 obtain⟨G,I,Γ,d',af,r,e1,k⟩:=q;cases e1;exact k.now r (hd I)
theorem gV{i j}:ED X B (.Constant (.int i) j pos) (ret (.int i)):=ed_c Pz λ_=>Is.int i
theorem uJ{b j}:ED X B (.Constant (.bool b) j pos) (ret (.bl b)):=ed_c Pt λ_=>Is.bl b
theorem uD{j}:ED X B (.Constant .none j pos) (ret .non):=ed_c PX λ_=>Is.non
theorem tU{x j}:ED X B (.Constant (.str x) j pos) (ret (.str x)):=ed_c F4 λ_=>Is.str x
noncomputable def nilA:M (List D):=ret []
noncomputable def consA(g:M D)(t:M (List D)):M (List D):=bnd g λd=>bnd t λds=>ret (d::ds)
theorem f':AD X B [] nilA:=PA.imp wB λU H Q q=>by
 obtain⟨G,I,Γ,d,af,r,e1,k⟩:=q;cases e1;exact k _ _ _ r (Grow.refl _ _) IsA.nil
theorem Qn{g:M D}{t:M (List D)}(ha:ED X B e g)(hr:AD X B es t)(hs:d_ (e::es) X.env=(false,eval e X.env)::d_ es X.env:=by rfl):AD X B (e::es) (consA g t):=
 PA.imp (uU ha hr hs) λU H Q q=>by
  obtain⟨G,I,Γ,d,af,r,e1,k⟩:=q;obtain⟨d1,ac,e2,e3⟩:=lX e1;obtain⟨d2,ai,e4,e5⟩:=lX e3;cases e5;exact⟨G,I,Γ,d1,ac,r,e2,λv H1 I1 r1 g1 h1=>⟨G,I1,ac,d2,_,r1,e4,λvs H2 I2 r2 g2 h2=>k _ _ _ r2 (g1.trans g2) (IsA.cons (h1.mono g2.up) h2)⟩⟩
noncomputable def lim:Nat:=1000000
theorem vF(h:n<=lim):n<=z_:=H_ h (by rw[TH];decide)
noncomputable def tupA(t:M (List D)):M D:=bnd t λds=>lft (if ds.length<=lim then some (.tup ds) else none)
noncomputable def lstA(t:M (List D)):M (List D):=bnd t λds=>lft (if ds.length<=lim then some ds else none)
theorem tZ{α:Type}{c:Prop}[Decidable c]{a b:α}(h:(if c then some a else none)=some b):c/\b=a:=by
 by_cases hc:c
 ·rw[if_pos hc] at h;exact⟨hc,(Tn h).symm⟩
 ·rw[if_neg hc] at h;cases h
theorem uB{x1}{t:M (List D)}(h:AD X B es t):ED X B (.Tuple es x1 pos) (tupA t):=PE.imp (G4 h) λU H Q q=>by
 obtain⟨G,I,Γ,d,af,r,e1,k⟩:=q;obtain⟨d1,ac,e2,e3⟩:=lX e1;obtain⟨e4,rfl⟩:=tN e3;obtain⟨hl,rfl⟩:=tZ e4;refine⟨G,I,Γ,d1,_,r,e2,λvs H1 I1 r1 g1 h1=>⟨?_,λp hp=>(k.after g1).tup r1 hp h1⟩⟩;rw[←h1.length];exact vF hl
theorem ue{t:M (List D)}(h:AD X B es t):EO X B (.List es pos) (lstA t):=PE.imp (QK h) λU H Q q=>by
 obtain⟨G,I,Γ,d,af,r,e1,k⟩:=q;obtain⟨d1,ac,e2,e3⟩:=lX e1;obtain⟨e4,rfl⟩:=tN e3;obtain⟨hl,rfl⟩:=tZ e4;refine⟨G,I,Γ,_,_,r,e2,λvs H1 I1 r1 g1 h1=>⟨?_,λp hp=>(k.after g1).new r1 hp h1⟩⟩;rw[←h1.length];exact vF hl
def OpD(K:PySem.W.Frag)(r:R2)(F:D->D->Option D):Prop:=∀a b d,F a b=some d->∀(B:BB) (G I H:Hp) (U:L2.St) (Γ:Gm) (x y:V) (Q:VK),Rep K B G I H U Γ->Is K I a x->Is K I b y->KD K B G I U Γ d Q->r x y H Q
def OpO(K:PySem.W.Frag)(r:R2)(F:D->D->Option (List D)):Prop:=∀a b d,F a b=some d->∀(B:BB) (G I H:Hp) (U:L2.St) (Γ:Gm) (x y:V) (Q:VK),Rep K B G I H U Γ->Is K I a x->Is K I b y->KO K B G I U Γ d Q->r x y H Q
def CallD(K:PySem.W.Frag)(r:List V->Hp->VK->Prop)(F:List D->Option D):Prop:=∀ds d,F ds=some d->∀(B:BB) (G I H:Hp) (U:L2.St) (Γ:Gm) (xs:List V) (Q:VK),Rep K B G I H U Γ->IsA K I ds xs->KD K B G I U Γ d Q->r xs H Q
def CallO(K:PySem.W.Frag)(r:List V->Hp->VK->Prop)(F:List D->Option (List D)):Prop:=∀ds d,F ds=some d->∀(B:BB) (G I H:Hp) (U:L2.St) (Γ:Gm) (xs:List V) (Q:VK),Rep K B G I H U Γ->IsA K I ds xs->KO K B G I U Γ d Q->r xs H Q
noncomputable def op2{α:Type}(F:D->D->Option α)(ga gb:M D):M α:=bnd ga λx=>bnd gb λy=>lft (F x y)
noncomputable def fn1{α:Type}(F:List D->Option α)(t:M (List D)):M α:=bnd t λds=>lft (F ds)
theorem t_op{r:R2}{K:PySem.W.Frag}(h:OpD K r F):∀U H Q,tD K B (op2 F ga gb) U H Q->tOp r (tD K B ga) (tD K B gb) U H Q:=λU H Q q=>by
 obtain⟨G,I,Γ,d,af,r,e1,k⟩:=q;obtain⟨d1,ac,e2,e3⟩:=lX e1;obtain⟨d2,ai,e4,e5⟩:=lX e3;obtain⟨e6,rfl⟩:=tN e5;exact⟨G,I,Γ,d1,ac,r,e2,λv H1 I1 r1 g1 h1=>⟨G,I1,ac,d2,_,r1,e4,λw H2 I2 r2 g2 h2=>h _ _ _ e6 B G I2 H2 U _ v w Q r2 (h1.mono g2.up) h2 (k.after (g1.trans g2))⟩⟩
theorem DU{r:R2}{F:D->D->Option (List D)}{K:PySem.W.Frag}(h:OpO K r F):∀U H Q,tO K B (op2 F ga gb) U H Q->tOp r (tD K B ga) (tD K B gb) U H Q:=λU H Q q=>by
 obtain⟨G,I,Γ,d,af,r,e1,k⟩:=q;obtain⟨d1,ac,e2,e3⟩:=lX e1;obtain⟨d2,ai,e4,e5⟩:=lX e3;obtain⟨e6,rfl⟩:=tN e5;exact⟨G,I,Γ,d1,ac,r,e2,λv H1 I1 r1 g1 h1=>⟨G,I1,ac,d2,_,r1,e4,λw H2 I2 r2 g2 h2=>h _ _ _ e6 B G I2 H2 U _ v w Q r2 (h1.mono g2.up) h2 (k.after (g1.trans g2))⟩⟩
theorem vP{op:Operator}{r:R2}(ho:OpR X (UA op) r)(h:OpD X.K r F)(ha:ED X B a ga)(hb:ED X B b gb):ED X B (.BinOp a op b pos) (op2 F ga gb):=PE.imp (Fi ho ha hb) (t_op h)
theorem N0{op:Operator}{r:R2}{F:D->D->Option (List D)}(ho:OpR X (UA op) r)(h:OpO X.K r F)(ha:ED X B a ga)(hb:ED X B b gb):EO X B (.BinOp a op b pos) (op2 F ga gb):=PE.imp (Fi ho ha hb) (DU h)
theorem xq{r:R2}(ho:OpR X (Tl op) r)(h:OpD X.K r F)(ha:ED X B a ga)(hb:ED X B b gb)(hm:Us op b=false):ED X B (.Compare a [op] [b] pos) (op2 F ga gb):=PE.imp (Po ho ha hb hm) (t_op h)
theorem Ma{r:R2}(ho:IxR X r)(h:OpD X.K r F)(ha:ED X B a ga)(hb:ED X B b gb)(hs:PlainIx b:=by exact λ_ _=>rfl):ED X B (.Subscript a b pos) (op2 F ga gb):=PE.imp (Eb ho ha hb hs) (t_op h)
noncomputable def asB(d:D):Option Bool:=match d with
 | .bl b=>some b
 | _=>none
theorem wA{d:D}{b:Bool}(h:asB d=some b):d=.bl b:=by
 cases d<;>simp[asB] at h
 rw[h]
noncomputable def tst(g:M D):M Bool:=bnd g λd=>lft (asB d)
theorem ze{K:PySem.W.Frag}{g:M D}{t:TE}(ht:∀U H Q,tD K B g U H Q->t U H Q):∀U H Q,tTD K B (tst g) U H Q->tTest t U H Q:=λU H Q q=>by
 obtain⟨G,I,Γ,d,af,r,e1,k⟩:=q;obtain⟨d1,ac,e2,e3⟩:=lX e1;obtain⟨e4,rfl⟩:=tN e3;have:=wA e4;subst this;exact ht _ _ _ ⟨G,I,Γ,_,_,r,e2,λv H1 I1 r1 g1 h1=>⟨d,uv h1,k _ _ r1 g1⟩⟩
theorem vo{r:R2}(ho:OpR X (Tl op) r)(h:OpD X.K r F)(ha:ED X B a ga)(hb:ED X B b gb)(hm:Us op b=false):TD X B (.Compare a [op] [b] pos) (tst (op2 F ga gb)):=PT.imp (Ii ho ha hb hm) (ze (t_op h))
theorem ud(ha:ED X B a ga)(he:∀bX,Ze a X.env bX=(do let v ←bX;Zy a.pos;WB [v] (truthy v)):=by intros;rfl):TD X B a (tst ga):=PT.imp (Ka ha he) (ze λ_ _ _ z=>z)
noncomputable def chn(F F':D->D->Option D)(ga gb gc:M D):M D:=bnd ga λx=>bnd gb λy=>bnd (lft (F x y)) λz=>bnd (lft (asB z)) λk=>if k then bnd gc λw=>lft (F' y w) else ret (.bl false)
theorem Dh{r r':R2}{K:PySem.W.Frag}(h:OpD K r F)(h':OpD K r' F'):∀U H Q,tD K B (chn F F' ga gb gc) U H Q->tChain r r' (tD K B ga) (tD K B gb) (tD K B gc) U H Q:=λU H Q q=>by
 obtain⟨G,I,Γ,d,af,r,e1,k⟩:=q;obtain⟨d1,ac,e2,e3⟩:=lX e1;obtain⟨d2,ai,e4,e5⟩:=lX e3;obtain⟨d3,aL,e6,e7⟩:=lX e5;obtain⟨e8,rfl⟩:=tN e6;obtain⟨k1,aN,e9,f1⟩:=lX e7;obtain⟨f2,rfl⟩:=tN e9;have:=wA f2;subst this;refine⟨G,I,Γ,d1,ac,r,e2,λv H1 I1 r1 g1 h1=>⟨G,I1,ac,d2,aN,r1,e4,λw H2 I2 r2 g2 h2=>h _ _ _ e8 B G I2 H2 U aN v w _ r2 (h1.mono g2.up) h2 λu H3 I3 r3 g3 h3=>⟨k1,uv h3,?_⟩⟩⟩;cases k1 with
 | false=>cases f1;exact iteF (k _ _ _ r3 (g1.trans (g2.trans g3)) (Is.bl false))
 | true =>
  obtain⟨d4,cx,f3,f4⟩:=lX f1;obtain⟨f5,rfl⟩:=tN f4;exact iteT ⟨G,I3,aN,d4,_,r3,f3,λz H4 I4 r4 g4 h4=>h' _ _ _ f5 B G I4 H4 U _ w z Q r4 (h2.mono (g3.trans g4).up) h4 (k.after (g1.trans (g2.trans (g3.trans g4))))⟩
theorem Fm{r r':R2}(ho:OpR X (Tl op) r)(h:OpD X.K r F)(bV:OpR X (Tl bH) r')(h':OpD X.K r' F')(ha:ED X B a ga)(hb:ED X B b gb)(hc:ED X B c gc)(hm:UC [op,bH] [b,c]=false:=by with_unfolding_all rfl):ED X B (.Compare a [op,bH] [b,c] pos) (chn F F' ga gb gc):=PE.imp (JM ho bV ha hb hc hm) (Dh h h')
theorem Ed{r r':R2}(ho:OpR X (Tl op) r)(h:OpD X.K r F)(bV:OpR X (Tl bH) r')(h':OpD X.K r' F')(ha:ED X B a ga)(hb:ED X B b gb)(hc:ED X B c gc)(hm:UC [op,bH] [b,c]=false:=by with_unfolding_all rfl):TD X B (.Compare a [op,bH] [b,c] pos) (tst (chn F F' ga gb gc)):=PT.imp (Ks ho bV ha hb hc hm) (ze (Dh h h'))
noncomputable def andT(a b:M Bool):M Bool:=bnd a λk=>if k then b else ret false
noncomputable def orT(a b:M Bool):M Bool:=bnd a λk=>if k then ret true else b
noncomputable def notT(a:M Bool):M Bool:=bnd a λk=>ret (!k)
noncomputable def andV(a b:M D):M D:=bnd a λd=>bnd (lft (asB d)) λk=>if k then b else ret (.bl false)
noncomputable def notV(a:M D):M D:=bnd a λd=>bnd (lft (asB d)) λk=>ret (.bl (!k))
noncomputable def ifV(c:M Bool)(a b:M D):M D:=bnd c λk=>if k then a else b
variable{ta tb:M Bool}
theorem yn(ha:TD X B a ta):TW X B (.BoolOp .And [a] pos) ta:=Lh ha
theorem uN(ha:TD X B a ta):TW X B (.BoolOp .Or [a] pos) ta:=OR ha
theorem xM(ha:TD X B a ta)(hb:TW X B (.BoolOp .And (b::aF) pos) tb):TW X B (.BoolOp .And (a::b::aF) pos) (andT ta tb):=PW.imp (NI ha hb) λU H Q q=>by
 obtain⟨G,I,Γ,d,af,r,e1,k⟩:=q;obtain⟨d1,ac,e2,e3⟩:=lX e1;refine⟨G,I,Γ,d1,ac,r,e2,λH1 I1 r1 g1=>?_⟩;cases d1 with
 | true=>exact iteT ⟨G,I1,ac,d,af,r1,e3,k.after g1⟩
 | false=>cases e3;exact iteF (k _ _ r1 g1)
theorem ut(ha:TD X B a ta)(hb:TW X B (.BoolOp .Or (b::aF) pos) tb):TW X B (.BoolOp .Or (a::b::aF) pos) (orT ta tb):=PW.imp (NU ha hb) λU H Q q=>by
 obtain⟨G,I,Γ,d,af,r,e1,k⟩:=q;obtain⟨d1,ac,e2,e3⟩:=lX e1;refine⟨G,I,Γ,d1,ac,r,e2,λH1 I1 r1 g1=>?_⟩;cases d1 with
 | false=>exact iteF ⟨G,I1,ac,d,af,r1,e3,k.after g1⟩
 | true=>cases e3;exact iteT (k _ _ r1 g1)
theorem TW.td(h:TW X B e ta):TD X B e ta:=h _
theorem uf(ha:TD X B a ta):TD X B (.UnaryOp .Not a pos) (notT ta):=PT.imp (J8 ha) λU H Q q=>by
 obtain⟨G,I,Γ,d,af,r,e1,k⟩:=q;obtain⟨d1,ac,e2,e3⟩:=lX e1;cases e3;exact⟨G,I,Γ,d1,_,r,e2,λH1 I1 r1 g1=>k _ _ r1 g1⟩
theorem uP{op}(h:ED X B a ga):ED X B (.BoolOp op [a] pos) ga:=J6 h
theorem uz(ha:ED X B a ga)(hb:ED X B (.BoolOp .And (b::aF) pos) gb):ED X B (.BoolOp .And (a::b::aF) pos) (andV ga gb):=PE.imp (OZ ha hb) λU H Q q=>by
 obtain⟨G,I,Γ,d,af,r,e1,k⟩:=q;obtain⟨d1,ac,e2,e3⟩:=lX e1;obtain⟨k1,ai,e4,e5⟩:=lX e3;obtain⟨e6,rfl⟩:=tN e4;have:=wA e6;subst this;refine⟨G,I,Γ,_,_,r,e2,λv H1 I1 r1 g1 h1=>⟨k1,uv h1,?_⟩⟩;cases k1 with
 | true=>exact iteT ⟨G,I1,_,d,af,r1,e5,k.after g1⟩
 | false=>cases e5;exact iteF (k _ _ _ r1 g1 (Is.bl false))
theorem yj(ha:ED X B a ga):ED X B (.UnaryOp .Not a pos) (notV ga):=PE.imp (PD ha) λU H Q q=>by
 obtain⟨G,I,Γ,d,af,r,e1,k⟩:=q;obtain⟨d1,ac,e2,e3⟩:=lX e1;obtain⟨k1,ai,e4,e5⟩:=lX e3;obtain⟨e6,rfl⟩:=tN e4;have:=wA e6;subst this;cases e5;exact⟨G,I,Γ,_,_,r,e2,λv H1 I1 r1 g1 h1=>⟨k1,uv h1,k _ _ _ r1 g1 (Is.bl _)⟩⟩
theorem vx(hc:TD X B c ta)(ha:ED X B a ga)(hb:ED X B b gb):ED X B (.IfExp c a b pos) (ifV ta ga gb):=PE.imp (Mx hc ha hb) λU H Q q=>by
 obtain⟨G,I,Γ,d,af,r,e1,k⟩:=q;obtain⟨d1,ac,e2,e3⟩:=lX e1;refine⟨G,I,Γ,d1,ac,r,e2,λH1 I1 r1 g1=>?_⟩;cases d1 with
 | true=>exact iteT ⟨G,I1,ac,d,af,r1,e3,k.after g1⟩
 | false=>exact iteF ⟨G,I1,ac,d,af,r1,e3,k.after g1⟩
variable{x:Str}{p:Pos}{id:String}{r:List V->Hp->VK->Prop}{t:M (List D)}
theorem t_fn{F:List D->Option D}{K:PySem.W.Frag}(h:CallD K r F):∀U H Q,tD K B (fn1 F t) U H Q->tCB r (tAD K B t) U H Q:=λU H Q q=>by
 obtain⟨G,I,Γ,d,af,r,e1,k⟩:=q;obtain⟨d1,ac,e2,e3⟩:=lX e1;obtain⟨e4,rfl⟩:=tN e3;exact⟨G,I,Γ,d1,_,r,e2,λvs H1 I1 r1 g1 h1=>h _ _ e4 B G I1 H1 U _ vs Q r1 h1 (k.after g1)⟩
theorem CJ{F:List D->Option (List D)}{K:PySem.W.Frag}(h:CallO K r F):∀U H Q,tO K B (fn1 F t) U H Q->tCB r (tAD K B t) U H Q:=λU H Q q=>by
 obtain⟨G,I,Γ,d,af,r,e1,k⟩:=q;obtain⟨d1,ac,e2,e3⟩:=lX e1;obtain⟨e4,rfl⟩:=tN e3;exact⟨G,I,Γ,d1,_,r,e2,λvs H1 I1 r1 g1 h1=>h _ _ e4 B G I1 H1 U _ vs Q r1 h1 (k.after g1)⟩
theorem v3{F:List D->Option D}(hc:CallR X (.builtin id) r)(h:CallD X.K r F)(hg:Gl X x)(hm:X.mg x=none)(hv:Ud x=some (.builtin id))(ha:AD X B (e::es) t)(hn:x ≠ "__name__":=by decide)(bh:(x == ("__debug__":Str))=false:=by decide)(he:d_ (e::es) X.env=(false,eval e X.env)::d_ es X.env:=by rfl)(aB:(J_ pos (d_ es X.env)).any (·.1)=false:=by rfl):ED X B (.Call (.Name x p) (e::es) [] pos) (fn1 F t):=PE.imp (wn hc hg hm hv ha hn bh he aB) (t_fn h)
theorem Qi{F:List D->Option (List D)}(hc:CallR X (.builtin id) r)(h:CallO X.K r F)(hg:Gl X x)(hm:X.mg x=none)(hv:Ud x=some (.builtin id))(ha:AD X B (e::es) t)(hn:x ≠ "__name__":=by decide)(bh:(x == ("__debug__":Str))=false:=by decide)(he:d_ (e::es) X.env=(false,eval e X.env)::d_ es X.env:=by rfl)(aB:(J_ pos (d_ es X.env)).any (·.1)=false:=by rfl):EO X B (.Call (.Name x p) (e::es) [] pos) (fn1 F t):=PE.imp (wn hc hg hm hv ha hn bh he aB) (CJ h)
theorem ya{F:List D->Option D}(hc:CallR X (.type T) r)(h:CallD X.K r F)(hg:Gl X x)(hm:X.mg x=none)(hv:Ud x=some (.type T))(ha:AD X B (e::es) t)(hn:x ≠ "__name__":=by decide)(bh:(x == ("__debug__":Str))=false:=by decide)(he:d_ (e::es) X.env=(false,eval e X.env)::d_ es X.env:=by rfl)(aB:(J_ pos (d_ es X.env)).any (·.1)=false:=by rfl):ED X B (.Call (.Name x p) (e::es) [] pos) (fn1 F t):=PE.imp (Bz hc hg hm hv ha hn bh he aB) (t_fn h)
theorem LI{F:List D->Option (List D)}(hc:CallR X (.type T) r)(h:CallO X.K r F)(hg:Gl X x)(hm:X.mg x=none)(hv:Ud x=some (.type T))(ha:AD X B (e::es) t)(hn:x ≠ "__name__":=by decide)(bh:(x == ("__debug__":Str))=false:=by decide)(he:d_ (e::es) X.env=(false,eval e X.env)::d_ es X.env:=by rfl)(aB:(J_ pos (d_ es X.env)).any (·.1)=false:=by rfl):EO X B (.Call (.Name x p) (e::es) [] pos) (fn1 F t):=PE.imp (Bz hc hg hm hv ha hn bh he aB) (CJ h)
end
inductive Fl where
 | nx | rt (r:R) | bk | ct
def ResOk(K:PySem.W.Frag)(G I H:Hp)(U:L2.St)(Γ:Gm):R->V->Prop
 | .val d,v=>Is K I d v
 | .own ds,v=>∃p xs,v=.ref p/\H p=some (.lst xs)/\I p=none/\G p=none/\Apart U Γ p/\IsA K I ds xs
 | .bor _,_=>False
 | .fro ds,v=>∃p xs,v=.ref p/\I p=some (.lst xs)/\G p=none/\IsA K I ds xs
 | .dic bf,v=>∃p xs,v=.ref p/\H p=some (.dK xs)/\I p=none/\G p=none/\Apart U Γ p/\IsK K I bf xs
def EndAt(K:PySem.W.Frag)(G I H:Hp)(U:L2.St)(Γ:Gm)(E:Ends):Fl->Prop
 | .nx=>E.nx U H
 | .bk=>E.bk U H
 | .ct=>E.ct U H
 | .rt r=>∀v,ResOk K G I H U Γ r v->E.rt v H
section
variable (K:PySem.W.Frag)(B:BB)
def KS(G I:Hp)(af:Gm)(f:Fl)(E:Ends):Prop:=∀am H' I',Rep K B G I' H' am af->Grow G I I'->EndAt K G I' H' am af E f
noncomputable def tS(g:M Fl):TS:=λE U H=>∃G I Γ f af,Rep K B G I H U Γ/\g Γ=some (f,af)/\KS K B G I af f E
def KG(m:Nat)(U:L2.St)(G I:Hp)(af:Gm)(Q:L2.St->Hp->Prop):Prop:=∀am H' I',Rep K B G I' H' am af->Grow G I I'->am.drop m=U.drop m->Q am H'
noncomputable def tGD(m:Nat)(f:D->M Unit):TG:=λv U H Q=>∃G I Γ d af,Rep K B G I H U Γ/\Is K I d v/\f d Γ=some ((),af)/\KG K B m U G I af Q
noncomputable def tGs(m:Nat)(f:List D->M Unit):TGs:=λvs U H Q=>∃G I Γ ds af,Rep K B G I H U Γ/\IsA K I ds vs/\f ds Γ=some ((),af)/\KG K B m U G I af Q
end
def SD(X:Cx)(B:BB)(st:Tr)(g:M Fl):Prop:=PS X st (tS X.K B g)
def SDs(X:Cx)(B:BB)(st:List Tr)(g:M Fl):Prop:=PSs X st (tS X.K B g)
def GD(X:Cx)(B:BB)(m:Nat)(tg:D_)(f:D->M Unit):Prop:=PG X tg (tGD X.K B m f)
def GDs(X:Cx)(B:BB)(m:Nat)(iG:List D_)(f:List D->M Unit):Prop:=PGs X iG (tGs X.K B m f)
section
theorem PS.imp{st:Tr}{t t':TS}(h:PS X st t)(f:∀E U H,t' E U H->t E U H):PS X st t':=λaa s U H E I q=>h aa s U H E I (f E U H q)
theorem PSs.imp{st:List Tr}{t t':TS}(h:PSs X st t)(f:∀E U H,t' E U H->t E U H):PSs X st t':=λaa s U H E I q=>h aa s U H E I (f E U H q)
theorem PG.imp{t t':TG}(h:PG X tg t)(f:∀v U H Q,t' v U H Q->t v U H Q):PG X tg t':=λaa s U H v u Q I r q=>h aa s U H v u Q I r (f v U H Q q)
theorem PGs.imp{t t':TGs}(h:PGs X iG t)(f:∀v U H Q,t' v U H Q->t v U H Q):PGs X iG t':=λaa s U H v u Q I r q=>h aa s U H v u Q I r (f v U H Q q)
theorem PI.imp{iter:D_}{t t':TI}(h:PI X tg iter t)(f:∀U H Q,t' U H Q->t U H Q):PI X tg iter t':=λaa s U H R I q=>h aa s U H R I (f U H R q)
end
section
variable{K:PySem.W.Frag}{B:BB}{I1 H:Hp}{f:Fl}{E:Ends}
theorem KS.after(k:KS K B G I af f E)(g:Grow G I I1):KS K B G I1 af f E:=λam H' I' r g'=>k am H' I' r (g.trans g')
theorem KG.after{bY:L2.St}{Q:L2.St->Hp->Prop}(k:KG K B m U G I af Q)(g:Grow G I I1)(hs:bY.drop m=U.drop m):KG K B m bY G I1 af Q:=λam H' I' r g' z=>k am H' I' r (g.trans g') (z.trans hs)
end
section
variable{B:BB}{a b c e:D_}{es:List D_}{ga gb gc:M D}{st:Tr}{aF:List Tr}{g h:M Fl}
noncomputable def seqS(g h:M Fl):M Fl:=bnd g λf=>match f with
 | .nx=>h
 | .rt r=>ret (.rt r)
 | .bk=>ret .bk
 | .ct=>ret .ct
theorem N3:SDs X B [] (ret .nx):=PSs.imp HA λE U H q=>by
 obtain⟨G,I,Γ,f,af,r,e1,k⟩:=q;cases e1;exact k U H I r (Grow.refl _ _)
theorem FF(h:SD X B st g):SDs X B [st] g:=Gz h
theorem Os(h1:SD X B st g)(h2:SDs X B aF h):SDs X B (st::aF) (seqS g h):=PSs.imp (CN h1 h2) λE U H q=>by
 obtain⟨G,I,Γ,f,af,r,e1,k⟩:=q;obtain⟨f1,ac,e2,e3⟩:=lX e1;refine⟨G,I,Γ,f1,ac,r,e2,λbY H1 I1 r1 g1=>?_⟩;cases f1 with
 | nx=>exact⟨G,I1,ac,f,af,r1,e3,k.after g1⟩
 | bk=>cases e3;exact k bY H1 I1 r1 g1
 | ct=>cases e3;exact k bY H1 I1 r1 g1
 | rt v=>cases e3;exact k bY H1 I1 r1 g1
theorem vQ:SD X B st (λ_=>none):=PS.imp Jv λE U H q=>by
 obtain⟨G,I,Γ,f,af,r,e1,k⟩:=q;cases e1
noncomputable def dropS(g:M D):M Fl:=bnd g λ_=>ret .nx
theorem Ch(he:ED X B e ga)(hs:Uy e none pos.line X.env=pure false:=by rfl):SD X B (.Expr e pos) (dropS ga):=PS.imp (AJ he hs) λE U H q=>by
 obtain⟨G,I,Γ,f,af,r,e1,k⟩:=q;obtain⟨d1,ac,e2,e3⟩:=lX e1;cases e3;exact⟨G,I,Γ,d1,_,r,e2,λv H1 I1 r1 g1 h1=>k U H1 I1 r1 g1⟩
noncomputable def retS(g:M D):M Fl:=bnd g λd=>ret (.rt (.val d))
theorem tE(he:ED X B e ga):SD X B (.Return (some e) pos) (retS ga):=PS.imp (AI he) λE U H q=>by
 obtain⟨G,I,Γ,f,af,r,e1,k⟩:=q;obtain⟨d1,ac,e2,e3⟩:=lX e1;cases e3;exact⟨G,I,Γ,d1,_,r,e2,λv H1 I1 r1 g1 h1=>k U H1 I1 r1 g1 v h1⟩
noncomputable def retO(g:M (List D)):M Fl:=bnd g λd=>ret (.rt (.own d))
theorem wS{g:M (List D)}(he:EO X B e g):SD X B (.Return (some e) pos) (retO g):=PS.imp (AI he) λE U H q=>by
 obtain⟨G,I,Γ,f,af,r,e1,k⟩:=q;obtain⟨d1,ac,e2,e3⟩:=lX e1;cases e3;exact⟨G,I,Γ,d1,_,r,e2,λp xs H1 I1 r1 g1 h1 h2 h3 h4 h5=>k U H1 I1 r1 g1 _ ⟨p,xs,rfl,h1,h2,h3,h4,h5⟩⟩
noncomputable def ifS(c:M Bool)(a b:M Fl):M Fl:=bnd c λk=>if k then a else b
theorem PB{tc:M Bool}(hc:TD X B c tc)(ha:SDs X B sa g)(hb:SDs X B sb h):SD X B (.If c sa sb pos) (ifS tc g h):=PS.imp (Ej hc ha hb) λE U H q=>by
 obtain⟨G,I,Γ,f,af,r,e1,k⟩:=q;obtain⟨d1,ac,e2,e3⟩:=lX e1;refine⟨G,I,Γ,d1,ac,r,e2,λH1 I1 r1 g1=>?_⟩;cases d1 with
 | true=>exact iteT ⟨G,I1,ac,f,af,r1,e3,k.after g1⟩
 | false=>exact iteF ⟨G,I1,ac,f,af,r1,e3,k.after g1⟩
noncomputable def putS(i:Nat)(q:R):M Unit:=λΓ=>if i < Γ.length then some ((),Γ.set i (some q)) else none
noncomputable def tgN(i:Nat)(d:D):M Unit:=putS i (.val d)
theorem wK{q:R}{u:Unit}(h:putS i q Γ=some (u,af)):i < Γ.length/\af=Γ.set i (some q):=by
 unfold putS at h;obtain⟨h1,h2⟩:=tZ h;cases h2;exact⟨h1,rfl⟩
theorem Df{α:Type}:∀{l:List α}{i m:Nat}{a:α},i < m->(l.set i a).drop m=l.drop m
 | [],_,_,_,_=>rfl
 | _::_,0,m+1,_,_=>rfl
 | _::r,i+1,m+1,a,h=>by
  rw[List.set_cons_succ,Wn,Wn];exact Df (Nat.lt_of_succ_lt_succ h)
theorem gd_n{x:Str}(hN:X.N.Nodup)(hi:X.N[i]?=some x:=by rfl)(hx:locB X.env.scope x=true:=by rfl)(hf:fnB X x=true:=by rfl)(oW:i < m:=by decide):GD X B m (.Name x pos) (tgN i):=
 PG.imp (O0 hN hi (locI hx) (fnI hf)) λv U H Q q=>by
  obtain⟨G,I,Γ,d,af,r,hd,e1,k⟩:=q;obtain⟨hl,rfl⟩:=wK e1;exact k _ _ I (r.store (by rw[r.len];exact hl) hd (λm=>nomatch m) (λ_ z=>nomatch z)) (Grow.refl _ _) (Df oW)
noncomputable def tgNil(ds:List D):M Unit:=match ds with
 | []=>ret ()
 | _=>λ_=>none
noncomputable def tgCons(f:D->M Unit)(t:List D->M Unit)(ds:List D):M Unit:=match ds with
 | d::r=>bnd (f d) λ_=>t r
 | []=>λ_=>none
theorem vp:GDs X B m [] tgNil:=PGs.imp JR λv U H Q q=>by
 obtain⟨G,I,Γ,ds,af,r,hd,e1,k⟩:=q;cases ds with
 | nil=>cases e1;exact⟨hd.nil_inv,k _ _ I r (Grow.refl _ _) rfl⟩
 | cons d t=>cases e1
theorem uA{f:D->M Unit}{t:List D->M Unit}(h1:GD X B m e f)(h2:GDs X B m es t)(hs:(Ut (e::es) X.env).map (·.2)=We e X.env::(Ut es X.env).map (·.2):=by rfl):GDs X B m (e::es) (tgCons f t):=PGs.imp (Ni h1 h2 hs) λv U H Q q=>by
 obtain⟨G,I,Γ,ds,af,r,hd,e1,k⟩:=q;cases ds with
 | nil=>cases e1
 | cons d t =>
  obtain⟨x,xs,rfl,h1,h2⟩:=hd.cons_inv;obtain⟨u,ac,e2,e3⟩:=lX e1;exact⟨x,xs,rfl,G,I,Γ,d,ac,r,h1,e2,λbY H1 I1 r1 g1 z=>⟨G,I1,ac,t,af,r1,h2.mono g1.up,e3,k.after g1 z⟩⟩
noncomputable def tgTup(n:Nat)(t:List D->M Unit)(d:D):M Unit:=match d with
 | .tup ds=>if ds.length=n then t ds else λ_=>none
 | _=>λ_=>none
theorem vj{t:List D->M Unit}(hc:X.calm=true)(h:GDs X B m es t)(hn:(Ut es X.env).length=n:=by rfl)(jX:(Ut es X.env).findIdx? (·.1)=none:=by rfl):GD X B m (.Tuple es k pos) (tgTup n t):=
 PG.imp (HK hc h hn jX) λv U H Q q=>by
  obtain⟨G,I,Γ,d,af,r,hd,e1,k⟩:=q;cases d with
  | tup ds =>
   obtain⟨a,xs,rfl,h1,h2⟩:=tR hd;unfold tgTup at e1;by_cases hl:ds.length=n
   ·simp only[hl,if_true] at e1;exact⟨a,xs,rfl,Same.sqT r.iH h1,by rw[←h2.length];exact hl,G,I,Γ,ds,af,r,h2,e1,k⟩
   ·simp only[hl,if_false] at e1;cases e1
  | _=>cases e1
noncomputable def asgS(g:M D)(f:D->M Unit):M Fl:=bnd g λd=>bnd (f d) λ_=>ret .nx
theorem Ih{f:D->M Unit}(he:ED X B e ga)(hg:GD X B m tg f)(hs:Yg [tg] e pos.line X.env=pure false:=by rfl)(hw:Yh [tg] e X.env=pure none:=by rfl)(h1:(Ut [tg] X.env).map (·.2)=[We tg X.env]:=by rfl):SD X B (.Assign [tg] e pos) (asgS ga f):=PS.imp (Dw he hg hs hw h1) λE U H q=>by
 obtain⟨G,I,Γ,f,af,r,e1,k⟩:=q;obtain⟨d1,ac,e2,e3⟩:=lX e1;obtain⟨d2,ai,e4,e5⟩:=lX e3;cases e5;exact⟨G,I,Γ,d1,ac,r,e2,λv H1 I1 r1 g1 h1=>⟨G,I1,ac,d1,_,r1,h1,e4,λaR H2 I2 r2 g2 _=>k aR H2 I2 r2 (g1.trans g2)⟩⟩
noncomputable def setV(i:Nat)(g:M D):M Fl:=bnd g λd=>bnd (putS i (.val d)) λ_=>ret .nx
noncomputable def setO(i:Nat)(g:M (List D)):M Fl:=bnd g λd=>bnd (putS i (.own d)) λ_=>ret .nx
theorem LZ{K:PySem.W.Frag}:∀E U H,tS K B (setV i ga) E U H->tAsg (tD K B ga) (gName i) E U H:=λE U H q=>by
 obtain⟨G,I,Γ,f,af,r,e1,k⟩:=q;obtain⟨d1,ac,e2,e3⟩:=lX e1;obtain⟨d2,ai,e4,e5⟩:=lX e3;cases e5;obtain⟨hl,rfl⟩:=wK e4;exact⟨G,I,Γ,d1,ac,r,e2,λv H1 I1 r1 g1 h1=>k _ H1 I1 (r1.store (by rw[r1.len];exact hl) h1 (λm=>nomatch m) (λ_ z=>nomatch z)) g1⟩
theorem Ip{K:PySem.W.Frag}{g:M (List D)}:∀E U H,tS K B (setO i g) E U H->tAsg (tO K B g) (gName i) E U H:=λE U H q=>by
 obtain⟨G,I,Γ,f,af,r,e1,k⟩:=q;obtain⟨d1,ac,e2,e3⟩:=lX e1;obtain⟨d2,ai,e4,e5⟩:=lX e3;cases e5;obtain⟨hl,rfl⟩:=wK e4;exact⟨G,I,Γ,d1,ac,r,e2,λp xs H1 I1 r1 g1 h1 h2 h3 h4 h5=>k _ H1 I1 (r1.store (by rw[r1.len];exact hl) ⟨p,xs,rfl,h1,h2,h3,h5⟩ (λ_ p' z=>by cases z;exact h4) (λ_ z=>nomatch z)) g1⟩
theorem Gb{x:Str}(hN:X.N.Nodup)(he:ED X B e ga)(hi:X.N[i]?=some x:=by rfl)(hx:locB X.env.scope x=true:=by rfl)(hs:Uy e (some (.Name x aP)) pos.line X.env=pure false:=by rfl)(hf:fnB X x=true:=by rfl):SD X B (.Assign [.Name x aP] e pos) (setV i ga):=PS.imp (CB hN hi (locI hx) he hs (fnI hf)) LZ
theorem NB{x:Str}{g:M (List D)}(hN:X.N.Nodup)(he:EO X B e g)(hi:X.N[i]?=some x:=by rfl)(hx:locB X.env.scope x=true:=by rfl)(hs:Uy e (some (.Name x aP)) pos.line X.env=pure false:=by rfl)(hf:fnB X x=true:=by rfl):SD X B (.Assign [.Name x aP] e pos) (setO i g):=PS.imp (CB hN hi (locI hx) he hs (fnI hf)) Ip
noncomputable def isMut(Γ:Gm)(i:Nat):Bool:=match Γ[i]? with
 | some (some r)=>r.mut
 | _=>false
noncomputable def wr(i:Nat)(F:List D->Option (List D)):M Unit:=λΓ=>match Γ[i]? with
 | some (some (.own ds))=>match F ds with
  | some es=>some ((),Γ.set i (some (.own es)))
  | none=>none
 | some (some (.bor ds))=>match F ds with
  | some es=>some ((),Γ.set i (some (.bor es)))
  | none=>none
 | _=>none
theorem xC{K:PySem.W.Frag}{H:Hp}(h:isMut Γ i=true)(r:Rep K B G I H U Γ):∃p xs,U[i]?=some (some (.ref p))/\H p=some (.lst xs):=by
 unfold isMut at h;cases e:Γ[i]? with
 | none=>rw[e] at h;cases h
 | some o =>
  cases o with
  | none=>rw[e] at h;cases h
  | some q =>
   rw[e] at h;obtain⟨v,h1,h2⟩:=r.slot i q e;cases q with
   | val d=>cases h
   | fro d=>cases h
   | dic d=>cases h
   | own d=>obtain⟨p,xs,rfl,h3,_⟩:=h2;exact⟨p,xs,h1,h3⟩
   | bor d=>obtain⟨p,xs,rfl,h3,_⟩:=h2;exact⟨p,xs,h1,h3⟩
theorem Bi{K:PySem.W.Frag}{H:Hp}{F:List D->Option (List D)}{u:Unit}(h:wr i F Γ=some (u,af))(r:Rep K B G I H U Γ):
  ∃p xs ds es,U[i]?=some (some (.ref p))/\H p=some (.lst xs)/\IsA K I ds xs/\F ds=some es/\∀ys,IsA K I es ys->Rep K B G I (upd H p (.lst ys)) U af:=by
 unfold wr at h;cases e:Γ[i]? with
 | none=>rw[e] at h;cases h
 | some o =>
  cases o with
  | none=>rw[e] at h;cases h
  | some q =>
   obtain⟨v,h1,h2⟩:=r.slot i q e;cases q with
   | val d=>rw[e] at h;cases h
   | fro d=>rw[e] at h;cases h
   | dic d=>rw[e] at h;cases h
   | own ds =>
    rw[e] at h;obtain⟨p,xs,rfl,g1,g2,g3,g4⟩:=h2;cases hf:F ds with
    | none=>simp only[hf] at h;cases h
    | some es =>
     simp only[hf] at h;cases h;exact⟨p,xs,ds,es,h1,g1,g4,hf,λys hy=>r.write e rfl h1 g1 (.inl rfl) hy⟩
   | bor ds =>
    rw[e] at h;obtain⟨p,xs,rfl,g1,g2,g3,g4⟩:=h2;cases hf:F ds with
    | none=>simp only[hf] at h;cases h
    | some es =>
     simp only[hf] at h;cases h;exact⟨p,xs,ds,es,h1,g1,g4,hf,λys hy=>r.write e rfl h1 g1 (.inr ⟨rfl,ds,rfl⟩) hy⟩
noncomputable def mutS{α:Type}(i:Nat)(m:M α):M α:=λΓ=>if isMut Γ i then m Γ else none
theorem wP{α:Type}{m:M α}{r:α×Gm}(h:mutS i m Γ=some r):isMut Γ i=true/\m Γ=some r:=by
 unfold mutS at h;by_cases hc:isMut Γ i=true
 ·rw[if_pos hc] at h;exact⟨hc,h⟩
 ·rw[if_neg hc] at h;cases h
noncomputable def appF(d:D)(ds:List D):Option (List D):=if ds.length < lim then some (ds++[d]) else none
noncomputable def appS(i:Nat)(g:M D):M Fl:=mutS i (bnd g λd=>bnd (wr i (appF d)) λ_=>ret .nx)
theorem Hr{H:Hp}{s:c_}(I:Inv X aa U H s)(hH:RdK X.K H l xs):xs.length<=z_/\∃(ag:List b_) (n:Nat),Vals xs ag/\xs.length=ag.length/\s.heap.get? l=some { cls:=.type "list", data:=.seq ag.toArray n }:=by
 rcases hH with hH | ⟨ag,n,h1,h2,h3⟩
 ·obtain⟨z,ag,n,r,e⟩:=hH.ok I.hok;exact⟨z,ag,n,r,r.length,e⟩
 ·exact⟨by rw[h2.length];exact h3,ag,n,h2,h2.length,I.kIn l _ h1⟩
theorem v6{x:Str}(hv:PE X (.Name x p1) (tVar i))(ha:ED X B e ga)(hs:Uy (.Call (.Attribute (.Name x p1) "append" aT) [e] [] aC) none pos.line X.env=pure false:=by rfl)(iI:d_ [e] X.env=(false,eval e X.env)::d_ [] X.env:=by rfl)(bt:UQ (.Name x p1) "append" X.env (eval (.Name x p1) X.env)=eval (.Name x p1) X.env:=by rfl)(bS:((J_ aC (d_ [e] X.env)).all (λx=>!x.1)&&(WW aC (Vk [] X.env)).all (λx=>x.1.isSome)
   &&decide ([e].length+([]:List U4).length+(if([]:List U4).isEmpty then 0 else 1) < 30))=true:=by rfl)(bu:(aT.endLine == aC.line)=true:=by rfl)(aX:(J_ aC (d_ [] X.env)).any (·.1)=false:=by rfl):
  SD X B (.Expr (.Call (.Attribute (.Name x p1) "append" aT) [e] [] aC) pos) (appS i ga):=
 PS.imp (AJ (wt Xl PySem.F.slot_list_append PySem.F.type_list_append FL hv (uU ha wB iI) bt bS bu iI aX) hs) λE U H q=>by
  obtain⟨G,I,Γ,f,af,r,e1,k⟩:=q;obtain⟨hm,e1⟩:=wP e1;obtain⟨d1,ac,e2,e3⟩:=lX e1;obtain⟨d2,ai,e4,e5⟩:=lX e3;cases e5;obtain⟨p,xs,h1,h2⟩:=xC hm r;refine⟨_,h1,.inl ⟨rfl,xs,SqL.of h2⟩,G,I,Γ,d1,ac,r,e2,λv H1 I1 r1 g1 hd=>?_⟩;obtain⟨p',cf,ds,es,h3,h4,h5,h6,h7⟩:=Bi e4 r1;have hp:p'=p:=by rw[h1] at h3;cases h3;rfl
  subst hp;obtain⟨hl,rfl⟩:=tZ h6;refine⟨p',cf,v,rfl,rfl,h4,?_,k U _ I1 (h7 _ (IsA.append h5 (IsA.cons hd IsA.nil))) g1⟩;rw[←h5.length];exact E_ hl (vF (r_ _))
noncomputable def asI(d:D):Option Int:=match d with
 | .int i=>some i
 | _=>none
theorem Ea{d:D}{i:Int}(h:asI d=some i):d=.int i:=by
 cases d<;>simp[asI] at h
 rw[h]
noncomputable def stF(k:Int)(d:D)(ds:List D):Option (List D):=(ixN ds.length k).map λj=>ds.set j d
noncomputable def stS(i:Nat)(gi gv:M D):M Fl:=bnd gv λd=>mutS i (bnd gi λn=>bnd (lft (asI n)) λk=>bnd (wr i (stF k d)) λ_=>ret .nx)
theorem yf{x:Str}{gi:M D}(hv:PE X (.Name x p1) (tVar i))(hi:ED X B ie gi)(he:ED X B e ga)(ha:∀v,We (.Subscript (.Name x p1) ie p2) X.env v=(do
   let ov ←WB [v] (eval (.Name x p1) X.env)
   let iv ←WB [v,ov] (eval ie X.env)
   Zy p2
   WB [v,ov,iv] (setItem ov iv v)
   release [v,ov,iv] []):=by intros;rfl)(hs:Yg [.Subscript (.Name x p1) ie p2] e pos.line X.env=pure false:=by rfl)(hw:Yh [.Subscript (.Name x p1) ie p2] e X.env=pure none:=by rfl)(h1:(Ut [.Subscript (.Name x p1) ie p2] X.env).map (·.2)=[We (.Subscript (.Name x p1) ie p2) X.env]:=by rfl):
  SD X B (.Assign [.Subscript (.Name x p1) ie p2] e pos) (stS i gi ga):=PS.imp (Dw he (NO hv hi IH ha) hs hw h1) λE U H q=>by
 obtain⟨G,I,Γ,f,af,r,e1,k⟩:=q;obtain⟨d,ac,e2,e3⟩:=lX e1;obtain⟨hm,e3⟩:=wP e3;obtain⟨n,ai,e4,e5⟩:=lX e3;obtain⟨z,aL,e6,e7⟩:=lX e5;obtain⟨e8,rfl⟩:=tN e6;obtain⟨u,aN,f1,f2⟩:=lX e7;cases f2;have:=Ea e8;subst this;refine⟨G,I,Γ,d,ac,r,e2,λv H1 I1 r1 g1 hd=>?_⟩;obtain⟨p,xs,h1,h2⟩:=xC hm r1;refine⟨_,h1,G,I1,ac,_,_,r1,e4,λw H2 I2 r2 g2 hw=>?_⟩;obtain⟨p',cf,ds,es,h3,h4,h5,h6,h7⟩:=Bi f1 r2;have hp:p'=p:=by rw[h1] at h3;cases h3;rfl
 subst hp;unfold stF at h6;cases hj:ixN ds.length z with
 | none=>rw[hj] at h6;cases h6
 | some j =>
  rw[hj] at h6;cases h6;exact⟨p',cf,z,j,rfl,tJ hw,h4,by rw[←h5.length];exact hj,k U _ I2 (h7 _ (IsA.set (hd.mono g2.up) j h5)) (g1.trans g2)⟩
def Yields(K:PySem.W.Frag)(I:Hp)(ds:List D)(J:It):Prop:=∀(i:Nat) (H1:Hp),Same I H1 →
 (∀d,ds[i]?=some d->J.go i H1/\∀x H2,J.yld i H1 x H2->(H2=H1/\Is K I d x)\/(∃p es xs,d=.tup es/\x=.ref p/\H1 p=none/\H2=upd H1 p (.tup xs)/\IsA K I es xs))/\(ds.length<=i->J.stop i H1)
noncomputable def tI(K:PySem.W.Frag)(B:BB)(g:M (List D)):TI:=λU H R=>∃G I Γ ds af,Rep K B G I H U Γ/\g Γ=some (ds,af)/\∀J H' I',Rep K B G I' H' U af->Grow G I I'->Yields K I' ds J->R J H'
def ITD(X:Cx)(B:BB)(tg iter:D_)(g:M (List D)):Prop:=PI X tg iter (tI X.K B g)
theorem MI{l:D_}(hl:PE X l tl):PI X tg l (λU H R=>tl U H λx H1=>(∃a,x=.ref a/\(∃xs,SqL X.K H1 a xs)/\R (Itl X.K a) H1)\/(∃a,x=.ref a/\(∃xs,SqT X.K H1 a xs)/\R (Itt X.K a) H1)):=by
 intro aa s U H R I h;refine thn (hl aa s U H _ I h) λv s1 ⟨x,H1,I1,r1,q1⟩=>?_
 rcases q1 with⟨a,e,⟨xs,hq⟩,q⟩ | ⟨a,e,⟨xs,hq⟩,q⟩
 ·subst e;cases r1;obtain⟨ag,rv,p,hz⟩:=I1.list hq;refine UV p.isList ?_;refine⟨s1.heap.objs.size,[s1.heap.objs.size],_,_,H1,rfl,I1.kept (t':=s1.toks) λb o e=>e_ _ e,KF a _,⟨_,s_ _ rfl,rfl,rfl⟩,λb hb=>?_,q⟩;have e:b=s1.heap.objs.size:=by simpa using hb
  subst e;exact I1.fpOk (r_ _) (I1.hok.fresh (r_ _))
 ·subst e;cases r1;obtain⟨ag,rv,p,hz⟩:=I1.tuple hq;refine UM (show s1.heap.IsTuple a ag.toArray from p) ?_;refine⟨s1.heap.objs.size,[s1.heap.objs.size],_,_,H1,rfl,I1.kept (t':=s1.toks) λb o e=>e_ _ e,N8 a _,⟨_,s_ _ rfl,rfl,rfl⟩,λb hb=>?_,q⟩;have e:b=s1.heap.objs.size:=by simpa using hb
  subst e;exact I1.fpOk (r_ _) (I1.hok.fresh (r_ _))
noncomputable def seqI(d:D):Option (List D):=match d with
 | .lst ds=>some ds
 | .tup ds=>some ds
 | _=>none
noncomputable def itS(g:M D):M (List D):=bnd g λd=>lft (seqI d)
theorem t4(ha:ED X B a ga):ITD X B tg a (itS ga):=PI.imp (MI ha) λU H R q=>by
 obtain⟨G,I,Γ,ds,af,r,e1,k⟩:=q;obtain⟨d,ac,e2,e3⟩:=lX e1;obtain⟨e4,rfl⟩:=tN e3;refine⟨G,I,Γ,d,_,r,e2,λv H1 I1 r1 g1 hd=>?_⟩;cases d with
 | lst es =>
  cases e4;obtain⟨l,xs,rfl,h1,h2⟩:=tW hd;refine .inl ⟨l,rfl,⟨xs,(Same.rdK r1.iH h1).sq⟩,k _ _ _ r1 g1 λi H2 s2=>⟨λd hd=>?_,λhi=>⟨xs,(Same.rdK s2 h1).sq,by rw[←h2.length];exact hi⟩⟩⟩;obtain⟨x,e5,e6⟩:=h2.get hd;refine⟨⟨xs,x,(Same.rdK s2 h1).sq,e5⟩,λy H3 hy=>.inl ⟨hy.1,?_⟩⟩;have:=hy.2 xs ((Same.rdK s2 h1).sq);rw[e5] at this;cases this;exact e6
 | tup es =>
  cases e4;obtain⟨l,xs,rfl,h1,h2⟩:=tR hd;refine .inr ⟨l,rfl,⟨xs,Same.sqT r1.iH h1⟩,k _ _ _ r1 g1 λi H2 s2=>⟨λd hd=>?_,λhi=>⟨xs,Same.sqT s2 h1,by rw[←h2.length];exact hi⟩⟩⟩;obtain⟨x,e5,e6⟩:=h2.get hd;refine⟨⟨xs,x,Same.sqT s2 h1,e5⟩,λy H3 hy=>.inl ⟨hy.1,?_⟩⟩;have:=hy.2 xs (Same.sqT s2 h1);rw[e5] at this;cases this;exact e6
 | _=>cases e4
noncomputable def rngD(lo:Int)(n:Nat):List D:=(Ur n).map λ(k:Nat)=>D.int (lo+(k:Int))
theorem Hz{K:PySem.W.Frag}(lo:Int)(n:Nat):Yields K I (rngD lo n) (Itr lo n):=λi H1 s1=>by
 refine⟨λd hd=>?_,λhi=>?_⟩
 ·unfold rngD at hd;rw[Tp] at hd;cases e:(Ur n)[i]? with
  | none=>rw[e] at hd;cases hd
  | some j =>
   rw[e] at hd;cases hd;obtain⟨h1,h2⟩:=x_.mp e;rw[Wo] at h2;rw[Xe] at h1;subst h2;refine⟨h1,λx H2 hy=>.inl ⟨hy.1,?_⟩⟩;rw[hy.2];exact Is.int _
 ·unfold rngD at hi;rw[y_,Xe] at hi;exact hi
noncomputable def rngI1(ds:List D):Option (List D):=match ds with
 | [.int j]=>if -1000000<=j/\j<=1000000 then some (rngD 0 j.toNat) else none
 | _=>none
noncomputable def rngI2(ds:List D):Option (List D):=match ds with
 | [.int i,.int j]=>if(-1000000<=i/\i<=1000000)/\-1000000<=j/\j<=1000000 then some (rngD i (j - i).toNat) else none
 | _=>none
theorem Ol{es:List D}(h:rngI1 ds=some es):∃j:Int,ds=[.int j]/\(-1000000<=j/\j<=1000000)/\es=rngD 0 j.toNat:=by
 unfold rngI1 at h;split at h
 ·obtain⟨h1,h2⟩:=tZ h;exact⟨_,rfl,h1,h2⟩
 ·cases h
theorem Lq{es:List D}(h:rngI2 ds=some es):∃i j:Int,ds=[.int i,.int j]/\((-1000000<=i/\i<=1000000)/\-1000000<=j/\j<=1000000)/\es=rngD i (j - i).toNat:=by
 unfold rngI2 at h;split at h
 ·obtain⟨h1,h2⟩:=tZ h;exact⟨_,_,rfl,h1,h2⟩
 ·cases h
theorem vN{p:Pos}{t:M (List D)}(hg:Gl X "range")(hm:X.mg "range"=none)(ha:AD X B [a] t)(hs:d_ [a] X.env=[(false,eval a X.env)]:=by rfl):ITD X B tg (.Call (.Name "range" p) [a] [] pos) (fn1 rngI1 t):=
 PI.imp (K9 hg hm ha hs) λU H R q=>by
  obtain⟨G,I,Γ,ds,af,r,e1,k⟩:=q;obtain⟨d,ac,e2,e3⟩:=lX e1;obtain⟨e4,rfl⟩:=tN e3;obtain⟨j,rfl,⟨h1,h2⟩,rfl⟩:=Ol e4;refine⟨G,I,Γ,_,_,r,e2,λvs H1 I1 r1 g1 hd=>?_⟩;obtain⟨x,rfl,hx⟩:=hd.one;exact⟨j,by rw[tJ hx],by omega,by omega,k _ _ _ r1 g1 (Hz _ _)⟩
theorem Db{p:Pos}{t:M (List D)}(hg:Gl X "range")(hm:X.mg "range"=none)(ha:AD X B [a,b] t)(hs:d_ [a,b] X.env=[(false,eval a X.env),(false,eval b X.env)]:=by rfl)(dN:d_ [b] X.env=[(false,eval b X.env)]:=by rfl):
  ITD X B tg (.Call (.Name "range" p) [a,b] [] pos) (fn1 rngI2 t):=
 PI.imp (O8 hg hm ha hs dN) λU H R q=>by
  obtain⟨G,I,Γ,ds,af,r,e1,k⟩:=q;obtain⟨d,ac,e2,e3⟩:=lX e1;obtain⟨e4,rfl⟩:=tN e3;obtain⟨i,j,rfl,h1,rfl⟩:=Lq e4;refine⟨G,I,Γ,_,_,r,e2,λvs H1 I1 r1 g1 hd=>?_⟩;obtain⟨x,y,rfl,hx,hy⟩:=hd.two;exact⟨i,j,by rw[tJ hx,tJ hy],by omega,k _ _ _ r1 g1 (Hz _ _)⟩
noncomputable def forM(aE:D->M Unit)(body:M Fl):List D->M Fl
 | []=>ret .nx
 | d::ds=>bnd (aE d) λ_=>bnd body λf=>match f with
  | .nx=>forM aE body ds
  | .ct=>forM aE body ds
  | .bk=>ret .nx
  | .rt r=>ret (.rt r)
noncomputable def forS(it:M (List D))(aE:D->M Unit)(body:M Fl):M Fl:=bnd it λds=>forM aE body ds
theorem Kt{iter:D_}{body:List Tr}{it:M (List D)}{aE:D->M Unit}(hp:WT (q_ X.prog X.w) X.A X.env X.xe)(hc:X.calm=true)(hi:ITD X B tg iter it)(hg:GD X B m tg aE)(hb:SDs X B body g)(hs:∀x,TV iter X.env x=pure x:=by intros;rfl):SD X B (.For tg iter body [] pos) (forS it aE g):=PS.imp (M3 hp hc hi hg hb hs) λE U H q=>by
 obtain⟨G,I,Γ,f,af,r,e1,k⟩:=q;obtain⟨ds,ac,e2,e3⟩:=lX e1;refine⟨G,I,Γ,ds,ac,r,e2,λJ H1 I1 r1 g1 y=>?_⟩;refine⟨λi m U H=>∃I2 ai,Rep X.K B G I2 H U ai/\Grow G I1 I2/\forM aE g (ds.drop i) ai=some (f,af)/\i<=ds.length/\m=ds.length - i,⟨ds.length,I1,ac,r1,Grow.refl _ _,by simpa using e3,Tz _,rfl⟩,?_⟩;rintro i m' aR H2 ⟨I2,ai,r2,g2,e4,bq,rfl⟩;obtain⟨yg,ys⟩:=y i H2 (g2.up.trans r2.iH);by_cases bD:i < ds.length
 ·have hd:ds.drop i=ds[i]::ds.drop (i+1):=Tx bD;obtain⟨go,yld⟩:=yg ds[i] (n_ bD);rw[hd] at e4;obtain⟨u,aL,e5,e6⟩:=lX e4;obtain⟨fl,aN,e7,e8⟩:=lX e6;refine .inr ⟨go,λam H'=>∃I3,Rep X.K B G I3 H' am aN/\Grow G I1 I3/\(fl=.nx\/fl=.ct),λam H' ⟨I3,r3,g3,hf⟩=>⟨ds.length - (i+1),by omega,I3,aN,r3,g3,?_,bD,rfl⟩,λx H3 hy=>?_⟩
  ·rcases hf with rfl | rfl<;>exact e8
  ·have me:∀I3,Rep X.K B G I3 H3 aR ai->Grow G I2 I3->Is X.K I3 ds[i] x->tGD X.K B m aE x aR H3 λaR H2=>tS X.K B g { E with nx:=λam H'=>∃I3,Rep X.K B G I3 H' am aN/\Grow G I1 I3/\(fl=.nx\/fl=.ct),ct:=λam H'=>∃I3,Rep X.K B G I3 H' am aN/\Grow G I1 I3/\(fl=.nx\/fl=.ct),bk:=E.nx } aR H2:=by
    intro I3 r3 g3 hx;refine⟨G,I3,ai,ds[i],aL,r3,hx,e5,λiJ H4 I4 r4 g4 _=>⟨G,I4,aL,fl,aN,r4,e7,λdD H5 I5 r5 g5=>?_⟩⟩;have gg:Grow G I1 I5:=g2.trans (g3.trans (g4.trans g5));cases fl with
    | nx=>exact⟨I5,r5,gg,.inl rfl⟩
    | ct=>exact⟨I5,r5,gg,.inr rfl⟩
    | bk=>cases e8;exact k dD H5 I5 r5 (g1.trans gg)
    | rt v=>cases e8;exact k dD H5 I5 r5 (g1.trans gg)
   rcases yld x H3 hy with⟨rfl,hx⟩ | ⟨p,es,xs,dB,rfl,dh,rfl,hx⟩
   ·exact me I2 r2 (Grow.refl _ _) (hx.mono g2.up)
   ·refine me _ (r2.alloc dh _) (r2.growAlloc dh _) ?_;rw[dB];exact Is.tup (SqT.of t6) ((hx.mono g2.up).mono (uu (r2.iFree dh) _))
 ·have cG:i=ds.length:=by omega
  subst cG;rw[List.drop_length] at e4;cases e4;exact .inl ⟨ys (r_ _),k aR H2 I2 r2 (g1.trans g2)⟩
end
noncomputable def fin:List R->Gm->Option (List R)
 | [],_=>some []
 | .val d::rs,_::Γ=>match fin rs Γ with
  | some l=>some (.val d::l)
  | none=>none
 | .bor _::rs,some (.bor ds)::Γ=>match fin rs Γ with
  | some l=>some (.bor ds::l)
  | none=>none
 | _,_=>none
noncomputable def flR:Fl->Option R
 | .rt r=>some r
 | .nx=>some (.val .non)
 | _=>none
noncomputable def fnD1(n:Nat)(body:M Fl)(rs:List R):Option (R×List R):=
 match body (rs.map some++P_ (n - rs.length) none) with
 | some (f,af)=>match flR f with
  | some r=>match fin rs af with
   | some l=>some (r,l)
   | none=>none
  | none=>none
 | none=>none
noncomputable def fnD(n ar:Nat)(body:M Fl)(rs:List R):Option (R×List R):=if rs.length=ar then fnD1 n body rs else none
noncomputable def noOwn:R->Bool
 | .own _=>false
 | _=>true
noncomputable def vB(vs:List V):BB:=λi=>(vs.map some)[i]?
noncomputable def spD(K:PySem.W.Frag)(g:List R->Option (R×List R)):Sp:=λvs H Q _=>∃(G I:Hp) (rs:List R) (r:R) (aQ:List R),Rep K (vB vs) G I H (vs.map some) (rs.map some)/\rs.all noOwn=true/\g rs=some (r,aQ) ∧
 ∀v H' I',Rep K (vB vs) G I' H' (vs.map some) (aQ.map some)->Grow G I I'->ResOk K G I' H' (vs.map some) (aQ.map some) r v->Q v H'
theorem Ao:∀{rs l:List R}{Γ:Gm},fin rs Γ=some l->l.length=rs.length/\∀(i:Nat) (r:R),l[i]?=some r->(∃d,r=.val d/\rs[i]?=some (.val d))\/(∃ds,r=.bor ds/\Γ[i]?=some (some (.bor ds)))
 | [],l,Γ,h=>by
  rw[fin] at h;cases h;exact⟨rfl,λi r e=>by simp at e⟩
 | .val d::rs,l,[],h=>by simp[fin] at h
 | .bor d::rs,l,[],h=>by simp[fin] at h
 | .own d::rs,l,Γ,h=>by cases Γ<;>simp[fin] at h
 | .fro d::rs,l,Γ,h=>by cases Γ<;>simp[fin] at h
 | .dic d::rs,l,Γ,h=>by cases Γ<;>simp[fin] at h
 | .val d::rs,l,o::Γ,h=>by
  rw[fin] at h;cases e:fin rs Γ with
  | none=>rw[e] at h;cases h
  | some l' =>
   rw[e] at h;cases h;obtain⟨h1,h2⟩:=Ao e;refine⟨by simp[h1],λi r er=>?_⟩;cases i with
   | zero=>simp at er;subst er;exact .inl ⟨d,rfl,rfl⟩
   | succ i =>
    rcases h2 i r (by simpa using er) with⟨d',e1,e2⟩ | ⟨ds,e1,e2⟩
    ·exact .inl ⟨d',e1,by simpa using e2⟩
    ·exact .inr ⟨ds,e1,by simpa using e2⟩
 | .bor d::rs,l,none::Γ,h=>by simp[fin] at h
 | .bor d::rs,l,some (.val x)::Γ,h=>by simp[fin] at h
 | .bor d::rs,l,some (.own x)::Γ,h=>by simp[fin] at h
 | .bor d::rs,l,some (.fro x)::Γ,h=>by simp[fin] at h
 | .bor d::rs,l,some (.dic x)::Γ,h=>by simp[fin] at h
 | .bor d::rs,l,some (.bor x)::Γ,h=>by
  rw[fin] at h;cases e:fin rs Γ with
  | none=>rw[e] at h;cases h
  | some l' =>
   rw[e] at h;cases h;obtain⟨h1,h2⟩:=Ao e;refine⟨by simp[h1],λi r er=>?_⟩;cases i with
   | zero=>simp at er;subst er;exact .inr ⟨x,rfl,rfl⟩
   | succ i =>
    rcases h2 i r (by simpa using er) with⟨d',e1,e2⟩ | ⟨ds,e1,e2⟩
    ·exact .inl ⟨d',e1,by simpa using e2⟩
    ·exact .inr ⟨ds,e1,by simpa using e2⟩
theorem getMap{α Y:Type}{f:α->Y}{l:List α}{b:Y}(h:(l.map f)[i]?=some b):∃a,l[i]?=some a/\b=f a:=by
 rw[Tp] at h;cases e:l[i]? with
 | none=>rw[e] at h;cases h
 | some a=>rw[e] at h;exact⟨a,rfl,(Tn h).symm⟩
theorem wk{α:Type}{l:List α}{a:α}(h:(l.map some++P_ n (none:Option α))[i]?=some (some a)):l[i]?=some a:=by
 by_cases hi:i < (l.map some).length
 ·rw[T_ hi] at h;obtain⟨b,e1,e2⟩:=getMap h;cases e2;exact e1
 ·rw[Uf (by omega),UD] at h;split at h<;>cases h
section
variable{P:v_}{w:F_}{K:PySem.W.Frag}
theorem tM{x:Str}{st:Tr}{f:g_}(F:Fun K x qual st f fd)(S:FnScope N ps (defScope st))(g:M Fl)(hb:∀(aA:b_) (A:Uh) (outer:List Env) (s:c_) (H:Hp) (E:XK) (B:BB),Room k (A.deeper (VZ qual (defScope st) s.heap.objs.size f aA)) →
   SDs (cxOf CX0 P w K mg base N qual (defScope st) f aA A outer s H E).nox B (defBody st) g):FnOk P w K mg base CX0 (k+1) f fd ps (spD K (fnD N.length ps.length g)):=by
 refine F.ok S (λvs H Q E h=>?_) (λaA A outer s H vs Q E hr h=>?_)
 ·obtain⟨_,_,rs,_,_,h1,_,h2,_⟩:=h;unfold fnD at h2;by_cases hc:rs.length=ps.length
  ·rw[←hc];simpa using h1.len
  ·rw[if_neg hc] at h2;cases h2
 ·obtain⟨G,I,rs,r,aQ,h2,h3,h4,h5⟩:=h;have hl:vs.length=rs.length:=by simpa using h2.len
  refine⟨_,hb aA A outer s H E (λi=>(L2.start N vs)[i]?) hr,?_⟩;unfold fnD at h4
  have hc:rs.length=ps.length:=by
   by_cases hc:rs.length=ps.length
   ·exact hc
   ·rw[if_neg hc] at h4;cases h4
  rw[if_pos hc] at h4;unfold fnD1 at h4;cases e1:g (rs.map some++P_ (N.length - rs.length) none) with
  | none=>rw[e1] at h4;cases h4
  | some q =>
   obtain⟨fl,af⟩:=q;rw[e1] at h4;dsimp only at h4;cases e2:flR fl with
   | none=>rw[e2] at h4;cases h4
   | some rr =>
    rw[e2] at h4;dsimp only at h4;cases e3:fin rs af with
    | none=>rw[e3] at h4;cases h4
    | some l =>
     rw[e3] at h4;obtain⟨rfl,rfl⟩:rr=r/\l=aQ:=by cases h4;exact⟨rfl,rfl⟩
     have iK:∀{i:Nat}{v:V},vs[i]?=some v->(L2.start N vs)[i]?=some (some v):=λ{i v} e=>by
      unfold L2.start;rw[T_ (by rw[y_];exact(x_.mp e).1),Tp,e];rfl
     have ka:∀{i:Nat}{v:V},(L2.start N vs)[i]?=some (some v)->vs[i]?=some v:=λ{i v} e=>wk e
     have mf:Rep K (λi=>(L2.start N vs)[i]?) G I H (L2.start N vs) (rs.map some++P_ (N.length - rs.length) none):={
      iH:=h2.iH,gH:=h2.gH
      len:=by unfold L2.start;rw[R_,R_,y_,y_,M_,M_,hl]
      slot:=λi q e=>by
       have e':=wk e;obtain⟨v,e4,e5⟩:=h2.slot i q (by rw[Tp,e'];rfl);obtain⟨v',e6,e7⟩:=getMap e4;cases e7;exact⟨v,iK e6,e5⟩
      dist:=λi j q q' v e e' m m' s1 s2=>h2.dist i j q q' v (by rw[Tp,wk e];rfl) (by rw[Tp,wk e'];rfl) m m' (by rw[Tp,ka s1];rfl) (by rw[Tp,ka s2];rfl)
      bor:=λi ds e=>rfl }
     obtain⟨f1,f2⟩:=Ao e3
     -- behind the body
     have back:∀{am:L2.St}{H' I':Hp},Rep K (λi=>(L2.start N vs)[i]?) G I' H' am af->Grow G I I'->Rep K (vB vs) G I' H' (vs.map some) (l.map some):=λ{am H' I'} r' g'=>{
      iH:=r'.iH,gH:=r'.gH
      len:=by rw[y_,y_,f1,hl]
      slot:=λi q e=>by
       obtain⟨q',e4,e5⟩:=getMap e;cases e5
       rcases f2 i q e4 with⟨d,rfl,e6⟩ | ⟨ds,rfl,e6⟩
       ·obtain⟨v,e7,e8⟩:=h2.slot i (.val d) (by rw[Tp,e6];rfl);exact⟨v,e7,Is.mono g'.up e8⟩
       ·obtain⟨v,e7,e8⟩:=r'.slot i _ e6;have e9:=r'.bor i ds e6;rw[e7] at e9;exact⟨v,by rw[Tp,ka e9.symm];rfl,e8⟩
      dist:=λi j q q' v e e' m m' s1 s2=>by
       obtain⟨_,e4,e5⟩:=getMap e;cases e5;obtain⟨_,e6,e7⟩:=getMap e';cases e7
       rcases f2 i q e4 with⟨d,rfl,_⟩ | ⟨ds,rfl,e8⟩
       ·cases m
       rcases f2 j q' e6 with⟨d,rfl,_⟩ | ⟨cH,rfl,e9⟩
       ·cases m'
       obtain⟨v1,a1,_⟩:=getMap s1;obtain⟨v2,a2,a3⟩:=getMap s2;have b1:=r'.bor i ds e8;have b2:=r'.bor j cH e9;rename_i b3;cases b3;cases a3;rw[iK a1] at b1;rw[iK a2] at b2;exact r'.dist i j _ _ v e8 e9 rfl rfl b1 b2
      bor:=λi ds e=>rfl }
     have ap:∀{am:L2.St}{H' I':Hp}{p:g_},Rep K (λi=>(L2.start N vs)[i]?) G I' H' am af->Apart am af p->Apart (vs.map some) (l.map some) p:=λ{am H' I' p} r' a i q e m z=>by
      obtain⟨_,e4,e5⟩:=getMap e;cases e5
      rcases f2 i q e4 with⟨d,rfl,_⟩ | ⟨ds,rfl,e8⟩
      ·cases m
      obtain⟨v1,a1,a2⟩:=getMap z;cases a2;exact a i _ e8 rfl ((r'.bor i ds e8).trans (iK a1))
     refine⟨G,I,_,fl,af,mf,e1,λam H' I' r' g'=>?_⟩;cases fl with
     | nx=>cases e2;exact h5 _ H' I' (back r' g') g' (show Is K I' D.non V.non from Is.non)
     | bk=>cases e2
     | ct=>cases e2
     | rt r0 =>
      cases e2;intro v hv;refine h5 v H' I' (back r' g') g' ?_;cases rr with
      | val d=>exact hv
      | bor d=>exact hv
      | fro d=>exact hv
      | dic d =>
       obtain⟨p,xs,b1,b2,b3,b4,b5,b6⟩:=hv;exact⟨p,xs,b1,b2,b3,b4,ap r' b5,b6⟩
      | own d =>
       obtain⟨p,xs,b1,b2,b3,b4,b5,b6⟩:=hv;exact⟨p,xs,b1,b2,b3,b4,ap r' b5,b6⟩
end
mutual
noncomputable def noL:D->Bool
 | .tup ds=>noLA ds
 | .lst _=>false
 | _=>true
noncomputable def noLA:List D->Bool
 | []=>true
 | d::ds=>noL d&&noLA ds
end
noncomputable def tupOf(I0 I:Hp):Hp:=λb=>match I0 b with
 | some o=>some o
 | none=>match I b with
  | some (.lst _)=>none
  | o=>o
theorem Ek:Same I0 (tupOf I0 I):=λb o e=>by unfold tupOf;rw[e]
theorem Cu{b:g_}(h:tupOf I0 I b=some o):I0 b=some o\/(I0 b=none/\I b=some o/\∀xs,o≠.lst xs):=by
 unfold tupOf at h;cases e:I0 b with
 | some o'=>rw[e] at h;cases h;exact .inl rfl
 | none =>
  rw[e] at h;cases e1:I b with
  | none=>rw[e1] at h;cases h
  | some o' =>
   rw[e1] at h;cases o'<;>first | (cases h;exact .inr ⟨rfl,rfl,λxs z=>by cases z⟩) | cases h
theorem zh(s:Same I0 I){b:g_}(h:I b=some o)(n:∀xs,o≠.lst xs):tupOf I0 I b=some o:=by
 unfold tupOf;cases e:I0 b with
 | some o'=>rw[s b o' e] at h;exact h
 | none =>
  simp only[h];split
  ·rename_i z;cases z;exact absurd rfl (n _)
  ·rfl
mutual
theorem Ql{K:PySem.W.Frag}{I0 I:Hp}(s:Same I0 I):∀(d:D) (v:V),noL d=true->Is K I d v->Is K (tupOf I0 I) d v
 | .non,_,_,h=>by rw[Is] at h ⊢;exact h
 | .bl _,_,_,h=>by rw[Is] at h ⊢;exact h
 | .int _,_,_,h=>by rw[Is] at h ⊢;exact h
 | .str _,_,_,h=>by rw[Is] at h ⊢;exact h
 | .lst _,_,n,_=>by simp[noL] at n
 | .exc _ _,v,_,h=>by
  obtain⟨a,d,rfl,h1,h2⟩:=AQ h;exact Is.exc (zh s h1 λxs z=>by cases z) λk z=>let ⟨dx,q1,q2⟩:=h2 k z;⟨dx,q1,zh s q2 λxs z=>by cases z⟩
 | .tup ds,v,n,h=>by
  rw[noL] at n;obtain⟨a,xs,rfl,h1,h2⟩:=tR h;refine Is.tup ?_ (BX s ds xs n h2)
  rcases h1 with(h1 | ⟨o,h1⟩) | h1
  ·exact .inl (.inl (zh s h1 λxs z=>by cases z))
  ·exact .inl (.inr ⟨o,zh s h1 λxs z=>by cases z⟩)
  ·exact .inr h1
theorem BX{K:PySem.W.Frag}{I0 I:Hp}(s:Same I0 I):∀(ds:List D) (xs:List V),noLA ds=true->IsA K I ds xs->IsA K (tupOf I0 I) ds xs
 | [],xs,_,h=>by rw[h.nil_inv];exact IsA.nil
 | d::ds,xs,n,h=>by
  rw[noLA,u_] at n;obtain⟨x,r,rfl,h1,h2⟩:=h.cons_inv;exact IsA.cons (Ql s d x n.1 h1) (BX s ds r n.2 h2)
end
section
variable{B:BB}{e:D_}{es:List D_}{p:Pos}{x:Str}{f:g_}{g:List R->Option (R×List R)}{t:M (List D)}
noncomputable def cvF(g:List R->Option (R×List R))(ds:List D):Option D:=match g (ds.map .val) with
 | some (.val d,_)=>some d
 | some (.fro d,_)=>some (.lst d)
 | _=>none
noncomputable def coF(g:List R->Option (R×List R))(ds:List D):Option (List D):=match g (ds.map .val) with
 | some (.own d,_)=>some d
 | some (.fro d,_)=>if noLA d=true then some d else none
 | _=>none
theorem wN{K:PySem.W.Frag}{H:Hp}{vs:List V}(r:Rep K B G I H U Γ)(h:IsA K I ds vs):Rep K (vB vs) H I H (vs.map some) ((ds.map R.val).map some) where
 iH:=r.iH
 gH:=Same.refl _
 len:=by rw[y_,y_,y_,h.length]
 slot:=λi q e=>by
  obtain⟨_,e1,e2⟩:=getMap e;cases e2;obtain⟨d,e3,rfl⟩:=getMap e1;obtain⟨v,e4,e5⟩:=h.get e3;exact⟨v,by rw[Tp,e4];rfl,e5⟩
 dist:=λi j q q' v e e' m=>by
  obtain⟨_,e1,e2⟩:=getMap e;cases e2;obtain⟨d,e3,rfl⟩:=getMap e1;cases m
 bor:=λi ds e=>rfl
theorem xg(ds:List D):(ds.map R.val).all noOwn=true:=by
 induction ds with
 | nil=>rfl
 | cons d r ih=>rw[O_,Vp,ih];rfl
theorem CU{K:PySem.W.Frag}{B':BB}{H:Hp}(r:Rep K B G I H U Γ)(r':Rep K B' H I' H' am af)(g':Grow H I I'):Rep K B G I' H' U Γ/\Grow G I I':=
 ⟨r.ext g'.up r'.gH r'.iH g'.new,g'.up,λb o e=>(g'.new b o e).imp (λz=>z) λz=>r.gFree z⟩
theorem t_cv{K:PySem.W.Frag}{E:XK}:∀U H Q,tD K B (fn1 (cvF g) t) U H Q->tCall (spD K g) [] E (tAD K B t) U H Q:=λU H Q q=>by
 obtain⟨G,I,Γ,d,af,r,e1,kk⟩:=q;obtain⟨ds,ac,e2,e3⟩:=lX e1;obtain⟨e4,rfl⟩:=tN e3;refine⟨G,I,Γ,ds,_,r,e2,λvs H1 I1 r1 g1 h1=>?_⟩;show spD K g (vs++[]) H1 Q E;rw[Uo];unfold cvF at e4;cases e5:g (ds.map .val) with
 | none=>rw[e5] at e4;cases e4
 | some q =>
  obtain⟨rr,aQ⟩:=q;rw[e5] at e4;cases rr with
  | val d' =>
   cases e4;refine⟨H1,I1,ds.map .val,.val d,aQ,wN r1 h1,xg ds,e5,λv H' I' r' g' hv=>?_⟩;obtain⟨r2,g2⟩:=CU r1 r' g';exact kk v H' I' r2 (g1.trans g2) hv
  | fro d' =>
   cases e4;refine⟨H1,I1,ds.map .val,.fro d',aQ,wN r1 h1,xg ds,e5,λv H' I' r' g' hv=>?_⟩;obtain⟨r2,g2⟩:=CU r1 r' g';obtain⟨p,xs,rfl,f1,_,f3⟩:=hv;exact kk _ H' I' r2 (g1.trans g2) (Is.lst (RdK.of f1) f3)
  | own _=>cases e4
  | bor _=>cases e4
  | dic _=>cases e4
theorem t_co{K:PySem.W.Frag}{E:XK}:∀U H Q,tO K B (fn1 (coF g) t) U H Q->tCall (spD K g) [] E (tAD K B t) U H Q:=λU H Q q=>by
 obtain⟨G,I,Γ,d,af,r,e1,kk⟩:=q;obtain⟨ds,ac,e2,e3⟩:=lX e1;obtain⟨e4,rfl⟩:=tN e3;refine⟨G,I,Γ,ds,_,r,e2,λvs H1 I1 r1 g1 h1=>?_⟩;show spD K g (vs++[]) H1 Q E;rw[Uo];unfold coF at e4;cases e5:g (ds.map .val) with
 | none=>rw[e5] at e4;cases e4
 | some q =>
  obtain⟨rr,aQ⟩:=q;rw[e5] at e4;cases rr with
  | own d' =>
   cases e4;refine⟨H1,I1,ds.map .val,.own d,aQ,wN r1 h1,xg ds,e5,λv H' I' r' g' hv=>?_⟩;obtain⟨r2,g2⟩:=CU r1 r' g';obtain⟨q,xs,rfl,b2,b3,b4,b5,b6⟩:=hv;exact kk q xs H' I' r2 (g1.trans g2) b2 b3 (r1.gFree b4) (r1.apart b4) b6
  | fro d' =>
   obtain⟨nl,e4⟩:=tZ e4;subst e4;refine⟨H1,I1,ds.map .val,.fro d,aQ,wN r1 h1,xg ds,e5,λv H' I' r' g' hv=>?_⟩;obtain⟨p,xs,rfl,f1,f2,f3⟩:=hv
   have new:∀b o,tupOf I1 I' b=some o->I1 b=some o\/H1 b=none:=λb o e=>by
    rcases Cu e with z | ⟨_,z,_⟩
    ·exact .inl z
    ·exact g'.new b o z
   have r2:Rep K B G (tupOf I1 I') H' U _:=r1.ext Ek r'.gH (λb o e=>by
    rcases Cu e with z | ⟨_,z,_⟩
    ·exact r'.iH b o (g'.up b o z)
    ·exact r'.iH b o z) new
   refine kk p xs H' (tupOf I1 I') r2 (g1.trans ⟨Ek,λb o e=>(new b o e).imp (λz=>z) λz=>r1.gFree z⟩) (r'.iH p _ f1) ?_ (r1.gFree f2) (r1.apart f2) (BX g'.up _ _ nl f3);cases e:tupOf I1 I' p with
   | none=>rfl
   | some o =>
    rcases Cu e with z | ⟨_,z,zn⟩
    ·rw[r1.iFree f2] at z;cases z
    ·rw[f1] at z;cases z;exact absurd rfl (zn _)
  | val _=>cases e4
  | bor _=>cases e4
  | dic _=>cases e4
variable {sd:Nat}{b:D_}
theorem tF(F:FnOk X.prog X.w X.K X.mg X.base CX0 k f fd ps (spD X.K g))(hr:Room k X.A)(hg:Gl X x)(hm:X.mg x=some (.ref f))(hk:PySem.W.keepIn X.K (.ref f)=true)(hb:Binds X.K fd ps [])(ha:AD X B (e::es) t)(bh:(x == ("__debug__":Str))=false:=by decide)(he:d_ (e::es) X.env=(false,eval e X.env)::d_ es X.env:=by rfl)(aB:(J_ pos (d_ es X.env)).any (·.1)=false:=by rfl):
  ED X B (.Call (.Name x p) (e::es) [] pos) (fn1 (cvF g) t):=PE.imp (AS F hr hg hm hk hb .nil pass0 ha bh he aB) t_cv
theorem xn(F:FnOk X.prog X.w X.K X.mg X.base CX0 k f fd ps (spD X.K g))(hr:Room k X.A)(hg:Gl X x)(hm:X.mg x=some (.ref f))(hk:PySem.W.keepIn X.K (.ref f)=true)(hb:Binds X.K fd ps [])(ha:AD X B (e::es) t)(bh:(x == ("__debug__":Str))=false:=by decide)(he:d_ (e::es) X.env=(false,eval e X.env)::d_ es X.env:=by rfl)(aB:(J_ pos (d_ es X.env)).any (·.1)=false:=by rfl):
  EO X B (.Call (.Name x p) (e::es) [] pos) (fn1 (coF g) t):=PE.imp (AS F hr hg hm hk hb .nil pass0 ha bh he aB) t_co
theorem Ox(F:FnOk X.prog X.w X.K X.mg X.base CX0 k f fd ps (spD X.K g))(hr:Room k X.A)(hg:Gl X x)(hm:X.mg x=some (.ref f))(hk:PySem.W.keepIn X.K (.ref f)=true)(hb:Binds X.K fd ps [])(bh:(x == ("__debug__":Str))=false:=by decide):ED X B (.Call (.Name x p) [] [] pos) (fn1 (cvF g) nilA):=PE.imp (L8 F hr hg hm hk hb .nil pass0 bh) λU H Q q=>by
 have z:=t_cv (E:=E0) U H Q q;obtain⟨G,I,Γ,ds,af,r,e1,kk⟩:=z;cases e1;exact kk [] H I r (Grow.refl _ _) IsA.nil
noncomputable def hide(H:Hp)(p:g_):Hp:=λb=>if b=p then none else H b
theorem EC{H:Hp}{p:g_}:hide H p p=none:=by unfold hide;rw[if_pos rfl]
theorem v7{H:Hp}{p b:g_}(h:b≠p):hide H p b=H b:=by unfold hide;rw[if_neg h]
theorem Pe{H:Hp}{p:g_}:Same (hide H p) H:=λb o e=>by
 by_cases h:b=p
 ·subst h;rw[EC] at e;cases e
 ·rw[v7 h] at e;exact e
noncomputable def bcF(g:List R->Option (R×List R))(c ds:List D):Option (R×List D):=match g (.bor c::ds.map .val) with
 | some (r,.bor c'::_)=>some (r,c')
 | _=>none
noncomputable def callB(i:Nat)(g:List R->Option (R×List R))(t:M (List D)):M R:=mutS i (bnd t λds=>λac=>match ac[i]? with
 | some (some (.own c))=>match bcF g c ds with
  | some (r,c')=>some (r,ac.set i (some (.own c')))
  | none=>none
 | some (some (.bor c))=>match bcF g c ds with
  | some (r,c')=>some (r,ac.set i (some (.bor c')))
  | none=>none
 | _=>none)
noncomputable def asV(r:R):Option D:=match r with
 | .val d=>some d
 | _=>none
noncomputable def asO(r:R):Option (List D):=match r with
 | .own d=>some d
 | _=>none
noncomputable def cbV(i:Nat)(g:List R->Option (R×List R))(t:M (List D)):M D:=bnd (callB i g t) λr=>lft (asV r)
theorem Rep.extBut{K:PySem.W.Frag}{H:Hp}(r:Rep K B G I H U Γ){q:g_}(ap:Apart U Γ q)(gq:G q=none)(iq:I q=none)(se:I' q=none)(hI:Same I I')(hH:∀b o,H b=some o->b≠q->H' b=some o)(iH:Same I' H')(new:∀b o,I' b=some o->I b=some o\/H b=none\/b=q):Rep K B G I' H' U Γ where
 iH:=iH
 gH:=λb o e=>hH b o (r.gH b o e) (λz=>by subst z;rw[gq] at e;cases e)
 len:=r.len
 slot:=λi qr e=>by
  obtain⟨v,e1,e2⟩:=r.slot i qr e;refine⟨v,e1,?_⟩
  have mt:qr.ptr=true->∀ds,Mt K G I H ds v->Mt K G I' H' ds v:=λm ds h=>by
   obtain⟨p2,xs,h1,h2,h3,h4,h5⟩:=h;have ne:p2≠q:=λz=>ap i qr e m (by rw[e1,h1,z])
   refine⟨p2,xs,h1,hH _ _ h2 ne,?_,h4,h5.mono hI⟩;cases z:I' p2 with
   | none=>rfl
   | some o =>
    rcases new p2 o z with z1 | z1 | z1
    ·rw[h3] at z1;cases z1
    ·rw[h2] at z1;cases z1
    ·exact absurd z1 ne
  cases qr with
  | val d=>exact Is.mono hI e2
  | dic ds =>
   obtain⟨p2,xs,h1,h2,h3,h4,h5⟩:=e2;have ne:p2≠q:=λz=>ap i _ e rfl (by rw[e1,h1,z])
   refine⟨p2,xs,h1,hH _ _ h2 ne,?_,h4,h5.mono hI⟩;cases z:I' p2 with
   | none=>rfl
   | some o =>
    rcases new p2 o z with z1 | z1 | z1
    ·rw[h3] at z1;cases z1
    ·rw[h2] at z1;cases z1
    ·exact absurd z1 ne
  | own ds=>exact mt rfl ds e2
  | bor ds=>exact mt rfl ds e2
  | fro ds=>obtain⟨p,xs,f1,f2,f3,f4⟩:=e2;exact⟨p,xs,f1,hI _ _ f2,f3,f4.mono hI⟩
 dist:=r.dist
 bor:=r.bor
theorem borrow{K:PySem.W.Frag}{H:Hp}{q q':R}{c c':List D}{Q:VK}{E:XK}(r:Rep K B G I H U Γ)(hq:Γ[i]?=some (some q))(hc:(q=.own c/\q'=.own c')\/(q=.bor c/\q'=.bor c'))(hd:IsA K I ds ws)(gR:U[i]?=some (some v0))(hg:bcF g c ds=some (rr,c'))(k:∀v H' I',Rep K B G I' H' U (Γ.set i (some q'))->Grow G I I'->ResOk K G I' H' U (Γ.set i (some q')) rr v->Q v H'):spD K g (v0::ws) H Q E:=by
 obtain⟨v,e1,e2⟩:=r.slot i q hq;rw[gR] at e1;cases e1;have hm:q.ptr=true:=by rcases hc with⟨rfl,_⟩ | ⟨rfl,_⟩<;>rfl
 have mt:Mt K G I H c v0:=by rcases hc with⟨rfl,_⟩ | ⟨rfl,_⟩<;>exact e2
 obtain⟨a,xs,rfl,h1,h2,h3,h4⟩:=mt;unfold bcF at hg;cases e3:g (.bor c::ds.map .val) with
 | none=>rw[e3] at hg;cases hg
 | some z =>
  obtain⟨r0,aQ⟩:=z;rw[e3] at hg;cases aQ with
  | nil=>cases hg
  | cons y aQ =>
   cases y with
   | val _=>cases hg
   | own _=>cases hg
   | fro _=>cases hg
   | dic _=>cases hg
   | bor c2 =>
    cases hg;refine⟨hide H a,I,.bor c::ds.map .val,rr,.bor c'::aQ,?_,by rw[Vp,xg];rfl,e3,λv H' I' r' g' hv=>?_⟩
    ·have rv:=wN r hd
     exact {
      iH:=r.iH,gH:=Pe
      len:=by rw[O_,O_,S_,S_,rv.len]
      slot:=λj qr e=>by
       cases j with
       | zero=>cases e;exact⟨_,rfl,a,xs,rfl,h1,h2,EC,h4⟩
       | succ j =>
        obtain⟨w,e4,e5⟩:=rv.slot j qr (by simpa using e);refine⟨w,by simpa using e4,?_⟩;have e9:((ds.map R.val).map some)[j]?=some (some qr):=e;obtain⟨z,f1,f2⟩:=getMap e9;cases f2;obtain⟨d,f3,rfl⟩:=getMap f1;exact e5
      dist:=λj l qr sf w e e' m m' s1 s2=>by
       have only:∀{j:Nat}{qr:R},((R.bor c::ds.map R.val).map some)[j]?=some (some qr)->qr.ptr=true->j=0:=λ{j qr} e m=>by
        cases j with
        | zero=>rfl
        | succ j =>
         have e9:((ds.map R.val).map some)[j]?=some (some qr):=e;obtain⟨z,f1,f2⟩:=getMap e9;cases f2;obtain⟨d,f3,rfl⟩:=getMap f1;cases m
       rw[only e m,only e' m']
      bor:=λj es e=>rfl }
    ·obtain⟨w,e4,e5⟩:=r'.slot 0 (.bor c') rfl;cases e4;obtain⟨a',cf,e6,f1,f2,f3,f4⟩:=e5;cases e6
     have cJ:Apart U (Γ.set i none) a:=λj r1 z m s=>by
      rcases ul z with⟨_,z',_⟩ | ⟨n,z'⟩
      ·cases z'
      ·exact n (r.dist j i r1 q _ z' hq m hm s gR)
     have r1:=(r.forget i).extBut (q:=a) cJ h3 h2 f2 g'.up (λb o e n=>r'.gH b o (by rw[v7 n];exact e)) r'.iH (λb o e=>by
      rcases g'.new b o e with z | z
      ·exact .inl z
      ·by_cases n:b=a
       ·exact .inr (.inr n)
       ·rw[v7 n] at z;exact .inr (.inl z))
     have r2:=r1.learn (i:=i) (q:=q') (v:=.ref a) gR (by rcases hc with⟨_,rfl⟩ | ⟨_,rfl⟩<;>exact⟨a,cf,rfl,f1,f2,h3,f4⟩) (λm p2 e j r' n z m' s=>by
      cases e;exact cJ j r' z m' s) (λes z=>by
      rcases hc with⟨_,rfl⟩ | ⟨rfl,rfl⟩
      ·cases z
      ·exact r.bor i c hq)
     rw[ZB] at r2
     have g2:Grow G I I':=⟨g'.up,λb o e=>by
      rcases g'.new b o e with z | z
      ·exact .inl z
      ·by_cases n:b=a
       ·subst n;exact .inr h3
       ·rw[v7 n] at z;exact .inr (r.gFree z)⟩
     refine k v H' I' r2 g2 ?_;cases rr with
     | val d=>exact hv
     | bor d=>exact hv
     | fro d =>
      obtain⟨p2,ys,b1,b2,b3,b4⟩:=hv;have ne:p2≠a:=λz=>by rw[z,f2] at b2;cases b2
      rw[v7 ne] at b3;exact⟨p2,ys,b1,b2,r.gFree b3,b4⟩
     | dic d =>
      obtain⟨p2,ys,b1,b2,b3,b4,b5,b6⟩:=hv;have ne:p2≠a:=λz=>b5 0 (.bor c') rfl rfl (by rw[z];rfl)
      rw[v7 ne] at b4;refine⟨p2,ys,b1,b2,b3,r.gFree b4,λj r3 z m s=>?_,b6⟩
      rcases ul z with⟨rfl,z',_⟩ | ⟨n,z'⟩
      ·rw[gR] at s;cases s;exact ne rfl
      ·exact r.apart b4 j r3 z' m s
     | own d =>
      obtain⟨p2,ys,b1,b2,b3,b4,b5,b6⟩:=hv;have ne:p2≠a:=λz=>b5 0 (.bor c') rfl rfl (by rw[z];rfl)
      rw[v7 ne] at b4;refine⟨p2,ys,b1,b2,b3,r.gFree b4,λj r3 z m s=>?_,b6⟩
      rcases ul z with⟨rfl,z',_⟩ | ⟨n,z'⟩
      ·rw[gR] at s;cases s;exact ne rfl
      ·exact r.apart b4 j r3 z' m s
theorem Oc{t:M (List D)}(h:callB i g t Γ=some (rr,af)):isMut Γ i=true/\∃ds ac q q' c c',t Γ=some (ds,ac)/\ac[i]?=some (some q)/\((q=.own c/\q'=.own c')\/(q=.bor c/\q'=.bor c'))/\bcF g c ds=some (rr,c')/\af=ac.set i (some q'):=by
 obtain⟨hm,h⟩:=wP h;obtain⟨ds,ac,e1,e2⟩:=lX h;refine⟨hm,ds,ac,?_⟩;cases e:ac[i]? with
 | none=>simp only[e] at e2;cases e2
 | some o =>
  cases o with
  | none=>simp only[e] at e2;cases e2
  | some q =>
   cases q with
   | val d=>simp only[e] at e2;cases e2
   | fro d=>simp only[e] at e2;cases e2
   | dic d=>simp only[e] at e2;cases e2
   | own c =>
    simp only[e] at e2;cases e3:bcF g c ds with
    | none=>simp only[e3] at e2;cases e2
    | some z =>
     obtain⟨r0,c'⟩:=z;simp only[e3] at e2;cases e2;exact⟨.own c,.own c',c,c',e1,rfl,.inl ⟨rfl,rfl⟩,e3,rfl⟩
   | bor c =>
    simp only[e] at e2;cases e3:bcF g c ds with
    | none=>simp only[e3] at e2;cases e2
    | some z =>
     obtain⟨r0,c'⟩:=z;simp only[e3] at e2;cases e2;exact⟨.bor c,.bor c',c,c',e1,rfl,.inr ⟨rfl,rfl⟩,e3,rfl⟩
theorem Ic{K:PySem.W.Frag}{E:XK}:∀U H Q,tD K B (cbV i g t) U H Q->tCall (spD K g) [] E (tCons (tVar i) (tAD K B t)) U H Q:=λU H Q q=>by
 obtain⟨G,I,Γ,d,af,r,e1,kk⟩:=q;obtain⟨rr,sg,e2,e3⟩:=lX e1;obtain⟨e4,rfl⟩:=tN e3;obtain⟨hm,ds,ac,q,q',c,c',f1,f2,f3,f4,rfl⟩:=Oc e2;obtain⟨a,xs,h1,h2⟩:=xC hm r;refine⟨_,h1,G,I,Γ,ds,ac,r,f1,λws H1 I1 r1 g1 hd=>?_⟩;show spD K g ((.ref a::ws)++[]) H1 Q E;rw[Uo];refine borrow r1 f2 f3 hd h1 f4 λv H' I' r' g' hv=>?_
 cases rr with
 | val d'=>cases e4;exact kk v H' I' r' (g1.trans g') hv
 | own _=>cases e4
 | bor _=>cases e4
 | fro _=>cases e4
 | dic _=>cases e4
theorem t8(F:FnOk X.prog X.w X.K X.mg X.base CX0 k f fd ps (spD X.K g))(hr:Room k X.A)(hg:Gl X x)(hm:X.mg x=some (.ref f))(hk:PySem.W.keepIn X.K (.ref f)=true)(hb:Binds X.K fd ps [])(hv:PE X (.Name y py) (tVar i))(ha:AD X B es t)(bh:(x == ("__debug__":Str))=false:=by decide)(he:d_ (.Name y py::es) X.env=(false,eval (.Name y py) X.env)::d_ es X.env:=by rfl)(aB:(J_ pos (d_ es X.env)).any (·.1)=false:=by rfl):
  ED X B (.Call (.Name x p) (.Name y py::es) [] pos) (cbV i g t):=PE.imp (AS F hr hg hm hk hb .nil pass0 (uU hv ha he) bh he aB) Ic
end
end DL
variable{it:DL.M (List DL.D)}{tc ts gc:DL.M Bool}{body:DL.M DL.Fl}{aE:DL.D->DL.M Unit}{gl gh:DL.M (Option Int)}{el ga gb:DL.M DL.D}{mx:DL.M Nat}
namespace DL
open PySem PySem.Spec PyProof.Rows L2
noncomputable def relab(sc cV:Wc):Wc:={ sc with names:=sc.names.map λ(n,k)=>if(k == .free&&cV.kind == .function&&cV.names.lookup n == some .cell) then(n,.cell) else(n,k) }
noncomputable def clo(cells:List (Str×g_)):List (Str×T4)->List (Str×g_)->List (Str×g_)
 | [],aj=>aj
 | (n,k)::r,aj=>if k == .free then clo cells r ((n,(cells.lookup n).getD 0)::aj) else clo cells r aj
theorem E9{env:Env}(f:Str×T4->List (Str×g_)->Sem (ForInStep (List (Str×g_))))(hf:∀name kind cs,f (name,kind) cs=if kind == .free then(do let a ←cellOf env name;pure (.yield ((name,a)::cs))) else pure (.yield cs)):
  ∀(names:List (Str×T4)) (aj:List (Str×g_)),(∀n,(n,T4.free)∈names->∃c,env.cells.lookup n=some c)->(forIn names aj f:Sem _)=pure (clo env.cells names aj)
 | [],aj,_=>by rw[Wa];rfl
 | (n,k)::r,aj,h=>by
  rw[Vf,hf];unfold clo;have ih:=λmh=>E9 f hf r mh (λn hn=>h n (i_ _ hn))
  by_cases hk:(k == T4.free)=true
  ·rw[if_pos hk,if_pos hk];have dE:k=.free:=by simpa using hk
   subst dE;obtain⟨c,hc⟩:=h n m_;have e:cellOf env n=pure c:=by unfold cellOf;rw[hc]
   rw[e,hc];simp only[pure_bind,Option.getD_some];exact ih _
  ·rw[if_neg hk,if_neg hk];simp only[pure_bind];exact ih _
theorem Ax(h:∀n,(n,T4.free)∈scope.names->∃c,env.cells.lookup n=some c):closureFor scope env=pure (clo env.cells scope.names []):=by
 unfold closureFor;dsimp only;rw[E9 (env:=env) _ (λname kind cs=>by cases hk:kind == T4.free<;>simp[hk]) scope.names [] h];rfl
theorem y8{cells:List (Str×g_)}:∀{names:List (Str×T4)}{aj:List (Str×g_)}{x:Str}{c:g_},(x,c)∈clo cells names aj->(x,c)∈aj\/((x,T4.free)∈names/\c=(cells.lookup x).getD 0)
 | [],aj,x,c,h=>.inl h
 | (n,k)::r,aj,x,c,h=>by
  unfold clo at h;by_cases hk:(k == T4.free)=true
  ·rw[if_pos hk] at h;have dE:k=.free:=by simpa using hk
   subst dE
   rcases y8 h with z | ⟨z1,z2⟩
   ·rcases w_.mp z with z | z
    ·cases z;exact .inr ⟨m_,rfl⟩
    ·exact .inl z
   ·exact .inr ⟨i_ _ z1,z2⟩
  ·rw[if_neg hk] at h
   rcases y8 h with z | ⟨z1,z2⟩
   ·exact .inl z
   ·exact .inr ⟨i_ _ z1,z2⟩
theorem Ak{cells:List (Str×g_)}:∀{names:List (Str×T4)}{aj:List (Str×g_)}{x:Str},((x,T4.free)∈names\/∃c,aj.lookup x=some c)->∃c,(clo cells names aj).lookup x=some c
 | [],aj,x,h=>by
  rcases h with h | h
  ·cases h
  ·exact h
 | (n,k)::r,aj,x,h=>by
  unfold clo
  have push:∀c0:g_,(∃c,aj.lookup x=some c)->∃c,((n,c0)::aj).lookup x=some c:=λc0 ⟨c,hc⟩=>by
   rw[List.lookup_cons];cases x == n
   ·exact⟨c,hc⟩
   ·exact⟨c0,rfl⟩
  by_cases hk:(k == T4.free)=true
  ·rw[if_pos hk];refine Ak ?_
   rcases h with h | h
   ·rcases w_.mp h with z | z
    ·cases z;exact .inr ⟨_,by rw[List.lookup_cons,beq_self_eq_true]⟩
    ·exact .inl z
   ·exact .inr (push _ h)
  ·rw[if_neg hk];refine Ak ?_
   rcases h with h | h
   ·rcases w_.mp h with z | z
    ·cases z;exact absurd (by rfl) hk
    ·exact .inl z
   ·exact .inr h
structure CompScope(cV sc:Wc)(N N':List Str)(m:Nat):Prop where
 kind:sc.kind=.function
 nocell:∀y∈sc.names,y.2≠.cell
 locals:∀y∈sc.names,y.2=.local->sc.names.lookup y.1=some .local
 free:∀y∈sc.names,y.2=.free->cV.names.lookup y.1=some .cell\/cV.names.lookup y.1=some .free
 nd:N'.Nodup
 len:N'.length=m+N.length
 up:∀p∈(N'.drop m).zip N,((relab sc cV).names.lookup p.1=none)\/(p.1=p.2/\(relab sc cV).names.lookup p.1≠some .local)
noncomputable def cxC(X:Cx)(scope:Wc)(N':List Str)(C:g_)(s:c_)(H:Hp)(ex:List g_):Cx:=
 { X with N:=N',s₀:=s,H₀:=H,env:=XJ scope (clo X.env.cells scope.names []) C X.env,outer:=X.stack,stack:=X.stack,ex:=ex,fn:=λ_=>false,pn:=[],xe:=λ_ _=>False }
def PTs(X:Cx)(bo:List D_)(t:TT):Prop:=
 ∀(aa:List (g_×Obj)) (s:c_) (U:L2.St) (H:Hp) (Q:Bool->Hp->Prop),Inv X aa U H s->t U H Q →
  o_ (q_ X.prog X.w) X.A (forIn bo true λc r=>if r=true then do let ok ←Ze c X.env (eval c X.env);pure (Zo ok) else pure (Zo r)) (TP X aa U Q) X.xe s
theorem NE:PTs X [] (λ_ H Q=>Q true H):=λaa s U H Q I h=>wpAny_tests_nil ⟨H,I,h⟩
theorem J3{c:D_}{t:TT}(h:PT X c t):PTs X [c] t:=λaa s U H Q I q=>wpAny_tests_one (h aa s U H Q I q)
abbrev calm(P:v_)(w:F_)(A:Uh){α:Type}(m:Sem α)(Q:α->c_->Prop)(s:c_):Prop:=o_ (q_ P w) A m Q (λ_ _=>False) s
theorem calm.on{P:v_}{w:F_}{α Y:Type}{m:Sem α}{f:α->Sem Y}{Q:α->c_->Prop}{K:Y->c_->Prop}{E:b_->c_->Prop}{s:c_}(h:calm P w A m Q s)(k:∀a s',Q a s'->o_ (q_ P w) A (f a) K E s'):o_ (q_ P w) A (m >>= f) K E s:=
 a_ (TJ h k λ_ _ no=>no.elim)
def TurnMeets(P:v_)(w:F_)(A:Uh)(cW iL:b_)(tg br:D_)(bo:List D_)(env:Env)(Er:b_->c_->Prop)(Y4 bA:c_->Prop)(s:c_):Prop:=
 calm P w A (Wh cW) (λfm s=>match fm with
  | none=>bA s
  | some v=>calm P w A (VY tg cW v) (λ_ s=>calm P w A (We tg env v) (λ_ s =>
    calm P w A (forIn bo true λc r=>if r=true then do let ok ←Ze c env (eval c env);pure (Zo ok) else pure (Zo r)) (λkc s =>
     cond kc (o_ (q_ P w) A (eval br env) (λx s=>calm P w A (call (.builtin "list.append") [iL,x]) (λ_ s=>Y4 s) s) (Zb (q_ P w) A env Er) s) (Y4 s)) s) s) s) s
theorem Nm{M:Y2}{E E':b_->c_->Prop}{x:b_}{s:c_}(h:Zb M A env E x s)(f:∀x s,E x s->E' x s):Zb M A env E' x s:=TJ h (λ_ _ q=>f _ _ q) f
theorem Ji{P:v_}{w:F_}{bA:Result->c_->Prop}{s:c_}{br kf:D_}{sc:Wc}{bg:Pos}{cW iL:b_}{Er:b_->c_->Prop}(oX:∀x s,Er x s->bA (.error x) s)(W:Nat->c_->Prop)(ml:∀left s,W left s->TurnMeets P w A cW iL tg br bo env Er (λs'=>∃less,less < left/\W less s') (bA (.ok .next)) s)(left:Nat)(start:W left s):
  VL (q_ P w) A (.compLoop (.ListComp br [⟨tg,kf,bo,0⟩] sc bg) 0 cW iL env) bA s:=by
 refine codeAny_loop rfl W (λleft s here=>?_) left start;have turn:=ml left s here;unfold TurnMeets at turn;refine wpAny_noted ?_;rw[compTurn_list];refine a_ (Yf (turn.on λfm s1 h1=>?_));cases fm with
 | none=>exact f_ h1
 | some v=>exact calm.on h1 λ_ _ h2=>calm.on h2 λ_ _ h3=>calm.on h3 λkc s4 h4=>match kc,h4 with
  | false,h4=>f_ (And.intro rfl h4)
  | true,h4=>a_ (a_ (TJ h4 (λ_ _ h5=>calm.on h5 λ_ _ h6=>f_ (f_ (And.intro rfl h6))) λ_ _ z=>Nm z oX))
def Clear(X:Cx)(aa:List (g_×Obj))(H:Hp)(C:g_):Prop:=H C=none/\C≠X.env.locals/\X.s₀.heap.objs.size<=C/\(∀x c,X.env.cells.lookup x=some c->c≠C)/\∀p∈X.pn++aa,p.1≠C
theorem Inv.clear{H:Hp}{s:c_}(I:Inv X aa U H s)(c:Clear X aa H C)(hs:G_.SameBut C s.heap h'):Inv X aa U H { s with heap:=h' }:=
 I.turned (t':=s.toks) (λb o hb e=>(hs.2 b hb).trans e) c.1 c.2.1 (.inr c.2.2.1) c.2.2.2.1 c.2.2.2.2
structure Within(X:Cx)(aa:List (g_×Obj))(U:L2.St)(X1:Cx):Prop where
 back:∀{ps:List (g_×Obj)}{am:L2.St}{H':Hp}{s':c_},Inv X1 ps am H' s'->Inv X aa U H' s'/\Clear X aa H' X1.env.locals
 old:∀b o,X.s₀.heap.get? b=some o->b∉X.ex->∃o',X1.s₀.heap.get? b=some o'/\b∉X1.ex
 pin:∀p∈X.pn++aa,∃o',X1.s₀.heap.get? p.1=some o'/\p.1∉X1.ex
def CompW(m:Nat)(J:It)(g:TG)(tt:TT)(te:TE)(U:L2.St)(H1:Hp)(p:g_)(Q:VK):Prop:=
 ∃W:Nat->Nat->L2.St->Hp->Prop,(∃n,W 0 n (P_ m none++U) (upd H1 p (.lst [])))/\∀i n am H',W i n am H' →
  (J.stop i H'/\Q (.ref p) H')\/(J.go i H'/\∀x H2,J.yld i H' x H2->g x am H2 λaR H3=>tt aR H3 λb H4 =>
   if b=true then te aR H4 λy H5=>∃aj,H5 p=some (.lst aj)/\aj.length < z_/\∃n',n' < n/\W (i+1) n' aR (upd H5 p (.lst (aj++[y])))
   else ∃n',n' < n/\W (i+1) n' aR H4)
section
variable{br iter:D_}{g:TG}{tt:TT}{te:TE}
theorem BM{Er:g_->b_->c_->Prop}{it:g_}{tn:Nat->G_->Prop}{J:It}{Q:VK}{E:b_->c_->Prop}(S:CompScope X.env.scope scope X.N N' m)(hc:X.calm=true)(hg:∀C s H ex,PG (cxC X scope N' C s H ex) tg g)(ht:∀C s H ex,PTs (cxC X scope N' C s H ex) bo tt)(he:∀C s H ex,Within X aa U (cxC X scope N' C s H ex)->PE ((cxC X scope N' C s H ex).wish (Zb (q_ X.prog X.w) X.A (XJ scope (clo X.env.cells scope.names []) C X.env) (Er C))) br te)(I2:Inv X aa U H2 s2)(T:Turn X.prog X.w X.K tg J fp it tn)(dO:tn 0 s2.heap)(f2:∀b∈fp,FpOk X aa H2 b)(hw:∀p,H2 p=none->CompW m J g tt te U H2 p Q):
  o_ (q_ X.prog X.w) X.A (newList []) (λaj s3=>o_ (q_ X.prog X.w) X.A (newFunctionEnv scope X.env.globals (clo X.env.cells scope.names []) [] X.env.qual none .none (some X.env)) (λbC s4 =>
   VL (q_ X.prog X.w) X.A (.compStart (.ListComp br [⟨tg,iter,bo,0⟩] scope pos) 0 (.ref it) aj { bC with scope:=relabel scope X.env })
    (λr s'=>match r with | .ok _=>∃p H' mm,aj=.ref p/\s'.heap.Ns bC.locals mm/\Inv X aa U H' s'/\Clear X aa H' bC.locals/\Q (.ref p) H' | .error x=>Er bC.locals x s') s4) E s3) E s2:=by
 refine Tw (wpAny_newFunctionEnv S.nocell (by intro y hy;simp at hy) (λh1 jH jI=>?_) S.kind);dsimp only at jH jI ⊢
 -- the new list
 have hp:H2 s2.heap.objs.size=none:=I2.hok.fresh (r_ _);obtain⟨W,⟨n0,w0⟩,turn⟩:=hw _ hp;obtain⟨p,hP⟩:∃p,p=s2.heap.objs.size:=⟨_,rfl⟩;obtain⟨s3,kh⟩:∃s3:c_,s3={ s2 with heap:=s2.heap.push { cls:=.type "list", dict:=none,data:=.seq ([]:List b_).toArray } }:=⟨_,rfl⟩;obtain⟨C,hC⟩:∃C,C=s3.heap.objs.size:=⟨_,rfl⟩;obtain⟨H3,ki⟩:∃H3,H3=upd H2 p (.lst []):=⟨_,rfl⟩;have h3:s3.heap=s2.heap.push { cls:=.type "list", dict:=none,data:=.seq ([]:List b_).toArray }:=by rw[kh]
 have gS:h1.Ns C (λx=>([]:List (Str×b_)).reverse.lookup x):=by rw[hC,h3];exact jH
 have oY:G_.SameBut C (s3.heap.push { cls:=.type "dict", data:=.dict #[] }) h1:=by rw[hC,h3];exact jI
 rw[←hP] at hp;have oZ:W 0 n0 (P_ m none++U) H3:=by rw[ki,hP];exact w0
 have kj:∀i n am H',W i n am H'->(J.stop i H'/\Q (.ref p) H')\/(J.go i H'/\∀x H2,J.yld i H' x H2->g x am H2 λaR H3=>tt aR H3 λb H4 =>
   if b=true then te aR H4 λy H5=>∃aj,H5 p=some (.lst aj)/\aj.length < z_/\∃n',n' < n/\W (i+1) n' aR (upd H5 p (.lst (aj++[y])))
   else ∃n',n' < n/\W (i+1) n' aR H4):=by rw[hP];exact turn
 have I3:Inv X aa U H3 s3:=by
  rw[ki,kh,hP];exact I2.laid (t':=s2.toks) (λb u e=>e_ _ e) (r_ _) ⟨Tz _,[],0,.nil,s_ _ rfl⟩
 have fU:tn 0 s3.heap:=T.keep _ _ _ dO λb _ o e=>by rw[h3];exact e_ _ e
 have f3:∀b∈fp,FpOk X aa H3 b:=λb hb=>by
  obtain⟨a0,a1⟩:=f2 b hb;refine⟨?_,a1⟩;obtain⟨o,e,_⟩:=T.obj _ _ dO b hb
  have ne:b≠p:=λz=>by
   have:=B_ e;rw[←hP,z] at this;exact Ug _ this
  rw[ki,tG ne];exact a0
 -- the block's context
 have bG:∀x c,(clo X.env.cells scope.names []).lookup x=some c->X.env.cells.lookup x=some c:=λx c e=>by
  rcases y8 (mem_of_lookup e) with z | ⟨z1,z2⟩
  ·cases z
  ·obtain⟨c',bW⟩:=I2.ok.has x (S.free _ z1 rfl);rw[bW] at z2;rw[z2];exact bW
 have fM:Clear X aa H3 C:=by
  refine⟨?_,?_,?_,λx c e z=>?_,λq hq z=>?_⟩
  ·exact I3.hok.fresh (YD hC.symm)
  ·have:=I3.lt;rw[←hC] at this;exact Wg this
  ·have:=I3.sz;rw[←hC] at this;exact this
  ·obtain⟨v,q⟩:=I3.cell x c e;have:=q.lt;rw[←hC,z] at this;exact Ug _ this
  ·have:=B_ (I3.pin q hq).1;rw[←hC,z] at this;exact Ug _ this
 have old:∀b o,s3.heap.get? b=some o->h1.get? b=some o:=λb o e=>by
  have ne:b≠C:=λz=>by have:=B_ e;rw[←hC,z] at this;exact Ug _ this
  exact(oY.2 b ne).trans (e_ _ e)
 have ok:(cxC X scope N' C s3 H3 fp).Ok:=by
  refine⟨I3.ok.mod,S.kind,I3.ok.glob,I3.ok.blt,YD hC.symm,λx y c e1 e2=>I3.ok.inj x y c (bG x c e1) (bG y c e2),λx hx=>?_,λx c z=>(nomatch z),λz=>I3.ok.hd z,I3.ok.frames,.inl rfl,λb hb=>⟨λz=>?_,λx c e=>(f3 b hb).2.2.2.2.1 x c (bG x c e)⟩,I3.bs,H_ I3.ok.bsz I3.sz,λb o e hb=>?_,λb hb z=>?_,I3.stack,λb hb=>I3.stkFree b hb⟩
  ·-- has
   have eM:(relab scope X.env.scope).names.lookup x=some .cell\/(relab scope X.env.scope).names.lookup x=some .free:=hx
   have mem:∃k,(x,k)∈(relab scope X.env.scope).names/\(k=T4.cell\/k=T4.free):=by
    rcases eM with z | z
    ·exact⟨_,mem_of_lookup z,.inl rfl⟩
    ·exact⟨_,mem_of_lookup z,.inr rfl⟩
   obtain⟨k,hm,hk⟩:=mem;obtain⟨⟨n1,k1⟩,fY,e1⟩:=C_.mp hm;refine Ak (.inl ?_);dsimp only at e1;by_cases hcond:(k1 == T4.free&&X.env.scope.kind == ScopeKind.function&&X.env.scope.names.lookup n1 == some T4.cell)=true
   ·rw[if_pos hcond] at e1;cases e1
    have:k1=.free:=by
     simp only[u_,beq_iff_eq] at hcond;exact hcond.1.1
    rw[←this];exact fY
   ·rw[if_neg hcond] at e1;cases e1
    rcases hk with rfl | rfl
    ·exact absurd rfl (S.nocell _ fY)
    ·exact fY
  ·obtain⟨o,e,_⟩:=T.obj _ _ fU b hb;have:=B_ e;rw[←hC] at this;have z':b=C:=z;rw[z'] at this;exact Ug _ this
  ·obtain⟨a0,a1,a2,a3,_⟩:=f3 b hb
   rcases a3 with z | z
   ·exact I3.ok.noex b o e z
   ·exact absurd (E_ (B_ e) (H_ I3.ok.bsz z)) (Ug _)
  ·have z':=I3.stkSub b z;obtain⟨a0,a1,a2,_⟩:=f3 b hb
   rcases w_.mp z' with e | e
   ·exact a1 e
   ·exact a2 e
 -- the block's first state
 have I4:Inv (cxC X scope N' C s3 H3 fp) [] (P_ m none++U) H3 { s3 with heap:=h1,toks:=s3.toks+([]:List (Str×b_)).length }:=by
  obtain⟨mo,sh,ma⟩:=I3.loc;refine⟨ok,rfl,I3.bare,Un.kept old,⟨_,gS,λi x v e1 e2 e3=>?_⟩,λx c e=>?_,fM.1,λx c e=>I3.freeC x c (bG x c e),λq hq=>absurd (show q∈([]:List (g_×Obj)) from hq) (by simp),I3.hok.kept old,?_⟩
  ·have hi:m<=i:=by
    by_cases z:m<=i
    ·exact z
    ·rw[T_ (by rw[M_];omega),UD] at e2;split at e2<;>cases e2
   rw[Uf (by rw[M_];exact hi),M_] at e2;have fo:N'[i]?=some x:=e1
   have cG:i - m < X.N.length:=by
    have:=(x_.mp fo).1;rw[S.len] at this;omega
   have e4:(N'.drop m)[i - m]?=some x:=by rw[VM];rw[show m+(i - m)=i from by omega];exact fo
   have e5:X.N[i - m]?=some X.N[i - m]:=n_ cG;have e6:((N'.drop m).zip X.N)[i - m]?=some (x,X.N[i - m]):=by rw[Wz];exact⟨e4,e5⟩
   have mn:Vis (relab scope X.env.scope) x:=e3
   rcases S.up _ (TC e6) with z | ⟨z1,z2⟩
   ·have z':(relab scope X.env.scope).names.lookup x=none:=z
    rcases mn with y | y | y<;>rw[z'] at y<;>cases y
   ·have o0:x=X.N[i - m]:=z1;have o8:(relab scope X.env.scope).names.lookup x≠some .local:=z2
    have mq:(relab scope X.env.scope).names.lookup x=some .cell\/(relab scope X.env.scope).names.lookup x=some .free:=by
     rcases mn with y | y | y
     ·exact absurd y o8
     ·exact .inl y
     ·exact .inr y
    obtain⟨c,dR⟩:=ok.has x mq;have o9:=bG x c dR
    -- the name in the def's own frame
    have mem:(x,T4.free)∈scope.names:=by
     rcases y8 (mem_of_lookup dR) with y | ⟨y,_⟩
     ·cases y
     ·exact y
    have mr:Vis X.env.scope x:=by
     rcases S.free _ mem rfl with y | y
     ·exact .inr (.inl y)
     ·exact .inr (.inr y)
    obtain⟨u,ru,l⟩:=ma (i - m) x v (by rw[e5,←o0]) e2 mr;refine⟨u,ru,.inr ⟨mq,c,dR,?_⟩⟩
    rcases l with⟨k,_⟩ | ⟨_,c',e',z'⟩
    ·have k':X.env.scope.names.lookup x=some .local:=k
     rcases S.free _ mem rfl with y | y<;>(have y':X.env.scope.names.lookup x=_:=y;rw[k'] at y';cases y')
    ·rw[o9] at e';cases e';exact z'.keeps old
  ·obtain⟨v,q⟩:=I3.cell x c (bG x c e);exact⟨v,q.keeps old⟩
  ·show(P_ m none++U).length=N'.length;rw[R_,M_,S.len,I3.len]
 have dz:∀{H':Hp},(∀b∈fp,H' b=none)->∀b∈fp,FpOk (cxC X scope N' C s3 H3 fp) [] H' b:=λ{H'} hn b hb=>by
  refine⟨hn b hb,(ok.exf b hb).1,ok.exfs b hb,.inl hb,(ok.exf b hb).2,λq hq=>absurd (show q∈([]:List (g_×Obj)) from hq) (by simp)⟩
 -- what stands behind the block
 have back:∀{ps:List (g_×Obj)}{am:L2.St}{H':Hp}{s':c_},Inv (cxC X scope N' C s3 H3 fp) ps am H' s'->Inv X aa U H' s'/\Clear X aa H' C:=λ{ps am H' s'} J'=>by
  refine⟨I3.call' J'.os J'.base J'.hok J'.bare λb hb=>?_,J'.free,fM.2⟩;obtain⟨a0,a1,a2,a3,a4,a5⟩:=f3 b hb;exact⟨a3,a1,a4,a5⟩
 have dS:Within X aa U (cxC X scope N' C s3 H3 fp):=⟨back,λb o e n=>by
  obtain⟨o',e'⟩:=I3.base.there b o e n;refine⟨o',e',λm=>?_⟩
  rcases(f3 b m).2.2.2.1 with z | z
  ·exact n z
  ·exact absurd (E_ (B_ e) z) (Ug _),λq hq=>⟨_,(I3.pin q hq).1,λm=>(f3 q.1 m).2.2.2.2.2 q hq rfl⟩⟩
 have gK:∀s4:c_,s4={ s3 with heap:=h1,toks:=s3.toks+([]:List (Str×b_)).length } →
   VL (q_ X.prog X.w) X.A (.compLoop (.ListComp br [⟨tg,iter,bo,0⟩] scope pos) 0 (.ref it) (.ref p) (XJ scope (clo X.env.cells scope.names []) C X.env))
    (λr s'=>match r with | .ok _=>∃p' H' mm,b_.ref p=.ref p'/\s'.heap.Ns C mm/\Inv X aa U H' s'/\Clear X aa H' C/\Q (.ref p') H' | .error x=>Er C x s') s4:=by
  rintro s4 rfl;refine Ji (Er:=Er C) (λ_ _ z=>z) (λn s'=>∃i am H',Inv (cxC X scope N' C s3 H3 fp) [] am H' s'/\tn i s'.heap/\(∀b∈fp,H' b=none)/\W i n am H') ?_ n0 ⟨0,_,_,I4,T.keep _ _ _ fU λb _ o e=>old b o e,λb hb=>(f3 b hb).1,oZ⟩;rintro n s5 ⟨i,dD,H5,I5,fV,iD,w5⟩;show TurnMeets _ _ _ _ _ _ _ _ _ _ _ _ _;unfold TurnMeets
  rcases kj i n dD H5 w5 with⟨stop,qn⟩ | ⟨go,step⟩
  ·refine TJ (T.done (cxC X scope N' C s3 H3 fp) rfl rfl rfl hc i [] s5 dD H5 (λ_ _=>False) I5 (dz iD) fV stop) (λr s6 ⟨hr,I6⟩=>?_) λ_ _ z=>z
   subst hr;obtain⟨mm,pd,_⟩:=I6.loc;obtain⟨b1,b2⟩:=back I6;exact⟨p,H5,mm,rfl,pd,b1,b2,qn⟩
  ·refine TJ (T.item (cxC X scope N' C s3 H3 fp) rfl rfl rfl hc i [] s5 dD H5 (λ_ _=>False) I5 (dz iD) fV go) (λr s6 ⟨u,hr,h6⟩=>?_) λ_ _ z=>z
   subst hr;refine TJ h6 (λ_ s7 ⟨x,H7,I7,r7,y7,kl,pe⟩=>?_) λ_ _ z=>z
   have pf:=I7.pinned (dz pe) (T.obj _ _ kl);refine TJ (hg C s3 H3 fp _ s7 dD H7 x u _ pf r7 (step x H7 y7)) (λ_ s8 ⟨gT,H8,I8,q8⟩=>?_) λ_ _ z=>z
   refine TJ (ht C s3 H3 fp _ s8 gT H8 _ I8 q8) (λok s9 ⟨H9,I9,q9⟩=>?_) λ_ _ z=>z
   have Y4:∀{mw:L2.St}{Ha:Hp}{sa:c_},Inv (cxC X scope N' C s3 H3 fp) ([]++pinsAt fp s7.heap) mw Ha sa->tn (i+1) sa.heap/\(∀b∈fp,Ha b=none):=λ{mw Ha sa} Ia=>by
    refine⟨T.keep _ _ _ kl λb hb o e=>(Ia.pin (b,o) (L_ _ (L_ _ (yV hb e)))).1,λb hb=>?_⟩;obtain⟨o,e,d⟩:=T.obj _ _ kl b hb;exact(Ia.pin (b,o) (L_ _ (L_ _ (yV hb e)))).2.1
   cases ok with
   | false =>
    rw[if_neg h_] at q9;obtain⟨n',ff,w9⟩:=q9;obtain⟨a1,a2⟩:=Y4 I9;exact⟨n',ff,i+1,gT,H9,I9.unpinned,a1,a2,w9⟩
   | true =>
    rw[if_pos rfl] at q9;refine TJ (he C s3 H3 fp dS _ s9 gT H9 _ (I9.wish _) q9) (λxv pg ⟨y,my,km,ph,aj,mz,hl,n',ff,pi⟩=>?_) λ_ _ z=>z
    replace km:=km.unwish;refine TJ (FL (X:=cxC X scope N' C s3 H3 fp) _ pg gT my (.ref p) [y] (.ref p) [xv] (λ_ H'=>H'=upd my p (.lst (aj++[y]))) km rfl (.cons ph .nil) ⟨p,aj,y,rfl,rfl,mz,hl,rfl⟩) (λ_ sj ⟨sk,so,mE,_,pj⟩=>?_) λ_ _ z=>z
    subst pj;obtain⟨a1,a2⟩:=Y4 mE;exact⟨n',ff,i+1,gT,_,mE.unpinned,a1,a2,pi⟩
 subst hC;subst kh;subst hP;refine codeAny_compStart_list ?_ (T.self X.A 0 _ _ _ (T.keep _ _ _ fU λb _ o e=>old b o e) ?_)
 ·exact gK _ rfl
 ·exact gK _ rfl
end
section
variable{br iter:D_}{g:TG}{tt:TT}{te:TE}{wi:TI}
noncomputable def tComp(m:Nat)(wi:TI)(g:TG)(tt:TT)(te:TE):TE:=λU H Q=>wi U H λJ H1=>∀p,H1 p=none->CompW m J g tt te U H1 p Q
theorem LB(S:CompScope X.env.scope scope X.N N' m)(hc:X.calm=true)(hi:PI X tg iter wi)(hg:∀C s H ex,PG (cxC X scope N' C s H ex) tg g)(ht:∀C s H ex,PTs (cxC X scope N' C s H ex) bo tt)(he:∀C s H ex,PE (cxC X scope N' C s H ex) br te)(hs:∀x,TV iter X.env x=pure x:=by intros;rfl):PE X (.ListComp br [⟨tg,iter,bo,0⟩] scope pos) (tComp m wi g tt te):=by
 intro aa s U H Q I h;rw[eval_ListComp];refine U_ (use:=none) rfl hs (Ax λn hn=>I.ok.has n (S.free _ hn rfl)) S.kind S.locals (thn (hi aa s U H _ I h) λxv s1 h1=>thn h1 λgJ s2 h2=>?_);obtain⟨it,fp,tn,J,H2,e,I2,T,dO,f2,hw⟩:=h2;subst e;refine thn (BM (Er:=λ_ _ _=>False) (pos:=pos) (iter:=iter) S hc hg ht (λC s H ex _=>PE.nox (X:=(cxC X scope N' C s H ex).wish _) (he C s H ex)) I2 T dO f2 hw) λaj s3 h3=>thn h3 λbC s4 h4=>Uk h4 λr s5 h5=>?_
 cases r with
 | error x=>exact h5.elim
 | ok fl =>
  obtain⟨p,H5,mm,rfl,hn,I5,cl,q⟩:=h5;exact⟨mm,hn,λh' dF=>⟨.ref p,H5,Inv.clear I5 cl dF,rfl,q⟩⟩
theorem Kn(S:CompScope X.env.scope scope X.N N' m)(hc:X.calm=true)(hN:X.N.Nodup)(bq:X.N[i]?=some y)(hy:X.env.scope.names.lookup y=some .local)(hi:PI X tg iter wi)(hg:∀C s H ex,PG (cxC X scope N' C s H ex) tg g)(ht:∀C s H ex,PTs (cxC X scope N' C s H ex) bo tt)(he:∀C s H ex,PE (cxC X scope N' C s H ex) br te)(kn:Uy (.ListComp br [⟨tg,iter,bo,0⟩] scope pos) (some (.Name y py)) eN.line X.env=pure true)(hs:∀x,TV iter X.env x=pure x:=by intros;rfl):PS X (.Assign [.Name y py] (.ListComp br [⟨tg,iter,bo,0⟩] scope pos) eN) (tAsg (tComp m wi g tt te) (gName i)):=by
 intro aa s U H D I h;rw[exec_Assign_Name_used _ _ _ _ kn];refine a_ (Yf (a_ ?_));show o_ _ X.A (do let _ ←comprehension (.ListComp br [⟨tg,iter,bo,0⟩] scope pos) scope X.env _ (newList []) false (eval iter X.env) (some (We (.Name y py) X.env))) _ _ s
 refine a_ (thn (U_ (use:=some (We (.Name y py) X.env)) (Q:=λ_ s'=>SP X aa D .next s') rfl hs (Ax λn hn=>I.ok.has n (S.free _ hn rfl)) S.kind S.locals
  (thn (hi aa s U H _ I h) λxv s1 h1=>thn h1 λgJ s2 h2=>?_)) λ_ s' hq=>f_ (f_ hq))
 obtain⟨it,fp,tn,J,H2,e,I2,T,dO,f2,hw⟩:=h2;subst e;refine thn (BM (Er:=λ_ _ _=>False) (pos:=pos) (iter:=iter) S hc hg ht (λC s H ex _=>PE.nox (X:=(cxC X scope N' C s H ex).wish _) (he C s H ex)) I2 T dO f2 hw) λaj s3 h3=>thn h3 λbC s4 h4=>Uk h4 λr s5 h5=>?_
 cases r with
 | error x=>exact h5.elim
 | ok fl =>
  obtain⟨p,H5,mm,rfl,hn,I5,cl,q⟩:=h5;show o_ _ X.A (We (.Name y py) X.env (.ref p)) _ _ s5;refine Yx (Dt (v:=.ref p) I5 hN bq (.inl hy) rfl (λs6 I6 ⟨a,pk,ha⟩=>?_) (.inr hy))
  have fT:bC.locals≠a:=by
   rcases ha with rfl | ha
   ·exact cl.2.1
   ·exact λz=>cl.2.2.2.1 y a ha z.symm
  refine⟨mm,hn.sameBut pk fT,λh' dF=>?_⟩;have po:Clear X aa H5 bC.locals:=cl;exact⟨_,H5,Inv.clear I6 po dF,q⟩
end
noncomputable def inC{α:Type}(m:Nat)(g:M α):M α:=λΓ=>match g (P_ m none++Γ) with
 | some (a,af)=>some (a,af.drop m)
 | none=>none
noncomputable def compM(aE:D->M Unit)(ts:M Bool)(el:M D):List D->M (List D)
 | []=>ret []
 | d::ds=>bnd (aE d) λ_=>bnd ts λb=>if b then bnd el λx=>bnd (compM aE ts el ds) λr=>ret (x::r) else compM aE ts el ds
noncomputable def compO(m:Nat)(it:M (List D))(aE:D->M Unit)(ts:M Bool)(el:M D):M (List D):=bnd it λds=>if ds.length<=lim then inC m (compM aE ts el ds) else λ_=>none
noncomputable def bUp(m:Nat)(B:BB):BB:=λi=>if i < m then none else B (i - m)
theorem FQ{α:Type}{g:M α}{a:α}(h:inC m g Γ=some (a,af)):∃ac,g (P_ m none++Γ)=some (a,ac)/\af=ac.drop m:=by
 unfold inC at h;cases e:g (P_ m none++Γ) with
 | none=>rw[e] at h;cases h
 | some q=>obtain⟨b,ac⟩:=q;rw[e] at h;cases h;exact⟨ac,rfl,rfl⟩
section
variable{K:PySem.W.Frag}{B:BB}{H:Hp}
theorem wq{α:Type}{l:List (Option α)}{m:Nat}{a:α}(h:(P_ m (none:Option α)++l)[i]?=some (some a)):m<=i/\l[i - m]?=some (some a):=by
 by_cases hi:m<=i
 ·rw[Uf (by rw[M_];exact hi),M_] at h;exact⟨hi,h⟩
 ·rw[T_ (by rw[M_];omega),UD] at h;split at h<;>cases h
theorem DN{α:Type}{l:List (Option α)}{m:Nat}(hi:m<=i):(P_ m (none:Option α)++l)[i]?=l[i - m]?:=by
 rw[Uf (by rw[M_];exact hi),M_]
theorem Rep.up(r:Rep K B G I H U Γ)(m:Nat):Rep K (bUp m B) G I H (P_ m none++U) (P_ m none++Γ) where
 iH:=r.iH
 gH:=r.gH
 len:=by rw[R_,R_,M_,M_,r.len]
 slot:=λi q e=>by
  obtain⟨hi,e1⟩:=wq e;obtain⟨v,e2,e3⟩:=r.slot _ q e1;exact⟨v,by rw[DN hi];exact e2,e3⟩
 dist:=λi j q q' v e e' mm ko s1 s2=>by
  obtain⟨hi,e1⟩:=wq e;obtain⟨hj,e2⟩:=wq e';have:=r.dist _ _ q q' v e1 e2 mm ko (wq s1).2 (wq s2).2;omega
 bor:=λi ds e=>by
  obtain⟨hi,e1⟩:=wq e;rw[DN hi,r.bor _ ds e1];unfold bUp;rw[if_neg (by omega)]
theorem Rep.down(r:Rep K (bUp m B) G I H am af)(hs:am.drop m=U):Rep K B G I H U (af.drop m):=by
 subst hs
 exact {
  iH:=r.iH,gH:=r.gH
  len:=by rw[Vi,Vi,r.len]
  slot:=λi q e=>by
   rw[VM] at e;obtain⟨v,e2,e3⟩:=r.slot _ q e;exact⟨v,by rw[VM];exact e2,e3⟩
  dist:=λi j q q' v e e' mm ko s1 s2=>by
   rw[VM] at e e' s1 s2;have:=r.dist _ _ q q' v e e' mm ko s1 s2;omega
  bor:=λi ds e=>by
   rw[VM] at e ⊢;rw[r.bor _ ds e];unfold bUp;rw[if_neg (by omega)]
   congr 1
   omega }
theorem Rep.guard(r:Rep K B G I H U Γ){p:g_}(h:H p=none)(o:HO):Rep K B (upd G p o) I (upd H p o) U Γ where
 iH:=r.iH.trans (uu h o)
 gH:=FM r.gH o
 len:=r.len
 slot:=λi q e=>by
  obtain⟨v,e1,e2⟩:=r.slot i q e;refine⟨v,e1,?_⟩
  have mt:∀ds,Mt K G I H ds v->Mt K (upd G p o) I (upd H p o) ds v:=λds hh=>by
   obtain⟨p2,xs,h1,h2,h3,h4,h5⟩:=hh;have ne:p2≠p:=u9 h2 h;exact⟨p2,xs,h1,by rw[tG ne];exact h2,h3,by rw[tG ne];exact h4,h5⟩
  cases q with
  | val d=>exact e2
  | dic ds =>
   obtain⟨p2,xs,h1,h2,h3,h4,h5⟩:=e2;have ne:p2≠p:=u9 h2 h;exact⟨p2,xs,h1,by rw[tG ne];exact h2,h3,by rw[tG ne];exact h4,h5⟩
  | own ds=>exact mt ds e2
  | bor ds=>exact mt ds e2
  | fro ds =>
   obtain⟨p2,xs,f1,f2,f3,f4⟩:=e2;have ne:p2≠p:=u9 (r.iH _ _ f2) h;exact⟨p2,xs,f1,f2,by rw[tG ne];exact f3,f4⟩
 dist:=r.dist
 bor:=r.bor
theorem Rep.reguard{p:g_}{o':HO}(r:Rep K B (upd G p o) I H U Γ)(hi:I p=none):Rep K B (upd G p o') I (upd H p o') U Γ where
 iH:=λb u q=>by
  have ne:b≠p:=λz=>by subst z;rw[hi] at q;cases q
  rw[tG ne];exact r.iH b u q
 gH:=λb u q=>by
  by_cases e:b=p
  ·subst e;rw[t6] at q ⊢;exact q
  ·rw[tG e] at q ⊢;exact r.gH b u (by rw[tG e];exact q)
 len:=r.len
 slot:=λi q e=>by
  obtain⟨v,e1,e2⟩:=r.slot i q e;refine⟨v,e1,?_⟩
  have mt:∀ds,Mt K (upd G p o) I H ds v->Mt K (upd G p o') I (upd H p o') ds v:=λds hh=>by
   obtain⟨p2,xs,h1,h2,h3,h4,h5⟩:=hh;have ne:p2≠p:=λz=>by subst z;rw[t6] at h4;cases h4
   rw[tG ne] at h4;exact⟨p2,xs,h1,by rw[tG ne];exact h2,h3,by rw[tG ne];exact h4,h5⟩
  cases q with
  | val d=>exact e2
  | dic ds =>
   obtain⟨p2,xs,h1,h2,h3,h4,h5⟩:=e2;have ne:p2≠p:=λz=>by subst z;rw[t6] at h4;cases h4
   rw[tG ne] at h4;exact⟨p2,xs,h1,by rw[tG ne];exact h2,h3,by rw[tG ne];exact h4,h5⟩
  | own ds=>exact mt ds e2
  | bor ds=>exact mt ds e2
  | fro ds =>
   obtain⟨p2,xs,f1,f2,f3,f4⟩:=e2;have ne:p2≠p:=λz=>by rw[z,hi] at f2;cases f2
   rw[tG ne] at f3;exact⟨p2,xs,f1,f2,by rw[tG ne];exact f3,f4⟩
 dist:=r.dist
 bor:=r.bor
theorem Rep.unguard{p:g_}(r:Rep K B (upd G p o) I H U Γ)(hg:G p=none):Rep K B G I H U Γ/\Apart U Γ p:=by
 have ap:Apart U Γ p:=λj q e mm s=>by
  obtain⟨v,e1,e2⟩:=r.slot j q e;obtain⟨p2,xs,h1,h2,h3,h4⟩:=e2.mt mm;rw[e1,h1] at s;cases s;rw[t6] at h4;cases h4
 refine⟨{ iH:=r.iH,gH:=(uu hg o).trans r.gH,len:=r.len,slot:=λi q e=>?_,dist:=r.dist,bor:=r.bor },ap⟩;obtain⟨v,e1,e2⟩:=r.slot i q e;refine⟨v,e1,?_⟩
 have mt:∀ds,Mt K (upd G p o) I H ds v->Mt K G I H ds v:=λds hh=>by
  obtain⟨p2,xs,h1,h2,h3,h4,h5⟩:=hh;have ne:p2≠p:=λz=>by subst z;rw[t6] at h4;cases h4
  rw[tG ne] at h4;exact⟨p2,xs,h1,h2,h3,h4,h5⟩
 cases q with
 | val d=>exact e2
 | dic ds =>
  obtain⟨p2,xs,h1,h2,h3,h4,h5⟩:=e2;have ne:p2≠p:=λz=>by subst z;rw[t6] at h4;cases h4
  rw[tG ne] at h4;exact⟨p2,xs,h1,h2,h3,h4,h5⟩
 | own ds=>exact mt ds e2
 | bor ds=>exact mt ds e2
 | fro ds =>
  obtain⟨p2,xs,f1,f2,f3,f4⟩:=e2;have ne:p2≠p:=λz=>by rw[z,t6] at f3;cases f3
  rw[tG ne] at f3;exact⟨p2,xs,f1,f2,f3,f4⟩
theorem Grow.unguard{p:g_}(g:Grow (upd G p o) I I'):Grow G I I':=⟨g.up,λb u q=>by
 rcases g.new b u q with z | z
 ·exact .inl z
 ·by_cases e:b=p
  ·subst e;rw[t6] at z;cases z
  ·rw[tG e] at z;exact .inr z⟩
theorem Grow.keepsOut{p:g_}(g:Grow (upd G p o) I I')(hi:I p=none):I' p=none:=by
 cases e:I' p with
 | none=>rfl
 | some u =>
  rcases g.new p u e with z | z
  ·rw[hi] at z;cases z
  ·rw[t6] at z;cases z
end
section
variable{B:BB}{br iter:D_}
def TDs(X:Cx)(B:BB)(bo:List D_)(g:M Bool):Prop:=PTs X bo (tTD X.K B g)
theorem t7:TDs X B [] (ret true):=λaa s U H Q I h=>NE aa s U H Q I (by
 obtain⟨G,I,Γ,b,af,r,e1,k⟩:=h;cases e1
 exact k _ _ r (Grow.refl _ _))
theorem xG{c:D_}{g:M Bool}(h:TD X B c g):TDs X B [c] g:=J3 h
theorem Fu{K:PySem.W.Frag}:∀U H Q,tO K B (compO m it aE ts el) U H Q->tComp m (tI K B it) (tGD K (bUp m B) m aE) (tTD K (bUp m B) ts) (tD K (bUp m B) el) U H Q:=λU H Q q=>by
 obtain⟨G,I,Γ,rs,af,r,e1,k⟩:=q;obtain⟨ds,ac,e2,e3⟩:=lX e1;by_cases dG:ds.length<=lim
 case neg=>rw[if_neg dG] at e3;cases e3
 rw[if_pos dG] at e3;obtain⟨cn,e4,rfl⟩:=FQ e3;refine⟨G,I,Γ,ds,ac,r,e2,λJ H1 I1 r1 g1 y p hp=>?_⟩;have gp:=r1.gFree hp;have ip:=r1.iFree hp
 refine⟨λi n am H'=>∃aj ad I2 ai aF,Rep K (bUp m B) (upd G p (.lst aj)) I2 H' am ai/\Grow G I1 I2/\I2 p=none/\IsA K I2 ad aj/\am.drop m=U/\compM aE ts el (ds.drop i) ai=some (aF,cn)/\ad++aF=rs/\ad.length<=i/\i<=ds.length/\n=ds.length - i,
  ⟨ds.length,[],[],I1,_,rs,(r1.up m).guard hp _,Grow.refl _ _,ip,IsA.nil,by rw[VV (by simp),UW (by simp),List.nil_append],by simpa using e4,rfl,Tz _,Tz _,rfl⟩,?_⟩
 rintro i n aR H2 ⟨aj,ad,I2,ai,aF,r2,g2,gU,ha,hs,e5,rfl,pp,hi,rfl⟩;obtain⟨yg,ys⟩:=y i H2 (g2.up.trans r2.iH);by_cases bD:i < ds.length
 ·have hd:ds.drop i=ds[i]::ds.drop (i+1):=Tx bD;obtain⟨go,yld⟩:=yg ds[i] (n_ bD);rw[hd,compM] at e5;obtain⟨u,aL,e6,e7⟩:=lX e5;obtain⟨b,aN,e8,e9⟩:=lX e7;refine .inr ⟨go,λx H3 hy=>?_⟩
  have main:∀I3,Rep K (bUp m B) (upd G p (.lst aj)) I3 H3 aR ai->Grow (upd G p (.lst aj)) I2 I3->Is K I3 ds[i] x->tGD K (bUp m B) m aE x aR H3 λaR H3=>tTD K (bUp m B) ts aR H3 λb H4 =>
    if b=true then tD K (bUp m B) el aR H4 λy H5=>∃aj,H5 p=some (.lst aj)/\aj.length < z_/\∃n',n' < ds.length - i/\∃acc_1 ad_1 I2 ai rest_1,Rep K (bUp m B) (upd G p (.lst acc_1)) I2 (upd H5 p (.lst (aj++[y]))) aR ai/\Grow G I1 I2/\I2 p=none/\IsA K I2 ad_1 acc_1/\aR.drop m=U/\compM aE ts el (ds.drop (i+1)) ai=some (rest_1,cn)/\ad_1++rest_1=ad++aF/\ad_1.length<=i+1/\i+1<=ds.length/\n'=ds.length - (i+1)
    else ∃n',n' < ds.length - i/\∃aj ad_1 I2 ai rest_1,Rep K (bUp m B) (upd G p (.lst aj)) I2 H4 aR ai/\Grow G I1 I2/\I2 p=none/\IsA K I2 ad_1 aj/\aR.drop m=U/\compM aE ts el (ds.drop (i+1)) ai=some (rest_1,cn)/\ad_1++rest_1=ad++aF/\ad_1.length<=i+1/\i+1<=ds.length/\n'=ds.length - (i+1):=by
   intro I3 r3 g3 hx;refine⟨_,I3,ai,ds[i],aL,r3,hx,e6,λiJ H4 I4 r4 g4 kq=>⟨_,I4,aL,b,aN,r4,e8,λH5 I5 r5 g5=>?_⟩⟩;have fq:=g3.trans (g4.trans g5);have dF:iJ.drop m=U:=kq.trans hs;cases b with
   | false =>
    refine iteF ⟨ds.length - (i+1),by omega,aj,ad,I5,aN,aF,r5,g2.trans fq.unguard,fq.keepsOut gU,ha.mono fq.up,dF,by simpa using e9,rfl,by omega,bD,rfl⟩
   | true =>
    simp only[if_true] at e9;obtain⟨xd,cx,f1,f2⟩:=lX e9;obtain⟨rr,dU,f3,f4⟩:=lX f2;cases f4;refine iteT ⟨_,I5,aN,xd,cx,r5,f1,λyv H6 I6 r6 g6 mF=>⟨aj,r6.gH _ _ t6,?_,ds.length - (i+1),by omega,aj++[yv],ad++[xd],I6,cx,rr,?_⟩⟩
    ·rw[←ha.length];have h1:lim < z_:=by rw[TH];decide
     omega
    ·have fZ:=fq.trans g6;have gW:=fZ.keepsOut gU;exact⟨r6.reguard gW,g2.trans fZ.unguard,gW,IsA.append (ha.mono fZ.up) (IsA.cons mF IsA.nil),dF,f3,by rw[YE];rfl,by rw[R_,US];omega,bD,rfl⟩
  rcases yld x H3 hy with⟨rfl,hx⟩ | ⟨p2,es,xs,dB,rfl,dh,rfl,hx⟩
  ·exact main I2 r2 (Grow.refl _ _) (hx.mono g2.up)
  ·refine main _ (r2.alloc dh _) (r2.growAlloc dh _) ?_;rw[dB];exact Is.tup (SqT.of t6) ((hx.mono g2.up).mono (uu (r2.iFree dh) _))
 ·have cG:i=ds.length:=by omega
  subst cG;rw[List.drop_length] at e5;cases e5;rw[Uo] at k;refine .inl ⟨ys (r_ _),?_⟩;have rd:=Rep.down r2 hs;obtain⟨ru,ap⟩:=rd.unguard gp;exact k p aj H2 I2 ru (g1.trans g2) (r2.gH _ _ t6) gU gp ap ha
theorem ua(S:CompScope X.env.scope scope X.N N' m)(hc:X.calm=true)(hi:ITD X B tg iter it)(hg:∀C s H ex,GD (cxC X scope N' C s H ex) (bUp m B) m tg aE)(ht:∀C s H ex,TDs (cxC X scope N' C s H ex) (bUp m B) bo ts)(he:∀C s H ex,ED (cxC X scope N' C s H ex) (bUp m B) br el)(hs:∀x,TV iter X.env x=pure x:=by intros;rfl):EO X B (.ListComp br [⟨tg,iter,bo,0⟩] scope pos) (compO m it aE ts el):=PE.imp (LB (g:=tGD X.K (bUp m B) m aE) (tt:=tTD X.K (bUp m B) ts) (te:=tD X.K (bUp m B) el) S hc hi hg ht he hs) Fu
theorem BK(S:CompScope X.env.scope scope X.N N' m)(hc:X.calm=true)(hN:X.N.Nodup)(hi:ITD X B tg iter it)(hg:∀C s H ex,GD (cxC X scope N' C s H ex) (bUp m B) m tg aE)(ht:∀C s H ex,TDs (cxC X scope N' C s H ex) (bUp m B) bo ts)(he:∀C s H ex,ED (cxC X scope N' C s H ex) (bUp m B) br el)(bq:X.N[i]?=some y:=by rfl)(hy:X.env.scope.names.lookup y=some .local:=by rfl)(kn:Uy (.ListComp br [⟨tg,iter,bo,0⟩] scope pos) (some (.Name y py)) eN.line X.env=pure true:=by rfl)(hs:∀x,TV iter X.env x=pure x:=by intros;rfl):SD X B (.Assign [.Name y py] (.ListComp br [⟨tg,iter,bo,0⟩] scope pos) eN) (setV i (frz (compO m it aE ts el))):=PS.imp (Kn (g:=tGD X.K (bUp m B) m aE) (tt:=tTD X.K (bUp m B) ts) (te:=tD X.K (bUp m B) el) S hc hN bq hy hi hg ht he kn hs) λE U H q=>by
 obtain⟨G,I,Γ,f,af,r,e1,k⟩:=q;obtain⟨d1,ac,e2,e3⟩:=lX e1;obtain⟨d2,ai,e4,e5⟩:=lX e3;cases e5;obtain⟨hl,rfl⟩:=wK e4;obtain⟨ds,aL,e6,e7⟩:=lX e2;cases e7;refine Fu U H _ ⟨G,I,Γ,ds,_,r,e6,λp xs H1 I1 r1 g1 h1 h2 h3 h4 h5=>?_⟩;refine k _ H1 _ ((r1.freeze h1 h2 h4).store (by rw[r1.len];exact hl) (Is.lst (RdK.of t6) (h5.mono (uu h2 _))) (λm=>nomatch m) (λ_ z=>nomatch z)) (g1.trans (growFreeze h2 h3))
end
mutual
noncomputable def deq:D->D->Bool
 | .non,.non=>true
 | .bl a,.bl b=>a == b
 | .bl a,.int j=>(if a then(1:Int) else 0) == j
 | .int i,.bl b=>i == (if b then(1:Int) else 0)
 | .int i,.int j=>i == j
 | .str x,.str y=>x == y
 | .tup xs,.tup ys=>deqA xs ys
 | .lst xs,.lst ys=>deqA xs ys
 | .exc _ _,.exc _ _=>true
 | _,_=>false
noncomputable def deqA:List D->List D->Bool
 | [],[]=>true
 | x::xs,y::ys=>deq x y&&deqA xs ys
 | _,_=>false
end
mutual
noncomputable def dep:D->Nat
 | .tup xs=>depA xs+1
 | .lst xs=>depA xs+1
 | .exc _ _=>1000
 | _=>0
noncomputable def depA:List D->Nat
 | []=>0
 | x::xs=>max (dep x) (depA xs)
end
mutual
theorem yh:∀a:D,deq a a=true
 | .non=>by rw[deq]
 | .bl b=>by rw[deq];exact beq_self_eq_true b
 | .int b=>by rw[deq];exact beq_self_eq_true b
 | .str b=>by rw[deq];exact beq_self_eq_true b
 | .tup xs=>by rw[deq];exact vy xs
 | .lst xs=>by rw[deq];exact vy xs
 | .exc _ _=>by rw[deq]
theorem vy:∀a:List D,deqA a a=true
 | []=>by rw[deqA]
 | x::xs=>by rw[deqA,yh x,vy xs];rfl
end
theorem uk:∀{xs:List D}{x:D},x∈xs->dep x<=depA xs
 | y::ys,x,h=>by
  rw[depA]
  rcases w_.mp h with rfl | h
  ·omega
  ·have:=uk h;omega
theorem yE:∀(xs ys:List D),((Ur (min xs.length ys.length)).all (λj=>deq (xs.getD j .non) (ys.getD j .non))&&(xs.length == ys.length))=deqA xs ys
 | [],[]=>by rw[deqA];rfl
 | [],y::ys=>by rw[deqA]<;>simp
 | x::xs,[]=>by rw[deqA]<;>simp
 | x::xs,y::ys=>by
  have ih:=yE xs ys;have e:min (x::xs).length (y::ys).length=min xs.length ys.length+1:=by simp only[S_];omega
  rw[deqA,←ih,e,UN,Vp,ZC]
  have e2:((x::xs).length == (y::ys).length)=(xs.length == ys.length):=by
   simp only[S_];cases h:xs.length == ys.length
   ·simp at h ⊢;omega
   ·simp at h ⊢;omega
  rw[e2,Vq];rfl
theorem IL{xs:List D}(h:xs.length≠ys.length):deqA xs ys=false:=by
 rw[←yE];have:(xs.length == ys.length)=false:=by simpa using h
 rw[this,XM]
section
variable{H:Hp}{s:c_}
theorem IsA.getU{K:PySem.W.Frag}(h:IsA K I ds xs)(r:Vals xs us)(hj:j < us.toArray.size):∃v,RelV v us.toArray[j]/\Is K I (ds.getD j .non) v:=by
 have h1:=h.length;have h2:=r.length;have bE:j < us.length:=by simpa using hj
 have hd:ds[j]?=some ds[j]:=n_ (by omega);obtain⟨v,e1,e2⟩:=h.get hd;obtain⟨u,e3,e4⟩:=r.get e1
 have e5:us.toArray[j]=u:=by
  rw[n_ bE] at e3;simpa using e3
 refine⟨v,by rw[e5];exact e4,?_⟩;rw[t_,hd];exact e2
theorem rdL{a:g_}{K:PySem.W.Frag}(h:RdK K H a xs):SqL K H a xs:=h.sq
mutual
theorem xJ(I:Inv X aa U H s):∀{a b:D}{v:V},dep a < 1000->dep b < 1000->Is X.K H a v->Is X.K H b v->a=b
 | .non,b,v,da,db,h,h'=>by
  have e:=uY h;subst e;cases b<;>first | rfl | (simp[dep] at db;done) | (rw[Is] at h';obtain⟨_,_,e,_⟩:=h';cases e) | (rw[Is] at h';cases h')
 | .bl x,b,v,da,db,h,h'=>by
  have e:=uv h;subst e;cases b<;>first | (simp[dep] at db;done) | (rw[Is] at h';obtain⟨_,_,e,_⟩:=h';cases e) | (rw[Is] at h';cases h';rfl) | (rw[Is] at h';cases h')
 | .int x,b,v,da,db,h,h'=>by
  have e:=tJ h;subst e;cases b<;>first | (simp[dep] at db;done) | (rw[Is] at h';obtain⟨_,_,e,_⟩:=h';cases e) | (rw[Is] at h';cases h';rfl) | (rw[Is] at h';cases h')
 | .str x,b,v,da,db,h,h'=>by
  have e:=ug h;subst e;cases b<;>first | (simp[dep] at db;done) | (rw[Is] at h';obtain⟨_,_,e,_⟩:=h';cases e) | (rw[Is] at h';cases h';rfl) | (rw[Is] at h';cases h')
 | .tup ds,b,v,da,db,h,h'=>by
  obtain⟨p,xs,rfl,h1,h2⟩:=tR h;cases b with
  | tup es =>
   obtain⟨p',cf,e,h3,h4⟩:=tR h';cases e;have:=I.tuple_inj h1 h3;subst this;rw[Bl I (by rw[dep] at da;omega) (by rw[dep] at db;omega) h2 h4]
  | lst es =>
   obtain⟨p',cf,e,h3,h4⟩:=tW h';cases e;obtain⟨i1,_,t1,_⟩:=I.tuple h1;obtain⟨i2,_,t2,_⟩:=I.list (rdL h3);exact absurd rfl (ne_of_list_tuple t2.isList t1)
  | exc _ _=>simp[dep] at db
  | _=>rw[Is] at h';cases h'
 | .lst ds,b,v,da,db,h,h'=>by
  obtain⟨p,xs,rfl,h1,h2⟩:=tW h;cases b with
  | lst es =>
   obtain⟨p',cf,e,h3,h4⟩:=tW h';cases e;have:=I.list_inj (rdL h1) (rdL h3);subst this;rw[Bl I (by rw[dep] at da;omega) (by rw[dep] at db;omega) h2 h4]
  | tup es =>
   obtain⟨p',cf,e,h3,h4⟩:=tR h';cases e;obtain⟨i1,_,t1,_⟩:=I.tuple h3;obtain⟨i2,_,t2,_⟩:=I.list (rdL h1);exact absurd rfl (ne_of_list_tuple t2.isList t1)
  | exc _ _=>simp[dep] at db
  | _=>rw[Is] at h';cases h'
 | .exc _ _,b,v,da,_,_,_=>by simp[dep] at da
theorem Bl(I:Inv X aa U H s):∀{a b:List D}{v:List V},depA a < 1000->depA b < 1000->IsA X.K H a v->IsA X.K H b v->a=b
 | [],b,v,_,_,h,h'=>by
  have e:=h.nil_inv;subst e;cases b with
  | nil=>rfl
  | cons d r=>obtain⟨_,_,e,_⟩:=h'.cons_inv;cases e
 | d::ds,b,v,da,db,h,h'=>by
  obtain⟨x,r,rfl,h1,h2⟩:=h.cons_inv;cases b with
  | nil=>have:=h'.nil_inv;cases this
  | cons e es =>
   obtain⟨x',r',e',h3,h4⟩:=h'.cons_inv;cases e';rw[depA] at da db;rw[xJ I (by omega) (by omega) h1 h3,Bl I (by omega) (by omega) h2 h4]
end
open PySem.SeqAt in
theorem DW(I:Inv X aa U H s)(hu:A.units < UI){a b:D}{x y:V}{v:b_}(da:dep a < 1000)(db:dep b < 1000)(ha:Is X.K H a x)(hb:Is X.K H b y)(ru:RelV x u)(rv:RelV y v)(ht:∀xs ys,a=.tup xs->b=.tup ys->RcAt A s u v (deq a b)/\ZK A s u v (deq a b)/\YY A s u v (!deq a b))(hl:∀xs ys,a=.lst xs->b=.lst ys->RcAt A s u v (deq a b)/\ZK A s u v (deq a b)/\YY A s u v (!deq a b)):RcAt A s u v (deq a b)/\ZK A s u v (deq a b)/\YY A s u v (!deq a b):=by
 cases a with
 | exc _ _=>simp[dep] at da
 | non =>
  have e:=uY ha;subst e;cases ru;cases b with
  | exc _ _=>simp[dep] at db
  | non=>have e:=uY hb;subst e;cases rv;rw[deq];exact⟨.none_none,.same _,.none_none⟩
  | bl j=>have e:=uv hb;subst e;cases rv;rw[deq]<;>first | exact⟨.none_bool _,.none_bool _,.none_bool _⟩ | (intros;contradiction)
  | int j=>have e:=tJ hb;subst e;obtain⟨t,rfl⟩:=rv;rw[deq]<;>first | exact⟨.none_int _ _,.none_int _ _,.none_int _ _⟩ | (intros;contradiction)
  | str j=>have e:=ug hb;subst e;obtain⟨t,rfl⟩:=rv;rw[deq]<;>first | exact⟨.none_str _ _,.none_str _ _,.none_str _ _⟩ | (intros;contradiction)
  | tup j =>
   obtain⟨p,xs,rfl,h1,h2⟩:=tR hb;cases rv;obtain⟨ag,_,t,_⟩:=I.tuple h1;rw[deq]<;>first | exact⟨.none_tuple t hu,.none_tuple t hu,.none_tuple t hu⟩ | (intros;contradiction)
  | lst j =>
   obtain⟨p,xs,rfl,h1,h2⟩:=tW hb;cases rv;obtain⟨ag,_,t,_⟩:=I.list (rdL h1);have t:=t.isList;rw[deq]<;>first | exact⟨.none_list t hu,.none_list t hu,.none_list t hu⟩ | (intros;contradiction)
 | bl i =>
  have e:=uv ha;subst e;cases ru;cases b with
  | exc _ _=>simp[dep] at db
  | non=>have e:=uY hb;subst e;cases rv;rw[deq]<;>first | exact⟨.bool_none _,.bool_none _,.bool_none _⟩ | (intros;contradiction)
  | bl j=>have e:=uv hb;subst e;cases rv;rw[deq];exact⟨.bool_bool _ _,.bool_bool _ _,.bool_bool _ _⟩
  | int j=>have e:=tJ hb;subst e;obtain⟨t,rfl⟩:=rv;rw[deq];exact⟨.bool_int _ _ _,.bool_int _ _ _,.bool_int _ _ _⟩
  | str j=>have e:=ug hb;subst e;obtain⟨t,rfl⟩:=rv;rw[deq]<;>first | exact⟨.bool_str _ _ _,.bool_str _ _ _,.bool_str _ _ _⟩ | (intros;contradiction)
  | tup j =>
   obtain⟨p,xs,rfl,h1,h2⟩:=tR hb;cases rv;obtain⟨ag,_,t,_⟩:=I.tuple h1;rw[deq]<;>first | exact⟨.bool_tuple _ t hu,.bool_tuple _ t hu,.bool_tuple _ t hu⟩ | (intros;contradiction)
  | lst j =>
   obtain⟨p,xs,rfl,h1,h2⟩:=tW hb;cases rv;obtain⟨ag,_,t,_⟩:=I.list (rdL h1);have t:=t.isList;rw[deq]<;>first | exact⟨.bool_list _ t hu,.bool_list _ t hu,.bool_list _ t hu⟩ | (intros;contradiction)
 | int i =>
  have e:=tJ ha;subst e;obtain⟨t0,rfl⟩:=ru;cases b with
  | exc _ _=>simp[dep] at db
  | non=>have e:=uY hb;subst e;cases rv;rw[deq]<;>first | exact⟨.int_none _ _,.int_none _ _,.int_none _ _⟩ | (intros;contradiction)
  | bl j=>have e:=uv hb;subst e;cases rv;rw[deq];exact⟨.int_bool _ _ _,.int_bool _ _ _,.int_bool _ _ _⟩
  | int j=>have e:=tJ hb;subst e;obtain⟨t,rfl⟩:=rv;rw[deq];exact⟨.int_int _ _ _ _,.int_int _ _ _ _,.int_int _ _ _ _⟩
  | str j=>have e:=ug hb;subst e;obtain⟨t,rfl⟩:=rv;rw[deq]<;>first | exact⟨.int_str _ _ _ _,.int_str _ _ _ _,.int_str _ _ _ _⟩ | (intros;contradiction)
  | tup j =>
   obtain⟨p,xs,rfl,h1,h2⟩:=tR hb;cases rv;obtain⟨ag,_,t,_⟩:=I.tuple h1;rw[deq]<;>first | exact⟨.int_tuple _ _ t hu,.int_tuple _ _ t hu,.int_tuple _ _ t hu⟩ | (intros;contradiction)
  | lst j =>
   obtain⟨p,xs,rfl,h1,h2⟩:=tW hb;cases rv;obtain⟨ag,_,t,_⟩:=I.list (rdL h1);have t:=t.isList;rw[deq]<;>first | exact⟨.int_list _ _ t hu,.int_list _ _ t hu,.int_list _ _ t hu⟩ | (intros;contradiction)
 | str i =>
  have e:=ug ha;subst e;obtain⟨t0,rfl⟩:=ru;cases b with
  | exc _ _=>simp[dep] at db
  | non=>have e:=uY hb;subst e;cases rv;rw[deq]<;>first | exact⟨.str_none _ _,.str_none _ _,.str_none _ _⟩ | (intros;contradiction)
  | bl j=>have e:=uv hb;subst e;cases rv;rw[deq]<;>first | exact⟨.str_bool _ _ _,.str_bool _ _ _,.str_bool _ _ _⟩ | (intros;contradiction)
  | int j=>have e:=tJ hb;subst e;obtain⟨t,rfl⟩:=rv;rw[deq]<;>first | exact⟨.str_int _ _ _ _,.str_int _ _ _ _,.str_int _ _ _ _⟩ | (intros;contradiction)
  | str j=>have e:=ug hb;subst e;obtain⟨t,rfl⟩:=rv;rw[deq];exact⟨.str_str _ _ _ _,.str_str _ _ _ _,.str_str _ _ _ _⟩
  | tup j =>
   obtain⟨p,xs,rfl,h1,h2⟩:=tR hb;cases rv;obtain⟨ag,_,t,_⟩:=I.tuple h1;rw[deq]<;>first | exact⟨.str_tuple _ _ t hu,.str_tuple _ _ t hu,.str_tuple _ _ t hu⟩ | (intros;contradiction)
  | lst j =>
   obtain⟨p,xs,rfl,h1,h2⟩:=tW hb;cases rv;obtain⟨ag,_,t,_⟩:=I.list (rdL h1);have t:=t.isList;rw[deq]<;>first | exact⟨.str_list _ _ t hu,.str_list _ _ t hu,.str_list _ _ t hu⟩ | (intros;contradiction)
 | tup i =>
  obtain⟨q,ys,rfl,g1,g2⟩:=tR ha;cases ru;obtain⟨bI,_,t',_⟩:=I.tuple g1;cases b with
  | exc _ _=>simp[dep] at db
  | non=>have e:=uY hb;subst e;cases rv;rw[deq]<;>first | exact⟨.tuple_none t' hu,.tuple_none t' hu,.tuple_none t' hu⟩ | (intros;contradiction)
  | bl j=>have e:=uv hb;subst e;cases rv;rw[deq]<;>first | exact⟨.tuple_bool _ t' hu,.tuple_bool _ t' hu,.tuple_bool _ t' hu⟩ | (intros;contradiction)
  | int j=>have e:=tJ hb;subst e;obtain⟨t,rfl⟩:=rv;rw[deq]<;>first | exact⟨.tuple_int _ _ t' hu,.tuple_int _ _ t' hu,.tuple_int _ _ t' hu⟩ | (intros;contradiction)
  | str j=>have e:=ug hb;subst e;obtain⟨t,rfl⟩:=rv;rw[deq]<;>first | exact⟨.tuple_str _ _ t' hu,.tuple_str _ _ t' hu,.tuple_str _ _ t' hu⟩ | (intros;contradiction)
  | tup j=>exact ht _ _ rfl rfl
  | lst j =>
   obtain⟨p,xs,rfl,h1,h2⟩:=tW hb;cases rv;obtain⟨ag,_,t,_⟩:=I.list (rdL h1);have t:=t.isList;rw[deq]<;>first | exact⟨.tuple_list t' t hu,.tuple_list t' t hu,.tuple_list t' t hu⟩ | (intros;contradiction)
 | lst i =>
  obtain⟨q,ys,rfl,g1,g2⟩:=tW ha;cases ru;obtain⟨bI,_,t',_⟩:=I.list (rdL g1);have t':=t'.isList;cases b with
  | exc _ _=>simp[dep] at db
  | non=>have e:=uY hb;subst e;cases rv;rw[deq]<;>first | exact⟨.list_none t' hu,.list_none t' hu,.list_none t' hu⟩ | (intros;contradiction)
  | bl j=>have e:=uv hb;subst e;cases rv;rw[deq]<;>first | exact⟨.list_bool _ t' hu,.list_bool _ t' hu,.list_bool _ t' hu⟩ | (intros;contradiction)
  | int j=>have e:=tJ hb;subst e;obtain⟨t,rfl⟩:=rv;rw[deq]<;>first | exact⟨.list_int _ _ t' hu,.list_int _ _ t' hu,.list_int _ _ t' hu⟩ | (intros;contradiction)
  | str j=>have e:=ug hb;subst e;obtain⟨t,rfl⟩:=rv;rw[deq]<;>first | exact⟨.list_str _ _ t' hu,.list_str _ _ t' hu,.list_str _ _ t' hu⟩ | (intros;contradiction)
  | lst j=>exact hl _ _ rfl rfl
  | tup j =>
   obtain⟨p,xs,rfl,h1,h2⟩:=tR hb;cases rv;obtain⟨ag,_,t,_⟩:=I.tuple h1;rw[deq]<;>first | exact⟨.list_tuple t' t hu,.list_tuple t' t hu,.list_tuple t' t hu⟩ | (intros;contradiction)
open PySem.SeqAt in
theorem wv(I:Inv X aa U H s):∀(n:Nat) (A:Uh),A.units+n < UI->n < 900->∀(a b:D) (x y:V) (u v:b_),dep a<=n/\dep b<=n->Is X.K H a x->Is X.K H b y->RelV x u->RelV y v->RcAt A s u v (deq a b)/\ZK A s u v (deq a b)/\YY A s u v (!deq a b):=by
 intro n
 induction n with
 | zero =>
  intro A hu hn a b x y u v hd ha hb ru rv;refine DW I (by omega) (by omega) (by omega) ha hb ru rv (λxs ys e1 e2=>?_) (λxs ys e1 e2=>?_)<;>(subst e1;subst e2;rw[dep,dep] at hd;omega)
 | succ n ih =>
  intro A hu hn a b x y u v hd ha hb ru rv;have ft:A.in1.units+n < UI:=by show A.units+1+n < UI;omega
  refine DW I (by omega) (by omega) (by omega) ha hb ru rv (λds es e1 e2=>?_) (λds es e1 e2=>?_)
  ·subst e1;subst e2;obtain⟨p,xs,rfl,h1,h2⟩:=tR ha;obtain⟨q,ys,rfl,h3,h4⟩:=tR hb;cases ru;cases rv;obtain⟨ag,r1,t1,_⟩:=I.tuple h1;obtain⟨bI,r2,t2,_⟩:=I.tuple h3;have l1:ag.toArray.size=ds.length:=by rw[p_,←r1.length,h2.length]
   have l2:bI.toArray.size=es.length:=by rw[p_,←r2.length,h4.length]
   have hk:∀j (g1:j < ag.toArray.size) (g2:j < bI.toArray.size),ZK A.in1 s ag.toArray[j] bI.toArray[j] (deq (ds.getD j .non) (es.getD j .non)):=λj g1 g2=>by
    obtain⟨v1,q1,q2⟩:=h2.getU r1 g1;obtain⟨v2,q3,q4⟩:=h4.getU r2 g2;refine(ih A.in1 ft (by omega) _ _ _ _ _ _ ?_ q2 q4 q1 q3).2.1
    have m1:ds.getD j .non∈ds:=by
     rw[t_,n_ (by omega)];exact Ua _
    have m2:es.getD j .non∈es:=by
     rw[t_,n_ (by omega)];exact Ua _
    have k1:=uk m1;have k2:=uk m2;rw[dep,dep] at hd;omega
   have re:((Ur (min ag.toArray.size bI.toArray.size)).all (λj=>deq (ds.getD j .non) (es.getD j .non))&&ag.toArray.size == bI.toArray.size)=deqA ds es:=by
    rw[l1,l2];exact yE ds es
   have R1:=RcAt.tuples (A:=A) t1 t2 (by omega) hk;have R3:=YY.tuples (A:=A) t1 t2 (by omega) hk;rw[re] at R1 R3;have ed:deq (.tup ds) (.tup es)=deqA ds es:=by rw[deq]
   rw[ed];refine⟨R1,?_,R3⟩;by_cases hpq:p=q
   ·subst hpq;have:=xJ I (by omega) (by omega) ha hb;cases this;rw[vy];exact .same _
   ·exact .of_refs hpq R1
  ·subst e1;subst e2;obtain⟨p,xs,rfl,h1,h2⟩:=tW ha;obtain⟨q,ys,rfl,h3,h4⟩:=tW hb;cases ru;cases rv;obtain⟨ag,r1,t1,_⟩:=I.list (rdL h1);obtain⟨bI,r2,t2,_⟩:=I.list (rdL h3);have t1:=t1.isList;have t2:=t2.isList;have l1:ag.toArray.size=ds.length:=by rw[p_,←r1.length,h2.length]
   have l2:bI.toArray.size=es.length:=by rw[p_,←r2.length,h4.length]
   have ed:deq (.lst ds) (.lst es)=deqA ds es:=by rw[deq]
   rw[ed]
   have fin:RcAt A s (.ref p) (.ref q) (deqA ds es)/\YY A s (.ref p) (.ref q) (!deqA ds es):=by
    by_cases hl:ds.length=es.length
    ·have hk:∀j (g1:j < ag.toArray.size) (g2:j < bI.toArray.size),ZK A.in1 s ag.toArray[j] bI.toArray[j] (deq (ds.getD j .non) (es.getD j .non)):=λj g1 g2=>by
      obtain⟨v1,q1,q2⟩:=h2.getU r1 g1;obtain⟨v2,q3,q4⟩:=h4.getU r2 g2;refine(ih A.in1 ft (by omega) _ _ _ _ _ _ ?_ q2 q4 q1 q3).2.1
      have m1:ds.getD j .non∈ds:=by
       rw[t_,n_ (by omega)];exact Ua _
      have m2:es.getD j .non∈es:=by
       rw[t_,n_ (by omega)];exact Ua _
      have k1:=uk m1;have k2:=uk m2;rw[dep,dep] at hd;omega
     have re:(Ur ag.toArray.size).all (λj=>deq (ds.getD j .non) (es.getD j .non))=deqA ds es:=by
      rw[←yE ds es,l1,hl,Nat.min_self,beq_self_eq_true,Yl]
     have R1:=RcAt.lists (A:=A) t1 t2 (by omega) (by omega) hk;have R3:=YY.lists (A:=A) t1 t2 (by omega) (by omega) hk;rw[re] at R1 R3;exact⟨R1,R3⟩
    ·rw[IL hl];have gf:(ag.toArray.size != bI.toArray.size)=true:=by rw[l1,l2];simpa using hl
     exact⟨.lists_lengths t1 t2 gf (by omega),.lists_lengths t1 t2 gf (by omega)⟩
   refine⟨fin.1,?_,fin.2⟩;by_cases hpq:p=q
   ·subst hpq;have:=xJ I (by omega) (by omega) ha hb;cases this;rw[vy];exact .same _
   ·exact .of_refs hpq fin.1
noncomputable def rEqD(K:PySem.W.Frag)(neg:Bool):R2:=λx y H Q=>∃a b,Is K H a x/\Is K H b y/\(dep a<=100/\dep b<=100)/\Q (.bl (if neg then !deq a b else deq a b)) H
theorem Ht(hu:X.A.units+100 < UI):OpR X (Tl .Eq) (rEqD X.K false):=by
 intro aa s U H x y v u Q I rx ry h;obtain⟨a,b,h1,h2,h3,q⟩:=h;exact(wv I 100 X.A hu (by decide) a b x y v u h3 h1 h2 rx ry).1 _ _ _ _ ⟨.bl (deq a b),H,I,rfl,q⟩
theorem Ng(hu:X.A.units+100 < UI):OpR X (Tl .NotEq) (rEqD X.K true):=by
 intro aa s U H x y v u Q I rx ry h;obtain⟨a,b,h1,h2,h3,q⟩:=h;exact(wv I 100 X.A hu (by decide) a b x y v u h3 h1 h2 rx ry).2.2 _ _ _ _ ⟨.bl (!deq a b),H,I,rfl,q⟩
noncomputable def rInD(K:PySem.W.Frag)(neg:Bool):R2:=λx y H Q=>∃a ds,Is K H a x/\(Is K H (.lst ds) y\/Is K H (.tup ds) y)/\(dep a<=99/\depA ds<=99)/\Q (.bl (if neg then !ds.any (λd=>deq d a) else ds.any λd=>deq d a)) H
theorem M0{K:PySem.W.Frag}{f:D->Bool}{e:b_->Bool}(h:IsA K H ds xs)(r:Vals xs us)(hf:∀d v u,d∈ds->Is K H d v->RelV v u->e u=f d):us.any e=ds.any f:=by
 induction ds generalizing xs us with
 | nil=>have:=h.nil_inv;subst this;cases r;rfl
 | cons d ds ih =>
  obtain⟨x,xr,rfl,h1,h2⟩:=h.cons_inv;cases r with
  | cons r1 r2 =>
   rw[YF,YF,hf d _ _ m_ h1 r1,ih h2 r2 λd v u hd=>hf d v u (i_ _ hd)]
theorem Jc(hu:X.A.units+100 < UI){aa:List (g_×Obj)}{U:L2.St}{H:Hp}{s:c_}{x y:V}{v:b_}{Q:VK}(I:Inv X aa U H s)(rx:RelV x v)(ry:RelV y u)(h:rInD X.K neg x y H Q):
  ∃(ag:Array b_) (e:b_->Bool) (l:g_),u=.ref l/\(s.heap.IsList l ag\/s.heap.IsTuple l ag)/\(∀z,z∈ag->PySem.SeqAt.EqAt X.A.in1 s z v (e z))/\Q (.bl (if neg then !ag.any e else ag.any e)) H:=by
 obtain⟨a,ds,h1,h2,h3,q⟩:=h;have ft:X.A.in1.units+99 < UI:=by show X.A.units+1+99 < UI;omega
 -- every item has ag data: e reads it kt
 have bP:∀(xs:List V) (ag:List b_),IsA X.K H ds xs->Vals xs ag->∃e:b_->Bool,(∀z,z∈ag.toArray->PySem.SeqAt.EqAt X.A.in1 s z v (e z))/\ag.toArray.any e=ds.any λd=>deq d a:=by
  intro xs ag ha r
  have ex:∀z:b_,∃b:Bool,∀d w,d∈ds->Is X.K H d w->RelV w z->b=deq d a:=λz=>by
   by_cases hz:∃d w,d∈ds/\Is X.K H d w/\RelV w z
   ·obtain⟨d,w,hd,hi,hr⟩:=hz;refine⟨deq d a,λd' w' cP bq kw=>?_⟩;have:=RelV.inj hr kw;subst this;rw[xJ I (by have:=uk hd;omega) (by have:=uk cP;omega) hi bq]
   ·exact⟨false,λd w hd hi hr=>absurd ⟨d,w,hd,hi,hr⟩ hz⟩
  refine⟨λz=>(ex z).choose,λz hz=>?_,?_⟩
  ·have pq:z∈ag:=by simpa using hz
   obtain⟨j,hj,ej⟩:=List.mem_iff_getElem.mp pq;obtain⟨w,q1,q2⟩:=ha.getU r (j:=j) (by simpa using hj)
   have mG:RelV w z:=by
    have:ag.toArray[j]'(by simpa using hj)=z:=by simpa using ej
    rw[←this];exact q1
   have hm:ds.getD j .non∈ds:=by
    have l1:=ha.length;have l2:=r.length;rw[t_,n_ (by omega)];exact Ua _
   show PySem.SeqAt.EqAt X.A.in1 s z v (ex z).choose;rw[(ex z).choose_spec _ w hm q2 mG];exact(wv I 99 X.A.in1 ft (by decide) _ a w x z v ⟨by have:=uk hm;omega,h3.1⟩ q2 h1 mG rx).2.1
  ·have:ag.toArray.any (λz=>(ex z).choose)=ag.any (λz=>(ex z).choose):=by simp
   rw[this];exact M0 ha r λd w z hd hi hr=>(ex z).choose_spec d w hd hi hr
 rcases h2 with h2 | h2
 ·obtain⟨l,xs,rfl,g1,g2⟩:=tW h2;cases ry;obtain⟨ag,r,t,_⟩:=I.list (rdL g1);obtain⟨e,k1,k2⟩:=bP xs ag g2 r;exact⟨ag.toArray,e,l,rfl,.inl t.isList,k1,by rw[k2];exact q⟩
 ·obtain⟨l,xs,rfl,g1,g2⟩:=tR h2;cases ry;obtain⟨ag,r,t,_⟩:=I.tuple g1;obtain⟨e,k1,k2⟩:=bP xs ag g2 r;exact⟨ag.toArray,e,l,rfl,.inr t,k1,by rw[k2];exact q⟩
theorem Lz(hu:X.A.units+100 < UI):OpR X (Tl .In) (rInD X.K false):=by
 intro aa s U H x y v u Q I rx ry h;obtain⟨ag,e,l,rfl,hl,he,q⟩:=Jc hu I rx ry h
 rcases hl with hl | hl
 ·exact PySem.SeqAt.in_listAt e hl he ⟨.bl (ag.any e),H,I,rfl,q⟩
 ·exact PySem.SeqAt.in_tupleAt e hl he ⟨.bl (ag.any e),H,I,rfl,q⟩
end
end DL
set_option exponentiation.threshold 2000
namespace DL
open PySem PySem.Spec PyProof.Rows L2
noncomputable def intF(C:Int->Int->Bool)(g:Int->Int->D)(a b:D):Option D:=match a,b with
 | .int i,.int j=>if C i j then some (g i j) else none
 | _,_=>none
theorem AG{C:Int->Int->Bool}{g:Int->Int->D}{a b d:D}(h:intF C g a b=some d):∃i j,a=.int i/\b=.int j/\C i j=true/\d=g i j:=by
 unfold intF at h;split at h
 ·obtain⟨h1,h2⟩:=tZ h;exact⟨_,_,rfl,rfl,h1,h2⟩
 ·cases h
noncomputable def tt2(_ _:Int):Bool:=true
theorem od_I{K:PySem.W.Frag}{C:Int->Int->Prop}{c:Int->Int->Bool}{g:Int->Int->Int}(hc:∀i j,c i j=true->C i j):OpD K (rI C λi j=>.int (g i j)) (intF c λi j=>.int (g i j)):=λa b d e B G I H U Γ x y Q r hx hy k=>by
 obtain⟨i,j,rfl,rfl,h,rfl⟩:=AG e;exact⟨i,j,tJ hx,tJ hy,hc i j h,k.now r (Is.int _)⟩
theorem Qz{K:PySem.W.Frag}{g:Int->Int->Int}:OpD K (rI0 λi j=>.int (g i j)) (intF tt2 λi j=>.int (g i j)):=λa b d e B G I H U Γ x y Q r hx hy k=>by
 obtain⟨i,j,rfl,rfl,h,rfl⟩:=AG e;exact⟨i,j,tJ hx,tJ hy,k.now r (Is.int _)⟩
theorem ur{K:PySem.W.Frag}{g:Int->Int->Bool}:OpD K (rI0 λi j=>.bl (g i j)) (intF tt2 λi j=>.bl (g i j)):=λa b d e B G I H U Γ x y Q r hx hy k=>by
 obtain⟨i,j,rfl,rfl,h,rfl⟩:=AG e;exact⟨i,j,tJ hx,tJ hy,k.now r (Is.bl _)⟩
noncomputable def subI:D->D->Option D:=intF tt2 λi j=>.int (i - j)
noncomputable def mulI:D->D->Option D:=intF (λi j=>decide ((-(2 ^ 64) < i/\i < 2 ^ 64)\/(-(2 ^ 64) < j/\j < 2 ^ 64))) λi j=>.int (i*j)
noncomputable def modI:D->D->Option D:=intF (λ_ j=>decide (0 < j)) λi j=>.int (i % j)
noncomputable def divI:D->D->Option D:=intF (λ_ j=>decide (0 < j/\j < 2 ^ 200)) λi j=>.int (i / j)
noncomputable def powI:D->D->Option D:=intF (λi j=>decide (0<=j/\j<=1000000/\i.natAbs < 2 ^ 64)) λi j=>.int (i ^ j.toNat)
noncomputable def ltI:D->D->Option D:=intF tt2 λi j=>.bl (decide (i < j))
noncomputable def leI:D->D->Option D:=intF tt2 λi j=>.bl (decide (i<=j))
noncomputable def gtI:D->D->Option D:=intF tt2 λi j=>.bl (decide (j < i))
noncomputable def geI:D->D->Option D:=intF tt2 λi j=>.bl (decide (j<=i))
section
variable{B:BB}{a b c e:D_}{es:List D_}{gc:M D}
theorem y6(ha:ED X B a ga)(hb:ED X B b gb):ED X B (.BinOp a .Sub b pos) (op2 subI ga gb):=vP J5 Qz ha hb
theorem u8(ha:ED X B a ga)(hb:ED X B b gb):ED X B (.BinOp a .Mult b pos) (op2 mulI ga gb):=vP LL (od_I (C:=CMul) λi j h=>(of_decide_eq_true h:_\/_)) ha hb
theorem va(ha:ED X B a ga)(hb:ED X B b gb):ED X B (.BinOp a .Mod b pos) (op2 modI ga gb):=vP Lr (od_I λi j h=>of_decide_eq_true h) ha hb
theorem A5(ha:ED X B a ga)(hb:ED X B b gb):ED X B (.BinOp a .Pow b pos) (op2 powI ga gb):=vP IR (od_I (C:=CPow) λi j h=>(of_decide_eq_true h:_/\_/\_)) ha hb
def CDivW(i j:Int):Prop:=0 < j/\j < 2 ^ 200
theorem Qq:OpR X (UA .FloorDiv) (rI CDivW λi j=>.int (i / j)):=opI λi j _ _ _ _ _ hc q=>by
 have h1:(0:Int) < j:=hc.1
 have h2:j.natAbs < 2 ^ 200:=by
  have:=hc.2;omega
 have h4:j.natAbs.log2 < 9000:=by
  have h5:j.natAbs.log2 < 200:=(Nat.log2_lt (by omega)).mpr h2;omega
 refine floordiv_int (by omega) ?_ (.inl (PyProof.noPylong_of_log2 h4));rw[Int.fdiv_eq_ediv_of_nonneg _ (Int.le_of_lt h1)];exact q
theorem JP(ha:ED X B a ga)(hb:ED X B b gb):ED X B (.BinOp a .FloorDiv b pos) (op2 divI ga gb):=vP Qq (od_I (C:=CDivW) λi j h=>(of_decide_eq_true h:_/\_)) ha hb
theorem HB(ha:ED X B a ga)(hb:ED X B b gb):ED X B (.Compare a [.Lt] [b] pos) (op2 ltI ga gb):=xq vZ ur ha hb (nomark _)
theorem Iu(ha:ED X B a ga)(hb:ED X B b gb):ED X B (.Compare a [.LtE] [b] pos) (op2 leI ga gb):=xq vh ur ha hb (nomark _)
theorem JV(ha:ED X B a ga)(hb:ED X B b gb):ED X B (.Compare a [.Gt] [b] pos) (op2 gtI ga gb):=xq Fv ur ha hb (nomark _)
theorem vY(ha:ED X B a ga)(hb:ED X B b gb):TD X B (.Compare a [.Lt] [b] pos) (tst (op2 ltI ga gb)):=vo vZ ur ha hb (nomark _)
theorem Ae(ha:ED X B a ga)(hb:ED X B b gb):TD X B (.Compare a [.Gt] [b] pos) (tst (op2 gtI ga gb)):=vo Fv ur ha hb (nomark _)
theorem AH(ha:ED X B a ga)(hb:ED X B b gb):TD X B (.Compare a [.GtE] [b] pos) (tst (op2 geI ga gb)):=vo Ju ur ha hb (nomark _)
theorem EA(ha:ED X B a ga)(hb:ED X B b gb)(hc:ED X B c gc)(hm:UC [.LtE,.LtE] [b,c]=false:=by with_unfolding_all rfl):ED X B (.Compare a [.LtE,.LtE] [b,c] pos) (chn leI leI ga gb gc):=Fm vh ur vh ur ha hb hc hm
theorem KU(ha:ED X B a ga)(hb:ED X B b gb)(hc:ED X B c gc)(hm:UC [.LtE,.Lt] [b,c]=false:=by with_unfolding_all rfl):ED X B (.Compare a [.LtE,.Lt] [b,c] pos) (chn leI ltI ga gb gc):=Fm vh ur vZ ur ha hb hc hm
theorem yk(ha:ED X B a ga)(hb:ED X B b gb)(hc:ED X B c gc)(hm:UC [.LtE,.LtE] [b,c]=false:=by with_unfolding_all rfl):TD X B (.Compare a [.LtE,.LtE] [b,c] pos) (tst (chn leI leI ga gb gc)):=Ed vh ur vh ur ha hb hc hm
theorem EM(ha:ED X B a ga)(hb:ED X B b gb)(hc:ED X B c gc)(hm:UC [.LtE,.Lt] [b,c]=false:=by with_unfolding_all rfl):TD X B (.Compare a [.LtE,.Lt] [b,c] pos) (tst (chn leI ltI ga gb gc)):=Ed vh ur vZ ur ha hb hc hm
noncomputable def eqF(neg:Bool)(a b:D):Option D:=if dep a<=100/\dep b<=100 then some (.bl (if neg then !deq a b else deq a b)) else none
theorem B6{K:PySem.W.Frag}:OpD K (rEqD K neg) (eqF neg):=λa b d e B G I H U Γ x y Q r hx hy k=>by
 obtain⟨h1,rfl⟩:=tZ e;exact⟨a,b,hx.mono r.iH,hy.mono r.iH,h1,k.now r (Is.bl _)⟩
variable {kr:Nat}
theorem hu100(hr:Room k A):A.units+100 < UI:=by have:=hr.un;omega
theorem vH(hr:Room kr X.A)(ha:ED X B a ga)(hb:ED X B b gb):ED X B (.Compare a [.Eq] [b] pos) (op2 (eqF false) ga gb):=xq (Ht (hu100 hr)) B6 ha hb (nomark _)
theorem uI(hr:Room kr X.A)(ha:ED X B a ga)(hb:ED X B b gb):TD X B (.Compare a [.Eq] [b] pos) (tst (op2 (eqF false) ga gb)):=vo (Ht (hu100 hr)) B6 ha hb (nomark _)
theorem uM(hr:Room kr X.A)(ha:ED X B a ga)(hb:ED X B b gb):TD X B (.Compare a [.NotEq] [b] pos) (tst (op2 (eqF true) ga gb)):=vo (Ng (hu100 hr)) B6 ha hb (nomark _)
noncomputable def inF(neg:Bool)(a b:D):Option D:=match seqI b with
 | some ds=>if dep a<=99/\depA ds<=99 then some (.bl (if neg then !ds.any (λd=>deq d a) else ds.any λd=>deq d a)) else none
 | none=>none
theorem Ls{K:PySem.W.Frag}:OpD K (rInD K neg) (inF neg):=λa b d e B G I H U Γ x y Q r hx hy k=>by
 unfold inF at e;cases b with
 | lst ds =>
  obtain⟨h1,rfl⟩:=tZ e;exact⟨a,ds,hx.mono r.iH,.inl (hy.mono r.iH),h1,k.now r (Is.bl _)⟩
 | tup ds =>
  obtain⟨h1,rfl⟩:=tZ e;exact⟨a,ds,hx.mono r.iH,.inr (hy.mono r.iH),h1,k.now r (Is.bl _)⟩
 | _=>cases e
theorem Ib(hr:Room kr X.A)(ha:ED X B a ga)(hb:ED X B b gb)(hm:Us .In b=false:=by rfl):TD X B (.Compare a [.In] [b] pos) (tst (op2 (inF false) ga gb)):=vo (Lz (hu100 hr)) Ls ha hb hm
noncomputable def rCatTT(K:PySem.W.Frag):R2:=λx y H Q=>∃a b xs ys,x=.ref a/\y=.ref b/\SqT K H a xs/\SqT K H b ys/\xs.length+ys.length<=z_ ∧
 (xs=[]->Q (.ref b) H)/\(xs≠[]->ys=[]->Q (.ref a) H)/\(xs≠[]->ys≠[]->∀p,H p=none->Q (.ref p) (upd H p (.tup (xs++ys))))
theorem LY:OpR X (UA .Add) (rCatTT X.K):=by
 intro aa s U H x y v u Q I rx ry h;obtain⟨a,b,xs,ys,rfl,rfl,ha,hb,hz,q0,q1,q2⟩:=h;cases rx;cases ry;obtain⟨ag,r1,p1,_⟩:=I.tuple ha;obtain⟨eK,r2,p2,_⟩:=I.tuple hb;by_cases hx:xs=[]
 ·subst hx;cases r1;obtain⟨⟨cls,dd,data,sl⟩,ho,hc,n,hd⟩:=id p1;obtain⟨⟨lZ,iE,data2,iF⟩,eJ,cT,n2,dB⟩:=id p2;simp only at hc hd cT dB;subst hc hd cT dB
  exact YA ⟨_,ho,rfl⟩ ⟨_,eJ,rfl⟩ WU Yi XE Xk (WV _ _)
   (tuple_addW0 a b _ eK.toArray n n2 dd iE sl iF (by simp)) ⟨ho,eJ,⟨.ref b,H,I,rfl,q0 rfl⟩⟩
 ·exact Pu aa s U H (.ref a) (.ref b) _ _ Q I rfl rfl ⟨a,b,xs,ys,rfl,rfl,ha,hb,hx,hz,q1 hx,q2 hx⟩
noncomputable def addF(a b:D):Option D:=match a,b with
 | .int i,.int j=>some (.int (i+j))
 | .tup xs,.tup ys=>if xs.length+ys.length<=lim then some (.tup (xs++ys)) else none
 | .str x,.str y=>if x.length+y.length<=lim then some (.str (x++y)) else none
 | _,_=>none
theorem IsA.ne_nil{K:PySem.W.Frag}(h:IsA K I ds xs):xs=[]↔ds=[]:=by
 have:=h.length;constructor
 ·intro e;subst e;exact TB.mp this
 ·intro e;subst e;exact TB.mp this.symm
theorem t9(ha:ED X B a ga)(hb:ED X B b gb):ED X B (.BinOp a .Add b pos) (op2 addF ga gb):=vP ((JY.or LY).or Lm) (λa b d e B G I H U Γ x y Q r hx hy k=>by
 unfold addF at e;split at e
 ·cases e;exact .inl (.inl ⟨_,_,tJ hx,tJ hy,k.now r (Is.int _)⟩)
 ·obtain⟨hl,rfl⟩:=tZ e;obtain⟨p,xs,rfl,h1,h2⟩:=tR hx;obtain⟨q,ys,rfl,h3,h4⟩:=tR hy;refine .inl (.inr ⟨p,q,xs,ys,rfl,rfl,Same.sqT r.iH h1,Same.sqT r.iH h3,by rw[←h2.length,←h4.length];exact vF hl,λz=>?_,λ_ z=>?_,λ_ _ p' hp=>k.tup r hp (IsA.append h2 h4)⟩)
  ·have:=h2.ne_nil.mp z;subst this;exact k.now r (Is.tup h3 h4)
  ·have:=h4.ne_nil.mp z;subst this;rw[Uo] at k;exact k.now r (Is.tup h1 h2)
 ·obtain⟨hl,rfl⟩:=tZ e;exact .inr ⟨_,_,ug hx,ug hy,vF hl,k.now r (Is.str _)⟩
 ·cases e) ha hb
noncomputable def rCatR(K:PySem.W.Frag):R2:=λx y H Q=>∃l b xs zs,x=.ref l/\y=.ref b/\RdK K H l xs/\RdK K H b zs/\xs.length+zs.length<=z_/\∀p,H p=none->Q (.ref p) (upd H p (.lst (xs++zs)))
theorem Jy:OpR X (UA .Add) (rCatR X.K):=by
 intro aa s U H x y v u Q I rx ry h;obtain⟨l,b,xs,zs,rfl,rfl,hH,hB,hz,q⟩:=h;cases rx;cases ry;obtain⟨z,ag,n,r,hl,e⟩:=Hr I hH;obtain⟨z2,eK,n2,r2,eO,e2⟩:=Hr I hB;refine PySem.P.add_list e e2 ?_ (by rw[p_,p_];omega);have ea:ag.toArray++eK.toArray=(ag++eK).toArray:=by simp
 rw[ea];exact⟨.ref _,_,I.lnew (t':=s.toks) (r.append r2) (by rw[R_];omega),rfl,q _ I.fresh⟩
noncomputable def catF(a b:D):Option (List D):=match a,b with
 | .lst xs,.lst ys=>if xs.length+ys.length<=lim then some (xs++ys) else none
 | _,_=>none
theorem u0(ha:ED X B a ga)(hb:ED X B b gb):EO X B (.BinOp a .Add b pos) (op2 catF ga gb):=N0 Jy (λa b d e B G I H U Γ x y Q r hx hy k=>by
 unfold catF at e;split at e
 ·obtain⟨hl,rfl⟩:=tZ e;obtain⟨p,xs,rfl,h1,h2⟩:=tW hx;obtain⟨q,ys,rfl,h3,h4⟩:=tW hy;exact⟨p,q,xs,ys,rfl,rfl,Same.rdK r.iH h1,Same.rdK r.iH h3,by rw[←h2.length,←h4.length];exact vF hl,λp' hp=>k.new r hp (IsA.append h2 h4)⟩
 ·cases e) ha hb
theorem IsA.at{K:PySem.W.Frag}{I:Hp}{ds:List D}{xs:List V}{i:Int}{d:D}(h:IsA K I ds xs)(e:atI ds i=some d):∃x,atI xs i=some x/\Is K I d x:=by
 unfold atI at e ⊢;rw[←h.length];cases hj:ixN ds.length i with
 | none=>rw[hj] at e;cases e
 | some j =>
  rw[hj] at e;exact h.get e
noncomputable def ixF(a b:D):Option D:=match seqI a,asI b with
 | some ds,some i=>atI ds i
 | _,_=>none
theorem Hd{a b d:D}(h:ixF a b=some d):∃ds i,(a=.lst ds\/a=.tup ds)/\b=.int i/\atI ds i=some d:=by
 unfold ixF at h;cases a<;>cases b<;>simp[seqI,asI] at h
 ·exact⟨_,_,.inr rfl,rfl,h⟩
 ·exact⟨_,_,.inl rfl,rfl,h⟩
theorem tP(ha:ED X B a ga)(hb:ED X B b gb)(hs:PlainIx b:=by exact λ_ _=>rfl):ED X B (.Subscript a b pos) (op2 ixF ga gb):=Ma (Gj.or Qr) (λa b d e B G I H U Γ x y Q r hx hy k=>by
 obtain⟨ds,i,h1,rfl,h2⟩:=Hd e
 rcases h1 with rfl | rfl
 ·obtain⟨p,xs,rfl,h3,h4⟩:=tW hx;obtain⟨v,e5,e6⟩:=h4.at h2;exact .inl ⟨p,xs,i,v,rfl,tJ hy,(Same.rdK r.iH h3).sq,e5,k.now r e6⟩
 ·obtain⟨p,xs,rfl,h3,h4⟩:=tR hx;obtain⟨v,e5,e6⟩:=h4.at h2
  exact .inr ⟨p,xs,i,v,rfl,tJ hy,Same.sqT r.iH h3,e5,k.now r e6⟩) ha hb hs
noncomputable def look(i:Nat):M D:=λΓ=>match Γ[i]? with
 | some (some (.own ds))=>some (.lst ds,Γ)
 | some (some (.bor ds))=>some (.lst ds,Γ)
 | _=>none
theorem Dj{K:PySem.W.Frag}{H:Hp}{d:D}(h:look i Γ=some (d,af))(r:Rep K B G I H U Γ):af=Γ/\∃p xs ds,d=.lst ds/\U[i]?=some (some (.ref p))/\H p=some (.lst xs)/\IsA K I ds xs:=by
 unfold look at h;cases e:Γ[i]? with
 | none=>rw[e] at h;cases h
 | some o =>
  cases o with
  | none=>rw[e] at h;cases h
  | some q =>
   rw[e] at h;obtain⟨v,h1,h2⟩:=r.slot i q e;cases q with
   | val _=>cases h
   | own ds=>cases h;obtain⟨p,xs,rfl,g1,_,_,g4⟩:=h2;exact⟨rfl,p,xs,ds,rfl,h1,g1,g4⟩
   | fro ds=>cases h
   | dic ds=>cases h
   | bor ds=>cases h;obtain⟨p,xs,rfl,g1,_,_,g4⟩:=h2;exact⟨rfl,p,xs,ds,rfl,h1,g1,g4⟩
noncomputable def atN(i:Nat)(g:M D):M D:=mutS i (bnd g λn=>bnd (look i) λl=>lft (ixF l n))
theorem vd{x:Str}(hv:PE X (.Name x p1) (tVar i))(hb:ED X B b gb)(hs:PlainIx b:=by exact λ_ _=>rfl):ED X B (.Subscript (.Name x p1) b pos) (atN i gb):=PE.imp (Eb Gj hv hb hs) λU H Q q=>by
 obtain⟨G,I,Γ,d,af,r,e1,k⟩:=q;obtain⟨hm,e1⟩:=wP e1;obtain⟨n,ac,e2,e3⟩:=lX e1;obtain⟨l,ai,e4,e5⟩:=lX e3;obtain⟨e6,rfl⟩:=tN e5;obtain⟨p,xs,h1,h2⟩:=xC hm r;refine⟨_,h1,G,I,Γ,n,ac,r,e2,λv H1 I1 r1 g1 hn=>?_⟩;obtain⟨rfl,p',cf,ds,rfl,f1,f2,f3⟩:=Dj e4 r1;have hp:p'=p:=by rw[h1] at f1;cases f1;rfl
 subst hp;obtain⟨cH,j,g2,rfl,g3⟩:=Hd e6
 rcases g2 with g2 | g2
 ·cases g2;obtain⟨y,e7,e8⟩:=f3.at g3;exact⟨p',cf,j,y,rfl,tJ hn,SqL.of f2,e7,(k.after g1).now r1 e8⟩
 ·cases g2
noncomputable def lenF(ds:List D):Option D:=match ds with
 | [.lst xs]=>some (.int xs.length)
 | [.tup xs]=>some (.int xs.length)
 | _=>none
theorem MC{d:D}(h:lenF ds=some d):∃xs,(ds=[.lst xs]\/ds=[.tup xs])/\d=.int xs.length:=by
 unfold lenF at h;split at h
 ·cases h;exact⟨_,.inl rfl,rfl⟩
 ·cases h;exact⟨_,.inr rfl,rfl⟩
 ·cases h
theorem uG{p:Pos}{t:M (List D)}(hg:Gl X "len")(hm:X.mg "len"=none)(ha:AD X B [e] t)(he:d_ [e] X.env=(false,eval e X.env)::d_ [] X.env:=by rfl)(aB:(J_ pos (d_ [] X.env)).any (·.1)=false:=by rfl):
  ED X B (.Call (.Name "len" p) [e] [] pos) (fn1 lenF t):=v3 Fs (λds d e B G I H U Γ xs Q r h k=>by
 obtain⟨ys,h1,rfl⟩:=MC e
 rcases h1 with rfl | rfl
 ·obtain⟨x,rfl,hx⟩:=h.one;obtain⟨q,zs,rfl,h3,h4⟩:=tW hx;exact⟨q,zs,rfl,.inl ((Same.rdK r.iH h3).sq),by rw[h4.length] at k;exact k.now r (Is.int _)⟩
 ·obtain⟨x,rfl,hx⟩:=h.one;obtain⟨q,zs,rfl,h3,h4⟩:=tR hx
  exact⟨q,zs,rfl,.inr (Same.sqT r.iH h3),by rw[h4.length] at k;exact k.now r (Is.int _)⟩) hg hm boot_len ha (by decide) (by decide) he aB
noncomputable def lenN(i:Nat):M D:=bnd (look i) λl=>lft (lenF [l])
theorem OY{x:Str}{p:Pos}(hg:Gl X "len")(hm:X.mg "len"=none)(hv:PE X (.Name x p1) (tVar i))(he:d_ [.Name x p1] X.env=(false,eval (.Name x p1) X.env)::d_ [] X.env:=by rfl)(aB:(J_ pos (d_ [] X.env)).any (·.1)=false:=by rfl):
  ED X B (.Call (.Name "len" p) [.Name x p1] [] pos) (lenN i):=PE.imp (wn Fs hg hm boot_len (uU hv wB he) (by decide) (by decide) he aB) λU H Q q=>by
 obtain⟨G,I,Γ,d,af,r,e1,k⟩:=q;obtain⟨l,ac,e2,e3⟩:=lX e1;obtain⟨e4,rfl⟩:=tN e3;obtain⟨rfl,q,xs,ds,rfl,f1,f2,f3⟩:=Dj e2 r;cases e4;exact⟨_,f1,q,xs,rfl,.inl (SqL.of f2),by rw[f3.length] at k;exact k.now r (Is.int _)⟩
def partD(e:Option D_)(X:Cx)(B:BB)(g:M (Option Int)):Prop:=PO X e (λU H Q=>∃G I Γ o af,Rep X.K B G I H U Γ/\g Γ=some (o,af)/\∀H' I',Rep X.K B G I' H' U af->Grow G I I'->Q o H')
theorem uE:partD none X B (ret none):=λaa s U H Q I h=>NK aa s U H Q I (by
 obtain⟨G,I,Γ,o,af,r,e1,k⟩:=h;cases e1
 exact k _ _ r (Grow.refl _ _))
noncomputable def prt(g:M D):M (Option Int):=bnd g λd=>bnd (lft (asI d)) λi=>ret (some i)
theorem uy(ha:ED X B a ga):partD (some a) X B (prt ga):=λaa s U H Q I h=>Mw ha aa s U H Q I (by
 obtain⟨G,I,Γ,o,af,r,e1,k⟩:=h;obtain⟨d,ac,e2,e3⟩:=lX e1;obtain⟨i,ai,e4,e5⟩:=lX e3;cases e5;obtain⟨e6,rfl⟩:=tN e4;have:=Ea e6;subst this
 exact⟨G,I,Γ,_,_,r,e2,λv H1 I1 r1 g1 hv=>⟨i,tJ hv,k _ _ r1 g1⟩⟩)
noncomputable def cutD(ds:List D)(lo hi:Option Int):List D:=(ds.drop (HT.sIx ds.length 0 lo)).take (HT.sIx ds.length ds.length hi - HT.sIx ds.length 0 lo)
theorem IsA.cut{K:PySem.W.Frag}(h:IsA K I ds xs)(lo hi:Option Int):IsA K I (cutD ds lo hi) (cutV xs lo hi):=by
 unfold cutD cutV;rw[←h.length];exact(h.drop _).take _
noncomputable def slF(d:D)(lo hi:Option Int):Option D:=match d with
 | .lst ds=>some (.lst (cutD ds lo hi))
 | .tup ds=>if HT.sIx ds.length 0 lo=0/\HT.sIx ds.length ds.length hi=ds.length then none else some (.tup (cutD ds lo hi))
 | _=>none
noncomputable def sl3{α:Type}(F:D->Option Int->Option Int->Option α)(g:M D)(gl gh:M (Option Int)):M α:=bnd g λd=>bnd gl λl=>bnd gh λh=>lft (F d l h)
theorem uL{lo hi:Option D_}(ha:ED X B a ga)(hl:partD lo X B gl)(hh:partD hi X B gh):ED X B (.Subscript a (.Slice lo hi none p2) pos) (sl3 slF ga gl gh):=PE.imp (DD (OP.or KH) ha hl hh) λU H Q q=>by
 obtain⟨G,I,Γ,d,af,r,e1,k⟩:=q;obtain⟨c,ac,e2,e3⟩:=lX e1;obtain⟨l,ai,e4,e5⟩:=lX e3;obtain⟨h,aL,e6,e7⟩:=lX e5;obtain⟨e8,rfl⟩:=tN e7;refine⟨G,I,Γ,c,ac,r,e2,λv H1 I1 r1 g1 hv=>⟨G,I1,ac,l,ai,r1,e4,λH2 I2 r2 g2=>⟨G,I2,ai,h,_,r2,e6,λH3 I3 r3 g3=>?_⟩⟩⟩;have gg:=g1.trans (g2.trans g3);have mH:=hv.mono (g2.trans g3).up;cases c with
 | lst ds =>
  cases e8;obtain⟨p,xs,rfl,h3,h4⟩:=tW mH;refine .inl ⟨p,xs,rfl,(Same.rdK r3.iH h3).sq,λp' hp=>?_⟩;exact(k.after gg) _ _ _ (r3.alloc hp _) (r3.growAlloc hp _) (Is.lst (RdK.of t6) ((h4.cut l h).mono (uu (r3.iFree hp) _)))
 | tup ds =>
  unfold slF at e8;by_cases hw:HT.sIx ds.length 0 l=0/\HT.sIx ds.length ds.length h=ds.length
  ·simp only[hw,and_self,if_true] at e8;cases e8
  ·simp only[if_neg hw] at e8;cases e8;obtain⟨p,xs,rfl,h3,h4⟩:=tR mH;exact .inr ⟨p,xs,rfl,Same.sqT r3.iH h3,by rw[←h4.length];exact hw,λp' hp=>(k.after gg).tup r3 hp (h4.cut l h)⟩
 | _=>cases e8
noncomputable def minF(ds:List D):Option D:=match ds with
 | [.int i,.int j]=>some (.int (if j < i then j else i))
 | _=>none
theorem Pw{p:Pos}{t:M (List D)}(hc:X.calm=true)(hg:Gl X "min")(hm:X.mg "min"=none)(ha:AD X B (e::es) t)(he:d_ (e::es) X.env=(false,eval e X.env)::d_ es X.env:=by rfl)(aB:(J_ pos (d_ es X.env)).any (·.1)=false:=by rfl):
  ED X B (.Call (.Name "min" p) (e::es) [] pos) (fn1 minF t):=v3 (NY hc) (λds d e B G I H U Γ xs Q r h k=>by
 unfold minF at e;split at e
 ·cases e;obtain⟨x,y,rfl,hx,hy⟩:=h.two;exact⟨_,_,by rw[tJ hx,tJ hy],k.now r (Is.int _)⟩
 ·cases e) hg hm boot_min ha (by decide) (by decide) he aB
noncomputable def tupF(ds:List D):Option D:=match ds with
 | [.lst xs]=>some (.tup xs)
 | [.tup xs]=>some (.tup xs)
 | _=>none
noncomputable def lstF(ds:List D):Option (List D):=match ds with
 | [.lst xs]=>some xs
 | [.tup xs]=>some xs
 | _=>none
theorem uF{p:Pos}{t:M (List D)}(hg:Gl X "tuple")(hm:X.mg "tuple"=none)(ha:AD X B [e] t)(he:d_ [e] X.env=(false,eval e X.env)::d_ [] X.env:=by rfl)(aB:(J_ pos (d_ [] X.env)).any (·.1)=false:=by rfl):
  ED X B (.Call (.Name "tuple" p) [e] [] pos) (fn1 tupF t):=ya HY (λds d e B G I H U Γ xs Q r h k=>by
 unfold tupF at e;split at e
 ·cases e;obtain⟨x,rfl,hx⟩:=h.one;obtain⟨q,zs,rfl,h3,h4⟩:=tW hx;exact⟨q,zs,rfl,.inl ⟨(Same.rdK r.iH h3).sq,λp' hp=>k.tup r hp h4⟩⟩
 ·cases e;obtain⟨x,rfl,hx⟩:=h.one;obtain⟨q,zs,rfl,h3,h4⟩:=tR hx;exact⟨q,zs,rfl,.inr ⟨Same.sqT r.iH h3,k.now r (Is.tup h3 h4)⟩⟩
 ·cases e) hg hm boot_tuple ha (by decide) (by decide) he aB
theorem xY{p:Pos}{t:M (List D)}(hg:Gl X "list")(hm:X.mg "list"=none)(ha:AD X B [e] t)(he:d_ [e] X.env=(false,eval e X.env)::d_ [] X.env:=by rfl)(aB:(J_ pos (d_ [] X.env)).any (·.1)=false:=by rfl):
  EO X B (.Call (.Name "list" p) [e] [] pos) (fn1 lstF t):=LI LF (λds d e B G I H U Γ xs Q r h k=>by
 unfold lstF at e;split at e
 ·cases e;obtain⟨x,rfl,hx⟩:=h.one;obtain⟨q,zs,rfl,h3,h4⟩:=tW hx;exact⟨q,zs,rfl,.inl ((Same.rdK r.iH h3).sq),λp' hp=>k.new r hp h4⟩
 ·cases e;obtain⟨x,rfl,hx⟩:=h.one;obtain⟨q,zs,rfl,h3,h4⟩:=tR hx;exact⟨q,zs,rfl,.inr (Same.sqT r.iH h3),λp' hp=>k.new r hp h4⟩
 ·cases e) hg hm boot_list ha (by decide) (by decide) he aB
noncomputable def isN(d:D):Bool:=match d with
 | .non=>true
 | _=>false
noncomputable def isNF(neg:Bool)(a b:D):Option D:=match b with
 | .non=>some (.bl (if neg then !isN a else isN a))
 | _=>none
theorem Dz{K:PySem.W.Frag}{a:D}{x:V}(h:Is K I a x):decide (x=V.non)=isN a:=by
 cases a with
 | non=>rw[uY h];rfl
 | bl _=>rw[uv h];rfl
 | int _=>rw[tJ h];rfl
 | str _=>rw[ug h];rfl
 | tup _=>obtain⟨_,_,rfl,_⟩:=tR h;rfl
 | lst _=>obtain⟨_,_,rfl,_⟩:=tW h;rfl
 | exc _ _=>obtain⟨_,_,rfl,_⟩:=AQ h;rfl
theorem MF{K:PySem.W.Frag}:OpD K (λx y H Q=>y=.non/\Q (.bl (decide (x=.non))) H) (isNF false):=λa b d e B G I H U Γ x y Q r hx hy k=>by
 unfold isNF at e;split at e
 ·cases e;exact⟨uY hy,by rw[Dz hx];exact k.now r (Is.bl _)⟩
 ·cases e
theorem KR{K:PySem.W.Frag}:OpD K (λx y H Q=>y=.non/\Q (.bl (!decide (x=.non))) H) (isNF true):=λa b d e B G I H U Γ x y Q r hx hy k=>by
 unfold isNF at e;split at e
 ·cases e;exact⟨uY hy,by rw[Dz hx];exact k.now r (Is.bl _)⟩
 ·cases e
theorem Bm(ha:ED X B a ga)(hb:ED X B b gb):TD X B (.Compare a [.Is] [b] pos) (tst (op2 (isNF false) ga gb)):=vo PN MF ha hb (nomark _)
theorem Gv(ha:ED X B a ga)(hb:ED X B b gb):TD X B (.Compare a [.IsNot] [b] pos) (tst (op2 (isNF true) ga gb)):=vo L0 KR ha hb (nomark _)
end
structure Kd where
 it:G_->g_->g_->Nat->Prop
 sq:G_->g_->Array b_->Prop
 nm:String
structure KdOk(k:Kd):Prop where
 itAt:∀{h h':G_}{i l:g_}{n:Nat},k.it h i l n->(∀o,h.get? i=some o->h'.get? i=some o)->k.it h' i l n
 sqAt:∀{h h':G_}{l:g_}{xs:Array b_},k.sq h l xs->(∀o,h.get? l=some o->h'.get? l=some o)->k.sq h' l xs
 itLt:∀{h:G_}{i l:g_}{n:Nat},k.it h i l n->i < h.objs.size
 sqLt:∀{h:G_}{l:g_}{xs:Array b_},k.sq h l xs->l < h.objs.size
 itObj:∀{h:G_}{i l:g_}{n:Nat},k.it h i l n->∃o,h.get? i=some o/\∀v,o.data≠.cell v
 iter:∀{prog:v_}{w:F_}{A:Uh}{E:b_->c_->Prop}{s:c_}{l:g_}{xs:Array b_}{Q:b_->c_->Prop},k.sq s.heap l xs →
  Q (.ref s.heap.objs.size) { s with heap:=s.heap.push { cls:=.type k.nm,data:=.fields #[.ref l,.int 0 0] } }->o_ (q_ prog w) A (XB (.ref l)) Q E s
 new:∀{h:G_}{l:g_},k.it (h.push { cls:=.type k.nm,data:=.fields #[.ref l,.int 0 0] }) h.objs.size l 0
 item:∀{prog:v_}{w:F_}{A:Uh}{E:b_->c_->Prop}{s:c_}{i l:g_}{n:Nat}{xs:Array b_}{x:b_}{Q:b_->c_->Prop},k.it s.heap i l n->k.sq s.heap l xs->xs[n]?=some x →
  (∀h',k.it h' i l (n+1)->G_.SameBut i s.heap h'->Q x { s with heap:=h' })->o_ (q_ prog w) A (Zp (.ref i)) Q E s
 stop:∀{prog:v_}{w:F_}{A:Uh}{E:b_->c_->Prop}{s:c_}{i l:g_}{n:Nat}{xs:Array b_}{Q:b_->c_->Prop},A.handled=none->k.it s.heap i l n->k.sq s.heap l xs->xs[n]?=none →
  (∀h' e,G_.ExtBut i s.heap h'->(∃o,h'.get? e=some o/\o.cls=.type "StopIteration")->E (.ref e) { s with heap:=h' })->o_ (q_ prog w) A (Zp (.ref i)) Q E s
noncomputable def kdL:Kd:=⟨λh i l n=>h.IsListIter i l n,λh l xs=>h.IsList l xs, "list_iterator"⟩
noncomputable def kdT:Kd:=⟨λh i l n=>h.IsTupleIter i l n,λh l xs=>h.IsTuple l xs, "tuple_iterator"⟩
theorem FI:KdOk kdL where
 itAt:=λh k=>h.at k
 sqAt:=λh k=>h.at k
 itLt:=λh=>by obtain⟨_,e,_⟩:=h;exact B_ e
 sqLt:=λh=>by obtain⟨_,e,_⟩:=h;exact B_ e
 itObj:=λh=>by obtain⟨o,e,_,d⟩:=h;exact⟨o,e,λv z=>by rw[d] at z;cases z⟩
 iter:=λh q=>UV h q
 new:=⟨_,s_ _ rfl,rfl,rfl⟩
 item:=λh1 h2 h3 q=>wpAny_nextOf_list_item h1 h2 h3 q
 stop:=λhh h1 h2 h3 q=>wpAny_nextOf_list_end hh h1 h2 h3 q
section
variable{prog:v_}{w:F_}{E:b_->c_->Prop}{s:c_}
theorem JL{α:Type}{Q:α->c_->Prop}(hh:A.handled=none)(k:∀(g:G_) (x:g_),(∀b o,s.heap.get? b=some o->g.get? b=some o)->(∃o,g.get? x=some o/\o.cls=.type "StopIteration")->E (.ref x) { s with heap:=g }):
  o_ (q_ prog w) A (stopIteration (α:=α)) Q E s:=by
 unfold stopIteration newExc newTuple;refine a_ (a_ (Tw (a_ (UZ (a:=b_.none) (by first | rfl | (simp only[XN];rfl)) (Tw ?_ (by size_fits)))) (by size_fits)));unfold raiseNew;refine a_ (wpAny_handled ?_);rw[hh];exact a_ (f_ (Y8 (k _ _ (λb o e=>e_ _ (e_ _ e)) ⟨_,s_ _ rfl,rfl⟩)))
theorem Dq{bg tp:g_}{Q:b_->c_->Prop}(hi:s.heap.IsTupleIter bg tp i)(hT:s.heap.IsTuple tp cells)(one:∀v,cells[i]?=some v->∀g:G_,g.IsTupleIter bg tp (i+1)->G_.SameBut bg s.heap g->Q v { s with heap:=g })(non:cells[i]?=none->A.handled=none/\∀(g:G_) (x:g_),G_.ExtBut bg s.heap g->(∃o,g.get? x=some o/\o.cls=.type "StopIteration")->E (.ref x) { s with heap:=g }):
  o_ (q_ prog w) A (Zp (.ref bg)) Q E s:=by
 have ty:=hi.typeIs;obtain⟨oi,gi,ci,di⟩:=hi;obtain⟨ot,gt,ct,nt,dt⟩:=hT;unfold Zp;refine a_ (TL (name:=Wm "__next__") ty Wp (TN Wp ty F.entry_tuple_iterator_next ?_ (F.args_tuple_iterator_next_1 _)));refine a_ (UZ (a:=(b_.ref bg,[])) rfl ?_);refine a_ (TM (i:=0) gi di (x:=.ref tp) rfl (wpAny_ite_split (λno=>absurd no h_) λ_=>?_));refine a_ (TM (i:=1) gi di (x:=.int i 0) rfl (a_ (Uv gt dt ?_)));dsimp only;rw[VN];cases hv:cells[i]? with
 | some v =>
  refine a_ (UE gi di (by simp) (f_ ⟨v,rfl,f_ (one v hv _ ?_ (G_.SameBut.update ..))⟩));have low:=U0 di;exact⟨_,Uj _ gi (UT (low _)),(WE ..).trans ci,by rw[low];simp[Vo]⟩
 | none =>
  obtain⟨hh,k⟩:=non hv;refine a_ (Ys (a_ (UE gi di (by simp) (JL hh λg x keep is=>k g x (λb o ne e=>keep b o ((G_.SameBut.update ..).extBut b o ne e)) is))))
end
theorem Gx:KdOk kdT where
 itAt:=λh k=>by obtain⟨o,e,r⟩:=h;exact⟨o,k o e,r⟩
 sqAt:=λh k=>by obtain⟨o,e,r⟩:=h;exact⟨o,k o e,r⟩
 itLt:=λh=>by obtain⟨_,e,_⟩:=h;exact B_ e
 sqLt:=λh=>by obtain⟨_,e,_⟩:=h;exact B_ e
 itObj:=λh=>by obtain⟨o,e,_,d⟩:=h;exact⟨o,e,λv z=>by rw[d] at z;cases z⟩
 iter:=λh q=>UM h q
 new:=⟨_,s_ _ rfl,rfl,rfl⟩
 item:=λh1 h2 h3 q=>Dq h1 h2 (λv e g=>by rw[h3] at e;cases e;exact q g) λe=>by rw[h3] at e;cases e
 stop:=λhh h1 h2 h3 q=>Dq h1 h2 (λv e=>by rw[h3] at e;cases e) λ_=>⟨hh,q⟩
theorem F8{H:Hp}{s:c_}{T:g_}(I:Inv X aa U H s)(bj:∀b∈ch,FpOk X aa H b)(k:∀b u,b∉ch->s.heap.get? b=some u->h'.get? b=some u)(hT:s.heap.objs.size<=T)(new:ObjOk X.prog X.w (upd H T o) h' T o):Inv X aa U (upd H T o) { s with heap:=h',toks:=t' }:=by
 have hf:=I.hok.fresh hT;have ne:∀{b u},H b=some u->b≠T:=λ{b u} e=>u9 e hf
 have cQ:∀{b u},H b=some u->b∉ch:=λ{b u} e z=>by have:=(bj b z).1;rw[e] at this;cases this
 refine I.step (g':=s.gens) (d':=s.drawn) (ch:=ch) (λb hb=>⟨(bj b hb).2.2.2.1,(bj b hb).2.1,(bj b hb).2.2.2.2.1,(bj b hb).2.2.2.2.2⟩) (λb u _ _ hc e _=>k b u hc e) (λb u _ _ hc e _=>⟨u.slots,k b u hc e⟩) (λb u hc e n=>?_)
  (λb u hc e=>⟨u,k b u hc e⟩) (λb xs e=>by rw[tG (ne e)];exact e) (λb u v e=>by rw[tG (ne e)];exact e) (λb ps e=>⟨#[],by rw[tG (ne e),e];simp⟩) (λm hm=>?_) (λb u e=>?_) I.bare
 ·have nb:b≠T:=λz=>by have:=B_ e;rw[z] at this;exact absurd (E_ this hT) (Ug _)
  rw[tG nb];exact n
 ·obtain⟨ob,es,ep,ho,r⟩:=hm;exact⟨ob,es,ep,k _ ob (λz=>(bj _ z).2.1 rfl) ho,r⟩
 ·by_cases hb:b=T
  ·subst hb;rw[t6] at e;cases e;exact new
  ·rw[tG hb] at e;refine(I.hok b u e).stay (λc v hc q=>k c v ?_ q) (λc q=>by rw[tG (ne q)];exact q) λc xs q=>by rw[tG (ne q)];exact q
   rcases hc with z | z
   ·rw[z];exact cQ e
   ·exact cQ z
theorem GF{H:Hp}{s:c_}(I:Inv X aa U H s)(bj:∀b∈ch,FpOk X aa H b)(k:∀b u,b∉ch->s.heap.get? b=some u->h'.get? b=some u):Inv X aa U H { s with heap:=h',toks:=t' }:=by
 have cQ:∀{b u},H b=some u->b∉ch:=λ{b u} e z=>by have:=(bj b z).1;rw[e] at this;cases this
 refine I.step (g':=s.gens) (d':=s.drawn) (ch:=ch) (λb hb=>⟨(bj b hb).2.2.2.1,(bj b hb).2.1,(bj b hb).2.2.2.2.1,(bj b hb).2.2.2.2.2⟩) (λb u _ _ hc e _=>k b u hc e) (λb u _ _ hc e _=>⟨u.slots,k b u hc e⟩) (λb u hc e n=>n)
  (λb u hc e=>⟨u,k b u hc e⟩) (λb xs e=>e) (λb u v e=>e) (λb ps e=>⟨#[],by rw[e];simp⟩) (λm hm=>?_) (λb u e=>?_) I.bare
 ·obtain⟨ob,es,ep,ho,r⟩:=hm;exact⟨ob,es,ep,k _ ob (λz=>(bj _ z).2.1 rfl) ho,r⟩
 ·refine(I.hok b u e).stay (λc v hc q=>k c v ?_ q) (λc q=>q) λc xs q=>q
  rcases hc with z | z
  ·rw[z];exact cQ e
  ·exact cQ z
section
variable{prog:v_}{w:F_}{E:b_->c_->Prop}{s:c_}{k:Kd}
theorem EG(ok:KdOk k){z ta bU p q u v:g_}{xs ys:Array b_}{c0 c1:b_}{Q:PySem.Fin->c_->Prop}(D:ZipApart z ta bU p q u v)(Z:Ym s.heap z ta bU .none)(Ta:Vg s.heap ta (.ref p) (.ref q))(To:Vg s.heap bU c0 c1)(P:k.it s.heap p u m)(P':k.it s.heap q v n)(tw:k.sq s.heap u xs)(U':k.sq s.heap v ys)(jJ:∀x y,xs[m]?=some x->ys[n]?=some y->∀g:G_,g.objs.size=s.heap.objs.size+1/\Vg g s.heap.objs.size x y->Ym g z ta bU (Vo s.heap.objs.size)->Vg g bU x y->k.it g p u (m+1)/\k.it g q v (n+1) →
   (∀c o,(c≠z/\c≠bU/\c≠p/\c≠q)->s.heap.get? c=some o->g.get? c=some o)->Q (.done (.ret (.ref s.heap.objs.size))) { s with heap:=g })(gone:(xs[m]?=none\/ys[n]?=none)->A.handled=none/\∀(g:G_) (x:g_),(∀c o,(c≠z/\c≠bU/\c≠p/\c≠q)->s.heap.get? c=some o->g.get? c=some o)->(∃o,g.get? x=some o/\o.cls=.type "StopIteration")->E (.ref x) { s with heap:=g }):
  o_ (q_ prog w) A (Ul.«zip.__next__» ⟨[.ref z],[]⟩) Q E s:=by
 refine a_ (UZ (a:=(b_.ref z,[])) rfl (a_ (TM (i:=2) Z rfl (x:=.bool false) rfl (a_ (TM (i:=3) Z rfl (x:=.ref ta) rfl (a_ (Uv Ta rfl ?_)))))));refine a_ (m:=Ul.SmallTypes.ownedTupleIsFree (.ref z)) (a_ (TM (i:=0) Z rfl (x:=.none) rfl (f_ ?_)));rw[if_pos rfl];refine a_ (Ys (a_ (TM (i:=4) Z rfl (x:=.ref bU) rfl (a_ (Vh Z (by simp) λg1 Z1 b1=>?_)))));replace Z1:Ym g1 z ta bU .ellipsis:=Z1
 have kt:∀(g:G_) (x:g_),Ym g z ta bU .ellipsis->(∃o,g.get? x=some o/\o.cls=.type "StopIteration")->(∀g':G_,G_.SameBut z g g'->(∃o,g'.get? x=some o/\o.cls=.type "StopIteration")->E (.ref x) { s with heap:=g' }) →
   o_ (q_ prog w) A (setField (.ref z) 0 .none) (λ_ s'=>E (.ref x) s') E { s with heap:=g }:=λg x Zg is kk=>by
  obtain⟨o,e1,e2⟩:=is;refine Vh Zg (by simp) λg' _ b'=>kk g' b' ⟨o,b'.extBut _ _ (λsame=>?_) e1,e2⟩
  rw[same,Zg] at e1;cases e1;simp at e2
 have f1:∀c o,c≠z->s.heap.get? c=some o->g1.get? c=some o:=λc o ne e=>b1.extBut _ _ ne e
 refine a_ ?_;rw[List.zipIdx_cons,List.zipIdx_cons,List.zipIdx_nil,Vf];refine a_ (a_ (wpAny_onRaise (a_ (m:=Zp (.ref p)) ?_)));have P1:=ok.itAt P λo e=>f1 _ o D.i1z e
 have U1:=ok.sqAt tw λo e=>f1 _ o D.l1z e
 cases hx:xs[m]? with
 | none =>
  obtain⟨hh,bA⟩:=gone (.inl hx);exact ok.stop hh P1 U1 hx λg2 x b2 is=>kt g2 x (b2 _ _ D.i1z.symm Z1) is λg' b' fv=>bA g' x (λc o ne e=>b'.extBut _ _ ne.1 (b2 _ _ ne.2.2.1 (f1 c o ne.1 e))) fv
 | some x =>
  refine ok.item P1 U1 hx λg2 P2 b2=>f_ ?_
  have mI:Vg g2 bU c0 c1:=b2.extBut _ _ D.TOi1 (f1 _ _ D.TOz To);refine a_ (Uv mI rfl (a_ (XO mI λg3 kx b3=>a_ (wpAny_letGo (f_ ?_)))));replace kx:Vg g3 bU x c1:=kx;have f3:∀c o,c≠bU->c≠p->g1.get? c=some o->g3.get? c=some o:=λc o n1 n2 e=>b3.extBut _ _ n1 (b2.extBut _ _ n2 e)
  have Z3:Ym g3 z ta bU .ellipsis:=f3 _ _ D.TOz.symm D.i1z.symm Z1;dsimp only;rw[Vf];refine a_ (a_ (wpAny_onRaise (a_ (m:=Zp (.ref q)) ?_)));have Q3:=ok.itAt P' λo e=>f3 _ o D.TOi2.symm D.i12.symm (f1 _ o D.i2z e)
  have V3:=ok.sqAt U' λo e=>f3 _ o D.l2TO D.l2i1 (f1 _ o D.l2z e)
  cases hy:ys[n]? with
  | none =>
   obtain⟨hh,bA⟩:=gone (.inr hy);exact ok.stop hh Q3 V3 hy λg4 x b4 is=>kt g4 x (b4 _ _ D.i2z.symm Z3) is λg' b' fv=>bA g' x (λc o ne e=>b'.extBut _ _ ne.1 (b4 _ _ ne.2.2.2 (f3 c o ne.2.1 ne.2.2.1 (f1 c o ne.1 e)))) fv
  | some y =>
   refine ok.item Q3 V3 hy λg4 Q4 b4=>f_ ?_
   have mJ:Vg g4 bU x c1:=b4.extBut _ _ D.TOi2 kx;refine a_ (Uv mJ rfl (a_ (XO mJ λg5 iM b5=>a_ (wpAny_letGo (f_ ?_)))));replace iM:Vg g5 bU x y:=iM;have f5:∀c o,c≠bU->c≠q->g3.get? c=some o->g5.get? c=some o:=λc o n1 n2 e=>b5.extBut _ _ n1 (b4.extBut _ _ n2 e)
   dsimp only;rw[Wa];refine f_ (a_ (Uv iM rfl (a_ (wpAny_newTuple ?_))));have same:g5.objs.size=s.heap.objs.size:=b5.1.trans (b4.1.trans (b3.1.trans (b2.1.trans b1.1)));have Z5:Ym g5 z ta bU .ellipsis:=f5 _ _ D.TOz.symm D.i2z.symm Z3;have far:g5.objs.size≠z:=Wg (B_ Z5);have Z6:Ym (g5.push { cls:=.type "tuple", data:=.seq #[x,y] }) z ta bU .ellipsis:=e_ _ Z5;refine a_ (m:=Ul.SmallTypes.ownedTupleHandOut (.ref z) (.ref g5.objs.size)) (a_ (Vh Z6 (by simp) λg7 Z7 b7=>?_));refine Vh Z7 (by simp) λg8 Z8 b8=>f_ ?_
   replace Z8:Ym g8 z ta bU (Vo g5.objs.size):=Z8;have f8:∀c o,c≠z->g5.get? c=some o->g8.get? c=some o:=λc o ne e=>b8.extBut _ _ ne (b7.extBut _ _ ne (e_ _ e))
   have T8:Vg g8 g5.objs.size x y:=b8.extBut _ _ far (b7.extBut _ _ far (s_ _ rfl));have gX:g8.objs.size=g5.objs.size+1:=b8.1.trans (b7.1.trans (UR ..));show Q (.done (.ret (.ref g5.objs.size))) { s with heap:=g8 };rw[same] at Z8 T8 gX ⊢
   exact jJ x y hx hy g8 ⟨gX,T8⟩ Z8 (f8 _ _ D.TOz iM) ⟨ok.itAt P2 λo e=>f8 _ o D.i1z (f5 _ o D.TOi1.symm D.i12 (b3.extBut _ _ D.TOi1.symm e)),ok.itAt Q4 λo e=>f8 _ o D.i2z (b5.extBut _ _ D.TOi2.symm e)⟩
    λc o ne e=>f8 c o ne.1 (f5 c o ne.2.1 ne.2.2.2 (f3 c o ne.2.1 ne.2.2.1 (f1 c o ne.1 e)))
noncomputable abbrev zk1(k:Kd)(h:G_)(l1:g_):G_:=h.push { cls:=.type k.nm,data:=.fields #[.ref l1,.int 0 0] }
noncomputable abbrev zk2(k:Kd)(h:G_)(l1 l2:g_):G_:=(zk1 k h l1).push { cls:=.type k.nm,data:=.fields #[.ref l2,.int 0 0] }
noncomputable abbrev zk3(k:Kd)(h:G_)(l1 l2:g_):G_:=(zk2 k h l1 l2).push { cls:=.type "tuple", data:=.seq #[.ref h.objs.size,.ref (zk1 k h l1).objs.size] }
noncomputable abbrev zk4(k:Kd)(h:G_)(l1 l2:g_):G_:=(zk3 k h l1 l2).push { cls:=.type "tuple", data:=.seq #[.none,.none] }
noncomputable abbrev zk5(k:Kd)(h:G_)(l1 l2:g_):G_:=(zk4 k h l1 l2).push { cls:=.type "zip", data:=.fields #[.none,.bool false,.bool false,.ref (zk2 k h l1 l2).objs.size,.ref (zk3 k h l1 l2).objs.size] }
theorem Qd(ok:KdOk k)(l1 l2:g_)(xs ys:Array b_):
  Meets (Ul.«zip.__new__» ⟨[.type "zip", .ref l1,.ref l2],[]⟩) (λ_ R s=>k.sq s.heap l1 xs/\k.sq s.heap l2 ys ∧
   ∀h',Ym h' (s.heap.objs.size+4) (s.heap.objs.size+2) (s.heap.objs.size+3) .none->Vg h' (s.heap.objs.size+2) (.ref s.heap.objs.size) (.ref (s.heap.objs.size+1)) →
    Vg h' (s.heap.objs.size+3) .none .none->k.it h' s.heap.objs.size l1 0->k.it h' (s.heap.objs.size+1) l2 0->(∀c o,s.heap.get? c=some o->h'.get? c=some o)->R (.ok (.ret (.ref (s.heap.objs.size+4)))) { s with heap:=h' }):=
 .of_wp λprog w A R s h=>by
  obtain⟨hp,gn,dw,tk,os⟩:=s;obtain⟨cp,eO,h⟩:=h;have fN:=sub_zip;have pw:k.sq (c_.heap ⟨hp,gn,dw,tk,os⟩) l1 xs:=cp;have px:k.sq (c_.heap ⟨zk1 k hp l1,gn,dw,tk,os⟩) l2 ys:=ok.sqAt eO λo e=>e_ _ e
  wp_walk using ok.iter pw,ok.iter px
  refine⟨_,rfl,?_⟩;have z1:(zk1 k hp l1).objs.size=hp.objs.size+1:=UR ..;have z2:(zk2 k hp l1 l2).objs.size=hp.objs.size+2:=by rw[UR,z1]
  have z3:(zk3 k hp l1 l2).objs.size=hp.objs.size+3:=by rw[UR,z2]
  have z4:(zk4 k hp l1 l2).objs.size=hp.objs.size+4:=by rw[UR,z3]
  have g5:(zk5 k hp l1 l2).get? (zk4 k hp l1 l2).objs.size=some { cls:=.type "zip", data:=.fields #[.none,.bool false,.bool false,.ref (zk2 k hp l1 l2).objs.size,.ref (zk3 k hp l1 l2).objs.size] }:=s_ _ rfl;have g4:(zk5 k hp l1 l2).get? (zk3 k hp l1 l2).objs.size=some { cls:=.type "tuple", data:=.seq #[.none,.none] }:=e_ _ (s_ _ rfl);have g3:(zk5 k hp l1 l2).get? (zk2 k hp l1 l2).objs.size=some { cls:=.type "tuple", data:=.seq #[.ref hp.objs.size,.ref (zk1 k hp l1).objs.size] }:=e_ _ (e_ _ (s_ _ rfl));have n2:k.it (zk2 k hp l1 l2) (zk1 k hp l1).objs.size l2 0:=ok.new;have n1:k.it (zk1 k hp l1) hp.objs.size l1 0:=ok.new;have i2:k.it (zk5 k hp l1 l2) (zk1 k hp l1).objs.size l2 0:=ok.itAt n2 λo e=>e_ _ (e_ _ (e_ _ e))
  have i1:k.it (zk5 k hp l1 l2) hp.objs.size l1 0:=ok.itAt n1 λo e=>e_ _ (e_ _ (e_ _ (e_ _ e)))
  show R (.ok (.ret (.ref (zk4 k hp l1 l2).objs.size))) { heap:=zk5 k hp l1 l2,gens:=gn,drawn:=dw,toks:=tk,os:=os };rw[z2,z3,z4] at g5;rw[z1,z2] at g3;rw[z3] at g4;rw[z1] at i2;rw[z4];exact h (zk5 k hp l1 l2) g5 g3 g4 i1 i2 λc o e=>e_ _ (e_ _ (e_ _ (e_ _ (e_ _ e))))
theorem Qw(ok:KdOk k){xs ys:Array b_}{Q:b_->c_->Prop}(cp:k.sq s.heap l1 xs)(eO:k.sq s.heap l2 ys)(made:∀n h',n=s.heap.objs.size->Ym h' (n+4) (n+2) (n+3) .none->Vg h' (n+2) (.ref n) (.ref (n+1))->Vg h' (n+3) .none .none->k.it h' n l1 0->k.it h' (n+1) l2 0->(∀c o,s.heap.get? c=some o->h'.get? c=some o)->Q (.ref (n+4)) { s with heap:=h' }):
  o_ (q_ prog w) A (call (type "zip") ([l1,l2].map b_.ref)) Q E s:=
 callType_new F.called_zip (by decide) (F.typeCall_zip_2 _ _) (F.newCall_zip_2 _ _) (λobj=>F.args_object_init_3 obj _ _) F.entry_zip_new (Qd ok l1 l2 xs ys) ⟨cp,eO,λh' b1 b2 b3 b4 b5 b6=>⟨⟨_,b1,rfl⟩,made _ h' rfl b1 b2 b3 b4 b5 b6⟩⟩
end
section
variable{k:Kd}
noncomputable def Itz(rd:Hp->g_->List V->Prop)(l1 l2:g_):It:=
 ⟨λi H=>∃xs ys x y,rd H l1 xs/\rd H l2 ys/\xs[i]?=some x/\ys[i]?=some y,
  λi H v H'=>∃p x y,H p=none/\v=.ref p/\H'=upd H p (.tup [x,y])/\(∀xs,rd H l1 xs->xs[i]?=some x)/\(∀ys,rd H l2 ys->ys[i]?=some y),
  λi H=>∃xs ys,rd H l1 xs/\rd H l2 ys/\(xs.length<=i\/ys.length<=i)⟩
structure KdRd(K:PySem.W.Frag)(k:Kd)(rd:Hp->g_->List V->Prop):Prop where
 of:∀{X:Cx}{aa:List (g_×Obj)}{U:L2.St}{H:Hp}{s:c_}{a:g_}{xs:List V},X.K=K->Inv X aa U H s->rd H a xs->∃ag:List b_,Vals xs ag/\k.sq s.heap a ag.toArray
 inj:∀{X:Cx}{aa:List (g_×Obj)}{U:L2.St}{H:Hp}{s:c_}{a:g_}{xs ys:List V},X.K=K->Inv X aa U H s->rd H a xs->rd H a ys->xs=ys
theorem Dr(K:PySem.W.Frag):KdRd K kdL (λH a xs=>SqL K H a xs) where
 of:=λe I h=>by subst e;obtain⟨ag,r,t,_⟩:=I.list h;exact⟨ag,r,t.isList⟩
 inj:=λe I h h'=>by subst e;exact I.list_inj h h'
theorem Hi(K:PySem.W.Frag):KdRd K kdT (λH a xs=>SqT K H a xs) where
 of:=λe I h=>by subst e;obtain⟨ag,r,t,_⟩:=I.tuple h;exact⟨ag,r,t⟩
 inj:=λe I h h'=>by subst e;exact I.tuple_inj h h'
theorem JH{P:v_}{w:F_}{K:PySem.W.Frag}{x1:Nat}{rd:Hp->g_->List V->Prop}(ok:KdOk k)(kr:KdRd K k rd){z TI TO i1 i2:g_}(D:ZipApart z TI TO i1 i2 l1 l2):
  Turn P w K (.Tuple bJ x1 tp) (Itz rd l1 l2) [z,TI,TO,i1,i2] z (λi h=>Ym h z TI TO .none/\Vg h TI (.ref i1) (.ref i2)/\(∃a b,Vg h TO a b)/\k.it h i1 l1 i/\k.it h i2 l2 i) where
 mem:=by simp
 obj:=λi h st b hb=>by
  obtain⟨a1,a2,⟨x,y,a3⟩,a4,a5⟩:=st;rw[w_,w_,w_,w_,k_] at hb
  rcases hb with rfl | rfl | rfl | rfl | rfl
  ·exact⟨_,a1,λv q=>by cases(show fields _=X7 v from q)⟩
  ·exact⟨_,a2,λv q=>by cases(show seq _ _=X7 v from q)⟩
  ·exact⟨_,a3,λv q=>by cases(show seq _ _=X7 v from q)⟩
  ·exact ok.itObj a4
  ·exact ok.itObj a5
 keep:=λi h h' st kk=>by
  obtain⟨a1,a2,⟨x,y,a3⟩,a4,a5⟩:=st;exact⟨kk _ (by simp) _ a1,kk _ (by simp) _ a2,⟨x,y,kk _ (by simp) _ a3⟩,ok.itAt a4 λo e=>kk _ (by simp) o e,ok.itAt a5 λo e=>kk _ (by simp) o e⟩
 item:=by
  intro X hP hw hK hc i aa s U H E I hf st hg;subst hP hw;obtain⟨a1,a2,⟨av,bv,a3⟩,a4,a5⟩:=st;obtain⟨xs,ys,x,y,g1,g2,g3,g4⟩:=hg;obtain⟨ag,r1,t1⟩:=kr.of hK I g1;obtain⟨bI,r2,t2⟩:=kr.of hK I g2;obtain⟨u1,e1,e2⟩:=r1.get g3;obtain⟨u2,e3,e4⟩:=r2.get g4;have hT:s.TypeIs (.ref z) "zip":=⟨_,a1,rfl⟩;unfold Wh;refine a_ (Va (TL (name:=Wm "__next__") hT V0 (TN V0 hT F.entry_zip_next (EG ok D a1 a2 a3 a4 a5 t1 t2 ?_ ?_) (YG _))))
  case refine_2 =>
   intro non;have f1:ag.toArray[i]?=some u1:=by simpa using e1
   have f2:bI.toArray[i]?=some u2:=by simpa using e3
   rw[f1,f2] at non
   rcases non with non | non<;>cases non
  intro y1 y2 k1 k2 h' ⟨_,b5⟩ b1 b2 ⟨b3,b4⟩ b7;have f1:ag.toArray[i]?=some u1:=by simpa using e1
  have f2:bI.toArray[i]?=some u2:=by simpa using e3
  rw[f1] at k1;cases k1;rw[f2] at k2;cases k2;refine⟨_,rfl,f_ ⟨.ref s.heap.objs.size,rfl,wpAny_letOwnedTupleGo_zip b1 λh2 c1 c2=>?_⟩⟩;have lt:∀{b o},s.heap.get? b=some o->b≠s.heap.objs.size:=λ{b o} e=>Q_ (B_ e)
  have gY:=lt a1;have mK:=lt a2;have mM:=lt a3
  have kk:∀b u,b∉[z,TI,TO,i1,i2]->s.heap.get? b=some u->h2.get? b=some u:=λb u hb e=>by
   simp only[w_,XQ,or_false,not_or] at hb;exact c2.extBut _ _ hb.1 (b7 b u ⟨hb.1,hb.2.2.1,hb.2.2.2.1,hb.2.2.2.2⟩ e)
  have pT:Vg h2 s.heap.objs.size u1 u2:=c2.extBut _ _ (Tt gY) b5;have I1:Inv X aa U (upd H s.heap.objs.size (.tup [x,y])) { s with heap:=h2 }:=F8 (t':=s.toks) I hf kk (r_ _) ⟨by show 2<=z_;rw[TH];decide,[u1,u2],.cons e2 (.cons e4 .nil),⟨_,pT,rfl,_,rfl⟩⟩;have fr:=I.hok.fresh (r_ s.heap.objs.size);refine⟨.ref s.heap.objs.size,_,I1,rfl,⟨s.heap.objs.size,x,y,fr,rfl,rfl,λzs hz=>by rw[kr.inj hK I hz g1];exact g3,λzs hz=>by rw[kr.inj hK I hz g2];exact g4⟩,⟨c1,c2.extBut _ _ D.TIz (b7 _ _ ⟨D.TIz,D.TITO,D.TIi1,D.TIi2⟩ a2),⟨u1,u2,c2.extBut _ _ D.TOz b2⟩,ok.itAt b3 λo e=>c2.extBut _ _ D.i1z e,ok.itAt b4 λo e=>c2.extBut _ _ D.i2z e⟩,λb hb=>?_⟩;have kz:=(hf b hb).1
  have nb:b≠s.heap.objs.size:=by
   rw[w_,w_,w_,w_,k_] at hb
   rcases hb with rfl | rfl | rfl | rfl | rfl
   ·exact gY
   ·exact mK
   ·exact mM
   ·exact Q_ (ok.itLt a4)
   ·exact Q_ (ok.itLt a5)
  rw[tG nb];exact kz
 done:=by
  intro X hP hw hK hc i aa s U H E I hf st hg;subst hP hw;obtain⟨a1,a2,⟨av,bv,a3⟩,a4,a5⟩:=st;obtain⟨xs,ys,g1,g2,g3⟩:=hg;obtain⟨ag,r1,t1⟩:=kr.of hK I g1;obtain⟨bI,r2,t2⟩:=kr.of hK I g2;have cp:=r1.length;have eO:=r2.length;have hT:s.TypeIs (.ref z) "zip":=⟨_,a1,rfl⟩;unfold Wh;refine a_ (Va (TL (name:=Wm "__next__") hT V0 (TN V0 hT F.entry_zip_next (EG ok D a1 a2 a3 a4 a5 t1 t2 ?_ λ_=>⟨I.ok.hd hc,λh' e hk he=>?_⟩) (YG _))))
  ·intro y1 y2 k1 k2;have m1:=(A_.mp k1).1;have m2:=(A_.mp k2).1;simp at m1 m2;omega
  ·obtain⟨o,ho,kA⟩:=he;refine a_ (U5 (T:= "StopIteration") (b:=true) ⟨o,ho,kA⟩ XR ?_);refine f_ ⟨rfl,GF (t':=s.toks) I hf λb u hb e=>?_⟩;simp only[w_,XQ,or_false,not_or] at hb;exact hk b u ⟨hb.1,hb.2.2.1,hb.2.2.2.1,hb.2.2.2.2⟩ e
 self:=λ_ _ _ _ _ st h=>wpAny_pyIter_zip st.1 h
end
section
variable{B:BB}{a b c e:D_}{es:List D_}{gc:M D}
noncomputable def iZip(K:PySem.W.Frag)(ta:TA):TI:=λU H R=>ta U H λvs H1=>(∃l1 l2 xs ys,vs=[.ref l1,.ref l2]/\SqL K H1 l1 xs/\SqL K H1 l2 ys/\R (Itz (λH a xs=>SqL K H a xs) l1 l2) H1)\/(∃l1 l2 xs ys,vs=[.ref l1,.ref l2]/\SqT K H1 l1 xs/\SqT K H1 l2 ys/\R (Itz (λH a xs=>SqT K H a xs) l1 l2) H1)
theorem Dk{k:Kd}{rd:Hp->g_->List V->Prop}(ok:KdOk k)(kr:KdRd X.K k rd){x1:Nat}{H:Hp}{s:c_}{R:It->Hp->Prop}{ys:List V}(I:Inv X aa U H s)(h1:rd H l1 xs)(h2:rd H l2 ys)(q:R (Itz rd l1 l2) H):
  o_ (q_ X.prog X.w) X.A (call (.type "zip") [.ref l1,.ref l2]) (λv s1=>o_ (q_ X.prog X.w) X.A (XB v) (PIE X aa U (.Tuple bJ x1 tp) R) X.xe s1) X.xe s:=by
 obtain⟨ag,r1,t1⟩:=kr.of rfl I h1;obtain⟨bI,r2,t2⟩:=kr.of rfl I h2;refine Qw ok t1 t2 λn h' hn a1 a2 a3 a4 a5 a6=>wpAny_pyIter_zip a1 ?_
 subst hn;have I1:Inv X aa U H { s with heap:=h' }:=I.kept (t':=s.toks) a6;refine⟨s.heap.objs.size+4,[s.heap.objs.size+4,s.heap.objs.size+2,s.heap.objs.size+3,s.heap.objs.size,s.heap.objs.size+1],_,_,H,rfl,I1,JH ok kr (zipApart_new (ok.sqLt t1) (ok.sqLt t2)),⟨a1,a2,⟨_,_,a3⟩,a4,a5⟩,λb hb=>?_,q⟩;rw[w_,w_,w_,w_,k_] at hb;have up:∀n,FpOk X aa H (s.heap.objs.size+n):=λn=>I.fpOk (Vr _ _) (I.hok.fresh (Vr _ _))
 rcases hb with rfl | rfl | rfl | rfl | rfl
 ·exact up 4
 ·exact up 2
 ·exact up 3
 ·exact up 0
 ·exact up 1
theorem Lf{x1:Nat}{p:Pos}(hg:Gl X "zip")(hm:X.mg "zip"=none)(ha:PA X [a,b] ta)(hs:d_ [a,b] X.env=[(false,eval a X.env),(false,eval b X.env)]:=by rfl)(dN:d_ [b] X.env=[(false,eval b X.env)]:=by rfl):
  PI X (.Tuple bJ x1 tp) (.Call (.Name "zip" p) [a,b] [] pos) (iZip X.K ta):=by
 intro aa s U H R I h;refine Call_ (vi I hg hm boot_zip (TK (thn (ha pos aa s U H _ I h) λus s1 ⟨vs,H1,I1,r1,q1⟩=>?_) (by rw[hs,dN]) (by rw[dN];rfl)))
 rcases q1 with⟨l1,l2,xs,ys,e,h1,h2,q⟩ | ⟨l1,l2,xs,ys,e,h1,h2,q⟩
 ·subst e;obtain⟨u1,u2,rfl,e1,e2⟩:=r1.two;cases e1;cases e2;exact Dk FI (Dr _) I1 h1 h2 q
 ·subst e;obtain⟨u1,u2,rfl,e1,e2⟩:=r1.two;cases e1;cases e2;exact Dk Gx (Hi _) I1 h1 h2 q
noncomputable def pairsD(xs ys:List D):List D:=(xs.zip ys).map λp=>.tup [p.1,p.2]
noncomputable def zipI(ds:List D):Option (List D):=match ds with
 | [.lst xs,.lst ys]=>some (pairsD xs ys)
 | [.tup xs,.tup ys]=>some (pairsD xs ys)
 | _=>none
theorem GN{K:PySem.W.Frag}{rd:Hp->g_->List V->Prop}{ys:List V}{es:List D}(mono:∀{H a xs},Same I H->rd I a xs->rd H a xs)(inj:∀{H},Same I H->(∀zs,rd H l1 zs->zs=xs)/\(∀zs,rd H l2 zs->zs=ys)\/True)(h1:rd I l1 xs)(h2:rd I l2 ys)(i1:IsA K I ds xs)(i2:IsA K I es ys):Yields K I (pairsD ds es) (Itz rd l1 l2):=λi H s=>by
 have L1:=i1.length;have L2:=i2.length;refine⟨λd hd=>?_,λhi=>⟨xs,ys,mono s h1,mono s h2,?_⟩⟩
 ·unfold pairsD at hd;obtain⟨q,e1,rfl⟩:=getMap hd;obtain⟨e2,e3⟩:=Wz.mp e1;obtain⟨x,f1,f2⟩:=i1.get e2;obtain⟨y,f3,f4⟩:=i2.get e3;refine⟨⟨xs,ys,x,y,mono s h1,mono s h2,f1,f3⟩,λv H2 hy=>?_⟩;obtain⟨p,x',y',g1,g2,g3,g4,g5⟩:=hy;have k1:=g4 xs (mono s h1);have k2:=g5 ys (mono s h2);rw[f1] at k1;cases k1;rw[f3] at k2;cases k2;exact .inr ⟨p,[q.1,q.2],[x,y],rfl,g2,g1,g3,IsA.cons f2 (IsA.cons f4 IsA.nil)⟩
 ·unfold pairsD at hi;rw[y_,List.length_zip] at hi;omega
theorem El{x1:Nat}{p:Pos}{t:M (List D)}(hg:Gl X "zip")(hm:X.mg "zip"=none)(ha:AD X B [a,b] t)(hs:d_ [a,b] X.env=[(false,eval a X.env),(false,eval b X.env)]:=by rfl)(dN:d_ [b] X.env=[(false,eval b X.env)]:=by rfl):
  ITD X B (.Tuple bJ x1 tp) (.Call (.Name "zip" p) [a,b] [] pos) (fn1 zipI t):=PI.imp (Lf hg hm ha hs dN) λU H R q=>by
 obtain⟨G,I,Γ,ds,af,r,e1,k⟩:=q;obtain⟨d,ac,e2,e3⟩:=lX e1;obtain⟨e4,rfl⟩:=tN e3;refine⟨G,I,Γ,d,_,r,e2,λvs H1 I1 r1 g1 hd=>?_⟩;unfold zipI at e4;split at e4
 ·cases e4;obtain⟨x,y,rfl,hx,hy⟩:=hd.two;obtain⟨l1,xs,rfl,h1,h2⟩:=tW hx;obtain⟨l2,ys,rfl,h3,h4⟩:=tW hy;exact .inl ⟨l1,l2,xs,ys,rfl,(Same.rdK r1.iH h1).sq,(Same.rdK r1.iH h3).sq,k _ _ _ r1 g1 (GN (λs h=>by rcases h with h | h;exact .inl (Same.rd s h);exact .inr h) (λ_=>.inr trivial) h1.sq h3.sq h2 h4)⟩
 ·cases e4;obtain⟨x,y,rfl,hx,hy⟩:=hd.two;obtain⟨l1,xs,rfl,h1,h2⟩:=tR hx;obtain⟨l2,ys,rfl,h3,h4⟩:=tR hy;exact .inr ⟨l1,l2,xs,ys,rfl,Same.sqT r1.iH h1,Same.sqT r1.iH h3,k _ _ _ r1 g1 (GN (λs h=>Same.sqT s h) (λ_=>.inr trivial) h1 h3 h2 h4)⟩
 ·cases e4
section
variable {k:Kd}
theorem drawsK(ok:KdOk k){prog:v_}{w:F_}(hh:A.handled=none)(it l:g_)(gf:l≠it)(ak:Array b_):Draws prog w A it [it,l] ak.size (λi v=>ak[i]?=some v) (λi h=>k.it h it l i/\k.sq h l ak) where
 live:=λi h st=>by obtain⟨o,e,_⟩:=ok.itObj st.1;exact⟨o,e⟩
 frame:=λi h h' st kk=>⟨ok.itAt st.1 λo e=>kk _ (by simp) o e,ok.sqAt st.2 λo e=>kk _ (by simp) o e⟩
 item:=λi s Q E hi st hQ=>ok.item st.1 st.2 (x:=ak[i]) (by simp[hi]) λh' h1 h2=>hQ _ h' s.toks (by simp[hi]) ⟨h1,ok.sqAt st.2 λo e=>h2.extBut _ _ gf e⟩ h2
 done:=λs Q E st hE=>ok.stop hh st.1 st.2 (by simp) hE
theorem N6(ok:KdOk k)(l:g_)(ak:Array b_):
  Meets (Ul.«enumerate.__new__» ⟨[.type "enumerate", .ref l],[]⟩) (λ_ R s=>k.sq s.heap l ak ∧
   R (.ok (.ret (.ref (s.heap.push { cls:=.type k.nm,data:=.fields #[.ref l,.int 0 0] }).objs.size)))
    { s with heap:=(s.heap.push { cls:=.type k.nm,data:=.fields #[.ref l,.int 0 0] }).push { cls:=.type "enumerate", data:=.fields #[.none,.bool false,.ref s.heap.objs.size,Vo 0,.none,.none] } }):=
 .of_wp λprog w A R s h=>by
  obtain⟨hp,gn,dw,tk,os⟩:=s;obtain⟨hl,h⟩:=h;have fN:=sub_enumerate;have hL:k.sq (c_.heap ⟨hp,gn,dw,tk,os⟩) l ak:=hl
  wp_walk using ok.iter hL
  refine wpAny_stack_any λframes=>f_ ?_
  split
  next c _ _ _ _ _=>cases c == type "enumerate"<;>(wp_walk using ok.iter hL;exact⟨_,rfl,h⟩)
  next=>wp_walk using ok.iter hL;exact⟨_,rfl,h⟩
end
end
section
variable{prog:v_}{w:F_}{E:b_->c_->Prop}{s:c_}{k:Kd}
noncomputable abbrev en1(k:Kd)(h:G_)(l:g_):G_:=h.push { cls:=.type k.nm,data:=.fields #[.ref l,.int 0 0] }
noncomputable abbrev en2(k:Kd)(h:G_)(l:g_):G_:=(en1 k h l).push { cls:=.type "enumerate", data:=.fields #[.none,.bool false,.ref h.objs.size,Vo 0,.none,.none] }
theorem LM(ok:KdOk k){Q:b_->c_->Prop}(hL:k.sq s.heap l ak)(made:∀n g,n=s.heap.objs.size->IsEnum g (n+1) n 0 .none->k.it g n l 0->(∀b o,s.heap.get? b=some o->g.get? b=some o)->Q (.ref (n+1)) { s with heap:=g }):
  o_ (q_ prog w) A (call (type "enumerate") ([l].map b_.ref)) Q E s:=by
 have gZ:(en1 k s.heap l).objs.size=s.heap.objs.size+1:=UR ..;have iN:(en2 k s.heap l).get? (en1 k s.heap l).objs.size=some _:=s_ _ rfl;rw[gZ] at iN;refine callType_new F.called_enumerate (by decide) (F.typeCall_enumerate_1 _) (F.newCall_enumerate_1 _) (λobj=>F.args_object_init_2 obj _) F.entry_enumerate_new (N6 ok l ak) ⟨hL,?_⟩;have put:Q (.ref (s.heap.objs.size+1)) { s with heap:=en2 k s.heap l }:=made _ _ rfl iN (ok.itAt ok.new λo e=>e_ _ e) λb o x=>e_ _ (e_ _ x)
 rw[←gZ] at put iN;exact⟨⟨_,iN,rfl⟩,put⟩
end
section
variable{B:BB}{a b c e:D_}{es:List D_}{gc:M D}{k:Kd}
noncomputable def Ite(rd:Hp->g_->List V->Prop)(l:g_):It:=
 ⟨λi H=>∃xs x,rd H l xs/\xs[i]?=some x,λi H v H'=>∃p x,H p=none/\v=.ref p/\H'=upd H p (.tup [.int i,x])/\(∀xs,rd H l xs->xs[i]?=some x),λi H=>∃xs,rd H l xs/\xs.length<=i⟩
theorem Im{P:v_}{w:F_}{K:PySem.W.Frag}{x1:Nat}{rd:Hp->g_->List V->Prop}(ok:KdOk k)(kr:KdRd K k rd){z it:g_}(kB:z≠it)(kC:l≠it)(pz:z≠l):
  Turn P w K (.Tuple bJ x1 tp) (Ite rd l) [z,it] z (λi h=>(∃old,IsEnum h z it i old)/\k.it h it l i) where
 mem:=by simp
 obj:=λi h st b hb=>by
  obtain⟨⟨old,a1⟩,a2⟩:=st;rw[w_,k_] at hb
  rcases hb with rfl | rfl
  ·exact⟨_,a1,λv q=>by cases(show fields _=X7 v from q)⟩
  ·exact ok.itObj a2
 keep:=λi h h' st kk=>by
  obtain⟨⟨old,a1⟩,a2⟩:=st;exact⟨⟨old,kk _ (by simp) _ a1⟩,ok.itAt a2 λo e=>kk _ (by simp) o e⟩
 item:=by
  intro X hP hw hK hc i aa s U H E I hf st hg;subst hP hw;obtain⟨⟨old,a1⟩,a2⟩:=st;obtain⟨xs,x,g1,g3⟩:=hg;obtain⟨ag,r1,t1⟩:=kr.of hK I g1;obtain⟨u1,e1,e2⟩:=r1.get g3
  have aZ:i < ag.toArray.size:=by
   have:=(x_.mp e1).1;simpa using this
  have D:=drawsK ok (prog:=X.prog) (w:=X.w) (A:=X.A.in1) (I.ok.hd hc) it l kC ag.toArray;refine wpAny_pyNext_enum_itemD D a1 ⟨a2,t1⟩ aZ kB (by simp[kB,pz]) λy h' tk b0 b1 b2 b3 b4 b5=>?_
  have hy:y=u1:=by
   have fo:ag.toArray[i]?=some u1:=by simpa using e1
   have mO:ag.toArray[i]?=some y:=b0;rw[fo] at mO;cases mO;rfl
  subst hy;refine⟨.ref s.heap.objs.size,rfl,wpAny_letOwnedTupleGo_enum b1 λh2 c1 c2=>?_⟩;have gY:z≠s.heap.objs.size:=Q_ (B_ a1);have pA:it≠s.heap.objs.size:=Q_ (ok.itLt a2)
  have kk:∀b u,b∉[z,it]->s.heap.get? b=some u->h2.get? b=some u:=λb u hb e=>by
   simp only[w_,XQ,or_false,not_or] at hb;exact c2.extBut _ _ hb.1 (b5 b u hb.1 hb.2 e)
  have pT:=c2.extBut _ _ (Tt gY) b3;have I1:Inv X aa U (upd H s.heap.objs.size (.tup [.int i,x])) { s with heap:=h2,toks:=tk+1 }:=F8 (t':=tk+1) I hf kk (r_ _) ⟨by show 2<=z_;rw[TH];decide,[.int i tk,y],.cons ⟨_,rfl⟩ (.cons e2 .nil),⟨_,pT,rfl,_,rfl⟩⟩;have fr:=I.hok.fresh (r_ s.heap.objs.size);refine⟨.ref s.heap.objs.size,_,I1,rfl,⟨s.heap.objs.size,x,fr,rfl,rfl,λzs hz=>by rw[kr.inj hK I hz g1];exact g3⟩,⟨⟨y,c1⟩,ok.itAt b2.1 λo e=>c2.extBut _ _ kB.symm e⟩,λb hb=>?_⟩;have kz:=(hf b hb).1
  have nb:b≠s.heap.objs.size:=by
   rw[w_,k_] at hb
   rcases hb with rfl | rfl
   ·exact gY
   ·exact pA
  rw[tG nb];exact kz
 done:=by
  intro X hP hw hK hc i aa s U H E I hf st hg;subst hP hw;obtain⟨⟨old,a1⟩,a2⟩:=st;obtain⟨xs,g1,g3⟩:=hg;obtain⟨ag,r1,t1⟩:=kr.of hK I g1;have cp:=r1.length;have hT:s.TypeIs (.ref z) "enumerate":=⟨_,a1,rfl⟩;have hx:ag.toArray[i]?=none:=by simp;omega
  unfold Wh;refine a_ (Va (TL (name:=Wm "__next__") hT Xq (TN Xq hT F.entry_enumerate_next (a_ (UZ (a:=(b_.ref z,[])) rfl (a_ (TM (i:=2) a1 rfl (x:=.ref it) rfl ?_)))) (F.args_enumerate_next_1 _))));refine a_ (ok.stop (I.ok.hd hc) a2 t1 hx λh' x eP eM=>?_);obtain⟨o,ho,kA⟩:=eM;refine a_ (U5 (T:= "StopIteration") (b:=true) ⟨o,ho,kA⟩ XR ?_);refine f_ ⟨rfl,GF (t':=s.toks) I hf λb u hb e=>?_⟩;simp only[w_,XQ,or_false,not_or] at hb;exact eP b u hb.2 e
 self:=λ_ _ _ _ _ st h=>by obtain⟨⟨old,a1⟩,_⟩:=st;exact YH a1 h
noncomputable def iEnum(K:PySem.W.Frag)(ta:TA):TI:=λU H R=>ta U H λvs H1=>(∃l xs,vs=[.ref l]/\SqL K H1 l xs/\R (Ite (λH a xs=>SqL K H a xs) l) H1)\/(∃l xs,vs=[.ref l]/\SqT K H1 l xs/\R (Ite (λH a xs=>SqT K H a xs) l) H1)
theorem EU{rd:Hp->g_->List V->Prop}(ok:KdOk k)(kr:KdRd X.K k rd){x1:Nat}{H:Hp}{s:c_}{R:It->Hp->Prop}(I:Inv X aa U H s)(h1:rd H l xs)(q:R (Ite rd l) H):
  o_ (q_ X.prog X.w) X.A (call (.type "enumerate") [.ref l]) (λv s1=>o_ (q_ X.prog X.w) X.A (XB v) (PIE X aa U (.Tuple bJ x1 tp) R) X.xe s1) X.xe s:=by
 obtain⟨ag,r1,t1⟩:=kr.of rfl I h1;refine LM ok t1 λn h' hn a1 a4 a6=>YH a1 ?_
 subst hn;have I1:Inv X aa U H { s with heap:=h' }:=I.kept (t':=s.toks) a6;have lt:=ok.sqLt t1;refine⟨s.heap.objs.size+1,[s.heap.objs.size+1,s.heap.objs.size],_,_,H,rfl,I1,Im ok kr (Nat.succ_ne_self _) (Q_ lt) (Wg (Vb lt)),⟨⟨_,a1⟩,a4⟩,λb hb=>?_,q⟩;rw[w_,k_] at hb;have up:∀n,FpOk X aa H (s.heap.objs.size+n):=λn=>I.fpOk (Vr _ _) (I.hok.fresh (Vr _ _))
 rcases hb with rfl | rfl
 ·exact up 1
 ·exact up 0
theorem K'{x1:Nat}{p:Pos}(hg:Gl X "enumerate")(hm:X.mg "enumerate"=none)(ha:PA X [a] ta)(hs:d_ [a] X.env=[(false,eval a X.env)]:=by rfl):
  PI X (.Tuple bJ x1 tp) (.Call (.Name "enumerate" p) [a] [] pos) (iEnum X.K ta):=by
 intro aa s U H R I h;refine Call_ (vi I hg hm boot_enumerate (TK (thn (ha pos aa s U H _ I h) λus s1 ⟨vs,H1,I1,r1,q1⟩=>?_) hs rfl))
 rcases q1 with⟨l1,xs,e,h1,q⟩ | ⟨l1,xs,e,h1,q⟩
 ·subst e;obtain⟨u1,rfl,e1⟩:=r1.one;cases e1;exact EU FI (Dr _) I1 h1 q
 ·subst e;obtain⟨u1,rfl,e1⟩:=r1.one;cases e1;exact EU Gx (Hi _) I1 h1 q
noncomputable def numD:Nat->List D->List D
 | _,[]=>[]
 | n,d::ds=>.tup [.int n,d]::numD (n+1) ds
theorem wV:∀{ds:List D}{n i:Nat}{d:D},(numD n ds)[i]?=some d->∃x,ds[i]?=some x/\d=.tup [.int ((n+i:Nat):Int),x]
 | [],n,i,d,h=>by rw[numD] at h;simp at h
 | c::ds,n,0,d,h=>by rw[numD] at h;simp at h;exact⟨c,rfl,h.symm⟩
 | c::ds,n,i+1,d,h=>by
  rw[numD] at h;obtain⟨x,e1,e2⟩:=wV (i:=i) (by simpa using h);refine⟨x,by simpa using e1,?_⟩;rw[e2,show n+1+i=n+(i+1) from by omega]
theorem zU:∀(ds:List D) (n:Nat),(numD n ds).length=ds.length
 | [],n=>by rw[numD]
 | c::ds,n=>by rw[numD,S_,S_,zU ds]
noncomputable def enumI(ds:List D):Option (List D):=match ds with
 | [.lst xs]=>some (numD 0 xs)
 | [.tup xs]=>some (numD 0 xs)
 | _=>none
theorem Fy{K:PySem.W.Frag}{rd:Hp->g_->List V->Prop}(mono:∀{H a xs},Same I H->rd I a xs->rd H a xs)(h1:rd I l xs)(i1:IsA K I ds xs):Yields K I (numD 0 ds) (Ite rd l):=λi H s=>by
 refine⟨λd hd=>?_,λhi=>⟨xs,mono s h1,?_⟩⟩
 ·obtain⟨y,e1,rfl⟩:=wV hd;obtain⟨x,f1,f2⟩:=i1.get e1;refine⟨⟨xs,x,mono s h1,f1⟩,λv H2 hy=>?_⟩;obtain⟨p,x',g1,g2,g3,g4⟩:=hy;have k1:=g4 xs (mono s h1);rw[f1] at k1;cases k1;refine .inr ⟨p,_,[.int i,x],rfl,g2,g1,g3,IsA.cons ?_ (IsA.cons f2 IsA.nil)⟩;rw[Zq];exact Is.int _
 ·rw[zU,i1.length] at hi;exact hi
theorem Fh{x1:Nat}{p:Pos}{t:M (List D)}(hg:Gl X "enumerate")(hm:X.mg "enumerate"=none)(ha:AD X B [a] t)(hs:d_ [a] X.env=[(false,eval a X.env)]:=by rfl):
  ITD X B (.Tuple bJ x1 tp) (.Call (.Name "enumerate" p) [a] [] pos) (fn1 enumI t):=PI.imp (K' hg hm ha hs) λU H R q=>by
 obtain⟨G,I,Γ,ds,af,r,e1,k⟩:=q;obtain⟨d,ac,e2,e3⟩:=lX e1;obtain⟨e4,rfl⟩:=tN e3;refine⟨G,I,Γ,d,_,r,e2,λvs H1 I1 r1 g1 hd=>?_⟩;unfold enumI at e4;split at e4
 ·cases e4;obtain⟨x,rfl,hx⟩:=hd.one;obtain⟨l1,xs,rfl,h1,h2⟩:=tW hx;exact .inl ⟨l1,xs,rfl,(Same.rdK r1.iH h1).sq,k _ _ _ r1 g1 (Fy (λs h=>by rcases h with h | h;exact .inl (Same.rd s h);exact .inr h) h1.sq h2)⟩
 ·cases e4;obtain⟨x,rfl,hx⟩:=hd.one;obtain⟨l1,xs,rfl,h1,h2⟩:=tR hx;exact .inr ⟨l1,xs,rfl,Same.sqT r1.iH h1,k _ _ _ r1 g1 (Fy (λs h=>Same.sqT s h) h1 h2)⟩
 ·cases e4
noncomputable def blsD:List D->Option (List Bool)
 | []=>some []
 | .bl b::ds=>match blsD ds with
  | some bs=>some (b::bs)
  | none=>none
 | _=>none
theorem A9:∀{ds:List D}{bs:List Bool},blsD ds=some bs->ds=bs.map .bl
 | [],bs,h=>by rw[blsD] at h;cases h;rfl
 | .bl b::ds,bs,h=>by
  rw[blsD] at h;cases e:blsD ds with
  | none=>rw[e] at h;cases h
  | some cs=>rw[e] at h;cases h;rw[A9 e];rfl
 | .non::_,_,h=>by cases h
 | .int _::_,_,h=>by cases h
 | .str _::_,_,h=>by cases h
 | .tup _::_,_,h=>by cases h
 | .lst _::_,_,h=>by cases h
 | .exc _ _::_,_,h=>by cases h
theorem Aq{K:PySem.W.Frag}{I:Hp}:∀{bs:List Bool}{xs:List V},IsA K I (bs.map .bl) xs->xs=bs.map .bl
 | [],xs,h=>h.nil_inv
 | b::bs,xs,h=>by
  obtain⟨x,r,rfl,h1,h2⟩:=h.cons_inv;rw[uv h1,Aq h2];rfl
theorem BJ:∀{bs:List Bool}{us:List b_},Vals (bs.map .bl) us->us=bs.map .bool
 | [],us,h=>by cases h;rfl
 | b::bs,us,h=>by
  cases h with
  | cons r t=>rw[BJ t];cases r;rfl
theorem MA(bs:List Bool):(Ur bs.length).all (λi=>bs.getD i true)=bs.all id:=by
 induction bs with
 | nil=>rfl
 | cons b bs ih =>
  rw[S_,UN,Vp,ZC,Vp]
  congr 1
theorem LS(bs:List Bool):(Ur bs.length).any (λi=>bs.getD i true)=bs.any id:=by
 induction bs with
 | nil=>rfl
 | cons b bs ih =>
  rw[S_,UN,YF,List.any_map,YF]
  congr 1
theorem P7(hc:X.calm=true):CallR X (.builtin "all") (λxs H Q=>∃(p:g_) (bs:List Bool),xs=[.ref p]/\SqL X.K H p (bs.map .bl)/\Q (.bl (bs.all id)) H):=by
 intro aa s U H xs us Q I r h;obtain⟨p,bs,rfl,hq,q⟩:=h;obtain⟨u,rfl,ru⟩:=vals1 r;cases ru;obtain⟨ag,rv,t,hz⟩:=I.list hq;have:=BJ rv;subst this;have lt:p < s.heap.objs.size:=by obtain⟨_,e,_⟩:=t.isList;exact B_ e
 refine call_all_walk (UV t.isList ?_);refine⟨s.heap.objs.size,_,_,_,_,_,λi=>bs.getD i true,rfl,Y3.list (A:=X.A.in1) (I.ok.hd hc) s.heap.objs.size p (Q_ lt) _,⟨⟨_,s_ _ rfl,rfl,rfl⟩,t.isList.push _⟩,?_,?_⟩
 ·intro i v s' Q' E' hv hQ;have dW:(bs.map b_.bool)[i]?=some v:=by simpa using hv
  obtain⟨b,e1,rfl⟩:=getMap dW;have hQ:Q' (bs.getD i true) s':=hQ;rw[t_,e1] at hQ;exact K_ hQ
 ·intro h' tk kk;have e1:(bs.map b_.bool).toArray.size=bs.length:=by simp
  rw[e1,MA];refine⟨.bl (bs.all id),H,I.kept λb o e=>kk b o (by simp only[k_];exact Q_ (B_ e)) (e_ _ e),rfl,q⟩
theorem PY(hc:X.calm=true):CallR X (.builtin "any") (λxs H Q=>∃(p:g_) (bs:List Bool),xs=[.ref p]/\SqL X.K H p (bs.map .bl)/\Q (.bl (bs.any id)) H):=by
 intro aa s U H xs us Q I r h;obtain⟨p,bs,rfl,hq,q⟩:=h;obtain⟨u,rfl,ru⟩:=vals1 r;cases ru;obtain⟨ag,rv,t,hz⟩:=I.list hq;have:=BJ rv;subst this;have lt:p < s.heap.objs.size:=by obtain⟨_,e,_⟩:=t.isList;exact B_ e
 refine call_any_walk (UV t.isList ?_);refine⟨s.heap.objs.size,_,_,_,_,_,λi=>bs.getD i true,rfl,Y3.list (A:=X.A.in1) (I.ok.hd hc) s.heap.objs.size p (Q_ lt) _,⟨⟨_,s_ _ rfl,rfl,rfl⟩,t.isList.push _⟩,?_,?_⟩
 ·intro i v s' Q' E' hv hQ;have dW:(bs.map b_.bool)[i]?=some v:=by simpa using hv
  obtain⟨b,e1,rfl⟩:=getMap dW;have hQ:Q' (bs.getD i true) s':=hQ;rw[t_,e1] at hQ;exact K_ hQ
 ·intro h' tk kk;have e1:(bs.map b_.bool).toArray.size=bs.length:=by simp
  rw[e1,LS];refine⟨.bl (bs.any id),H,I.kept λb o e=>kk b o (by simp only[k_];exact Q_ (B_ e)) (e_ _ e),rfl,q⟩
noncomputable def allF(ds:List D):Option D:=match ds with
 | [.lst xs]=>match blsD xs with
  | some bs=>some (.bl (bs.all id))
  | none=>none
 | _=>none
noncomputable def anyF(ds:List D):Option D:=match ds with
 | [.lst xs]=>match blsD xs with
  | some bs=>some (.bl (bs.any id))
  | none=>none
 | _=>none
theorem xi{p:Pos}{t:M (List D)}(hc:X.calm=true)(hg:Gl X "all")(hm:X.mg "all"=none)(ha:AD X B [e] t)(he:d_ [e] X.env=(false,eval e X.env)::d_ [] X.env:=by rfl)(aB:(J_ pos (d_ [] X.env)).any (·.1)=false:=by rfl):
  ED X B (.Call (.Name "all" p) [e] [] pos) (fn1 allF t):=v3 (P7 hc) (λds d e B G I H U Γ xs Q r h k=>by
 unfold allF at e;split at e
 ·split at e
  ·rename_i bs eb;cases e;have:=A9 eb;subst this;obtain⟨x,rfl,hx⟩:=h.one;obtain⟨q,zs,rfl,h3,h4⟩:=tW hx;have:=Aq h4;subst this;exact⟨q,bs,rfl,(Same.rdK r.iH h3).sq,k.now r (Is.bl _)⟩
  ·cases e
 ·cases e) hg hm boot_all ha (by decide) (by decide) he aB
theorem Cn{p:Pos}{t:M (List D)}(hc:X.calm=true)(hg:Gl X "any")(hm:X.mg "any"=none)(ha:AD X B [e] t)(he:d_ [e] X.env=(false,eval e X.env)::d_ [] X.env:=by rfl)(aB:(J_ pos (d_ [] X.env)).any (·.1)=false:=by rfl):
  ED X B (.Call (.Name "any" p) [e] [] pos) (fn1 anyF t):=v3 (PY hc) (λds d e B G I H U Γ xs Q r h k=>by
 unfold anyF at e;split at e
 ·split at e
  ·rename_i bs eb;cases e;have:=A9 eb;subst this;obtain⟨x,rfl,hx⟩:=h.one;obtain⟨q,zs,rfl,h3,h4⟩:=tW hx;have:=Aq h4;subst this;exact⟨q,bs,rfl,(Same.rdK r.iH h3).sq,k.now r (Is.bl _)⟩
  ·cases e
 ·cases e) hg hm boot_any ha (by decide) (by decide) he aB
noncomputable def reprF(ds:List D):Option D:=match ds with
 | [.bl b]=>some (.str (if b then "True" else "False"))
 | _=>none
end
theorem CompScope.of{cV sc:Wc}(h:decide (sc.kind=.function/\(∀y∈sc.names,y.2≠.cell)/\(∀y∈sc.names,y.2=.local->sc.names.lookup y.1=some .local)/\(∀y∈sc.names,y.2=.free->cV.names.lookup y.1=some .cell\/cV.names.lookup y.1=some .free)/\N'.Nodup/\N'.length=m+N.length ∧
   (∀p∈(N'.drop m).zip N,((relab sc cV).names.lookup p.1=none)\/(p.1=p.2/\(relab sc cV).names.lookup p.1≠some .local)))=true):CompScope cV sc N N' m:=by
 obtain⟨h1,h2,h3,h4,h5,h6,h7⟩:=of_decide_eq_true h;exact⟨h1,h2,h3,h4,h5,h6,h7⟩
theorem xB{P:v_}{w:F_}{K:PySem.W.Frag}{f:g_}:FnOk P w K mg base CX0 k f fd ps (spD K λ_=>none):=by
 have no:∀vs H Q E,¬spD K (λ_=>none) vs H Q E:=λvs H Q E h=>by
  obtain⟨_,_,_,_,_,_,_,h,_⟩:=h;cases h
 exact⟨λvs H Q E h=>absurd h (no vs H Q E),λA outer s H args us vs Q E _ _ _ _ h=>absurd h (no vs H Q E)⟩
theorem N2{K:PySem.W.Frag}{H:Hp}{a:g_}{g:List R->Option (R×List R)}(l9:RdK K H a (ns.map V.int))(hg:∃rs,g [.val (.lst (ns.map D.int))]=some (.val (.bl true),rs)):spD K g [.ref a] H (λv _=>v=.bl true) λ_ _ _=>False:=by
 obtain⟨rs,hg⟩:=hg
 have mP:∀ns:List Int,IsA K H (ns.map D.int) (ns.map V.int):=λns=>by
  induction ns with
  | nil=>exact IsA.nil
  | cons n ns ih=>exact IsA.cons (Is.int n) ih
 refine⟨H,H,[.val (.lst (ns.map D.int))],.val (.bl true),rs,?_,rfl,hg,λv H' I' r g' hv=>uv (K:=K) (I:=I') hv⟩;refine⟨Same.refl _,Same.refl _,rfl,λi r e=>?_,λi j r r' v e e' m=>?_,λi ds e=>rfl⟩
 ·match i,e with
  | 0,e=>cases e;exact⟨_,rfl,Is.lst l9 (mP ns)⟩
 ·match i,e with
  | 0,e=>cases e;cases m
theorem OK{P:v_}{w:F_}{K:PySem.W.Frag}{mb:Str->Option b_}{CX:CXT}{a:g_}{x:Str}(KX:K.In aD.heap)(gS:aD.heap.Ns TU mg)(hb:aD.heap.Ns Zd mb)(pB:∀x:Str,x ≠ "__name__"->mb x=Ud x)(dG:aD.heap.NoLimit)(hg:aD.gens=#[])(ha:aD.heap.get? a=some { cls:=.type "list", data:=.seq vs.toArray })(hi:YC vs ns)(hl:ns.length<=z_)(hr:Room k X8)(F:∀base:G_,K.In base->base.Ns TU mg->FnOk P w K mg base CX k fa fd [x] sp)(kD:∀(s:c_) (u:b_),Yz s fd ⟨[u],[]⟩ [(x,u)])(eH:∀H:Hp,Only H->RdK K H a (ns.map V.int)->sp [.ref a] H (λv _=>v=.bl true) λ_ _ _=>False)(kE:∀H e s',CX [] H aD (λ_ _ _=>False) e s'->False):
  VL (q_ P w) X8 (.call (.ref fa) ⟨[.ref a],[]⟩) (λr s'=>r=.ok (.ret (.bool true))/\OldK aD.heap s'.heap/\s'.os=aD.os/\Vm s'.gens) aD:=by
 have rv:=FX hi;have mQ:=hi.length
 -- from an abstract heap in which nothing but the script may be dk
 have jK:∀H:Hp,Only H->RdK K H a (ns.map V.int)->HOk P w H aD.heap->(∀b,H b≠none->b=a)->(H a≠none->K.lookup a=none) →
   VL (q_ P w) X8 (.call (.ref fa) ⟨[.ref a],[]⟩) (λr s'=>r=.ok (.ret (.bool true))/\OldK aD.heap s'.heap/\s'.os=aD.os/\Vm s'.gens) aD:=by
  intro H hO hS hok hA hK;have eQ:∀{b:g_}{o:Obj},aD.heap.get? b=some o->H b=none->(hidT aD.heap H).get? b=some o:=λe n=>OA e n
  have gL:∀{b:g_}{o:Obj}{es:Array DictEntry}{ep:Nat},aD.heap.get? b=some o->o.data=.dict es ep->H b=none:=λ{b o es ep} e d=>by
   cases q:H b with
   | none=>rfl
   | some u =>
    have e':b=a:=hA b (by rw[q];simp);subst e';rw[ha] at e;cases e;have d':seq vs.toArray _=Data.dict es ep:=d;cases d'
  have iO:∀{b:g_}{m:Str->Option b_},aD.heap.Ns b m->(hidT aD.heap H).Ns b m:=λ{b m} ⟨o,es,ep,e,d,r⟩=>⟨o,es,ep,eQ e (gL e d),d,r⟩
  have mR:K.In (hidT aD.heap H):=λb o e=>eQ (KX b o e) (by
   cases q:H b with
   | none=>rfl
   | some u =>
    have e':b=a:=hA b (by rw[q];simp);subst e'
    rw[hK (by rw[q];simp)] at e;cases e)
  have hM:Mod K mg (hidT aD.heap H):=⟨mR,iO gS,⟨mb,iO hb,pB⟩,let ⟨mc,h1,h2⟩:=dG;⟨mc,iO h1,h2⟩⟩;have e0:Env0 P w K mg (hidT aD.heap H) X8 [] aD H:=⟨rfl,hM,λb o e=>Lx e,YD (Qx _ _),trivial,λb hb=>absurd (show b∈([]:List g_) from hb) (by simp),hok,.of_eq hg⟩;refine Uk ((F _ mR (iO gS)).run X8 [] aD H ⟨[.ref a],[]⟩ [.ref a] [.ref a] _ _ hr e0 (kD aD (.ref a)) (.cons rfl .nil) (eH H hO hS)) λr s' h=>?_
  cases r with
  | error e=>exact(kE H e s' h).elim
  | ok fl =>
   cases fl with
   | next=>exact Zw h
   | brk=>exact Zw h
   | cont=>exact Zw h
   | ret u =>
    obtain⟨v,H',os,bare,un,mS,r',q⟩:=h;have q':v=.bl true:=q;subst q';obtain rfl:u=b_.bool true:=r';refine⟨rfl,OldK.of_keep λb o e=>?_,os,bare⟩;cases q:H b with
    | none=>exact un.keep b o e q (by intro z;exact absurd (show b∈([]:List g_) from z) (by simp)) (by simp)
    | some u =>
     rcases hO b with z | ⟨ob,xs,z⟩
     ·rw[q] at z;cases z
     ·have z2:=un.frzs b ob _ z;obtain⟨e1,_⟩:=hok b _ z;obtain⟨e2,_⟩:=mS b _ z2;rw[e] at e1;cases e1;exact e2
 cases hk:K.lookup a with
 | some o =>
  -- the script is one of the module's own objects
  have e:=KX a o hk;rw[ha] at e;cases e;refine jK (λ_=>none) (λ_=>.inl rfl) (.inr ⟨vs,_,hk,rv,by rw[mQ];exact hl⟩) (λb u z=>by have z':(none:Option HO)=some u:=z;cases z') (λb z=>absurd rfl z) λz=>absurd rfl z
 | none =>
  refine jK (λb=>if b=a then some (.frz { cls:=.type "list", data:=.seq vs.toArray } (.lst (ns.map V.int))) else none) (λb=>?_) (.inl (.inr ⟨{ cls:=.type "list", data:=.seq vs.toArray },if_pos rfl⟩)) (λb u z=>?_) (λb z=>?_) λ_=>hk
  ·by_cases hb:b=a
   ·exact .inr ⟨_,_,if_pos hb⟩
   ·exact .inl (if_neg hb)
  ·by_cases hb:b=a
   ·have z':=(if_pos hb).symm.trans z;cases z';subst hb;exact⟨ha,by rw[y_];exact hl,vs,_,rv,ha⟩
   ·have z':=(if_neg hb).symm.trans z;cases z'
  ·by_cases hb:b=a
   ·exact hb
   ·exact absurd (if_neg hb) z
theorem Jf{l:PySem.W.OpenLaw}{q:v_}{XP:(Str->Option b_)->G_->Prop}{YP:F_->G_->Prop}{d:DefRec}{K:Params->PySem.W.Frag}{CX:F_->CXT}{sp:F_->Sp}{x:Str}(hn:l.most=some n)(kF:n<=z_)(gO:d.params.defaults=[])(hr:Room k X8)(hY:∀(w:F_) (h:G_),YP w h->(K w.params).In h)(F:∀(w:F_) (mg:Str->Option b_) (fa:g_) (h:G_),(K w.params).In h->h.Ns TU mg->mg d.name=some (.ref fa) →
   ∃fd:U8,(∀(s:c_) (u:b_),Yz s fd ⟨[u],[]⟩ [(x,u)]) ∧
    ∀base:G_,(K w.params).In base->base.Ns TU mg->FnOk l.prog w (K w.params) mg base (CX w) k fa fd [x] (sp w))(eH:∀(w:F_) (H:Hp) (a:g_) (ns:List Int),ns.length<=n->Only H->RdK (K w.params) H a (ns.map V.int)->sp w [.ref a] H (λv _=>v=.bl true) λ_ _ _=>False)(kE:∀(w:F_) (H:Hp) (s:c_) (e:b_) (s':c_),CX w [] H s (λ_ _ _=>False) e s'->False):
  PySem.W.WalkO q cU XP YP l.row.toRowW d [] (λf vs=>PySem.call f vs):=by
 refine Att.Jd hn gO λw s₀ aD mg mb fa o pm cd bZ a vs ns G tz ho hd cz gP gQ fj aZ hg=>?_
 have KX:=hY w _ tz;obtain⟨fd,hb,hF⟩:=F w mg fa _ KX G.T.g gP;exact OK KX G.T.g G.T.b G.T.builtins G.T.nolimit hg gQ fj (H_ aZ kF) hr hF hb (λH hO hS=>eH w H a ns aZ hO hS) λH e s'=>kE w H aD e s'
noncomputable def un1{α:Type}(F:D->Option α)(g:M D):M α:=bnd g λd=>lft (F d)
inductive Ki where
 | iT | sT | bT | tT | lT
noncomputable def Ki.nm:Ki->String
 | .iT => "int"
 | .sT => "str"
 | .bT => "bool"
 | .tT => "tuple"
 | .lT => "list"
noncomputable def isiB:Ki->D->Bool
 | .iT,.int _=>true
 | .iT,.bl _=>true
 | .sT,.str _=>true
 | .bT,.bl _=>true
 | .tT,.tup _=>true
 | .lT,.lst _=>true
 | _,_=>false
noncomputable def isX:D->Bool
 | .exc _ _=>true
 | _=>false
noncomputable def isiF(k:Ki)(d:D):Option D:=if isX d then none else some (.bl (isiB k d))
section
variable{B:BB}{e:D_}
theorem Oy{k:Ki}{h:G_}{a:g_}{ag:Array b_}{prog:v_}{w:F_}{E:b_->c_->Prop}{s:c_}{Q:b_->c_->Prop}(hl:s.heap.IsList a ag)(q:∀t,Q (.bool (isiB k (.lst ds))) { s with toks:=t }):o_ (q_ prog w) A (call (.builtin "isinstance") [.ref a,.type k.nm]) Q E s:=by
 cases k
 ·exact PySem.IsiPair.isList_int hl (λ_ _ z=>z) (q _)
 ·exact PySem.IsiPair.isList_str hl (λ_ _ z=>z) (q _)
 ·exact PySem.IsiPair.isList_bool hl (λ_ _ z=>z) (q _)
 ·exact PySem.IsiPair.isList_tuple hl (λ_ _ z=>z) (q _)
 ·exact PySem.IsiPair.isList_list hl (λ_ _ z=>z) (q _)
theorem Kw{k:Ki}{h:G_}{a:g_}{ag:Array b_}{prog:v_}{w:F_}{E:b_->c_->Prop}{s:c_}{Q:b_->c_->Prop}(hl:s.heap.IsTuple a ag)(q:∀t,Q (.bool (isiB k (.tup ds))) { s with toks:=t }):o_ (q_ prog w) A (call (.builtin "isinstance") [.ref a,.type k.nm]) Q E s:=by
 cases k
 ·exact PySem.IsiPair.isTuple_int hl (λ_ _ z=>z) (q _)
 ·exact PySem.IsiPair.isTuple_str hl (λ_ _ z=>z) (q _)
 ·exact PySem.IsiPair.isTuple_bool hl (λ_ _ z=>z) (q _)
 ·exact PySem.IsiPair.isTuple_tuple hl (λ_ _ z=>z) (q _)
 ·exact PySem.IsiPair.isTuple_list hl (λ_ _ z=>z) (q _)
theorem PK(k:Ki):CallR X (.builtin "isinstance") (λxs H Q=>∃d x,isX d=false/\xs=[x,.ty k.nm]/\Is X.K H d x/\Q (.bl (isiB k d)) H):=by
 intro aa s U H xs us Q I r h;obtain⟨d,x,hX,rfl,hd,q⟩:=h;cases r with
 | cons rx r =>
  cases r with
  | cons rt r =>
   cases r;cases rt;have fin:∀t,EP X aa U Q (.bool (isiB k d)) { s with toks:=t }:=λt=>⟨.bl _,H,I.tok _,rfl,q⟩
   cases d with
   | exc _ _=>cases hX
   | non =>
    cases(show x=.non from by rw[Is] at hd;exact hd)
    cases rx;cases k
    ·exact PySem.IsiPair.NoneType_int (fin _)
    ·exact PySem.IsiPair.NoneType_str (fin _)
    ·exact PySem.IsiPair.NoneType_bool (fin _)
    ·exact PySem.IsiPair.NoneType_tuple (fin _)
    ·exact PySem.IsiPair.NoneType_list (fin _)
   | bl b =>
    cases uv hd;cases rx;cases k
    ·exact bool_int (fin _)
    ·exact bool_str (fin _)
    ·exact bool_bool (fin _)
    ·exact PySem.IsiPair.bool_tuple (fin _)
    ·exact bool_list (fin _)
   | int i =>
    cases tJ hd;obtain⟨t,rfl⟩:=rx;cases k
    ·exact PySem.IsiPair.int_int (fin _)
    ·exact int_str (fin _)
    ·exact int_bool (fin _)
    ·exact int_tuple (fin _)
    ·exact int_list (fin _)
   | str y =>
    cases(show x=.str y from by rw[Is] at hd;exact hd)
    obtain⟨t,rfl⟩:=rx;cases k
    ·exact str_int (fin _)
    ·exact str_str (fin _)
    ·exact str_bool (fin _)
    ·exact str_tuple (fin _)
    ·exact str_list (fin _)
   | tup ds =>
    obtain⟨a,xs,rfl,h1,h2⟩:=tR hd;cases rx;obtain⟨ag,_,t,_⟩:=I.tuple h1;exact Kw (h:=s.heap) t fin
   | lst ds =>
    obtain⟨a,xs,rfl,h1,h2⟩:=tW hd;cases rx;obtain⟨ag,_,t,_⟩:=I.list h1.sq;exact Oy (h:=s.heap) t.isList fin
theorem MV{k:Ki}:∀U H Q,tD X.K B (un1 (isiF k) ga) U H Q->tCB (λxs H Q=>∃d x,isX d=false/\xs=[x,.ty k.nm]/\Is X.K H d x/\Q (.bl (isiB k d)) H) (tCons (tD X.K B ga) (tCons (tC (.ty k.nm)) tNil)) U H Q:=λU H Q q=>by
 obtain⟨G,I,Γ,d,af,r,e1,k⟩:=q;obtain⟨d1,ac,e2,e3⟩:=lX e1;obtain⟨e4,rfl⟩:=tN e3;unfold isiF at e4;cases hX:isX d1 with
 | true=>rw[hX] at e4;cases e4
 | false =>
 rw[hX] at e4;cases e4;exact⟨G,I,Γ,d1,_,r,e2,λv H1 I1 r1 g1 h1=>⟨d1,v,hX,rfl,h1.mono r1.iH,k _ _ _ r1 g1 (Is.bl _)⟩⟩
theorem xj{k:Ki}{t:Str}{p:Pos}(hv:Ud t=some (.type k.nm))(hn:t ≠ "__name__")(hd:(t == ("__debug__":Str))=false)(hg:Gl X "isinstance")(hm:X.mg "isinstance"=none)(cq:Gl X t)(cg:X.mg t=none)(ha:ED X B e ga)(he:d_ [e,.Name t p2] X.env=(false,eval e X.env)::d_ [.Name t p2] X.env:=by rfl)(cr:d_ [.Name t p2] X.env=(false,eval (.Name t p2) X.env)::d_ [] X.env:=by rfl)(aB:(J_ pos (d_ [.Name t p2] X.env)).any (·.1)=false:=by rfl):
  ED X B (.Call (.Name "isinstance" p) [e,.Name t p2] [] pos) (un1 (isiF k) ga):=
 PE.imp (wn (PK k) hg hm Xm (uU ha (uU (Em (v:=.ty k.nm) cq cg hv rfl hn hd) wB cr) he) (by decide) (by decide) he aB) MV
theorem xN{p:Pos}(hg:Gl X "isinstance")(hm:X.mg "isinstance"=none)(cq:Gl X "int")(cg:X.mg "int"=none)(ha:ED X B e ga)(he:d_ [e,.Name "int" p2] X.env=(false,eval e X.env)::d_ [.Name "int" p2] X.env:=by rfl)(cr:d_ [.Name "int" p2] X.env=(false,eval (.Name "int" p2) X.env)::d_ [] X.env:=by rfl)(aB:(J_ pos (d_ [.Name "int" p2] X.env)).any (·.1)=false:=by rfl):
  ED X B (.Call (.Name "isinstance" p) [e,.Name "int" p2] [] pos) (un1 (isiF .iT) ga):=xj (k:=.iT) boot_int (by decide) (by decide) hg hm cq cg ha he cr aB
theorem FH{p:Pos}(hg:Gl X "isinstance")(hm:X.mg "isinstance"=none)(cq:Gl X "str")(cg:X.mg "str"=none)(ha:ED X B e ga)(he:d_ [e,.Name "str" p2] X.env=(false,eval e X.env)::d_ [.Name "str" p2] X.env:=by rfl)(cr:d_ [.Name "str" p2] X.env=(false,eval (.Name "str" p2) X.env)::d_ [] X.env:=by rfl)(aB:(J_ pos (d_ [.Name "str" p2] X.env)).any (·.1)=false:=by rfl):
  ED X B (.Call (.Name "isinstance" p) [e,.Name "str" p2] [] pos) (un1 (isiF .sT) ga):=xj (k:=.sT) boot_str (by decide) (by decide) hg hm cq cg ha he cr aB
theorem wI{p:Pos}(hg:Gl X "isinstance")(hm:X.mg "isinstance"=none)(cq:Gl X "bool")(cg:X.mg "bool"=none)(ha:ED X B e ga)(he:d_ [e,.Name "bool" p2] X.env=(false,eval e X.env)::d_ [.Name "bool" p2] X.env:=by rfl)(cr:d_ [.Name "bool" p2] X.env=(false,eval (.Name "bool" p2) X.env)::d_ [] X.env:=by rfl)(aB:(J_ pos (d_ [.Name "bool" p2] X.env)).any (·.1)=false:=by rfl):
  ED X B (.Call (.Name "isinstance" p) [e,.Name "bool" p2] [] pos) (un1 (isiF .bT) ga):=xj (k:=.bT) boot_bool (by decide) (by decide) hg hm cq cg ha he cr aB
theorem vb{p:Pos}(hg:Gl X "isinstance")(hm:X.mg "isinstance"=none)(cq:Gl X "tuple")(cg:X.mg "tuple"=none)(ha:ED X B e ga)(he:d_ [e,.Name "tuple" p2] X.env=(false,eval e X.env)::d_ [.Name "tuple" p2] X.env:=by rfl)(cr:d_ [.Name "tuple" p2] X.env=(false,eval (.Name "tuple" p2) X.env)::d_ [] X.env:=by rfl)(aB:(J_ pos (d_ [.Name "tuple" p2] X.env)).any (·.1)=false:=by rfl):
  ED X B (.Call (.Name "isinstance" p) [e,.Name "tuple" p2] [] pos) (un1 (isiF .tT) ga):=xj (k:=.tT) boot_tuple (by decide) (by decide) hg hm cq cg ha he cr aB
theorem G0{p:Pos}(hg:Gl X "isinstance")(hm:X.mg "isinstance"=none)(cq:Gl X "list")(cg:X.mg "list"=none)(ha:ED X B e ga)(he:d_ [e,.Name "list" p2] X.env=(false,eval e X.env)::d_ [.Name "list" p2] X.env:=by rfl)(cr:d_ [.Name "list" p2] X.env=(false,eval (.Name "list" p2) X.env)::d_ [] X.env:=by rfl)(aB:(J_ pos (d_ [.Name "list" p2] X.env)).any (·.1)=false:=by rfl):
  ED X B (.Call (.Name "isinstance" p) [e,.Name "list" p2] [] pos) (un1 (isiF .lT) ga):=xj (k:=.lT) boot_list (by decide) (by decide) hg hm cq cg ha he cr aB
noncomputable def negI(d:D):Option D:=match d with
 | .int i=>some (.int (-i))
 | _=>none
theorem PQ:∀U H Q,tD X.K B (un1 negI ga) U H Q->tUn (rU λi=>.int (-i)) (tD X.K B ga) U H Q:=λU H Q q=>by
 obtain⟨G,I,Γ,d,af,r,e1,k⟩:=q;obtain⟨d1,ac,e2,e3⟩:=lX e1;obtain⟨e4,rfl⟩:=tN e3;unfold negI at e4;split at e4
 ·cases e4;exact⟨G,I,Γ,_,_,r,e2,λv H1 I1 r1 g1 h1=>⟨_,tJ h1,k _ _ _ r1 g1 (Is.int _)⟩⟩
 ·cases e4
theorem xx(ha:ED X B e ga):ED X B (.UnaryOp .USub e pos) (un1 negI ga):=PE.imp (Iq IM ha) PQ
end
end DL
namespace PySem.SeqAt
def RcLtAt(A:Uh)(s:c_)(y x:b_)(b:Bool):Prop:=
 ∀(prog:v_) (w:F_) (E:b_->c_->Prop) (Q:b_->c_->Prop),Q (.bool b) s->o_ (q_ prog w) A (richCompare .Lt y x) Q E s
noncomputable def ltFrom(e lt:Nat->Bool)(d:Bool):List Nat->Bool
 | []=>d
 | i::r=>if e i then ltFrom e lt d r else lt i
theorem Ie(u v:g_)(us vs:Array b_)(p q:Nat)(du dv:Option g_)(ku kv:Array (Option b_))(e lt:Nat->Bool):
  Meets (Ul.«tuple.__lt__» ⟨[.ref u,.ref v],[]⟩) (λA bA s=>(s.heap.get? u=some ⟨.type "tuple", du,.seq us p,ku⟩/\s.heap.get? v=some ⟨.type "tuple", dv,.seq vs q,kv⟩) ∧
    (∀j (h1:j < us.size) (h2:j < vs.size),ZK A.in1 s us[j] vs[j] (e j)/\(e j=false->RcLtAt A.in1 s us[j] vs[j] (lt j)))/\bA (.ok (.ret (.bool (ltFrom e lt (decide (us.size < vs.size)) (Ur (min us.size vs.size)))))) s):=
 .of_wp λprog w A bA s given=>by
  obtain⟨hp,gn,dw,tk,os⟩:=s;obtain⟨⟨gu,gv⟩,g0,mT⟩:=given;obtain⟨g9,hs⟩:∃g9:Nat->Prop,g9=λi=>bA (.ok (.ret (.bool (ltFrom e lt (decide (us.size < vs.size)) ((Ur (min us.size vs.size)).drop i))))) ⟨hp,gn,dw,tk,os⟩:=⟨_,rfl⟩
  have jJ:=AutoSeq1.sub_tuple_tuple;have len:(us.toList.zip vs.toList).length=min us.size vs.size:=by rw[List.length_zip];rfl
  wp_walk using WP gu,WP gv,wpAny_forIn_list _ (λleft fm now=>fm.1=none/\now=⟨hp,gn,dw,tk,os⟩/\∃i,left=(us.toList.zip vs.toList).drop i/\g9 i) _
  case turn =>
   rintro⟨y,x⟩ left fm now ⟨ba,rfl,i,bg,say⟩
   have here:i < min us.size vs.size:=by
    rw[←len];exact Nat.lt_of_not_le λno=>by rw[Vs no] at bg;exact List.cons_ne_nil _ _ bg
   have k1:i < us.size:=by omega
   have k2:i < vs.size:=by omega
   have cut:=Tx (l:=us.toList.zip vs.toList) (i:=i) (len▸here);rw[←bg,List.getElem_zip] at cut;obtain⟨yx,tail⟩:=List.cons.inj cut;obtain⟨rfl,rfl⟩:=Prod.mk.inj yx;rw[hs] at say;have jL:=Tx (l:=Ur (min us.size vs.size)) (i:=i) (by simpa using here);rw[Wo] at jL;rw[jL,ltFrom] at say;have two:=g0 i k1 k2;refine a_ (two.1 prog w _ _ ?_);cases like:e i with
   | true =>
    rw[like,if_pos rfl] at say
    wp_walk
    exact⟨rfl,rfl,i+1,tail,by rw[hs];exact say⟩
   | false =>
    rw[like,if_neg h_] at say;refine a_ (Ys (a_ (two.2 like prog w _ _ ?_)))
    wp_walk
    exact⟨_,rfl,say⟩
  case fin =>
   rintro⟨fm,_⟩ now ⟨ba,rfl,i,bg,say⟩;cases ba
   have fO:min us.size vs.size<=i:=by
    rw[←len];exact XS.mp bg.symm
   rw[hs] at say;rw[Vs (by simpa using fO),ltFrom] at say
   wp_walk
   exact⟨_,rfl,by simpa[Ul.Tuple.tupleCompareSizes] using say⟩
  case h=>exact⟨rfl,rfl,0,rfl,by rw[hs];exact mT⟩
theorem RcLtAt.tuples{s:c_}{u v:g_}{us vs:Array b_}{e lt:Nat->Bool}(hu:s.heap.IsTuple u us)(hv:s.heap.IsTuple v vs)(room:A.units < UI)(g0:∀j (h1:j < us.size) (h2:j < vs.size),ZK A.in1 s us[j] vs[j] (e j)/\(e j=false->RcLtAt A.in1 s us[j] vs[j] (lt j))):RcLtAt A s (.ref u) (.ref v) (ltFrom e lt (decide (us.size < vs.size)) (Ur (min us.size vs.size))):=by
 obtain⟨⟨_,du,_,ku⟩,gu,rfl,p,rfl⟩:=hu;obtain⟨⟨_,dv,_,kv⟩,gv,rfl,q,rfl⟩:=hv;exact λprog w E Q h=>richCompare_meets_room (op:=.Lt) ⟨_,gu,rfl⟩ ⟨_,gv,rfl⟩ F.slot_tuple_lt F.entry_tuple_lt (F.args_tuple_lt_2 _ _) (Ie u v us vs p q du dv ku kv e lt) ⟨⟨gu,gv⟩,g0,b_.noConfusion,h⟩ room
theorem RcLtAt.int_int{s:c_}(a:Int)(t:Tok)(b:Int)(u:Tok):RcLtAt A s (.int a t) (.int b u) (decide (a < b)):=λprog w E Q h=>PyProof.Rows.lt_int h
end PySem.SeqAt
namespace DL
open PySem PySem.Spec PyProof.Rows L2
section
variable{B:BB}{a b c e:D_}{es:List D_}
theorem At:∀{xs:List V}{us:List b_},xs.length=us.length->(∀(i:Nat) x u,xs[i]?=some x->us[i]?=some u->RelV x u)->Vals xs us
 | [],[],_,_=>.nil
 | [],_::_,h,_=>by cases h
 | _::_,[],h,_=>by cases h
 | x::xs,u::us,h,k=>.cons (k 0 x u rfl rfl) (At (V8 h) λi y v e f=>k (i+1) y v e f)
end
section
variable{B:BB}{a b c e:D_}{es:List D_}{kr:Nat}
open PySem.SeqAt in
end
end DL
namespace DL
open PySem PySem.W PyProof.Rows
structure Ord(lt:Nat->Nat->Bool):Prop where
 as:∀a b,lt a b=true->lt b a=false
 tr:∀a b c,lt b a=false->lt c b=false->lt c a=false
section
variable{lt:Nat->Nat->Bool}{s:c_}
def askIn(n:Nat)(lt:Nat->Nat->Bool):Nat->Nat->(Bool->c_->Prop)->c_->Prop:=λi j C s=>i < n/\j < n/\C (lt i j) s
noncomputable def gt(p:Array Nat)(i:Nat):Nat:=p.getD i 0
def Pm(n:Nat)(p:Array Nat):Prop:=p.Perm (Ur n).toArray
def Dn(lt:Nat->Nat->Bool)(p:Array Nat)(m:Nat):Prop:=∀i j,i < j->j < m->lt (gt p i) (gt p j)=false
def Up(lt:Nat->Nat->Bool)(p:Array Nat)(m:Nat):Prop:=∀i j,i < j->j < m->lt (gt p j) (gt p i)=false
def Eqs(lt:Nat->Nat->Bool)(p:Array Nat)(a b:Nat):Prop:=∀i j,a<=i->i < b->a<=j->j < b->lt (gt p i) (gt p j)=false
theorem Pm.size{p:Array Nat}(h:Pm n p):p.size=n:=by
 have:=h.size_eq;simpa using this
theorem Pm.bd{p:Array Nat}(h:Pm n p)(pos:0 < n)(i:Nat):gt p i < n:=by
 unfold gt;by_cases hi:i < p.size
 ·have:p[i]∈(Ur n).toArray:=h.mem_iff.mp (UX hi);rw[ZL,dif_pos hi];simpa using this
 ·rw[ZL,dif_neg hi];exact pos
theorem yN{p:Array Nat}:gt p i=p[i]?.getD 0:=by
 unfold gt;exact Ux ..
theorem vG{p:Array Nat}(hj:j<=p.size)(k:Nat):gt (YI p i j) k=if i<=k/\k < j then gt p (i+j - 1 - k) else gt p k:=by
 rw[yN,yN,yN];unfold YI;rw[getElem?_mirror_all hj];split<;>rfl
theorem EI{p:Array Nat}{cW d:Nat}(hs:cW < p.size)(hd:d<=cW)(k:Nat):gt (bubble p cW d) k=if k=cW - d then gt p cW else if cW - d < k/\k<=cW then gt p (k - 1) else gt p k:=by
 simp only[yN];rw[getElem?_bubble hs d hd];split
 ·rfl
 ·split<;>rfl
theorem Pm.rev{p:Array Nat}(h:Pm n p)(i j:Nat):Pm n (YI p i j):=trans (mirror_perm _ _ _ _) h
theorem xO{α:Type}{mU:Nat->Nat->(Bool->c_->Prop)->c_->Prop}{Q:α->c_->Prop}{P:α->Prop}(hc:∀i j C,i < n->j < n->C (lt i j) s->mU i j C s)(hq:∀a,P a->Q a s):∀t:KasT α,t.kasWp (askIn n lt) (λa _=>P a) s->t.kasWp mU Q s
 | .ret a,h=>hq a h
 | .ask i j k,⟨h1,h2,h3⟩=>hc i j _ h1 h2 (xO hc hq (k (lt i j)) h3)
theorem xF{α Y:Type}{t:KasT α}{f:α->KasT Y}{P:α->Prop}{Q:Y->Prop}(h:t.kasWp (askIn n lt) (λa _=>P a) s)(k:∀a,P a->(f a).kasWp (askIn n lt) (λb _=>Q b) s):(t.bind f).kasWp (askIn n lt) (λb _=>Q b) s:=by
 rw[KasT.kasWp_bind];exact xO (λi j C h1 h2 h3=>⟨h1,h2,h3⟩) (λa ha=>k a ha) t h
variable (O:Ord lt)(two:2<=n)
include O
theorem Ord.irr(a:Nat):lt a a=false:=by
 cases h:lt a a with
 | false=>rfl
 | true=>rw[←h];exact O.as a a h
theorem Ord.lt_le{a b c:Nat}(h1:lt a b=true)(h2:lt c b=false):lt a c=true:=by
 cases h:lt a c with
 | true=>rfl
 | false =>
  -- c<=a,b<=c
  have:=O.tr b c a h2 h;rw[this] at h1;cases h1
include two
theorem B5{p:Array Nat}(hp:Pm n p):∀(f m:Nat),1<=m->(kas_asc p f m).kasWp (askIn n lt) (λm' _=>m<=m'/\m'<=m+f/\(∀k,m<=k->k < m'->lt (gt p k) (gt p (k - 1))=false)/\(m' < m+f->lt (gt p m') (gt p (m' - 1))=true)) s
 | 0,m,_=>by
  rw[kas_asc];exact⟨r_ _,r_ _,λk h1 h2=>by omega,λh=>by omega⟩
 | f+1,m,hm=>by
  rw[kas_asc];refine⟨hp.bd (by omega) m,hp.bd (by omega) (m - 1),?_⟩;cases h:lt (p.getD m 0) (p.getD (m - 1) 0) with
  | true =>
   dsimp only;rw[if_pos rfl];exact⟨r_ _,by omega,λk h1 h2=>by omega,λ_=>h⟩
  | false =>
   dsimp only;rw[if_neg h_];refine xO (λi j C h1 h2 h3=>⟨h1,h2,h3⟩) (λm' h'=>?_) _ (B5 hp f (m+1) (by omega));obtain⟨a1,a2,a3,a4⟩:=h';refine⟨by omega,by omega,λk h1 h2=>?_,λh'=>a4 (by omega)⟩;by_cases z:k=m
   ·rw[z];exact h
   ·exact a3 k (by omega) h2
omit two in
theorem Up.of_steps{p:Array Nat}{m':Nat}(hm:Up lt p m)(st:∀k,m<=k->k < m'->1<=k->lt (gt p k) (gt p (k - 1))=false):Up lt p m':=by
 intro i j
 induction j with
 | zero=>intro h;omega
 | succ j ih =>
  intro dX hj;by_cases z:j+1 < m
  ·exact hm i (j+1) dX z
  ·have s1:=st (j+1) (by omega) hj (by omega);rw[Nat.add_sub_cancel] at s1;by_cases e:i=j
   ·rw[e];exact s1
   ·exact O.tr _ _ _ (ih (by omega) (by omega)) s1
omit two O in
theorem Dn.up{p:Array Nat}{m:Nat}(hm:m<=p.size)(h:Dn lt p m):Up lt (YI p 0 m) m:=by
 intro i j dX hj;rw[vG hm,vG hm,if_pos ⟨Tz _,hj⟩,if_pos ⟨Tz _,by omega⟩];exact h _ _ (by omega) (by omega)
omit two O in
theorem Dn.turn{p:Array Nat}{a:Nat}(hm:m<=p.size)(h:Dn lt p m)(e:Eqs lt p a m):Dn lt (YI p a m) m:=by
 intro i j dX hj;rw[vG hm,vG hm];by_cases h1:a<=i
 ·rw[if_pos ⟨h1,by omega⟩,if_pos ⟨by omega,hj⟩];exact e _ _ (by omega) (by omega) (by omega) (by omega)
 ·rw[if_neg (by omega)];by_cases h2:a<=j
  ·rw[if_pos ⟨h2,hj⟩];exact h _ _ (by omega) (by omega)
  ·rw[if_neg (by omega)];exact h _ _ dX hj
omit two in
theorem Dn.next{p:Array Nat}(h:Dn lt p m)(hm:1<=m)(st:lt (gt p (m - 1)) (gt p m)=false):Dn lt p (m+1):=by
 intro i j dX hj;by_cases z:j < m
 ·exact h i j dX z
 ·have:j=m:=by omega
  subst this;by_cases e:i=j - 1
  ·rw[e];exact st
  ·exact O.tr _ _ _ st (h i (j - 1) (by omega) (by omega))
theorem ye:∀(f:Nat) (p:Array Nat) (m q:Nat),Pm n p->1<=m->m+f<=n->q < m->Dn lt p m->Eqs lt p (m - (q+1)) m →
  (kas_desc f p m q).kasWp (askIn n lt) (λr _=>Pm n r.1/\1<=r.2.1/\r.2.1<=n/\r.2.2 < r.2.1/\Dn lt r.1 r.2.1/\Eqs lt r.1 (r.2.1 - (r.2.2+1)) r.2.1) s
 | 0,p,m,q,hp,h1,h2,h3,h4,h5=>by
  rw[kas_desc];exact⟨hp,h1,(by show m<=n;omega),h3,h4,h5⟩
 | f+1,p,m,q,hp,h1,h2,h3,h4,h5=>by
  rw[kas_desc]
  have one:∀(p':Array Nat),Pm n p'->Eqs lt p' (m+1 - (0+1)) (m+1):=λp' _ i j a b c d=>by
   have:i=m:=by omega
   have:j=m:=by omega
   subst i;subst j;exact O.irr _
  refine⟨hp.bd (by omega) m,hp.bd (by omega) (m - 1),?_⟩;cases h:lt (p.getD m 0) (p.getD (m - 1) 0) with
  | true =>
   dsimp only;rw[if_pos rfl];have st:lt (gt p (m - 1)) (gt p m)=false:=O.as _ _ h;split
   ·have sz:m<=p.size:=by rw[hp.size];omega
    refine ye f _ (m+1) 0 (hp.rev _ _) (by omega) (by omega) (by omega) (Dn.next O (h4.turn sz h5) h1 ?_) (one _ (hp.rev _ _));rw[vG sz,vG sz,if_pos ⟨by omega,by omega⟩,if_neg (by omega)];refine O.tr _ _ _ st ?_;exact h5 _ _ (by omega) (by omega) (by omega) (by omega)
   ·exact ye f _ (m+1) 0 hp (by omega) (by omega) (by omega) (Dn.next O h4 h1 st) (one _ hp)
  | false =>
   dsimp only;rw[if_neg h_];refine⟨hp.bd (by omega) (m - 1),hp.bd (by omega) m,?_⟩;cases h':lt (p.getD (m - 1) 0) (p.getD m 0) with
   | true =>
    dsimp only;rw[if_pos rfl];exact⟨hp,h1,(by show m<=n;omega),h3,h4,h5⟩
   | false =>
    dsimp only;rw[if_neg h_];refine ye f p (m+1) (q+1) hp (by omega) (by omega) (by omega) (Dn.next O h4 h1 h') λi j a b c d=>?_
    have up:∀i,m - (q+1)<=i->i < m->lt (gt p i) (gt p m)=false:=λi x y=>O.tr _ _ _ h' (h5 i (m - 1) x y (by omega) (by omega))
    have dn:∀i,m - (q+1)<=i->i < m->lt (gt p m) (gt p i)=false:=λi x y=>O.tr _ _ _ (h5 (m - 1) i (by omega) (by omega) x y) h
    by_cases zi:i=m
    ·by_cases zj:j=m
     ·rw[zi,zj];exact O.irr _
     ·rw[zi];exact dn j (by omega) (by omega)
    ·by_cases zj:j=m
     ·rw[zj];exact up i (by omega) (by omega)
     ·exact h5 i j (by omega) (by omega) (by omega) (by omega)
theorem wC{p:Array Nat}(hp:Pm n p)(h1:1<=m)(h2:m<=n)(h:Dn lt p m):(kas_tail3 m n p).kasWp (askIn n lt) (λr _=>1<=r.1/\r.1<=n/\Pm n r.2/\Up lt r.2 r.1) s:=by
 unfold kas_tail3;refine xF (B5 O two (hp.rev 0 m) (n - m) m h1) λm' ⟨a1,a2,a3,_⟩=>?_
 have up:=h.up (by rw[hp.size];exact h2);exact⟨by omega,by omega,hp.rev 0 m,Up.of_steps O up λk x y _=>a3 k x y⟩
theorem G5{p:Array Nat}(hp:Pm n p)(h1:1<=m)(h2:m < n)(h:Dn lt p (m+1)):(kas_descPart m n p).kasWp (askIn n lt) (λr _=>1<=r.1/\r.1<=n/\Pm n r.2/\Up lt r.2 r.1) s:=by
 unfold kas_descPart;refine xF (ye O two (n - (m+1)) p (m+1) 0 hp (by omega) (by omega) (by omega) h λi j a b c d=>?_) λr ⟨b1,b2,b3,b4,b5,b6⟩=>?_
 ·have:i=m:=by omega
  have:j=m:=by omega
  subst i;subst j;exact O.irr _
 ·split
  ·exact wC O two (b1.rev _ _) b2 b3 (b5.turn (by rw[b1.size];exact b3) b6)
  ·exact wC O two b1 b2 b3 b5
theorem HE{p:Array Nat}(hp:Pm n p):(kas_count n p).kasWp (askIn n lt) (λr _=>1<=r.1/\r.1<=n/\Pm n r.2/\Up lt r.2 r.1) s:=by
 unfold kas_count;refine xF (B5 O two hp (n - 1) 1 (r_ _)) λm ⟨a1,a2,a3,a4⟩=>?_
 have up1:Up lt p m:=Up.of_steps O (m:=1) (λi j x y=>by omega) λk x y z=>a3 k x y
 split
 ·exact⟨a1,by omega,hp,up1⟩
 ·rename_i ne;have ne:m≠n:=by simpa using ne
  have eR:=a4 (by omega);split
  ·refine⟨hp.bd (by omega) 0,hp.bd (by omega) (m - 1),?_⟩;cases h:lt (p.getD 0 0) (p.getD (m - 1) 0) with
   | true =>
    dsimp only;rw[if_pos rfl];exact⟨a1,by omega,hp,up1⟩
   | false =>
    dsimp only;rw[if_neg h_]
    have all:Eqs lt p 0 m:=λi j x1 x2 y1 y2=>by
     -- the first is not less than the eR,and they rise
     have l0:∀i,i < m->lt (gt p i) (gt p 0)=false:=λi x=>by
      by_cases z:i=0
      ·rw[z];exact O.irr _
      ·exact up1 0 i (by omega) x
     have lz:∀j,j < m->lt (gt p (m - 1)) (gt p j)=false:=λj x=>by
      by_cases z:j=m - 1
      ·rw[z];exact O.irr _
      ·exact up1 j (m - 1) (by omega) (by omega)
     -- i against j: i<=eR<=first<=j,whichever
     have f1:lt (gt p i) (gt p (m - 1))=false:=O.tr _ _ _ h (l0 i x2);exact O.tr _ _ _ (lz j y2) f1
    have sz:m<=p.size:=by rw[hp.size];omega
    have all2:Dn lt (YI p 0 m) m:=Dn.turn sz (λi j x y=>all i j (Tz _) (by omega) (Tz _) y) all;refine G5 O two (hp.rev _ _) a1 (by omega) (Dn.next O all2 a1 ?_);rw[vG sz,vG sz,if_pos ⟨Tz _,by omega⟩,if_neg (by omega)];refine O.tr _ _ _ (O.as _ _ eR) ?_;exact all _ _ (Tz _) (by omega) (Tz _) (by omega)
  ·have:m=1:=by omega
   subst this;exact G5 O two hp (r_ _) (by omega) (Dn.next O (λi j x y=>by omega) (r_ _) (O.as _ _ eR))
theorem AC{p:Array Nat}{k:Nat}(hp:Pm n p)(hk:k < n)(up:Up lt p k):∀(f l r:Nat),l<=r->r<=k->r - l<=f->(∀i,i < l->lt (gt p k) (gt p i)=false)->(∀i,r<=i->i < k->lt (gt p k) (gt p i)=true) →
  (kas_place p k f l r).kasWp (askIn n lt) (λl' _=>l'<=k/\(∀i,i < l'->lt (gt p k) (gt p i)=false)/\∀i,l'<=i->i < k->lt (gt p k) (gt p i)=true) s
 | 0,l,r,h1,h2,h3,h4,h5=>by
  rw[kas_place];exact⟨by omega,h4,λi x y=>h5 i (by omega) y⟩
 | f+1,l,r,h1,h2,h3,h4,h5=>by
  rw[kas_place];split
  ·exact⟨by omega,h4,λi x y=>h5 i (by omega) y⟩
  ·refine⟨hp.bd (by omega) k,hp.bd (by omega) _,?_⟩;cases h:lt (p.getD k 0) (p.getD ((l+r) / 2) 0) with
   | true =>
    dsimp only;rw[if_pos rfl];refine AC hp hk up f l ((l+r) / 2) (by omega) (by omega) (by omega) h4 λi x y=>?_
    by_cases z:i=(l+r) / 2
    ·rw[z];exact h
    ·exact O.lt_le h (up _ _ (by omega) y)
   | false =>
    dsimp only;rw[if_neg h_];refine AC hp hk up f ((l+r) / 2+1) r (by omega) (by omega) (by omega) (λi x=>?_) h5;by_cases z:i=(l+r) / 2
    ·rw[z];exact h
    ·exact O.tr _ _ _ (up i ((l+r) / 2) (by omega) (by omega)) h
theorem DE:∀(f:Nat) (p:Array Nat) (k:Nat),Pm n p->Up lt p k->1<=k->k+f=n->(kas_bin f p k).kasWp (askIn n lt) (λp' _=>Pm n p'/\Up lt p' n) s
 | 0,p,k,hp,up,h1,h2=>by
  rw[kas_bin];have:k=n:=by omega
  subst this;exact⟨hp,up⟩
 | f+1,p,k,hp,up,h1,h2=>by
  rw[kas_bin];refine xF (AC O two hp (by omega) up k 0 k (Tz _) (r_ _) (by omega) (λi h=>by omega) λi x y=>by omega) λl ⟨c1,c2,c3⟩=>?_
  refine DE f _ (k+1) (trans (bubble_perm _ _ _) hp) (λi j dX hj=>?_) (by omega) (by omega);have hk:k < p.size:=by rw[hp.size];omega
  rw[EI hk (by omega),EI hk (by omega),show k - (k - l)=l by omega];by_cases j1:j=l
  ·rw[if_pos j1,if_neg (by omega),if_neg (by omega)];exact c2 i (by omega)
  ·rw[if_neg j1];by_cases j2:l < j/\j<=k
   ·rw[if_pos j2];by_cases i1:i=l
    ·rw[if_pos i1];exact O.as _ _ (c3 (j - 1) (by omega) (by omega))
    ·rw[if_neg i1];by_cases i2:l < i/\i<=k
     ·rw[if_pos i2];exact up _ _ (by omega) (by omega)
     ·rw[if_neg i2];exact up _ _ (by omega) (by omega)
   ·rw[if_neg j2,if_neg (by omega),if_neg (by omega)];exact up _ _ dX (by omega)
theorem IC:(kas_sort n).kasWp (askIn n lt) (λp _=>Pm n p/\Up lt p n) s:=by
 unfold kas_sort;refine xF (HE O two (p:=(Ur n).toArray) (Array.Perm.refl _)) λr ⟨a1,a2,a3,a4⟩=>?_
 split
 ·refine DE O two _ _ _ a3 ?_ (by omega) (by omega);rw[Nat.max_eq_left a1];exact a4
 ·have:r.1=n:=by omega
  rw[this] at a4;exact⟨a3,a4⟩
end
end DL
namespace DL
open PySem PySem.W PySem.Spec PyProof.Rows
section
variable{prog:v_}{w:F_}{E:b_->c_->Prop}{s:c_}
noncomputable def byP(vs:List b_)(p:Array Nat):List b_:=p.toList.map λi=>vs.getD i b_.none
theorem HU(vs:List b_):byP vs (Ur vs.length).toArray=vs:=by
 unfold byP;refine List.ext_getElem (by simp) λi h1 h2=>?_
 simp[h2]
theorem PU{p:Array Nat}(h:Pm vs.length p):(byP vs p).length=vs.length:=by
 unfold byP;rw[y_,Tv,h.size]
def KeptBut(a:g_)(h h':G_):Prop:=∀b o,b≠a->h.get? b=some o->h'.get? b=some o
theorem KW{a:g_}{e:Nat}{κ:SortKind}{lt:Nat->Nat->Bool}{P:PySem.Fin->c_->Prop}(ho:s.heap.get? a=some (VJ "list" vs.toArray e))(iP:vs.length < 64)(O:Ord lt)(kind:∀h' Q,KeptBut a s.heap h'->2<=vs.length->Q κ { s with heap:=h' }->o_ (q_ prog w) A (keyKind' vs.toArray) Q E { s with heap:=h' })(less:∀h' i j C,KeptBut a s.heap h'->i < vs.length->j < vs.length->C (lt i j) { s with heap:=h' }->o_ (q_ prog w) A (keyLt' κ (vs.getD i b_.none) (vs.getD j b_.none)) C (λ_ _=>False) { s with heap:=h' })(fin:∀p h' c,Pm vs.length p->Up lt p vs.length->KeptBut a s.heap h'->h'.get? a=some (VJ "list" (byP vs p).toArray c)->P (.done (.ret .none)) { s with heap:=h' }):
  o_ (q_ prog w) A (Ul.«list.sort» ⟨[.ref a],[]⟩) P E s:=by
 have line:64<=z_:=by rw[TH];decide
 obtain⟨g1,kG⟩:∃g1,g1=s.heap.update a (Xc λ_=>(#[]:Array b_)):=⟨_,rfl⟩;obtain⟨e1,o1⟩:∃e1,g1.get? a=some (VJ "list" #[] e1):=⟨_,by rw[kG];exact get?_update_seq ho _⟩;have k1:KeptBut a s.heap g1:=λb o ne x=>by rw[kG];exact(N_ _ _ (Tt ne)).trans x
 obtain⟨g2,kH⟩:∃g2,g2=(g1.push (VJ "tuple" vs.toArray 0)).push (VJ "list" #[] 0):=⟨_,rfl⟩;have o2:g2.get? a=some (VJ "list" #[] e1):=by rw[kH];exact e_ _ (e_ _ o1)
 have k2:KeptBut a s.heap g2:=λb o ne x=>by rw[kH];exact e_ _ (e_ _ (k1 b o ne x))
 have jM:∀kI,(2<=vs.length->kI=κ)->o_ (q_ prog w) A ((if vs.toArray.size < 2 then pure () else sortRuns').run (SortSt.mk' kI (vs.toArray.zip vs.toArray) #[] 7 none))
   (λr s'=>s'={ s with heap:=g2 }/\∃p,Pm vs.length p/\Up lt p vs.length/\(arrOf r.2).map (·.2)=(byP vs p).toArray/\failedOf r.2=none) E { s with heap:=g2 }:=λkI pC=>by
  rcases Vt vs.length 2 with fy | cX
  ·rw[if_pos (by rw[p_];exact fy)];refine f_ ⟨rfl,(Ur vs.length).toArray,Array.Perm.refl _,λi j x y=>by omega,?_,rfl⟩;rw[HU];show((vs.toArray.zip vs.toArray).map (·.2))=_;refine Array.ext (by simp) λi h1 h2=>by simp
  ·rw[if_neg (by rw[p_];omega),pC cX];refine kat_run (ks:=vs) (vs:=vs) (G:=λp s'=>(Pm vs.length p/\Up lt p vs.length)/\s'={ s with heap:=g2 }) (Q:=λst s'=>s'={ s with heap:=g2 }/\∃p,Pm vs.length p/\Up lt p vs.length/\(arrOf st).map (·.2)=(byP vs p).toArray/\failedOf st=none) rfl cX iP ?_ ?_
   ·rintro p st s' hz kJ ba ⟨⟨hp,up⟩,rfl⟩;exact⟨rfl,p,hp,up,kat_snds rfl kJ,ba⟩
   ·exact xO (P:=λp=>Pm vs.length p/\Up lt p vs.length) (λi j C h1 h2 h3=>less g2 i j C k2 h1 h2 h3) (λp hp=>⟨hp,rfl⟩) _ (IC O cX)
 rw[list_sort_plain];refine a_ (listItems_at ho rfl (a_ (listUpdate_at ho rfl ?_ (by rw[p_];omega) (Tz _))));rw[←kG];refine a_ (seqEpoch_at o1 rfl (a_ (wpAny_newTuple (a_ (wpAny_newList (TZ ?_) (Tz _))) (by show vs.length<=_;omega))));show o_ (q_ prog w) A _ P E { s with heap:=(g1.push (VJ "tuple" vs.toArray 0)).push (VJ "list" #[] 0) };rw[←kH];dsimp only
 rcases Vt vs.length 2 with fy | cX
 all_goals
  first
   | (rw[if_pos (by rw[p_];exact fy)];refine a_ (f_ ?_);have step:=jM general' λh=>by omega)
   | (rw[if_neg (by rw[p_];omega)];refine a_ (kind g2 _ k2 cX ?_);have step:=jM κ λ_=>rfl)
  refine a_ (TJ step (λr s' h=>?_) λ_ _ x=>x);obtain⟨rfl,p,hp,up,kJ,ba⟩:=h;rw[kJ,ba];refine a_ (seqEpoch_at o2 rfl (a_ (listUpdate_at o2 rfl ?_ (Tz _) ?_)))
  ·dsimp only;rw[bne_self_eq_false,if_neg h_];exact f_ (fin p _ _ hp up (λb o ne x=>(N_ _ _ (Tt ne)).trans (k2 b o ne x)) (get?_update_seq o2 λ_=>(byP vs p).toArray))
  ·show(byP vs p).toArray.size<=_;rw[p_,PU hp];omega
theorem Ac{κ:SortKind}{lt:Nat->Nat->Bool}{Q:b_->c_->Prop}(iP:vs.length < 64)(O:Ord lt)(col:∀Q':List b_->c_->Prop,(∀h' tk,(∀b o,s.heap.get? b=some o->h'.get? b=some o)->s.heap.objs.size<=h'.objs.size->Q' vs { s with heap:=h',toks:=tk })->o_ (q_ prog w) A.in1 (ZD (.ref l)) Q' E s)(kind:∀h' tk Q,(∀b o,s.heap.get? b=some o->h'.get? b=some o)->2<=vs.length->Q κ { s with heap:=h',toks:=tk }->o_ (q_ prog w) A.in1.in1 (keyKind' vs.toArray) Q (λ_ _=>False) { s with heap:=h',toks:=tk })(less:∀h' tk i j C,(∀b o,s.heap.get? b=some o->h'.get? b=some o)->i < vs.length->j < vs.length->C (lt i j) { s with heap:=h',toks:=tk }->o_ (q_ prog w) A.in1.in1 (keyLt' κ (vs.getD i b_.none) (vs.getD j b_.none)) C (λ_ _=>False) { s with heap:=h',toks:=tk })(fin:∀p h' tk D c,Pm vs.length p->Up lt p vs.length->(∀b o,s.heap.get? b=some o->h'.get? b=some o)->s.heap.objs.size<=D->h'.get? D=some (VJ "list" (byP vs p).toArray c)->Q (.ref D) { s with heap:=h',toks:=tk }):
  o_ (q_ prog w) A (call (.builtin "sorted") [b_.ref l]) Q E s:=by
 have line:64<=z_:=by rw[TH];decide
 refine Calls.call_function_entry kind_sorted plain_sorted entry_sorted (args_sorted1 _) ?_;refine a_ (m:=checkCount "sorted" 1 1 _) (f_ (a_ (col _ λg tk kg above=>a_ (wpAny_newList ?_ (by omega)))));have bg:(g.push (VJ "list" vs.toArray 0)).get? g.objs.size=some (VJ "list" vs.toArray 0):=s_ _ rfl
 have old:∀(h':G_),KeptBut g.objs.size (g.push (VJ "list" vs.toArray 0)) h'->∀b o,s.heap.get? b=some o->h'.get? b=some o:=λh' k b o x =>
  k b o (Q_ (E_ (B_ x) above)) (e_ _ (kg b o x))
 refine a_ (TZ (TN PyProof.Rows.slot_list_sort ⟨_,bg,rfl⟩ PyProof.Rows.entry_list_sort ?_ (args_list_sort _)));refine KW (s:={ s with heap:=g.push (VJ "list" vs.toArray 0),toks:=tk }) (lt:=lt) (κ:=κ) bg iP O (λh' Q' k two q=>TJ (kind h' tk Q' (old h' k) two q) (λ_ _ x=>x) λ_ _ x=>x.elim) (λh' i j C k=>less h' tk i j C (old h' k)) λp h' c hp up k here=>?_
 exact⟨_,rfl,f_ ⟨_,rfl,fin p h' tk _ c hp up (old h' k) above here⟩⟩
end
end DL
namespace DL
open PySem PySem.W PySem.Spec PyProof.Rows L2
noncomputable def rk:D->Nat
 | .non=>0
 | .bl _=>1
 | .int _=>2
 | .str _=>3
 | .tup _=>4
 | .lst _=>5
 | .exc _ _=>6
noncomputable def cI(a b:Int):Ordering:=if a < b then .lt else if b < a then .gt else .eq
mutual
noncomputable def cO:D->D->Ordering
 | .int a,.int b=>cI a b
 | .tup xs,.tup ys=>cOA xs ys
 | a,b=>cI (rk a) (rk b)
noncomputable def cOA:List D->List D->Ordering
 | [],[]=>.eq
 | [],_::_=>.lt
 | _::_,[]=>.gt
 | x::xs,y::ys=>(cO x y).then (cOA xs ys)
end
theorem vS(a b:Int):cI b a=(cI a b).swap:=by
 unfold cI;by_cases h1:a < b
 ·rw[if_pos h1,if_neg (by omega),if_pos h1];rfl
 ·by_cases h2:b < a
  ·rw[if_pos h2,if_neg h1,if_pos h2];rfl
  ·rw[if_neg h2,if_neg h1,if_neg h1,if_neg h2];rfl
theorem GB{a b:D}(h:rk a≠rk b):cO a b=cI (rk a) (rk b):=by
 cases a<;>cases b<;>first | rfl | (exact absurd rfl h) | (simp[cO];done)
mutual
theorem z8:∀a b:D,cO b a=(cO a b).swap
 | .int a,b=>by
  cases b<;>simp only[cO]<;>exact vS _ _
 | .tup xs,b=>by
  cases b<;>simp only[cO]<;>first | exact vS _ _ | exact Fw _ _
 | .non,b=>by cases b<;>simp only[cO]<;>exact vS _ _
 | .bl _,b=>by cases b<;>simp only[cO]<;>exact vS _ _
 | .str _,b=>by cases b<;>simp only[cO]<;>exact vS _ _
 | .lst _,b=>by cases b<;>simp only[cO]<;>exact vS _ _
 | .exc _ _,b=>by cases b<;>simp only[cO]<;>exact vS _ _
theorem Fw:∀xs ys:List D,cOA ys xs=(cOA xs ys).swap
 | [],[]=>by simp[cOA]
 | [],_::_=>by simp[cOA]
 | _::_,[]=>by simp[cOA]
 | x::xs,y::ys=>by
  rw[cOA,cOA,z8 x y,Fw xs ys];cases cO x y<;>rfl
end
noncomputable def dl(a b:D):Bool:=cO a b == .lt
noncomputable def dlA(xs ys:List D):Bool:=cOA xs ys == .lt
theorem BG(a b:Int):(cI a b == Ordering.lt)=decide (a < b):=by
 unfold cI;by_cases h1:a < b
 ·rw[if_pos h1];simp[h1]
 ·rw[if_neg h1];split<;>simp[h1]
theorem vA{a b:Int}:dl (.int a) (.int b)=decide (a < b):=by
 unfold dl;rw[cO,BG]
theorem wQ{xs:List D}:dl (.tup xs) (.tup ys)=dlA xs ys:=by
 unfold dl dlA;rw[cO]
theorem yU:dlA [] []=false:=by unfold dlA;simp[cOA]
theorem wu{y:D}:dlA [] (y::ys)=true:=by unfold dlA;simp[cOA]
theorem wO{y:D}:dlA (y::ys) []=false:=by unfold dlA;simp[cOA]
theorem xu{x y:D}{xs:List D}:dlA (x::xs) (y::ys)=(dl x y||(!dl y x&&dlA xs ys)):=by
 unfold dlA dl;rw[cOA,z8 x y];cases cO x y<;>simp[Ordering.then,Ordering.swap]
theorem EB{a b:D}(h:rk a < rk b):dl a b=true:=by
 unfold dl;rw[GB (Q_ h),BG];simp;omega
theorem Mi{a b:D}(h:rk b < rk a):dl a b=false:=by
 unfold dl;rw[GB (Wg h),BG];simp;omega
theorem xy{a b:D}(h:rk a=rk b)(h1:rk a≠2)(h2:rk a≠4):dl a b=false:=by
 unfold dl;cases a<;>cases b<;>first | (simp[rk] at h;done) | (exact absurd rfl h1) | (exact absurd rfl h2) | (simp[cO,cI,rk];done)
theorem rkI{d:D}(h:rk d=2):∃i,d=.int i:=by cases d<;>simp[rk] at h ⊢
theorem rkT{d:D}(h:rk d=4):∃i,d=.tup i:=by cases d<;>simp[rk] at h ⊢
mutual
theorem wY:∀a b c:D,dl b a=false->dl c b=false->dl c a=false:=λa b c h1 h2=>by
 have r1:rk a<=rk b:=WX λh=>by rw[EB h] at h1;cases h1
 have r2:rk b<=rk c:=WX λh=>by rw[EB h] at h2;cases h2
 rcases Vt (rk a) (rk c) with h | h
 ·exact Mi h
 ·have e1:rk b=rk a:=by omega
  have e2:rk c=rk a:=by omega
  by_cases k2:rk a=2
  ·obtain⟨i,ea⟩:=rkI k2;obtain⟨j,eb⟩:=rkI (e1.trans k2);obtain⟨k,ec⟩:=rkI (e2.trans k2);rw[ea,eb,vA] at h1;rw[eb,ec,vA] at h2;rw[ea,ec,vA];simp at h1 h2 ⊢;omega
  ·by_cases k4:rk a=4
   ·obtain⟨xs,ea⟩:=rkT k4;obtain⟨ys,eb⟩:=rkT (e1.trans k4);obtain⟨zs,ec⟩:=rkT (e2.trans k4);rw[ea,eb,wQ] at h1;rw[eb,ec,wQ] at h2;rw[ea,ec,wQ];exact GG xs ys zs h1 h2
   ·exact xy e2 (by rw[e2];exact k2) (by rw[e2];exact k4)
termination_by a b c=>sizeOf a+sizeOf b+sizeOf c
decreasing_by all_goals (simp_wf;first | omega | (rw[ea,eb,ec];simp only[D.tup.sizeOf_spec];omega))
theorem GG:∀xs ys zs:List D,dlA ys xs=false->dlA zs ys=false->dlA zs xs=false
 | [],_,[],_,_=>yU
 | [],_,z::zs,_,_=>wO
 | x::xs,[],_,h1,_=>by rw[wu] at h1;cases h1
 | x::xs,y::ys,[],_,h2=>by rw[wu] at h2;cases h2
 | x::xs,y::ys,z::zs,h1,h2=>by
  simp only[xu,XT,VD,Bool.not_eq_false'] at h1 h2 ⊢;obtain⟨a1,a2⟩:=h1;obtain⟨b1,b2⟩:=h2;refine⟨wY x y z a1 b1,?_⟩;cases hx:dl x z with
  | true=>exact .inl rfl
  | false =>
   right
   rcases a2 with a2 | a2
   ·have:=wY y z x b1 hx;rw[a2] at this;cases this
   ·rcases b2 with b2 | b2
    ·have:=wY z x y hx a1;rw[b2] at this;cases this
    ·exact GG xs ys zs a2 b2
termination_by xs ys zs=>sizeOf xs+sizeOf ys+sizeOf zs
decreasing_by all_goals (simp_wf;omega)
end
theorem EH(a b:D)(h:dl a b=true):dl b a=false:=by
 unfold dl at h ⊢;rw[z8 a b];cases e:cO a b<;>rw[e] at h<;>first | rfl | (cases h;done)
theorem Cs(ds:List D):Ord λi j=>dl (ds.getD i .non) (ds.getD j .non):=⟨λa b h=>EH _ _ h,λa b c h1 h2=>wY _ _ _ h1 h2⟩
mutual
noncomputable def cmB:D->D->Bool
 | .int _,.int _=>true
 | .tup xs,.tup ys=>cmA xs ys
 | _,_=>false
noncomputable def cmA:List D->List D->Bool
 | x::xs,y::ys=>cmB x y&&cmA xs ys
 | _,_=>true
end
mutual
theorem xA:∀a b:D,cmB a b=true->deq a b=(!dl a b&&!dl b a)
 | .int a,.int b,_=>by
  rw[vA,vA];by_cases h:a=b
  ·simp[deq,h]
  ·rcases Int.lt_or_gt_of_ne h with h' | h'
   ·simp[deq,h,h']
   ·simp[deq,h,h']
 | .tup xs,.tup ys,h=>by
  rw[cmB] at h;rw[deq,wQ,wQ];exact Hn xs ys h
 | .non,_,h=>by simp[cmB] at h
 | .bl _,_,h=>by simp[cmB] at h
 | .str _,_,h=>by simp[cmB] at h
 | .lst _,_,h=>by simp[cmB] at h
 | .exc _ _,_,h=>by simp[cmB] at h
 | .int _,.exc _ _,h=>by simp[cmB] at h
 | .tup _,.exc _ _,h=>by simp[cmB] at h
 | .int _,.non,h=>by simp[cmB] at h
 | .int _,.bl _,h=>by simp[cmB] at h
 | .int _,.str _,h=>by simp[cmB] at h
 | .int _,.tup _,h=>by simp[cmB] at h
 | .int _,.lst _,h=>by simp[cmB] at h
 | .tup _,.non,h=>by simp[cmB] at h
 | .tup _,.bl _,h=>by simp[cmB] at h
 | .tup _,.str _,h=>by simp[cmB] at h
 | .tup _,.int _,h=>by simp[cmB] at h
 | .tup _,.lst _,h=>by simp[cmB] at h
theorem Hn:∀xs ys:List D,cmA xs ys=true->deqA xs ys=(!dlA xs ys&&!dlA ys xs)
 | [],[],_=>by simp[deqA,yU]
 | [],_::_,_=>by simp[deqA,wu,wO]
 | _::_,[],_=>by simp[deqA,wu,wO]
 | x::xs,y::ys,h=>by
  rw[cmA,u_] at h;rw[deqA,xA x y h.1,Hn xs ys h.2,xu,xu];cases h1:dl x y<;>cases h2:dl y x<;>simp
end
mutual
theorem zg:∀a b:D,cmB a b=true->deq a b=true->a=b
 | .int a,.int b,_,h=>by simp[deq] at h;rw[h]
 | .tup xs,.tup ys,c,h=>by
  rw[cmB] at c;rw[deq] at h;rw[F9 xs ys c h]
 | .non,_,h,_=>by simp[cmB] at h
 | .bl _,_,h,_=>by simp[cmB] at h
 | .str _,_,h,_=>by simp[cmB] at h
 | .lst _,_,h,_=>by simp[cmB] at h
 | .exc _ _,_,h,_=>by simp[cmB] at h
 | .int _,.exc _ _,h,_=>by simp[cmB] at h
 | .tup _,.exc _ _,h,_=>by simp[cmB] at h
 | .int _,.non,h,_=>by simp[cmB] at h
 | .int _,.bl _,h,_=>by simp[cmB] at h
 | .int _,.str _,h,_=>by simp[cmB] at h
 | .int _,.tup _,h,_=>by simp[cmB] at h
 | .int _,.lst _,h,_=>by simp[cmB] at h
 | .tup _,.non,h,_=>by simp[cmB] at h
 | .tup _,.bl _,h,_=>by simp[cmB] at h
 | .tup _,.str _,h,_=>by simp[cmB] at h
 | .tup _,.int _,h,_=>by simp[cmB] at h
 | .tup _,.lst _,h,_=>by simp[cmB] at h
theorem F9:∀xs ys:List D,cmA xs ys=true->deqA xs ys=true->xs=ys
 | [],[],_,_=>rfl
 | [],_::_,_,h=>by simp[deqA] at h
 | _::_,[],_,h=>by simp[deqA] at h
 | x::xs,y::ys,c,h=>by
  rw[cmA,u_] at c;rw[deqA,u_] at h;rw[zg x y c.1 h.1,F9 xs ys c.2 h.2]
end
open PySem.SeqAt in
theorem Fx(e lt:Nat->Bool)(d:Bool)(f:Nat->Nat):∀l:List Nat,ltFrom e lt d (l.map f)=ltFrom (λi=>e (f i)) (λi=>lt (f i)) d l
 | []=>rfl
 | i::l=>by rw[O_,ltFrom,ltFrom,Fx e lt d f l]
open PySem.SeqAt in
theorem ET:∀xs ys:List D,cmA xs ys=true->ltFrom (λj=>deq (xs.getD j .non) (ys.getD j .non)) (λj=>dl (xs.getD j .non) (ys.getD j .non)) (decide (xs.length < ys.length)) (Ur (min xs.length ys.length))=dlA xs ys
 | [],[],_=>by simp[ltFrom,yU]
 | [],_::_,_=>by simp[ltFrom,wu]
 | _::_,[],_=>by simp[ltFrom,wO]
 | x::xs,y::ys,c=>by
  rw[cmA,u_] at c;have ih:=ET xs ys c.2;rw[S_,S_,Nat.succ_min_succ,UN,ltFrom,Fx,xu]
  have e:ltFrom (λi=>deq ((x::xs).getD i.succ .non) ((y::ys).getD i.succ .non)) (λi=>dl ((x::xs).getD i.succ .non) ((y::ys).getD i.succ .non)) (decide (xs.length+1 < ys.length+1)) (Ur (min xs.length ys.length))=dlA xs ys:=by
   rw[←ih]
   congr 1
   simp
  rw[e];show(if deq x y=true then dlA xs ys else dl x y)=_;rw[xA x y c.1];cases h1:dl x y<;>cases h2:dl y x<;>simp
theorem FD:∀(xs ys:List D),cmA xs ys=true->∀j,j < xs.length->j < ys.length->cmB (xs.getD j .non) (ys.getD j .non)=true
 | [],_,_,j,h,_=>by simp at h
 | _::_,[],_,j,_,h=>by simp at h
 | x::xs,y::ys,c,j,h1,h2=>by
  rw[cmA,u_] at c;cases j with
  | zero=>exact c.1
  | succ j=>exact FD xs ys c.2 j (by simpa using h1) (by simpa using h2)
section
variable{H:Hp}{s:c_}
open PySem.SeqAt in
theorem M4(I:Inv X aa U H s):∀(n:Nat) (A:Uh),A.units+n < UI->n < 900->∀(a b:D) (x y:V) (u v:b_),(dep a<=n/\dep b<=n)->cmB a b=true->Is X.K H a x->Is X.K H b y->RelV x u->RelV y v->RcLtAt A s u v (dl a b):=by
 intro n
 induction n with
 | zero =>
  intro A hu hn a b x y u v hd c ha hb ru rv;cases a<;>cases b<;>simp[cmB] at c
  ·rename_i i j;rw[tJ ha] at ru;rw[tJ hb] at rv;obtain⟨t1,rfl⟩:=ru;obtain⟨t2,rfl⟩:=rv;rw[vA];exact RcLtAt.int_int _ _ _ _
  ·rw[dep] at hd;omega
 | succ n ih =>
  intro A hu hn a b x y u v hd c ha hb ru rv;cases a<;>cases b<;>simp[cmB] at c
  ·rename_i i j;rw[tJ ha] at ru;rw[tJ hb] at rv;obtain⟨t1,rfl⟩:=ru;obtain⟨t2,rfl⟩:=rv;rw[vA];exact RcLtAt.int_int _ _ _ _
  ·rename_i ds es;have ft:A.in1.units+n < UI:=by show A.units+1+n < UI;omega
   obtain⟨p,xs,rfl,h1,h2⟩:=tR ha;obtain⟨q,ys,rfl,h3,h4⟩:=tR hb;cases ru;cases rv;obtain⟨ag,r1,t1,_⟩:=I.tuple h1;obtain⟨bI,r2,t2,_⟩:=I.tuple h3;have l1:ag.toArray.size=ds.length:=by rw[p_,←r1.length,h2.length]
   have l2:bI.toArray.size=es.length:=by rw[p_,←r2.length,h4.length]
   have two:∀j (g1:j < ag.toArray.size) (g2:j < bI.toArray.size),ZK A.in1 s ag.toArray[j] bI.toArray[j] (deq (ds.getD j .non) (es.getD j .non))/\(deq (ds.getD j .non) (es.getD j .non)=false->RcLtAt A.in1 s ag.toArray[j] bI.toArray[j] (dl (ds.getD j .non) (es.getD j .non))):=λj g1 g2=>by
    obtain⟨v1,q1,q2⟩:=h2.getU r1 g1;obtain⟨v2,q3,q4⟩:=h4.getU r2 g2
    have m1:ds.getD j .non∈ds:=by
     rw[t_,n_ (by omega)];exact Ua _
    have m2:es.getD j .non∈es:=by
     rw[t_,n_ (by omega)];exact Ua _
    have k1:=uk m1;have k2:=uk m2;rw[dep,dep] at hd;exact⟨(wv I n A.in1 ft (by omega) _ _ _ _ _ _ (by omega) q2 q4 q1 q3).2.1,λ_=>ih A.in1 ft (by omega) _ _ _ _ _ _ (by omega) (FD ds es c j (by omega) (by omega)) q2 q4 q1 q3⟩
   have R1:=RcLtAt.tuples (A:=A) t1 t2 (by omega) two;rw[l1,l2,ET ds es c] at R1;rw[wQ];exact R1
end
end DL
namespace DL
open PySem PySem.W PySem.Spec PyProof.Rows L2
noncomputable def leD(a b:D):Bool:=!dl b a
noncomputable def sortD(ds:List D):List D:=ds.mergeSort leD
theorem Jp(a b c:D)(h1:leD a b=true)(h2:leD b c=true):leD a c=true:=by
 unfold leD at *;simp only[Vu] at *;exact wY a b c h1 h2
theorem QJ(a b:D):(leD a b||leD b a)=true:=by
 unfold leD;cases h:dl b a with
 | false=>rfl
 | true=>rw[EH b a h];rfl
theorem vJ(ds:List D):(sortD ds).Perm ds:=Wq ds leD
theorem zD(ds:List D):(sortD ds).Pairwise λa b=>leD a b=true:=List.pairwise_mergeSort Jp QJ ds
theorem zO:∀(l m:List D),l.Perm m->(l.Pairwise λa b=>leD a b=true)->(m.Pairwise λa b=>leD a b=true)->(∀a∈l,∀b∈l,leD a b=true->leD b a=true->a=b)->l=m
 | [],m,p,_,_,_=>by rw[List.nil_perm.mp p]
 | a::l,[],p,_,_,_=>by have:=p.length_eq;simp at this
 | a::l,b::m,p,h1,h2,an=>by
  have e:a=b:=by
   have ia:a∈b::m:=p.mem_iff.mp m_;have ib:b∈a::l:=p.mem_iff.mpr m_
   rcases w_.mp ia with h | h
   ·exact h
   ·rcases w_.mp ib with h' | h'
    ·exact h'.symm
    ·exact an a m_ b ib ((VO.mp h1).1 b h') ((VO.mp h2).1 a h)
  subst e;rw[zO l m ((List.perm_cons a).mp p) (VO.mp h1).2 (VO.mp h2).2 λx hx y hy=>an x (i_ _ hx) y (i_ _ hy)]
noncomputable def permD(p:Array Nat)(ds:List D):List D:=p.toList.map λi=>ds.getD i .non
noncomputable def permV(p:Array Nat)(zs:List V):List V:=p.toList.map λi=>zs.getD i .non
noncomputable def cmAll(ds:List D):Bool:=ds.all λa=>ds.all λb=>cmB a b
theorem K0{p:Array Nat}(hp:Pm ds.length p)(up:Up (λi j=>dl (ds.getD i .non) (ds.getD j .non)) p ds.length)(cm:cmAll ds=true):permD p ds=sortD ds:=by
 have pm:(permD p ds).Perm ds:=by
  have h1:p.toList.Perm (Ur ds.length):=by
   have:=U2.mp hp;simpa using this
  have h2:=h1.map λi=>ds.getD i .non
  have h3:((Ur ds.length).map λi=>ds.getD i .non)=ds:=by
   refine List.ext_getElem (by simp) λi h1 h2=>?_
   simp[h2]
  rw[h3] at h2;exact h2
 have fz:∀a∈permD p ds,∀b∈permD p ds,cmB a b=true:=λa ha b hb=>by
  have:=j_.mp cm a (pm.mem_iff.mp ha);exact j_.mp this b (pm.mem_iff.mp hb)
 refine zO _ _ (pm.trans (vJ ds).symm) ?_ (zD ds) λa ha b hb h1 h2=>?_
 ·rw[WA];intro i j hi hj dX;unfold permD at hi hj ⊢;rw[y_,Tv,hp.size] at hi hj;have:=up i j dX hj;simp only[WF,XU];unfold gt at this;rw[ZL,dif_pos (by rw[hp.size];exact hj),ZL,dif_pos (by rw[hp.size];exact hi)] at this;unfold leD;rw[Vu];exact this
 ·have c:=fz a ha b hb;refine zg a b c ?_;rw[xA a b c];unfold leD at h1 h2;rw[h1,h2];rfl
section
variable{H:Hp}{s:c_}
noncomputable def fstI:D->Bool
 | .tup (.int _::_)=>true
 | _=>false
noncomputable def fstT:D->Bool
 | .tup (.tup _::_)=>true
 | _=>false
noncomputable def isInt:D->Bool
 | .int _=>true
 | _=>false
theorem FC(I:Inv X aa U H s){prog:v_}{w:F_}{n:Nat}{b fin:Bool}{Q:Bool->c_->Prop}(hu:A.units+n < UI)(hn:n < 900):∀(ds es:List D) (xs ys:List V) (us vs:List b_) (i:Nat),IsA X.K H ds xs->IsA X.K H es ys->Vals xs us->Vals ys vs →
  (depA ds<=n/\depA es<=n)->cmA ds es=true->fin=decide (ds.length < es.length)->(b=true->i=0->∀d e r r',ds=d::r->es=e::r'->isInt d=true/\isInt e=true)->Q (dlA ds es) s->KatLex prog w A b fin Q (us.zip vs) i s
 | [],es,xs,ys,us,vs,i,h1,h2,h3,h4,hd,c,hf,fl,q=>by
  have:=h1.nil_inv;subst this;cases h3;rw[List.zip_nil_left];refine kat_nil ?_;rw[hf];cases es with
  | nil=>rw[yU] at q;exact q
  | cons e es=>rw[wu] at q;simpa using q
 | d::ds,[],xs,ys,us,vs,i,h1,h2,h3,h4,hd,c,hf,fl,q=>by
  have:=h2.nil_inv;subst this;cases h4;rw[List.zip_nil_right];refine kat_nil ?_;rw[hf];rw[wO] at q;simpa using q
 | d::ds,e::es,xs,ys,us,vs,i,h1,h2,h3,h4,hd,c,hf,fl,q=>by
  obtain⟨x,xr,rfl,a1,a2⟩:=h1.cons_inv;obtain⟨y,yr,rfl,b1,b2⟩:=h2.cons_inv;cases h3 with
  | cons r1 r2 =>
   cases h4 with
   | cons s1 s2 =>
    rename_i u pD v kK;rw[depA,depA] at hd;rw[cmA,u_] at c;rw[xu] at q;have eq:=(wv I n A hu hn d e x y u v (by omega) a1 b1 r1 s1).2.1;have lt:=M4 I n A hu hn d e x y u v (by omega) c.1 a1 b1 r1 s1;have ed:=xA d e c.1;rw[Yt];refine kat_cons (eq prog w _ _ (kat_go (λh=>kat_yes ?_) λh=>kat_no ?_))
    ·refine FC I hu hn ds es xr yr pD kK (i+1) a2 b2 r2 s2 (by omega) c.2 (by rw[hf];simp) (λ_ z=>by omega) ?_;rw[h] at ed;have ed:=ed.symm;simp only[u_,Vu] at ed;rw[ed.1,ed.2] at q;simpa using q
    ·have q':Q (dl d e) s:=by
      rw[h] at ed;cases h1:dl d e with
      | true=>rw[h1] at q;simpa using q
      | false =>
       rw[h1] at ed q;cases h2:dl e d with
       | true=>rw[h2] at q;simpa using q
       | false=>rw[h2] at ed;cases ed
     by_cases z:b=true/\i=0
     ·obtain⟨zb,zi⟩:=z;obtain⟨f1,f2⟩:=fl zb zi d e ds es rfl rfl;subst zb;subst zi;cases d<;>simp[isInt] at f1
      cases e<;>simp[isInt] at f2
      rw[tJ a1] at r1;rw[tJ b1] at s1;obtain⟨t1,rfl⟩:=r1;obtain⟨t2,rfl⟩:=s1;show o_ _ _ (oneLt' true _ _) _ _ _;rw[←keyLt'_oneType];rw[vA] at q';exact kat_lt_int q'
     ·have:(b&&i == 0)=false:=by
       cases b
       ·rfl
       ·simp at z ⊢;exact z
      rw[this];exact kat_one _ _ (lt prog w _ _ q')
theorem at_k(h:IsA X.K H ds zs)(r:Vals zs vs)(hk:k < vs.length):∃x,Is X.K H (ds.getD k .non) x/\RelV x (vs.getD k .none)/\ds.getD k .non∈ds/\zs[k]?=some x:=by
 have l1:=h.length;have l2:=r.length;have iQ:k < ds.length:=by omega
 obtain⟨x,e1,e2⟩:=h.get (n_ iQ);obtain⟨u,e3,e4⟩:=r.get e1;refine⟨x,?_,?_,?_,e1⟩
 ·rw[t_,n_ iQ];exact e2
 ·rw[t_,e3];exact e4
 ·rw[t_,n_ iQ];exact Ua _
theorem AL(I:Inv X aa U H s)(prog:v_)(w:F_)(P:D->Bool)(T:b_)(hP:∀d,P d=true->∃f r,d=.tup (f::r)/\∀x u,Is X.K H f x->RelV x u->WG (q_ prog w) s.heap (YX u) T):
  ∀(ds:List D) (zs:List V) (vs:List b_),IsA X.K H ds zs->Vals zs vs->ds.all P=true->∃fs,KatTups s.heap vs fs/\fs.length=vs.length/\∀v∈fs,WG (q_ prog w) s.heap (YX v) T
 | [],zs,vs,h,r,_=>by
  have:=h.nil_inv;subst this;cases r;exact⟨[],KatTups.nil,rfl,λv hv=>nomatch hv⟩
 | d::ds,zs,vs,h,r,ok=>by
  obtain⟨x,zr,rfl,h1,h2⟩:=h.cons_inv;rw[Vp,u_] at ok;cases r with
  | cons r1 r2 =>
   obtain⟨fs,k1,k2,k3⟩:=AL I prog w P T hP ds zr _ h2 r2 ok.2;obtain⟨f,aF,rfl,look⟩:=hP d ok.1;obtain⟨a,ys,rfl,g1,g2⟩:=tR h1;cases r1;obtain⟨ag,q1,q2,_⟩:=I.tuple g1;obtain⟨y,yr,rfl,g3,g4⟩:=g2.cons_inv;cases q1 with
   | cons q3 q4 =>
    obtain⟨o,e1,e2,n,e3⟩:=q2;refine⟨_::fs,KatTups.cons e1 e2 e3 rfl k1,by simp[k2],λv hv=>?_⟩
    rcases w_.mp hv with rfl | hv
    ·exact look y _ g3 q3
    ·exact k3 v hv
def SortOk(ds:List D):Prop:=ds.length < 64/\cmAll ds=true/\depA ds<=50/\(ds.all isInt=true\/ds.all fstI=true\/ds.all fstT=true)
theorem Ad(hu:X.A.units+100 < UI){Q:VK}(I:Inv X aa U H s)(ha:IsA X.K H ds zs)(rv:Vals zs ag)(ok:SortOk ds)(col:∀Q':List b_->c_->Prop,(∀h' tk,(∀b o,s.heap.get? b=some o->h'.get? b=some o)->s.heap.objs.size<=h'.objs.size->Q' ag { s with heap:=h',toks:=tk })->o_ (q_ X.prog X.w) X.A.in1 (ZD (.ref l)) Q' X.xe s)(k:∀l q,Pm ds.length q->permD q ds=sortD ds->H l=none->Q (.ref l) (upd H l (.lst (permV q zs)))):o_ (q_ X.prog X.w) X.A (call (.builtin "sorted") [.ref l]) (EP X aa U Q) X.xe s:=by
 obtain⟨iP,cm,dp,kd⟩:=ok;have l1:=ha.length;have l2:=rv.length;have n1:ag.length=ds.length:=by omega
 have mV:∀i j,i < ag.length->j < ag.length->cmB (ds.getD i .non) (ds.getD j .non)=true:=λi j hi hj=>by
  obtain⟨_,_,_,mi,_⟩:=at_k ha rv hi;obtain⟨_,_,_,mj,_⟩:=at_k ha rv hj;exact j_.mp (j_.mp cm _ mi) _ mj
 have bA:∀q h' tk D c,Pm ag.length q->Up (λi j=>dl (ds.getD i .non) (ds.getD j .non)) q ag.length->(∀b o,s.heap.get? b=some o->h'.get? b=some o)->s.heap.objs.size<=D->h'.get? D=some (VJ "list" (byP ag q).toArray c)->EP X aa U Q (.ref D) { s with heap:=h',toks:=tk }:=λq h' tk D c hp up keep above here=>by
  rw[n1] at hp up
  have hv:Vals (permV q zs) (byP ag q):=by
   refine At (by simp[permV,byP]) λi x u e1 e2=>?_
   obtain⟨j,f1,rfl⟩:=getMap e1;obtain⟨j',f2,rfl⟩:=getMap e2;rw[f1] at f2;cases f2
   have hj:j < ds.length:=by
    have h1:j∈q.toList:=TC f1;have h2:=(U2.mp hp).mem_iff.mp h1;simpa using h2
   obtain⟨x,_,e4,_,e5⟩:=at_k ha rv (k:=j) (by omega);rw[t_,e5];exact e4
  refine⟨.ref D,_,I.laid (t':=tk) keep above (o:=.lst (permV q zs)) ⟨?_,byP ag q,c,hv,here⟩,rfl,k D q hp (K0 hp up cm) (I.hok.fresh above)⟩;show(permV q zs).length<=z_;rw[permV,y_,Tv,hp.size,TH];omega
 have hG:∀(b:Bool) (P:D->Bool),(∀d,P d=true->∃f r,d=.tup (f::r)/\(b=true->isInt f=true))->ds.all P=true->∀h' tk i j C,(∀b o,s.heap.get? b=some o->h'.get? b=some o)->i < ag.length->j < ag.length->C (dl (ds.getD i .non) (ds.getD j .non)) { s with heap:=h',toks:=tk } →
   o_ (q_ X.prog X.w) X.A.in1.in1 (keyLt' (tuples' b) (ag.getD i b_.none) (ag.getD j b_.none)) C (λ_ _=>False) { s with heap:=h',toks:=tk }:=λb P hP all h' tk i j C keep hi hj hc=>by
  have I':Inv X aa U H { s with heap:=h',toks:=tk }:=I.kept (t':=tk) keep;obtain⟨x,a1,a2,a3,_⟩:=at_k ha rv hi;obtain⟨y,b1,b2,b3,_⟩:=at_k ha rv hj;have cc:=mV i j hi hj;have dq:=uk a3;have mW:=uk b3;obtain⟨f1,r1,e1,g1⟩:=hP _ (j_.mp all _ a3);obtain⟨f2,r2,e2,g2⟩:=hP _ (j_.mp all _ b3);rw[e1] at a1 cc hc dq;rw[e2] at b1 cc hc mW;obtain⟨pa,xs,rfl,x1,x2⟩:=tR a1;obtain⟨pb,ys,rfl,y1,y2⟩:=tR b1;generalize ag.getD i b_.none=ui at a2;generalize ag.getD j b_.none=uj at b2;cases a2;cases b2;obtain⟨us,q1,q2,_⟩:=I'.tuple x1;obtain⟨vs,q3,q4,_⟩:=I'.tuple y1;obtain⟨oa,m1,m2,na,m3⟩:=q2;obtain⟨ob,m4,m5,nb,m6⟩:=q4;rw[wQ] at hc;rw[cmB] at cc;rw[dep] at dq mW;refine kat_lt m1 m3 m4 m6 (FC I' (n:=50) (by show X.A.units+1+1+50 < UI;omega) (by decide) _ _ xs ys _ _ 0 x2 y2 q1 q3 (by omega) cc ?_ (λzb _ d e rr sr z1 z2=>?_) hc)
  ·have:=x2.length;have:=y2.length;have:=q1.length;have:=q3.length;simp only[p_]
   congr 1
   apply propext
   constructor<;>intro _<;>omega
  ·cases z1;cases z2;exact⟨g1 zb,g2 zb⟩
 rcases kd with kd | kd | kd
 ·-- bX numbers
  have kL:∀k,k < ag.length->∃i t,ag.getD k b_.none=.int i t/\ds.getD k .non=.int i:=λk hk=>by
   obtain⟨x,a1,a2,a3,_⟩:=at_k ha rv hk;have:=j_.mp kd _ a3;cases e:ds.getD k .non<;>rw[e] at this a1<;>simp[isInt] at this
   rw[tJ a1] at a2;obtain⟨t,a2⟩:=a2;exact⟨_,t,a2,rfl⟩
  refine Ac (κ:=oneType') (lt:=λi j=>dl (ds.getD i .non) (ds.getD j .non)) (by omega) (Cs ds) col (λh' tk Q' keep two q=>?_) (λh' tk i j C keep hi hj hc=>?_) bA
  ·refine kas_kind (T:=.type "int") two (λv hv=>?_) (by decide) (by decide) q;obtain⟨k,hk,rfl⟩:=X_ hv;obtain⟨i,t,e,_⟩:=kL k hk;rw[t_,n_ hk] at e
   change ag[k]=_ at e
   rw[e];exact WG.now
  ·obtain⟨a,t1,e1,f1⟩:=kL i hi;obtain⟨b,t2,e2,f2⟩:=kL j hj;rw[f1,f2,vA] at hc;rw[e1,e2];exact kat_lt_int hc
 ·-- tuples that begin with a bX number
  refine Ac (κ:=tuples' true) (lt:=λi j=>dl (ds.getD i .non) (ds.getD j .non)) (by omega) (Cs ds) col (λh' tk Q' keep two q=>?_) (λh' tk i j C keep hi hj hc=>hG true fstI (λd hd=>?_) kd h' tk i j C keep hi hj hc) bA
  ·have I':Inv X aa U H { s with heap:=h',toks:=tk }:=I.kept (t':=tk) keep
   obtain⟨fs,k1,k2,k3⟩:=AL I' X.prog X.w fstI (.type "int") (λd hd=>by
    unfold fstI at hd;split at hd
    ·refine⟨_,_,rfl,λx u hx hr=>?_⟩;rw[tJ hx] at hr;obtain⟨t,rfl⟩:=hr;exact WG.now
    ·cases hd) ds zs ag ha rv kd
   exact kat_kind k1 (by omega) k3 (by decide) q
  ·unfold fstI at hd;split at hd
   ·exact⟨_,_,rfl,λ_=>rfl⟩
   ·cases hd
 ·-- tuples that begin with a tuple
  refine Ac (κ:=tuples' false) (lt:=λi j=>dl (ds.getD i .non) (ds.getD j .non)) (by omega) (Cs ds) col (λh' tk Q' keep two q=>?_) (λh' tk i j C keep hi hj hc=>hG false fstT (λd hd=>?_) kd h' tk i j C keep hi hj hc) bA
  ·have I':Inv X aa U H { s with heap:=h',toks:=tk }:=I.kept (t':=tk) keep
   obtain⟨fs,k1,k2,k3⟩:=AL I' X.prog X.w fstT (.type "tuple") (λd hd=>by
    unfold fstT at hd;split at hd
    ·refine⟨_,_,rfl,λx u hx hr=>?_⟩;obtain⟨a,ys,rfl,g1,g2⟩:=tR hx;cases hr;obtain⟨bI,q1,q2,_⟩:=I'.tuple g1;obtain⟨o,e1,e2,n,e3⟩:=q2;have look:WG (q_ X.prog X.w) h' (YX (.ref a)) o.cls:=(WG.ld e1).andThen .now;rw[e2] at look;exact look
    ·cases hd) ds zs ag ha rv kd
   exact kat_kind k1 (by omega) k3 (by decide) q
  ·unfold fstT at hd;split at hd
   ·exact⟨_,_,rfl,λh=>by cases h⟩
   ·cases hd
theorem Qu(hu:X.A.units+100 < UI):CallR X (.builtin "sorted") (λxs H Q=>∃(p:g_) (zs:List V) (ds:List D),xs=[.ref p]/\SqL X.K H p zs/\IsA X.K H ds zs/\SortOk ds/\∀l q,Pm ds.length q->permD q ds=sortD ds->H l=none->Q (.ref l) (upd H l (.lst (permV q zs)))):=by
 intro aa s U H xs us Q I r h;obtain⟨p,zs,ds,rfl,hq,ha,ok,k⟩:=h;obtain⟨u,rfl,ru⟩:=vals1 r;cases ru;obtain⟨ag,rv,t,hz⟩:=I.list hq;have l1:=ha.length;have l2:=rv.length;have line:64<=z_:=by rw[TH];decide
 refine Ad hu I ha rv ok (λQ' q=>collect_list t.isList (q _ s.toks (λb o x=>?_) ?_) (by have:=ok.1;omega)) k
 ·exact(N_ _ _ (Tt (Q_ (B_ x)))).trans (e_ _ x)
 ·rw[G_.size_update,size_push'];exact ZE _
end
section
variable{B:BB}{e:D_}{kr:Nat}
noncomputable def sortF(ds:List D):Option (List D):=match ds with
 | [.lst xs]=>if xs.length < 64/\cmAll xs=true/\depA xs<=50/\(xs.all isInt=true\/xs.all fstI=true\/xs.all fstT=true) then some (sortD xs) else none
 | _=>none
theorem IsA.perm{K:PySem.W.Frag}{q:Array Nat}(h:IsA K I ds zs)(hp:Pm ds.length q):IsA K I (permD q ds) (permV q zs):=by
 have low:∀j∈q.toList,j < ds.length:=λj hj=>by
  have:=(U2.mp hp).mem_iff.mp hj;simpa using this
 unfold permD permV;clear hp;generalize q.toList=js at low
 induction js with
 | nil=>exact IsA.nil
 | cons j js ih =>
  rw[O_,O_];refine IsA.cons ?_ (ih λi hi=>low i (i_ _ hi));have hj:=low j m_;obtain⟨x,e1,e2⟩:=h.get (n_ hj);rw[t_,t_,e1,n_ hj];exact e2
theorem Ee{p:Pos}{t:M (List D)}(hr:Room kr X.A)(hg:Gl X "sorted")(hm:X.mg "sorted"=none)(ha:AD X B [e] t)(he:d_ [e] X.env=(false,eval e X.env)::d_ [] X.env:=by rfl)(aB:(J_ pos (d_ [] X.env)).any (·.1)=false:=by rfl):
  EO X B (.Call (.Name "sorted" p) [e] [] pos) (fn1 sortF t):=Qi (Qu (hu100 hr)) (λds d e B G I H U Γ xs Q r h k=>by
 unfold sortF at e;split at e
 ·obtain⟨ok,rfl⟩:=tZ e;obtain⟨x,rfl,hx⟩:=h.one;obtain⟨q,zs,rfl,h3,h4⟩:=tW hx;refine⟨q,zs,_,rfl,(Same.rdK r.iH h3).sq,h4.mono r.iH,ok,λl q' hp es hl=>?_⟩;refine k.new r hl ?_;rw[←es];exact h4.perm hp
 ·cases e) hg hm boot_sorted ha (by decide) (by decide) he aB
end
end DL
namespace DL
open PySem PySem.SetTable
def Ris(xs:Array Nat):Prop:=∀i j (hi:i < xs.size) (hj:j < xs.size),i < j->xs[i] < xs[j]
theorem Cp{xs:Array Nat}(R:Ris xs)(j:Nat):∀(f lo hi:Nat),hi<=xs.size->lo<=hi->hi - lo<=f->(∀i (h:i < xs.size),i < lo->xs[i] < j)->(∀i (h:i < xs.size),hi<=i->j<=xs[i]) →
  (VE.go xs j f lo hi<=xs.size/\(∀i (h:i < xs.size),i < VE.go xs j f lo hi->xs[i] < j)/\∀i (h:i < xs.size),VE.go xs j f lo hi<=i->j<=xs[i])
 | 0,lo,hi,h1,h2,h3,h4,h5=>by
  rw[VE.go];exact⟨by omega,h4,λi h x=>h5 i h (by omega)⟩
 | f+1,lo,hi,h1,h2,h3,h4,h5=>by
  rw[VE.go];split
  ·have hm:(lo+hi) / 2 < xs.size:=by omega
   have e:xs.getD ((lo+hi) / 2) j=xs[(lo+hi) / 2]:=by rw[ZL,dif_pos hm];rfl
   dsimp only;rw[e];split
   ·rename_i lt;refine Cp R j f ((lo+hi) / 2+1) hi h1 (by omega) (by omega) (λi h x=>?_) h5;by_cases z:i=(lo+hi) / 2
    ·subst z;exact lt
    ·exact Nat.lt_trans (R i _ h hm (by omega)) lt
   ·rename_i su;refine Cp R j f lo ((lo+hi) / 2) (by omega) (by omega) (by omega) h4 λi h x=>?_
    by_cases z:i=(lo+hi) / 2
    ·subst z;omega
    ·have:=R _ i hm h (by omega);omega
  ·exact⟨by omega,h4,λi h x=>h5 i h (by omega)⟩
theorem x9{xs:Array Nat}(R:Ris xs)(j:Nat):VE xs j<=xs.size/\(∀i (h:i < xs.size),i < VE xs j->xs[i] < j)/\∀i (h:i < xs.size),VE xs j<=i->j<=xs[i]:=
 Cp R j xs.size 0 xs.size (r_ _) (Tz _) (r_ _) (λi h x=>by omega) λi h x=>by omega
theorem LO{xs:Array Nat}(R:Ris xs)(h:i < xs.size):VE xs xs[i]=i:=by
 obtain⟨b1,b2,b3⟩:=x9 R xs[i]
 rcases Vc (VE xs xs[i]) i with l | l | l
 ·have:=b3 (VE xs xs[i]) (by omega) (r_ _);have:=R _ i (by omega) h l;omega
 ·exact l
 ·have:=b2 i h l;omega
section
variable {t:Ub}
theorem G7(R:Ris t.place)(h:i < t.place.size):t.slot t.place[i]=.live i:=by
 unfold slot;dsimp only;rw[LO R h,l_ h];simp
theorem K8(R:Ris t.place)(hd:t.dummies=#[])(h:j∉t.place):t.slot j=.empty:=by
 unfold slot;dsimp only
 have e:¬(t.place[VE t.place j]? == some j)=true:=by
  intro z;have z:t.place[VE t.place j]?=some j:=by simpa using z
  exact h (VF z)
 rw[if_neg e];unfold has;rw[hd];simp
noncomputable def hd(m i p:Nat):Probe:=⟨i,UU m i - i,i,p,none⟩
noncomputable def adv(m:Nat)(p:Probe):Probe:=match p with
 | ⟨j,k+1,i,q,d⟩=>⟨j+1,k,i,q,d⟩
 | ⟨_,0,i,q,d⟩=>⟨(Za m i q).1,UU m (Za m i q).1 - (Za m i q).1,(Za m i q).1,(Za m i q).2,d⟩
noncomputable def pth(m:Nat)(h:Int):Nat->Probe
 | 0=>hd m (Ya h % (m+1)) (Ya h)
 | k+1=>adv m (pth m h k)
theorem Ec(h:Int)(k:Nat):t.advance (pth t.mask h k)=pth t.mask h (k+1):=by
 rw[pth]
 rcases pth t.mask h k with⟨j,more,i,q,d⟩
 cases more<;>rfl
theorem Fe(m:Nat)(h:Int):∀k,(pth m h k).dummy=none
 | 0=>rfl
 | k+1=>by
  have ih:=Fe m h k;rw[pth]
  revert ih
  rcases pth m h k with⟨j,more,i,q,d⟩
  intro ih;cases more<;>exact ih
noncomputable def sl(m:Nat)(h:Int)(k:Nat):Nat:=(pth m h k).j
theorem Bp{m:Nat}{h:Int}{c i p:Nat}(e:pth m h c=hd m i p):∀d,d<=UU m i - i->pth m h (c+d)=⟨i+d,UU m i - i - d,i,p,none⟩
 | 0,_=>e
 | d+1,cP=>by
  have ih:=Bp e d (by omega);rw[←Nat.add_assoc,pth,ih];obtain⟨k,hk⟩:∃k,UU m i - i - d=k+1:=⟨UU m i - i - d - 1,by omega⟩;rw[hk,show UU m i - i - (d+1)=k by omega];rfl
theorem FE{h:Int}{c p:Nat}(e:pth m h c=hd m i p):pth m h (c+(UU m i - i)+1)=hd m (Za m i p).1 (Za m i p).2:=by
 have:=Bp e (UU m i - i) (r_ _);rw[pth,this,Nat.sub_self];rfl
theorem Qo(m i:Nat):UU m i - i<=9:=by
 unfold UU;split<;>omega
noncomputable def lp(m:Nat):Nat->Nat->Nat->Nat×Nat
 | 0,i,p=>(i,p)
 | n+1,i,p=>lp m n (Za m i p).1 (Za m i p).2
theorem Dg{m:Nat}{h:Int}:∀(n c i p:Nat),pth m h c=hd m i p->∃c',c<=c'/\c'<=c+10*n/\pth m h c'=hd m (lp m n i p).1 (lp m n i p).2
 | 0,c,i,p,e=>⟨c,r_ _,by omega,e⟩
 | n+1,c,i,p,e=>by
  obtain⟨c',h1,h2,h3⟩:=Dg n _ _ _ (FE e);have:=Qo m i;exact⟨c',by omega,by omega,h3⟩
theorem zL(m:Nat):∀(a b i p:Nat),lp m (a+b) i p=lp m b (lp m a i p).1 (lp m a i p).2
 | 0,b,i,p=>by rw[Zq];rfl
 | a+1,b,i,p=>by rw[Nat.succ_add,lp,zL m a b];rfl
theorem CT(m:Nat):∀(n i p:Nat),(lp m n i p).2=p / 32 ^ n
 | 0,i,p=>by simp[lp]
 | n+1,i,p=>by
  rw[lp,CT m n];show(p / 32) / 32 ^ n=_;rw[Nat.div_div_eq_div_mul,Nat.pow_succ,Nat.mul_comm]
theorem FT{m:Nat}:∀(n i p:Nat),i < m+1->(lp m n i p).1 < m+1
 | 0,i,p,h=>h
 | n+1,i,p,h=>by
  rw[lp];exact FT n _ _ (ZF _ (XV _))
theorem Kv(h:Int):Ya h < 2 ^ 64:=by
 unfold Ya;have h1:=Vv h (b:=2 ^ 64) (by decide);have h2:=WH h (b:=2 ^ 64) (by decide);omega
def Round(m:Nat):Prop:=∀i,i < m+1->∀j,j < m+1->∃n,n < m+1/\(lp m n i 0).1=j
theorem round7:Round 7:=by
 have:∀i,i < 8->∀j,j < 8->∃n,n < 8/\(lp 7 n i 0).1=j:=by decide +kernel
 exact this
theorem round31:Round 31:=by
 have:∀i,i < 32->∀j,j < 32->∃n,n < 32/\(lp 31 n i 0).1=j:=by decide +kernel
 exact this
theorem Gn(R:Round m)(h:Int)(hj:j < m+1):∃n,n < m+14/\(lp m n (Ya h % (m+1)) (Ya h)).1=j:=by
 have p0:(lp m 13 (Ya h % (m+1)) (Ya h)).2=0:=by
  rw[CT];refine Nat.div_eq_of_lt (E_ (Kv h) ?_);decide
 have l0:=FT (m:=m) 13 (Ya h % (m+1)) (Ya h) (ZF _ (XV _));obtain⟨n,h1,h2⟩:=R _ l0 j hj;refine⟨13+n,by omega,?_⟩;rw[zL,p0];exact h2
theorem Oa(R:Round m)(h:Int)(hj:j < m+1):∃k,k < 10*(m+14)/\sl m h k=j:=by
 obtain⟨n,h1,h2⟩:=Gn R h hj;obtain⟨c,h3,h4,h5⟩:=Dg (m:=m) (h:=h) n 0 _ _ rfl;refine⟨c,by omega,?_⟩;unfold sl;rw[h5];exact h2
end
noncomputable def orb(m:Nat):Nat->Nat->List Nat
 | 0,_=>[]
 | k+1,i=>i::orb m k (Za m i 0).1
theorem Lj(m i:Nat):(Za m i 0).2=0:=by
 show 0 / 32=0;rfl
theorem ND(m n i:Nat):lp m (n+1) i 0=lp m n (Za m i 0).1 0:=by
 rw[lp,Lj]
theorem DJ(m n i:Nat):(lp m n i 0).2=0:=by rw[CT];simp
theorem GE(m:Nat):∀(k i n:Nat),n < k->(orb m k i)[n]?=some (lp m n i 0).1
 | 0,_,_,h=>by omega
 | k+1,i,0,_=>rfl
 | k+1,i,n+1,h=>by
  rw[orb,WY,GE m k _ n (by omega),ND]
theorem Mh(h:j∈orb m k i)(hl:(orb m k i).length=k):∃n,n < k/\(lp m n i 0).1=j:=by
 obtain⟨n,hn,e⟩:=X_ h;refine⟨n,by omega,?_⟩;have:=GE m k i n (by omega);rw[n_ hn,e] at this;exact(Tn this).symm
theorem GW(m:Nat):∀(k i:Nat),(orb m k i).length=k
 | 0,_=>rfl
 | k+1,i=>by rw[orb,S_,GW m k]
theorem round127:Round 127:=by
 have all:∀j,j < 128->∃n,n < 128/\(lp 127 n 0 0).1=j:=λj hj=>by
  have c:∀j,j < 128->j∈orb 127 128 0:=by decide +kernel
  exact Mh (c j hj) (GW _ _ _)
 have turn:(lp 127 128 0 0).1=0:=by decide +kernel
 intro i hi j hj;obtain⟨a,ha,ea⟩:=all i hi;obtain⟨b,hb,eb⟩:=all j hj;have hU:∀n,lp 127 n i 0=lp 127 (a+n) 0 0:=λn=>by rw[zL,ea,DJ]
 rcases Vt b a with z | z
 ·refine⟨b+128 - a,by omega,?_⟩;rw[hU,show a+(b+128 - a)=128+b by omega,zL,turn,DJ,eb]
 ·exact⟨b - a,by omega,by rw[hU,show a+(b - a)=b by omega,eb]⟩
noncomputable def hA(es:Array (Int×b_))(i:Nat):Int:=(es[i]?.map (·.1)).getD 0
theorem Gi{es:Array (Int×b_)}(h:i < es.size):hA es i=es[i].1:=by
 unfold hA;rw[l_ h];rfl
structure TabOk(t:Ub)(es:Array (Int×b_)):Prop where
 nd:t.dummies=#[]
 ris:Ris t.place
 sz:t.place.size=es.size
 low:∀i (h:i < t.place.size),t.place[i]<=t.mask
 few:t.place.size<=60/\(t.mask=127\/(t.mask=31/\t.place.size<=18)\/(t.mask=7/\t.place.size<=4))
 pl:t.plain=true
 reach:∀i (h:i < es.size) (h':i < t.place.size),∃k,sl t.mask es[i].1 k=t.place[i]/\∀k',k' < k->sl t.mask es[i].1 k'∈t.place
theorem AV:∀(n:Nat) (l:List Nat),(∀j,j < n->j∈l)->n<=l.length
 | 0,_,_=>Tz _
 | n+1,l,h=>by
  have:=AV n (l.erase n) λj hj=>(List.mem_erase_of_ne (by omega)).mpr (h j (by omega))
  rw[WQ (h n (by omega))] at this;have:0 < l.length:=List.length_pos_of_mem (h n (by omega));omega
section
variable {t:Ub}{es:Array (Int×b_)}
theorem TabOk.round(T:TabOk t es):Round t.mask:=by
 rcases T.few.2 with h | h | h
 ·rw[h];exact round127
 ·rw[h.1];exact round31
 ·rw[h.1];exact round7
theorem TabOk.free(T:TabOk t es)(h:Int):∃K,K < 10*(t.mask+14)/\sl t.mask h K∉t.place/\∀k,k < K->sl t.mask h k∈t.place:=by
 have ex:∃k,k < 10*(t.mask+14)/\sl t.mask h k∉t.place:=by
  apply V1
  intro no
  have:t.mask+1<=t.place.toList.length:=AV (t.mask+1) _ λj hj=>by
   obtain⟨k,k1,k2⟩:=Oa T.round h hj
   apply V1
   intro nj;exact no ⟨k,k1,by rw[k2];simpa using nj⟩
  rw[Tv] at this;have:=T.few;omega
 obtain⟨k,k1,k2⟩:=ex
 induction k using Nat.strongRecOn with
 | ind k ih =>
  by_cases z:∃k',k' < k/\sl t.mask h k'∉t.place
  ·obtain⟨k',a,b⟩:=z;exact ih k' a (by omega) b
  ·refine⟨k,k1,k2,λk' dE=>?_⟩
   apply V1
   intro nj;exact z ⟨k',dE,nj⟩
theorem Hh(h:i<=m):i+(UU m i - i)<=m:=by
 unfold UU;split<;>omega
theorem yW(m:Nat)(h:Int):∀k,(pth m h k).j+(pth m h k).more<=m/\(pth m h k).i<=m
 | 0=>by
  have:Ya h % (m+1)<=m:=YJ (ZF _ (XV _));exact⟨Hh this,this⟩
 | k+1=>by
  have ih:=yW m h k;rw[pth]
  revert ih
  rcases pth m h k with⟨j,more,i,q,d⟩
  intro ih;cases more with
  | zero =>
   have:(Za m i q).1<=m:=YJ (ZF _ (XV _));exact⟨Hh this,this⟩
  | succ more =>
   dsimp only at ih;exact⟨by show j+1+more<=m;omega,ih.2⟩
theorem HG{xs:Array Nat}(h:j∈xs):∃i,∃h:i < xs.size,xs[i]=j:=by
 obtain⟨i,hi,e⟩:=VW h;exact⟨i,hi,e⟩
theorem EQ(T:TabOk t es){h:Int}{K:Nat}(hK:sl t.mask h K∉t.place)(hk:∀k,k < K->sl t.mask h k∈t.place):∀(f k:Nat),k<=K->K - k < f →
  (∃k' i,∃hi:i < es.size,∃bq:i < t.place.size,k<=k'/\k' < K/\t.place[i]=sl t.mask h k'/\es[i].1=h/\Wr t (hA es) h f (pth t.mask h k)=some (.candidate (sl t.mask h k') i (pth t.mask h (k'+1))) ∧
   ∀bF,k<=bF->bF < k'->∀j (hj:j < es.size) (bE:j < t.place.size),t.place[j]=sl t.mask h bF->es[j].1≠h) ∨
  (Wr t (hA es) h f (pth t.mask h k)=some (.empty (sl t.mask h K) none)/\∀bF,k<=bF->bF < K->∀j (hj:j < es.size) (bE:j < t.place.size),t.place[j]=sl t.mask h bF->es[j].1≠h)
 | 0,k,h1,h2=>by omega
 | f+1,k,h1,h2=>by
  by_cases z:k=K
  ·subst z;right;refine⟨?_,λbF a b=>by omega⟩;rw[Wr,show(pth t.mask h k).j=sl t.mask h k from rfl,K8 T.ris T.nd hK,Fe]
  ·obtain⟨i,hi,e⟩:=HG (hk k (by omega));have cG:i < es.size:=by rw[←T.sz];exact hi
   have st:t.slot (pth t.mask h k).j=.live i:=by
    rw[show(pth t.mask h k).j=t.place[i] from e.symm];exact G7 T.ris hi
   have only:∀j (bE:j < t.place.size),t.place[j]=sl t.mask h k->j=i:=λj bE ej=>by
    rcases Vc j i with l | l | l
    ·have:=T.ris j i bE hi l;omega
    ·exact l
    ·have:=T.ris i j hi bE l;omega
   by_cases same:es[i].1=h
   ·left;refine⟨k,i,cG,hi,r_ _,by omega,e,same,?_,λbF a b=>by omega⟩;rw[Wr,st];dsimp only;rw[Gi cG,same,if_pos (by simp),Ec];rfl
   ·have go:Wr t (hA es) h (f+1) (pth t.mask h k)=Wr t (hA es) h f (pth t.mask h (k+1)):=by
     rw[Wr,st];dsimp only;rw[Gi cG,if_neg (by simpa using same),Ec]
    rw[go]
    have here:∀j (hj:j < es.size) (bE:j < t.place.size),t.place[j]=sl t.mask h k->es[j].1≠h:=λj hj bE ej=>by
     have:=only j bE ej;subst this;exact same
    rcases EQ T hK hk f (k+1) (by omega) (by omega) with⟨k',i',a1,a2,a3,a4,a5,a6,a7,a8⟩ | ⟨a1,a2⟩
    ·refine .inl ⟨k',i',a1,a2,by omega,a4,a5,a6,a7,λbF b1 b2 j hj bE ej=>?_⟩;by_cases z':bF=k
     ·subst z';exact here j hj bE ej
     ·exact a8 bF (by omega) b2 j hj bE ej
    ·refine .inr ⟨a1,λbF b1 b2 j hj bE ej=>?_⟩;by_cases z':bF=k
     ·subst z';exact here j hj bE ej
     ·exact a2 bF (by omega) b2 j hj bE ej
theorem wF{α:Type}{xs:Array α}{p:Nat}(hp:p<=xs.size)(x:α)(i:Nat):(Uc xs p x)[i]?=if i < p then xs[i]? else if i=p then some x else xs[i - 1]?:=by
 unfold Uc;rw[Array.getElem?_append,Array.size_push,V9];have e:min p xs.size - 0=p:=by omega
 rw[e];by_cases h1:i < p
 ·rw[if_pos (by omega),if_pos h1,Yb,V9,e,if_neg (by omega),Xf,if_pos (by omega),Zq]
 ·rw[if_neg h1];by_cases h2:i=p
  ·rw[if_pos (by omega),if_pos h2,Yb,V9,e,if_pos h2]
  ·rw[if_neg (by omega),if_neg h2,Xf];by_cases h3:i - (p+1) < min xs.size xs.size - p
   ·rw[if_pos h3]
    congr 1
    omega
   ·rw[if_neg h3]
    symm
    rw[UF];omega
theorem BN{α:Type}{xs:Array α}{p:Nat}(hp:p<=xs.size)(x:α):(Uc xs p x).size=xs.size+1:=by
 unfold Uc;rw[Array.size_append,Array.size_push,V9,V9];omega
theorem ES{α:Type}{xs:Array α}{p:Nat}(hp:p<=xs.size)(x y:α):y∈Uc xs p x↔y=x\/y∈xs:=by
 constructor
 ·intro h;obtain⟨i,e⟩:=U6.mp h;rw[wF hp] at e;split at e
  ·exact .inr (VF e)
  ·split at e
   ·cases e;exact .inl rfl
   ·exact .inr (VF e)
 ·rintro(rfl | h)
  ·refine U6.mpr ⟨p,?_⟩;rw[wF hp,if_neg (by omega),if_pos rfl]
  ·obtain⟨i,e⟩:=U6.mp h;by_cases z:i < p
   ·exact U6.mpr ⟨i,by rw[wF hp,if_pos z];exact e⟩
   ·exact U6.mpr ⟨i+1,by rw[wF hp,if_neg (by omega),if_neg (by omega)];exact e⟩
theorem Pb(T:TabOk t es){h:Int}{x:b_}{K:Nat}(hK:sl t.mask h K∉t.place)(hk:∀k,k < K->sl t.mask h k∈t.place):
  let q:=t.put (sl t.mask h K)
  q.1.dummies=#[]/\Ris q.1.place/\q.1.place.size=(Uc es q.2 (h,x)).size/\(∀i (h:i < q.1.place.size),q.1.place[i]<=q.1.mask)/\q.1.mask=t.mask/\q.1.plain=t.plain/\q.1.led=t.led/\q.1.moves=t.moves/\q.1.place.size=t.place.size+1/\q.2<=es.size ∧
   (∀i (h1:i < (Uc es q.2 (h,x)).size) (h2:i < q.1.place.size),∃k,sl q.1.mask (Uc es q.2 (h,x))[i].1 k=q.1.place[i]/\∀k',k' < k->sl q.1.mask (Uc es q.2 (h,x))[i].1 k'∈q.1.place):=by
 intro q;obtain⟨b1,b2,b3⟩:=x9 T.ris (sl t.mask h K);have q2:q.2=VE t.place (sl t.mask h K):=rfl;have q1:q.1.place=Uc t.place (VE t.place (sl t.mask h K)) (sl t.mask h K):=rfl;have hp:q.2<=es.size:=by rw[q2,←T.sz];exact b1
 have nh:has t.dummies (sl t.mask h K)=false:=by rw[T.nd];rfl
 have qd:q.1.dummies=#[]:=by
  show(if has t.dummies (sl t.mask h K)=true then _ else t.dummies)=_;rw[nh,if_neg h_];exact T.nd
 have get:∀i (h2:i < q.1.place.size),(i < q.2/\∃hi:i < t.place.size,q.1.place[i]=t.place[i])\/(i=q.2/\q.1.place[i]=sl t.mask h K)\/(q.2 < i/\∃hi:i - 1 < t.place.size,q.1.place[i]=t.place[i - 1]):=λi h2=>by
  have e:=wF (x:=sl t.mask h K) b1 i;rw[←q1,←q2,l_ h2] at e;by_cases z1:i < q.2
  ·rw[if_pos z1] at e;obtain⟨hi,e⟩:=A_.mp e.symm;exact .inl ⟨z1,hi,e.symm⟩
  ·rw[if_neg z1] at e;by_cases z2:i=q.2
   ·rw[if_pos z2] at e;exact .inr (.inl ⟨z2,Tn e⟩)
   ·rw[if_neg z2] at e;obtain⟨hi,e⟩:=A_.mp e.symm;exact .inr (.inr ⟨by omega,hi,e.symm⟩)
 have sz:q.1.place.size=t.place.size+1:=by rw[q1];exact BN b1 _
 have ne:∀i (hi:i < t.place.size),t.place[i]≠sl t.mask h K:=λi hi z=>hK (by rw[←z];exact UX hi)
 refine⟨qd,?_,by rw[sz,BN hp,T.sz],?_,rfl,rfl,rfl,rfl,sz,hp,?_⟩
 ·intro i j hi hj lt
  rcases get i hi with⟨a1,a2,a3⟩ | ⟨a1,a3⟩ | ⟨a1,a2,a3⟩<;>rcases get j hj with⟨c1,c2,c3⟩ | ⟨c1,c3⟩ | ⟨c1,c2,c3⟩
  ·rw[a3,c3];exact T.ris i j a2 c2 lt
  ·rw[a3,c3];exact b2 i a2 (by omega)
  ·rw[a3,c3];have:=b2 i a2 (by omega);have:=b3 (j - 1) c2 (by omega);omega
  ·omega
  ·omega
  ·rw[a3,c3];have:=b3 (j - 1) c2 (by omega);have:=ne (j - 1) c2;omega
  ·omega
  ·omega
  ·rw[a3,c3];exact T.ris (i - 1) (j - 1) a2 c2 (by omega)
 ·intro i hi;show _<=t.mask
  rcases get i hi with⟨a1,a2,a3⟩ | ⟨a1,a3⟩ | ⟨a1,a2,a3⟩
  ·rw[a3];exact T.low _ _
  ·rw[a3];have:=(yW t.mask h K).1;unfold sl;omega
  ·rw[a3];exact T.low _ _
 ·intro i h1 h2;have dZ:∀y,y∈t.place->y∈q.1.place:=λy hy=>by rw[q1];exact(ES b1 _ _).mpr (.inr hy)
  have e:=wF (x:=(h,x)) hp i;rw[l_ h1] at e;show ∃k,sl t.mask _ k=_/\∀k',k' < k->sl t.mask _ k'∈_
  rcases get i h2 with⟨a1,a2,a3⟩ | ⟨a1,a3⟩ | ⟨a1,a2,a3⟩
  ·rw[if_pos a1] at e;obtain⟨hi,e⟩:=A_.mp e.symm;obtain⟨k,k1,k2⟩:=T.reach i hi a2;rw[←e,a3];exact⟨k,k1,λk' dE=>dZ _ (k2 k' dE)⟩
  ·rw[if_neg (by omega),if_pos a1] at e;rw[Tn e,a3];exact⟨K,rfl,λk' dE=>dZ _ (hk k' dE)⟩
  ·rw[if_neg (by omega),if_neg (by omega)] at e;obtain⟨hi,e⟩:=A_.mp e.symm;obtain⟨k,k1,k2⟩:=T.reach (i - 1) hi a2;rw[←e,a3];exact⟨k,k1,λk' dE=>dZ _ (k2 k' dE)⟩
end
noncomputable def tak(o:Array (Option Nat))(j:Nat):Bool:=(o.getD j (some 0)).isSome
theorem Gq{m:Nat}{o:Array (Option Nat)}{h:Int}:∀(f c i p:Nat),pth m h c=hd m i p →
  (∃k,c<=k/\VP m o f i p=some (sl m h k)/\tak o (sl m h k)=false/\∀k',c<=k'->k' < k->tak o (sl m h k')=true)\/(∀n,n < f->tak o (lp m n i p).1=true)
 | 0,c,i,p,e=>.inr λn h=>by omega
 | f+1,c,i,p,e=>by
  have run:=λd cP=>Bp e d cP
  have bg:∀d,d<=UU m i - i->sl m h (c+d)=i+d:=λd cP=>by unfold sl;rw[run d cP]
  have up:i<=UU m i:=by unfold UU;split<;>omega
  rw[VP];cases hf:(Ur (UU m i+1 - i)).find? λk=>(o.getD (i+k) (some 0)).isNone with
  | some d =>
   obtain⟨d1,d2,d3⟩:=List.find?_range_eq_some.mp hf;rw[Um] at d2;left;refine⟨c+d,by omega,?_,?_,λk' a b=>?_⟩
   ·dsimp only;rw[bg d (by omega)]
   ·rw[bg d (by omega)];unfold tak;cases x:o.getD (i+d) (some 0) with
    | none=>rfl
    | some v=>rw[x] at d1;cases d1
   ·obtain⟨d',rfl⟩:∃d',k'=c+d':=⟨k' - c,by omega⟩;rw[bg d' (by omega)];have:=d3 d' (by omega);unfold tak;cases x:o.getD (i+d') (some 0) with
    | none=>rw[x] at this;cases this
    | some v=>rfl
  | none =>
   have no:=List.find?_range_eq_none.mp hf
   have all:∀k',c<=k'->k' < c+(UU m i - i)+1->tak o (sl m h k')=true:=λk' a b=>by
    obtain⟨d',rfl⟩:∃d',k'=c+d':=⟨k' - c,by omega⟩;rw[bg d' (by omega)];have:=no d' (by omega);unfold tak;cases x:o.getD (i+d') (some 0) with
    | none=>rw[x] at this;cases this
    | some v=>rfl
   dsimp only
   rcases Gq (o:=o) f _ _ _ (FE e) with⟨k,k1,k2,k3,k4⟩ | aF
   ·left;refine⟨k,by omega,k2,k3,λk' a b=>?_⟩;by_cases z:k' < c+(UU m i - i)+1
    ·exact all k' a z
    ·exact k4 k' (by omega) b
   ·right;intro n hn;cases n with
    | zero =>
     have:=all c (r_ _) (by omega);rw[←Nat.add_zero c,bg 0 (by omega)] at this;exact this
    | succ n =>
     rw[lp];exact aF n (by omega)
theorem yc:∀(k:Nat) (l:List Nat),l.Nodup->(∀x∈l,x < k)->l.length<=k
 | 0,l,_,h=>by
  cases l with
  | nil=>exact r_ _
  | cons x l=>exact absurd (h x m_) (Xn _)
 | k+1,l,nd,h=>by
  by_cases z:k∈l
  ·have:=yc k (l.erase k) (nd.erase k) λx hx=>by
    have h1:=h x (List.mem_of_mem_erase hx)
    have h2:x≠k:=λe=>by
     subst e;exact(Zr.not_mem_erase nd) hx
    omega
   rw[WQ z] at this;omega
  ·have:=yc k l nd λx hx=>by
    have h1:=h x hx;have h2:x≠k:=λe=>z (e▸hx)
    omega
   omega
structure Laid(m:Nat)(hs:List Int)(o:Array (Option Nat))(k:Nat):Prop where
 sz:o.size=m+1
 old:∀(j v:Nat),o[j]?=some (some v)->v < k
 one:∀(j j' v:Nat),o[j]?=some (some v)->o[j']?=some (some v)->j=j'
 way:∀(v:Nat),v < k->∃(j c:Nat),o[j]?=some (some v)/\sl m (hs.getD v 0) c=j/\∀c',c' < c->tak o (sl m (hs.getD v 0) c')=true
theorem Laid.room{o:Array (Option Nat)}(L:Laid m hs o k)(hk:k<=m):∃j,j < m+1/\tak o j=false:=by
 apply V1
 intro no
 have all:∀j,j < m+1->∃v,o[j]?=some (some v):=λj hj=>by
  have t:tak o j=true:=by
   cases x:tak o j with
   | true=>rfl
   | false=>exact absurd ⟨j,hj,x⟩ no
  unfold tak at t;rw[ZL,dif_pos (by rw[L.sz];exact hj)] at t;rw[l_ (by rw[L.sz];exact hj)];cases x:o[j]'(by rw[L.sz];exact hj) with
  | none=>simp[x] at t
  | some v=>exact⟨v,rfl⟩
 have nd:((Ur (m+1)).map λj=>((o[j]?).bind id).getD 0).Nodup:=by
  unfold Zr;rw[YK];refine imp_of_mem ?_ List.nodup_range;intro a b ha hb ne e;obtain⟨v,hv⟩:=all a (Um.mp ha);obtain⟨v',dW⟩:=all b (Um.mp hb);rw[hv,dW] at e;have e:v=v':=e;subst e;exact ne (L.one a b v hv dW)
 have:=yc k _ nd λx hx=>by
  obtain⟨j,hj,rfl⟩:=C_.mp hx;obtain⟨v,hv⟩:=all j (Um.mp hj);rw[hv];exact L.old j v hv
 rw[y_,Xe] at this;omega
theorem Laid.step(R:Round m){o:Array (Option Nat)}(L:Laid m hs o k)(hk:k<=m):∃j,VP m o (Zs m) (Ya (hs.getD k 0) % (m+1)) (Ya (hs.getD k 0))=some j/\Laid m hs (o.setIfInBounds j (some k)) (k+1):=by
 rcases Gq (m:=m) (o:=o) (h:=hs.getD k 0) (Zs m) 0 _ _ rfl with⟨K,_,k2,k3,k4⟩ | full
 ·refine⟨_,k2,?_⟩
  have hj:sl m (hs.getD k 0) K < o.size:=by
   rw[L.sz];have:=(yW m (hs.getD k 0) K).1;unfold sl;omega
  have free:o[sl m (hs.getD k 0) K]?=some none:=by
   unfold tak at k3;rw[Ux,l_ hj] at k3;rw[l_ hj];cases x:o[sl m (hs.getD k 0) K] with
   | none=>rfl
   | some v=>rw[x] at k3;cases k3
  have get:∀i,(o.setIfInBounds (sl m (hs.getD k 0) K) (some k))[i]?=if sl m (hs.getD k 0) K=i then some (some k) else o[i]?:=λi=>by
   rw[Array.getElem?_setIfInBounds];split
   ·rename_i e;subst e;simp[hj]
   ·rfl
  have more:∀i,tak o i=true->tak (o.setIfInBounds (sl m (hs.getD k 0) K) (some k)) i=true:=λi hi=>by
   unfold tak at hi ⊢;rw[Ux] at hi ⊢;rw[get];split
   ·rfl
   ·exact hi
  refine⟨by rw[WR];exact L.sz,λj v e=>?_,λj j' v e e'=>?_,λv hv=>?_⟩
  ·rw[get] at e;split at e
   ·cases e;omega
   ·have:=L.old j v e;omega
  ·rw[get] at e e';split at e
   ·cases e;split at e'
    ·omega
    ·have:=L.old j' k e';omega
   ·split at e'
    ·cases e';have:=L.old j k e;omega
    ·exact L.one j j' v e e'
  ·by_cases z:v=k
   ·subst z;exact⟨_,K,by rw[get,if_pos rfl],rfl,λc' bW=>more _ (k4 c' (Tz _) bW)⟩
   ·obtain⟨j,c,e1,e2,e3⟩:=L.way v (by omega);refine⟨j,c,?_,e2,λc' bW=>more _ (e3 c' bW)⟩;rw[get,if_neg ?_]
    ·exact e1
    ·intro e;subst e;rw[free] at e1;cases e1
 ·obtain⟨j,hj,tj⟩:=L.room hk;obtain⟨n,n1,n2⟩:=Gn R (hs.getD k 0) hj;have:=full n (by unfold Zs;omega);rw[n2,tj] at this;cases this
theorem OW(R:Round m)(hs:List Int)(hm:hs.length<=m):∃o,layClean m hs.toArray=some o/\Laid m hs o hs.length:=by
 unfold layClean;rw[←Array.foldl_toList]
 have bP:∀(l pre:List Int) (o:Array (Option Nat)),hs=pre++l->Laid m hs o pre.length->∃o',List.foldl (λaj h=>do
   let (owner,k) ←aj
   let j ←VP m owner (Zs m) (Ya h % (m+1)) (Ya h)
   pure (owner.setIfInBounds j (some k),k+1)) (some (o,pre.length)) l=some (o',hs.length)/\Laid m hs o' hs.length:=by
  intro l
  induction l with
  | nil =>
   intro pre o e L;rw[Uo] at e;subst e;exact⟨o,rfl,L⟩
  | cons h l ih =>
   intro pre o e L;have gk:hs.getD pre.length 0=h:=by rw[e,t_];simp
   have lk:pre.length<=m:=by
    have:=congrArg length e;simp at this;omega
   obtain⟨j,j1,j2⟩:=L.step R lk;rw[gk] at j1;obtain⟨o',h1,h2⟩:=ih (pre++[h]) (o.setIfInBounds j (some pre.length)) (by rw[e];simp) (by simpa using j2);refine⟨o',?_,h2⟩;rw[List.foldl_cons,←h1]
   congr 1
   show(VP m o (Zs m) (Ya h % (m+1)) (Ya h)).bind _=_;rw[j1];simp
 have ba:∀(j v:Nat),(Array.replicate (m+1) (none:Option Nat))[j]?=some (some v)->False:=λj v e=>by
  rw[Array.getElem?_replicate] at e;split at e
  ·cases e
  ·cases e
 obtain⟨o',h1,h2⟩:=bP hs [] (Array.replicate (m+1) none) rfl ⟨by simp,λj v e=>(ba j v e).elim,λj j' v e=>(ba j v e).elim,λv hv=>absurd hv (Xn _)⟩
 exact⟨o',by
  have:=congrArg (Option.map (·.1)) h1
  exact this,h2⟩
theorem K5{es:Array (Int×b_)}(R:Round m)(few:(m=31/\es.size<=18)\/(m=127/\es.size<=60))(finger moves:Nat)(led:Bool):∃t cu,laid m finger moves led true (es.map (·.1))=some (t,cu)/\(cu.filterMap (es[·]?)).size=es.size/\TabOk t (cu.filterMap (es[·]?))/\t.mask=m/\t.led=led ∧
  (∀x,x∈cu.filterMap (es[·]?)↔x∈es):=by
 obtain⟨o,h1,L⟩:=OW R (es.map (·.1)).toList (by simp;omega);rw[Array.toArray_toList] at h1;have nl:(es.map (·.1)).toList.length=es.size:=by simp
 rw[nl] at L;obtain⟨live,ei⟩:∃live:List (Nat×Nat),live=(Ur (m+1)).filterMap λj=>(o.getD j none).map (j,·):=⟨_,rfl⟩
 have mem:∀j v,(j,v)∈live↔o[j]?=some (some v):=λj v=>by
  rw[ei,U7];constructor
  ·rintro⟨a,ha,e⟩;rw[Ux] at e;cases x:o[a]? with
   | none=>rw[x] at e;cases e
   | some w =>
    rw[x] at e;cases w with
    | none=>cases e
    | some w=>cases e;exact x
  ·intro e;have:=(A_.mp e).1;refine⟨j,Um.mpr (by rw[L.sz] at this;exact this),?_⟩;rw[Ux,e];rfl
 have ris:live.Pairwise λa b=>a.1 < b.1:=by
  rw[ei,List.pairwise_filterMap];refine WO.imp ?_ List.pairwise_lt_range;intro a b lt x hx y hy;cases e:o.getD a none with
  | none=>rw[e] at hx;cases hx
  | some v =>
   rw[e] at hx;cases hx;cases e':o.getD b none with
   | none=>rw[e'] at hy;cases hy
   | some v'=>rw[e'] at hy;cases hy;exact lt
 have mX:(live.map (·.2)).Nodup:=by
  unfold Zr;rw[YK];refine imp_of_mem ?_ ris;intro a b ha hb lt e;have h1:=(mem a.1 a.2).mp ha;have h2:=(mem b.1 b.2).mp hb;rw[e] at h1;have:=L.one _ _ _ h1 h2;omega
 have lo:live.length=es.size:=by
  refine Nat.le_antisymm ?_ ?_
  ·have:=yc es.size (live.map (·.2)) mX λx hx=>by
    obtain⟨q,hq,rfl⟩:=C_.mp hx;exact L.old q.1 q.2 ((mem _ _).mp hq)
   simpa using this
  ·have:=AV es.size (live.map (·.2)) λv hv=>by
    obtain⟨j,c,e,_⟩:=L.way v hv;exact C_.mpr ⟨(j,v),(mem j v).mpr e,rfl⟩
   simpa using this
 have low:∀q∈live,q.2 < es.size:=λq hq=>L.old q.1 q.2 ((mem _ _).mp hq)
 have bA:((live.map (·.2)).toArray.filterMap (es[·]?)).toList=live.map λq=>es[q.2]?.getD (0,b_.none):=by
  rw[Array.toList_filterMap];show(live.map (·.2)).filterMap (es[·]?)=_;clear lo mX ris mem ei
  induction live with
  | nil=>rfl
  | cons q live ih =>
   have hq:=low q m_;rw[O_,Vn,l_ hq,O_,l_ hq];rw[ih λq hq=>low q (i_ _ hq)];rfl
 refine⟨{ mask:=m,place:=(live.map (·.1)).toArray,dummies:=#[],finger,led,moves,plain:=true },(live.map (·.2)).toArray,?_,?_,?_,rfl,rfl,λx=>?_⟩
 ·unfold laid;rw[h1];show some _=some _;rw[ei]
 ·rw[←Tv,bA,y_,lo]
 ·have pE:((live.map (·.2)).toArray.filterMap (es[·]?)).size=live.length:=by rw[←Tv,bA,y_]
  have pF:∀i (h1:i < ((live.map (·.2)).toArray.filterMap (es[·]?)).size) (h2:i < live.length),((live.map (·.2)).toArray.filterMap (es[·]?))[i]=es[live[i].2]?.getD (0,b_.none):=λi h1 h2=>by
   rw[←XU]
   have:((live.map (·.2)).toArray.filterMap (es[·]?)).toList[i]'(by rw[Tv];exact h1)=(live.map λq=>es[q.2]?.getD (0,b_.none))[i]'(by simpa using h2):=by
    congr 1
   rw[this,WF]
  refine⟨rfl,λi j hi hj lt=>?_,?_,λi hi=>?_,⟨?_,?_⟩,rfl,λi h1 h2=>?_⟩
  ·simp at hi hj;simp only[VX,WF];exact(WA.mp ris) i j hi hj lt
  ·rw[pE];simp
  ·simp at hi;simp only[VX,WF];have:=(mem live[i].1 live[i].2).mp (Ua hi);have:=(A_.mp this).1;rw[L.sz] at this;show _<=m;omega
  ·simp;omega
  ·have ll:(live.map (·.1)).toArray.size=live.length:=by simp
   show m=127\/(m=31/\(live.map (·.1)).toArray.size<=18)\/(m=7/\_)
   rcases few with z | z
   ·exact .inr (.inl ⟨z.1,by rw[ll];omega⟩)
   ·exact .inl z.1
  ·have kN:i < live.length:=by simpa using h2
   rw[pF i h1 kN];simp only[VX,WF];have m1:=(mem live[i].1 live[i].2).mp (Ua kN);have v1:=low live[i] (Ua kN);obtain⟨j,c,e1,e2,e3⟩:=L.way live[i].2 v1;have:j=live[i].1:=L.one _ _ _ e1 m1;subst this
   have hh:(es.map (·.1)).toList.getD live[i].2 0=es[live[i].2].1:=by
    rw[t_];simp[v1]
   rw[hh] at e2 e3;rw[l_ v1];refine⟨c,e2,λc' bW=>?_⟩;have tk:=e3 c' bW;unfold tak at tk;have lt:=(yW m es[live[i].2].1 c').1;have lt:sl m es[live[i].2].1 c' < o.size:=by rw[L.sz];unfold sl;omega
   rw[ZL,dif_pos lt] at tk;show sl m es[live[i].2].1 c'∈_;cases x:o[sl m es[live[i].2].1 c'] with
   | none=>simp[x] at tk
   | some v =>
    have:(sl m es[live[i].2].1 c',v)∈live:=(mem _ _).mpr (by rw[l_ lt,x]);simp only[List.mem_toArray,C_];exact⟨_,this,rfl⟩
 ·rw[←XW,bA,C_];constructor
  ·rintro⟨q,hq,rfl⟩;rw[l_ (low q hq)];exact UX _
  ·intro hx;obtain⟨v,hv,rfl⟩:=VW hx;obtain⟨j,c,e,_⟩:=L.way v hv;refine⟨(j,v),(mem j v).mpr e,?_⟩;dsimp only;rw[l_ hv];rfl
end DL
namespace DL
open PySem PySem.W PySem.Spec PyProof.Rows L2
mutual
def KV(h:G_):D->b_->Prop
 | .int i,u=>∃t,u=.int i t
 | .tup ds,u=>∃a o ag e,u=.ref a/\h.get? a=some o/\o.cls=.type "tuple"/\o.data=.seq (ag:List b_).toArray e/\KVs h ds ag
 | _,_=>False
def KVs(h:G_):List D->List b_->Prop
 | [],[]=>True
 | d::ds,u::us=>KV h d u/\KVs h ds us
 | _,_=>False
end
mutual
noncomputable def kyB:D->Bool
 | .int _=>true
 | .tup ds=>kyA ds
 | _=>false
noncomputable def kyA:List D->Bool
 | []=>true
 | d::ds=>kyB d&&kyA ds
end
section
variable{H:Hp}{s:c_}
mutual
theorem Aa(I:Inv X aa U H s):∀(d:D) (x:V) (u:b_),kyB d=true->Is X.K H d x->RelV x u->KV s.heap d u
 | .int i,x,u,_,h,r=>by
  rw[tJ h] at r;obtain⟨t,rfl⟩:=r;rw[KV];exact⟨t,rfl⟩
 | .tup ds,x,u,ky,h,r=>by
  obtain⟨a,xs,rfl,h1,h2⟩:=tR h;cases r;obtain⟨ag,r1,t1,_⟩:=I.tuple h1;obtain⟨o,e1,e2,n,e3⟩:=t1;rw[kyB] at ky;rw[KV];exact⟨a,o,ag,n,rfl,e1,e2,e3,GL I ds xs ag ky h2 r1⟩
 | .non,_,_,ky,_,_=>by simp[kyB] at ky
 | .bl _,_,_,ky,_,_=>by simp[kyB] at ky
 | .str _,_,_,ky,_,_=>by simp[kyB] at ky
 | .lst _,_,_,ky,_,_=>by simp[kyB] at ky
 | .exc _ _,_,_,ky,_,_=>by simp[kyB] at ky
theorem GL(I:Inv X aa U H s):∀(ds:List D) (xs:List V) (us:List b_),kyA ds=true->IsA X.K H ds xs->Vals xs us->KVs s.heap ds us
 | [],xs,us,_,h,r=>by
  have:=h.nil_inv;subst this;cases r;rw[KVs];trivial
 | d::ds,xs,us,ky,h,r=>by
  obtain⟨x,xr,rfl,h1,h2⟩:=h.cons_inv;cases r with
  | cons r1 r2 =>
   rw[kyA,u_] at ky;rw[KVs];exact⟨Aa I d x _ ky.1 h1 r1,GL I ds xr _ ky.2 h2 r2⟩
end
end
section
variable {prog:v_}{w:F_}{E:b_->c_->Prop}
mutual
noncomputable def hD:D->Int
 | .int i=>hashInt i
 | .tup ds=>reduceHash (tupleHashOf (hDs ds))
 | _=>0
noncomputable def hDs:List D->List Int
 | []=>[]
 | d::ds=>hD d::hDs ds
end
mutual
theorem Dd:∀(d:D) (u:b_) (A:Uh) (s:c_) (Q:Int->c_->Prop),KV s.heap d u->A.units+dep d < UI->(∀tk,Q (hD d) { s with toks:=tk })->o_ (q_ prog w) A (pyHash u) Q E s
 | .int i,u,A,s,Q,x,hu,q=>by
  rw[KV] at x;obtain⟨t,rfl⟩:=x;exact wpAny_pyHash_int (by have:=q (s.toks+1);rw[hD] at this;exact this)
 | .tup ds,u,A,s,Q,x,hu,q=>by
  rw[KV] at x;obtain⟨a,o,ag,e,rfl,x1,x2,x3,x4⟩:=x;rw[dep] at hu;refine pyHash_slot (T:= "tuple") ⟨o,x1,x2⟩ YL F.entry_tuple_hash (F.args_tuple_hash_1 _) (beq_builtin_none _) (.inr (by omega)) ?_;refine a_ (m:=tupleItemsOf (.ref a)) (wpAny_tupleItemsOf x1 x3 (a_ ?_));rw[←Xg];refine Hs ds ag A.in1 s #[] _ x4 (by show A.units+1+_ < _;omega) λtk b hb=>?_
  refine a_ (m:=mkInt (tupleHashOf b.toList)) (wpAny_mkInt (f_ ⟨_,_,rfl,?_⟩));rw[hb];have:=q (tk+1);rw[hD] at this;exact this
 | .non,_,_,_,_,x,_,_=>by simp[KV] at x
 | .bl _,_,_,_,_,x,_,_=>by simp[KV] at x
 | .str _,_,_,_,_,x,_,_=>by simp[KV] at x
 | .lst _,_,_,_,_,x,_,_=>by simp[KV] at x
 | .exc _ _,_,_,_,_,x,_,_=>by simp[KV] at x
theorem Hs:∀(ds:List D) (us:List b_) (A:Uh) (s:c_) (b:Array Int) (Q:Array Int->c_->Prop),KVs s.heap ds us->A.units+depA ds < UI->(∀tk b',b'.toList=b.toList++hDs ds->Q b' { s with toks:=tk }) →
  o_ (q_ prog w) A (forIn us b λx r=>do let h ←pyHash x;pure unit;pure (Zo (r.push h))) Q E s
 | [],us,A,s,b,Q,x,hu,q=>by
  cases us with
  | cons u us=>simp[KVs] at x
  | nil =>
   rw[Wa];exact f_ (q s.toks b (by simp[hDs]))
 | d::ds,us,A,s,b,Q,x,hu,q=>by
  cases us with
  | nil=>simp[KVs] at x
  | cons u us =>
   rw[KVs] at x;rw[depA] at hu;rw[Vf];refine a_ (a_ (Dd d u A s _ x.1 (by omega) λtk=>a_ (f_ (f_ ?_))));exact Hs ds us A { s with toks:=tk } _ Q x.2 (by omega) λkO b' hb=>q kO b' (by rw[hb,hDs];simp)
end
mutual
theorem Cf:∀(d:D) (u:b_) (n:Nat) (A:Uh) (s:c_) (Q:Bool->c_->Prop),KV s.heap d u->dep d<=n->Q true s->o_ (q_ prog w) A (eqIsQuiet n u) Q E s
 | .int i,u,n,A,s,Q,x,hn,q=>by
  rw[KV] at x;obtain⟨t,rfl⟩:=x;exact UZ (eqIsQuiet_byValue n rfl) q
 | .tup ds,u,n,A,s,Q,x,hn,q=>by
  rw[KV] at x;obtain⟨a,o,ag,e,rfl,x1,x2,x3,x4⟩:=x;rw[dep] at hn;obtain⟨n,rfl⟩:∃k,n=k+1:=⟨n - 1,by omega⟩;have hT:s.TypeIs (.ref a) "tuple":=⟨o,x1,x2⟩;unfold eqIsQuiet;refine a_ (Xo hT F.slot_tuple_eq.lookup ?_);refine a_ (m:=Yu (.ref a) (.type "tuple")) (U5 hT isSubtype_tuple_tuple ?_);simp only[VQ,VR,if_false];refine a_ (Uv x1 x3 (a_ ?_));show o_ _ _ (forIn ag.toArray _ _) _ _ s;rw[←Xg];refine FS ds ag n A s _ x4 (by omega) ?_;exact f_ q
 | .non,_,_,_,_,_,x,_,_=>by simp[KV] at x
 | .bl _,_,_,_,_,_,x,_,_=>by simp[KV] at x
 | .str _,_,_,_,_,_,x,_,_=>by simp[KV] at x
 | .lst _,_,_,_,_,_,x,_,_=>by simp[KV] at x
 | .exc _ _,_,_,_,_,_,x,_,_=>by simp[KV] at x
theorem FS:∀(ds:List D) (us:List b_) (n:Nat) (A:Uh) (s:c_) (Q:Option Bool×PUnit->c_->Prop),KVs s.heap ds us->depA ds<=n->Q (none,()) s →
  o_ (q_ prog w) A (forIn us (none,()) λy r=>do
   let __do_lift ←eqIsQuiet n y
   if(!__do_lift)=true then pure (XX (some false,())) else do pure unit;pure (Zo (none,()))) Q E s
 | [],us,n,A,s,Q,x,hn,q=>by
  cases us with
  | cons u us=>simp[KVs] at x
  | nil =>
   rw[Wa];exact f_ q
 | d::ds,us,n,A,s,Q,x,hn,q=>by
  cases us with
  | nil=>simp[KVs] at x
  | cons u us =>
   rw[KVs] at x;rw[depA] at hn;rw[Vf];refine a_ (a_ (Cf d u n A s _ x.1 (by omega) ?_));rw[if_neg (by simp)];refine a_ (f_ (f_ ?_));exact FS ds us n A s Q x.2 (by omega) q
end
mutual
theorem zR:∀(d:D) (u:b_) (n:Nat) (A:Uh) (s:c_) (Q:Bool->c_->Prop),KV s.heap d u->dep d<=n->Q false s->o_ (q_ prog w) A (Vw n u) Q E s
 | .int i,u,n,A,s,Q,x,hn,q=>by
  rw[KV] at x;obtain⟨t,rfl⟩:=x;unfold Vw;exact f_ q
 | .tup ds,u,n,A,s,Q,x,hn,q=>by
  rw[KV] at x;obtain⟨a,o,ag,e,rfl,x1,x2,x3,x4⟩:=x;rw[dep] at hn;obtain⟨n,rfl⟩:∃k,n=k+1:=⟨n - 1,by omega⟩;have look:WG (q_ prog w) s.heap (YX (.ref a)) o.cls:=(WG.ld x1).andThen .now;rw[x2] at look;unfold Vw;refine a_ (look.here ?_);dsimp only;rw[if_pos (by decide)];refine a_ (f_ ?_);simp only[VQ,VR,if_false];refine a_ (Uv x1 x3 (a_ ?_));show o_ _ _ (forIn ag.toArray _ _) _ _ s;rw[←Xg];refine Hg ds ag n A s _ x4 (by omega) ?_;exact f_ q
 | .non,_,_,_,_,_,x,_,_=>by simp[KV] at x
 | .bl _,_,_,_,_,_,x,_,_=>by simp[KV] at x
 | .str _,_,_,_,_,_,x,_,_=>by simp[KV] at x
 | .lst _,_,_,_,_,_,x,_,_=>by simp[KV] at x
 | .exc _ _,_,_,_,_,_,x,_,_=>by simp[KV] at x
theorem Hg:∀(ds:List D) (us:List b_) (n:Nat) (A:Uh) (s:c_) (Q:Option Bool×PUnit->c_->Prop),KVs s.heap ds us->depA ds<=n->Q (none,()) s →
  o_ (q_ prog w) A (forIn us (none,()) λy r=>do
   let __do_lift ←Vw n y
   if __do_lift=true then pure (XX (some true,())) else do pure unit;pure (Zo (none,()))) Q E s
 | [],us,n,A,s,Q,x,hn,q=>by
  cases us with
  | cons u us=>simp[KVs] at x
  | nil =>
   rw[Wa];exact f_ q
 | d::ds,us,n,A,s,Q,x,hn,q=>by
  cases us with
  | nil=>simp[KVs] at x
  | cons u us =>
   rw[KVs] at x;rw[depA] at hn;rw[Vf];refine a_ (a_ (zR d u n A s _ x.1 (by omega) ?_));rw[if_neg h_];refine a_ (f_ (f_ ?_));exact Hg ds us n A s Q x.2 (by omega) q
end
mutual
theorem Gp:∀(d:D) (u:b_) (n:Nat) (A:Uh) (s:c_) (Q:Bool->c_->Prop),KV s.heap d u->dep d<=n->Q true s->o_ (q_ prog w) A (WI n u) Q E s
 | .int i,u,n,A,s,Q,x,hn,q=>by
  rw[KV] at x;obtain⟨t,rfl⟩:=x;unfold WI;exact f_ q
 | .tup ds,u,n,A,s,Q,x,hn,q=>by
  rw[KV] at x;obtain⟨a,o,ag,e,rfl,x1,x2,x3,x4⟩:=x;rw[dep] at hn;obtain⟨n,rfl⟩:∃k,n=k+1:=⟨n - 1,by omega⟩;have hT:s.TypeIs (.ref a) "tuple":=⟨o,x1,x2⟩;unfold WI;refine a_ (Xo hT YL.lookup ?_);refine a_ (m:=seqItems? (.ref a)) (Uv x1 x3 (a_ ?_));show o_ _ _ (forIn ag.toArray _ _) _ _ s;rw[←Xg];refine FR ds ag n A s _ x4 (by omega) ?_;exact f_ q
 | .non,_,_,_,_,_,x,_,_=>by simp[KV] at x
 | .bl _,_,_,_,_,_,x,_,_=>by simp[KV] at x
 | .str _,_,_,_,_,_,x,_,_=>by simp[KV] at x
 | .lst _,_,_,_,_,_,x,_,_=>by simp[KV] at x
 | .exc _ _,_,_,_,_,_,x,_,_=>by simp[KV] at x
theorem FR:∀(ds:List D) (us:List b_) (n:Nat) (A:Uh) (s:c_) (Q:Option Bool×PUnit->c_->Prop),KVs s.heap ds us->depA ds<=n->Q (none,()) s →
  o_ (q_ prog w) A (forIn us (none,()) λy r=>do
   let __do_lift ←WI n y
   if(!__do_lift)=true then pure (XX (some false,())) else do pure unit;pure (Zo (none,()))) Q E s
 | [],us,n,A,s,Q,x,hn,q=>by
  cases us with
  | cons u us=>simp[KVs] at x
  | nil =>
   rw[Wa];exact f_ q
 | d::ds,us,n,A,s,Q,x,hn,q=>by
  cases us with
  | nil=>simp[KVs] at x
  | cons u us =>
   rw[KVs] at x;rw[depA] at hn;rw[Vf];refine a_ (a_ (Gp d u n A s _ x.1 (by omega) ?_));rw[if_neg (by simp)];refine a_ (f_ (f_ ?_));exact FR ds us n A s Q x.2 (by omega) q
end
end
end DL
namespace DL
open PySem PySem.W PySem.Spec PyProof.Rows L2 PySem.SetTable
section
variable{prog:v_}{w:F_}{E:b_->c_->Prop}{s:c_}
theorem TabOk.fits{t:Ub}{es:Array (Int×b_)}(T:TabOk t es):t.fits es.size=true:=by
 have:=T.few;have:=T.sz;unfold Ub.fits Ub.fill;rw[T.nd];simp[T.sz];omega
theorem TabOk.gave{t:Ub}{es:Array (Int×b_)}(T:TabOk t es):t.gaveWay=false:=by
 unfold gaveWay
 rcases T.few.2 with h | h | h
 ·rw[h];decide
 ·rw[h.1];decide
 ·rw[h.1];decide
theorem My{a:g_}{o:Obj}{es:Array (Int×b_)}{t:Ub}(ho:s.heap.get? a=some o)(eS:o.data=.set es ep t)(T:TabOk t es){x:b_}{h:Int}(hV:∀i (hi:i < es.size),∃b,es[i].2=.ref b)(eq:∀i (hi:i < es.size),es[i].1=h->PySem.SeqAt.EqAt A s es[i].2 x (eqf i))(seen:t.led=false->∀Q:Bool->c_->Prop,Q false s->o_ (q_ prog w) A (Vx x ((es.filter (·.1 == h)).toList.map (·.2))) Q E s){K:Nat}(hK:sl t.mask h K∉t.place)(hk:∀k,k < K->sl t.mask h k∈t.place)(eT:K < 10*(t.mask+14)){Q:SetFound->c_->Prop}(kP:∀i (hi:i < es.size),es[i].1=h->eqf i=true->Q (.there none) s)(free:(∀i (hi:i < es.size),es[i].1=h->eqf i=false)->Q (.free (sl t.mask h K) false) s):
  ∀(f k:Nat) (b9:Option Probe),k<=K->K - k < f->b9.getD (t.probeStart h)=pth t.mask h k->(∀bF,bF < k->∀j (hj:j < es.size) (bE:j < t.place.size),t.place[j]=sl t.mask h bF->es[j].1=h->eqf j=false) →
   o_ (q_ prog w) A (setSearchFrom a x h true f b9) Q E s:=by
 intro f
 induction f with
 | zero=>intro k b9 h1 h2;omega
 | succ f ih =>
  intro k b9 h1 h2 hs fO;unfold setSearchFrom;refine a_ (TX ho eS T.fits ?_);dsimp only;rw[T.gave,if_neg h_]
  have pr:∀m,Wr t (hA es) h (10*Zs t.mask) (pth t.mask h k)=some m->t.probe (W.hashAt es) h (b9.getD (t.probeStart h))=some m:=λm e=>by
   rw[hs];exact e
  rcases EQ T hK hk (10*Zs t.mask) k h1 (by unfold Zs;omega) with⟨k',i,hi,bq,a1,a2,a3,a4,a5,a6⟩ | ⟨a1,a2⟩
  ·have e:=pr _ a5
   change t.probe _ h _=_ at e
   have e':t.probe (λi=>(es[i]?.map (·.1)).getD 0) h (b9.getD (t.probeStart h))=some (.candidate (sl t.mask h k') i (pth t.mask h (k'+1))):=e;show o_ _ _ (match t.probe (λi=>(es[i]?.map (·.1)).getD 0) h (b9.getD (t.probeStart h)) with | some met=>_ | _=>_) _ _ _;rw[e'];dsimp only;obtain⟨b,eb⟩:=hV i hi;have gi:es[i]?=some es[i]:=l_ hi;have pG:t.slot (sl t.mask h k')=.live i:=by rw[←a3];exact G7 T.ris bq
   have mY:=eq i hi a4;rw[eb] at mY;have ask:t.led=true\/t.led=false:=by cases t.led<;>simp
   rcases ask with led | led
   all_goals
    first
     | (rw[led,VQ,if_neg h_])
     | (rw[led,Bool.not_false,if_pos rfl];refine a_ (seen led _ ?_);rw[if_neg h_])
    rw[gi];dsimp only;rw[eb];refine a_ (TZ (mY prog w _ _ (a_ (TX ho eS T.fits ?_))));dsimp only;cases c:eqf i with
    | true =>
     rw[if_pos (by rfl)];exact f_ (kP i hi a4 c)
    | false =>
     rw[if_neg (by decide)];have sm:t.sameMemory t.moves t.mask=some true:=by unfold sameMemory;simp
     rw[sm];dsimp only;rw[if_pos rfl,pG];dsimp only;rw[gi];dsimp only;rw[eb];refine a_ (wpAny_isSame_ref_self (a_ (f_ ?_)));rw[if_pos rfl];dsimp only;rw[if_neg h_];refine ih (k'+1) _ (by omega) (by omega) rfl λbF b1 j hj bE ej hh=>?_
     by_cases z1:bF < k
     ·exact fO bF z1 j hj bE ej hh
     ·by_cases z2:bF=k'
      ·have:j=i:=by
        rw[z2,←a3] at ej
        rcases Vc j i with l | l | l
        ·have:=T.ris j i bE bq l;omega
        ·exact l
        ·have:=T.ris i j bq bE l;omega
       subst this;exact c
      ·exact absurd hh (a6 bF (by omega) (by omega) j hj bE ej)
  ·have e':t.probe (λi=>(es[i]?.map (·.1)).getD 0) h (b9.getD (t.probeStart h))=some (.empty (sl t.mask h K) none):=pr _ a1;show o_ _ _ (match t.probe (λi=>(es[i]?.map (·.1)).getD 0) h (b9.getD (t.probeStart h)) with | some met=>_ | _=>_) _ _ _;rw[e'];dsimp only;refine f_ (free λi hi hh=>?_);have bq:i < t.place.size:=by rw[T.sz];exact hi
   obtain⟨c,c1,c2⟩:=T.reach i hi bq;rw[hh] at c1 c2
   have cK:c < K:=by
    rcases Vc c K with l | l | l
    ·exact l
    ·subst l;exact absurd (by rw[c1];exact UX bq) hK
    ·exact absurd (c2 K l) hK
   by_cases z:c < k
   ·exact fO c z i hi bq c1.symm hh
   ·exact absurd hh (a2 c (by omega) cK i hi bq c1.symm)
end
section
variable{prog:v_}{w:F_}{E:b_->c_->Prop}{s:c_}
def SetAt(h:G_)(a:g_)(led:Bool)(es:Array (Int×b_)):Prop:=∃o ep t,h.get? a=some o/\o.cls=.type "set"/\o.data=.set es ep t/\TabOk t es/\t.led=led
theorem Fk{h:G_}{a:g_}{o:Obj}{es es':Array (Int×b_)}{t t':Ub}(ho:h.get? a=some o)(hd:o.data=.set es ep t):(h.update a (putSet es' t')).get? a=some { o with data:=.set es' (ep+1) t' }:=by
 have e:=putSet_of es' t' hd;have:=Uj (putSet es' t') ho (by rw[e];rfl);rw[e] at this;exact this
theorem Qm{a:g_}{led:Bool}{es:Array (Int×b_)}{b:g_}{h:Int}{Q:Bool->c_->Prop}(S:SetAt s.heap a led es)(few:(∀i (hi:i < es.size),es[i].1=h->eqf i=false)->es.size<=59)(hV:∀i (hi:i < es.size),∃b,es[i].2=.ref b)(eq:∀i (hi:i < es.size),es[i].1=h->PySem.SeqAt.EqAt A s es[i].2 (.ref b) (eqf i))(seen:∀Q:Bool->c_->Prop,Q false s->o_ (q_ prog w) A (Vx (.ref b) ((es.filter (·.1 == h)).toList.map (·.2))) Q E s)(value:∀Q:Bool->c_->Prop,Q true s->o_ (q_ prog w) A (WI 8 (.ref b)) Q E s)(old:∀i (hi:i < es.size),es[i].1=h->eqf i=true->Q false s)(new:(∀i (hi:i < es.size),es[i].1=h->eqf i=false)->∀h' es',SetAt h' a led es'->(∀e,e∈es'↔e=(h,.ref b)\/e∈es)->es'.size=es.size+1->KeptBut a s.heap h'->Q true { s with heap:=h' }):
  o_ (q_ prog w) A (setAddHashed a (.ref b) h) Q E s:=by
 have line:200<=z_:=by rw[TH];decide
 obtain⟨o,ep,t,ho,hc,eS,T,tl⟩:=S;obtain⟨K,k1,k2,k3⟩:=T.free h;have fits:=T.fits;unfold setAddHashed;refine TZ ?_;unfold setAddHashedIn;refine a_ (TX ho eS fits ?_);dsimp only;rw[if_neg (by simp[byScan,b_.scannable])];unfold setSearch;refine a_ (My ho eS T hV eq (λ_=>seen) k2 k3 k1 (λi hi hh ee=>?_) (λba=>?_) 100000 0 none (Tz _) ?_ rfl λbF z=>by omega)
 ·exact f_ (old i hi hh ee)
 ·have few:=few ba;dsimp only;refine a_ (TX ho eS fits ?_);dsimp only;obtain⟨p1,p2,p3,p4,p5,p6,p7,p8,p9,kQ,mZ⟩:=Pb T (h:=h) (x:=.ref b) k2 k3;obtain⟨q,pH⟩:∃q,q=t.put (sl t.mask h K):=⟨_,rfl⟩;rw[←pH] at p1 p2 p3 p4 p5 p6 p7 p8 p9 kQ mZ ⊢;rw[p6,T.pl,if_pos rfl];refine a_ (value _ ?_);rw[if_pos rfl];have cY:(Uc es q.2 (h,b_.ref b)).size=es.size+1:=BN kQ _;refine a_ (YM ho eS ?_ (by rw[cY];omega));have g1:=Fk (es':=Uc es q.2 (h,b_.ref b)) (t':=q.1) ho eS;have cZ:KeptBut a s.heap (s.heap.update a (putSet (Uc es q.2 (h,b_.ref b)) q.1)):=λc u ne e=>(N_ _ _ (Tt ne)).trans e
  have dZ:∀e,e∈Uc es q.2 (h,b_.ref b)↔e=(h,.ref b)\/e∈es:=λe=>ES kQ _ e
  obtain⟨h1,pI⟩:∃h1,h1=s.heap.update a (putSet (Uc es q.2 (h,b_.ref b)) q.1):=⟨_,rfl⟩;rw[←pI] at g1 cZ ⊢
  have fill:q.1.fill=es.size+1:=by
   unfold Ub.fill;rw[p1,p9,T.sz];rfl
  by_cases full:q.1.tooFull=true
  ·-- laid anew: five things,32 places
   have m7:(t.mask=7/\es.size+1=5)\/(t.mask=31/\es.size+1=19):=by
    unfold tooFull at full;rw[fill,p5] at full;simp only[ge_iff_le,decide_eq_true_eq] at full;have:=T.few;have:=T.sz
    rcases this with x
    rcases T.few.2 with m | m | m
    ·rw[m] at full;omega
    ·rw[m.1] at full;omega
    ·rw[m.1] at full;omega
   obtain⟨nm,Rn,sa,fw⟩:∃nm,Round nm/\sizeAbove (grown (es.size+1))=nm+1/\((nm=31/\es.size+1<=18)\/(nm=127/\es.size+1<=60)):=by
    rcases m7 with z | z
    ·exact⟨31,round31,by rw[z.2];decide,.inl ⟨rfl,by omega⟩⟩
    ·exact⟨127,round127,by rw[z.2];decide,.inr ⟨rfl,by omega⟩⟩
   rw[if_pos (by simp[full])];unfold setRelay
   have kR:q.1.fits (Uc es q.2 (h,b_.ref b)).size=true:=by
    unfold Ub.fits;rw[fill,cY,p5,p9,T.sz]
    rcases m7 with z | z<;>rw[z.1]<;>simp<;>omega
   refine a_ (a_ (TX (s:={ s with heap:=h1 }) g1 rfl kR ?_));dsimp only;rw[sa,if_neg (by omega)];obtain⟨t2,cu,l1,l2,l3,l4,l5,l6⟩:=K5 (es:=Uc es q.2 (h,b_.ref b)) Rn (by rw[cY];exact fw) q.1.finger (q.1.movedTo nm) q.1.led
   have pJ:q.1.relaid ((Uc es q.2 (h,b_.ref b)).map (·.1)) (grown (es.size+1))=some (t2,cu):=by
    unfold relaid;rw[sa,p6,T.pl];exact l1
   rw[pJ];refine a_ (UZ (a:=(cu.filterMap ((Uc es q.2 (h,b_.ref b))[·]?),t2)) ?_ ?_)
   ·show(if((cu.filterMap ((Uc es q.2 (h,b_.ref b))[·]?)).size != (Uc es q.2 (h,b_.ref b)).size)=true then _ else pure _)=_;rw[l2,bne_self_eq_false,if_neg h_]
   ·dsimp only;refine YM g1 rfl ?_ (by rw[l2,cY];omega);refine f_ (new ba _ _ ⟨_,_,t2,Fk g1 rfl,hc,rfl,l3,by rw[l5,p7,tl]⟩ (λe=>(l6 e).trans (dZ e)) (by rw[l2,cY]) λc u ne e=>(N_ _ _ (Tt ne)).trans (cZ c u ne e))
  ·rw[if_neg (by simp[full])];refine f_ (new ba h1 _ ⟨_,_,q.1,g1,hc,rfl,⟨p1,p2,p3,p4,?_,by rw[p6];exact T.pl,mZ⟩,by rw[p7,tl]⟩ dZ cY cZ);unfold tooFull at full;rw[fill,p5] at full;simp only[ge_iff_le,decide_eq_true_eq] at full;have:=T.sz;rw[p9,p5];refine⟨by omega,?_⟩
   rcases T.few.2 with m | m | m
   ·exact .inl m
   ·refine .inr (.inl ⟨m.1,?_⟩);rw[m.1] at full;omega
   ·refine .inr (.inr ⟨m.1,?_⟩);rw[m.1] at full;omega
 ·rcases T.few.2 with m | m | m
  ·rw[m] at k1;omega
  ·rw[m.1] at k1;omega
  ·rw[m.1] at k1;omega
end
noncomputable def dstep(aj:List D)(d:D):List D:=if aj.any (λe=>deq e d)=true then aj else aj++[d]
noncomputable def dd(ds:List D):List D:=ds.foldl dstep []
theorem Mk(aj:List D)(d:D):aj.length<=(dstep aj d).length:=by
 unfold dstep;split
 ·exact r_ _
 ·simp
theorem Gr:∀(ds aj:List D),aj.length<=(ds.foldl dstep aj).length
 | [],aj=>r_ _
 | d::ds,aj=>H_ (Mk aj d) (Gr ds _)
theorem Lv(ds:List D)(h:i < ds.length):dd (ds.take (i+1))=dstep (dd (ds.take i)) ds[i]:=by
 unfold dd;rw[X9,YN,n_ h];rfl
theorem Nz(ds:List D)(i:Nat):(dd (ds.take i)).length<=(dd ds).length:=by
 unfold dd
 conv=>rhs;rw[←VG i ds,YN]
 exact Gr _ _
theorem G6{d:D}:∀(ds aj:List D),d∈ds.foldl dstep aj->d∈aj\/d∈ds
 | [],aj,h=>.inl h
 | e::ds,aj,h=>by
  rcases G6 ds _ h with h | h
  ·unfold dstep at h;split at h
   ·exact .inl h
   ·rcases I_.mp h with h | h
    ·exact .inl h
    ·exact .inr (by rw[k_.mp h];exact m_)
  ·exact .inr (i_ _ h)
theorem uQ{d:D}(h:d∈dd ds):d∈ds:=by
 rcases G6 ds [] h with h | h
 ·cases h
 ·exact h
section
variable{H:Hp}{s:c_}{prog:v_}{w:F_}{E:b_->c_->Prop}
def Stn(X:Cx)(H:Hp)(e:Int×b_)(d:D):Prop:=e.1=hD d/\∃x,Is X.K H d x/\RelV x e.2
def EsOk(X:Cx)(H:Hp)(es:Array (Int×b_))(L:List D):Prop:=es.size=L.length/\(∀e∈es,∃d∈L,Stn X H e d)/\∀d∈L,∃e∈es,Stn X H e d
noncomputable def isT:D->Bool
 | .tup _=>true
 | _=>false
theorem zt{d:D}{x:V}(ht:isT d=true)(h:Is X.K H d x)(r:RelV x u):∃b,x=.ref b/\u=.ref b:=by
 cases d<;>simp[isT] at ht
 obtain⟨a,xs,rfl,h1,h2⟩:=tR h;cases r;exact⟨a,rfl,rfl⟩
theorem Stn.det(I:Inv X aa U H s){e:Int×b_}{d d':D}(dl:dep d < 1000)(pK:dep d' < 1000)(h:isT d=true)(h':isT d'=true)(x:Stn X H e d)(y:Stn X H e d'):d=d':=by
 obtain⟨_,v,a1,a2⟩:=x;obtain⟨_,v',b1,b2⟩:=y;obtain⟨b,rfl,e1⟩:=zt h a1 a2;obtain⟨b',rfl,e2⟩:=zt h' b1 b2;rw[e1] at e2;cases e2;exact xJ I dl pK a1 b1
theorem Kz{x:b_}{d:D}(hx:KV s.heap d x)(dx:dep d<=8):∀(ys:List b_) (Q:Bool->c_->Prop),(∀y∈ys,∃e,KV s.heap e y/\dep e<=8)->Q false s->o_ (q_ prog w) A (Vx x ys) Q E s:=by
 intro ys Q hy q;unfold Vx;refine a_ ?_
 have bP:∀(ys:List b_) (R:Option Bool×PUnit->c_->Prop) (body:b_->Option Bool×PUnit->Sem (ForInStep (Option Bool×PUnit))),(∀y∈ys,∀R':ForInStep (Option Bool×PUnit)->c_->Prop,R' (.yield (none,())) s->o_ (q_ prog w) A (body y (none,())) R' E s)->R (none,()) s →
   o_ (q_ prog w) A (forIn ys (none,()) body) R E s:=by
  intro ys R body hb r
  induction ys with
  | nil=>rw[Wa];exact f_ r
  | cons y ys ih =>
   rw[Vf];exact a_ (hb y m_ _ (ih λz hz=>hb z (i_ _ hz)))
 refine bP ys _ _ (λy pL R' r'=>?_) (f_ q);obtain⟨e,ky,ke⟩:=hy y pL;dsimp only;split
 all_goals
  split
  ·exact f_ r'
  ·refine a_ (Cf d _ 8 A s _ hx dx ?_);rw[if_neg (by simp)];refine a_ (Cf e _ 8 A s _ ky ke ?_);rw[if_neg (by simp)];refine a_ (zR d _ 8 A s _ hx dx ?_);rw[if_neg h_];refine a_ (zR e _ 8 A s _ ky ke ?_);rw[if_neg h_];exact f_ r'
end
section
variable{H:Hp}{s:c_}{prog:v_}{w:F_}{E:b_->c_->Prop}
def Ext(s0 s:c_):Prop:=∃h tk,s={ s0 with heap:=h,toks:=tk }/\∀b o,s0.heap.get? b=some o->h.get? b=some o
theorem Ext.inv(I:Inv X aa U H s0)(e:Ext s0 s):Inv X aa U H s:=by
 obtain⟨h,tk,rfl,k⟩:=e;exact I.kept (t':=tk) k
theorem Ext.next(e:Ext s0 s)(k:∀b o,b < s0.heap.objs.size->s.heap.get? b=some o->h'.get? b=some o):Ext s0 { s with heap:=h',toks:=tk }:=by
 obtain⟨h,t,rfl,k0⟩:=e;exact⟨h',tk,rfl,λb o x=>k b o (B_ x) (k0 b o x)⟩
def SetOk(ds:List D):Prop:=cmAll ds=true/\ds.all kyB=true/\ds.all isT=true/\depA ds<=8/\(dd ds).length<=28
theorem SetAt.kept{h:G_}{a:g_}{led:Bool}{es:Array (Int×b_)}(S:SetAt h a led es)(k:∀o,h.get? a=some o->h'.get? a=some o):SetAt h' a led es:=by
 obtain⟨o,ep,t,r1,r2⟩:=S;exact⟨o,ep,t,k _ r1,r2⟩
theorem Stn.up{J:Hp}(hJ:∀d x,Is X.K J d x->Is X.K H d x){e:Int×b_}{d:D}(h:Stn X J e d):Stn X H e d:=by
 obtain⟨h1,x,h2,h3⟩:=h;exact⟨h1,x,hJ _ _ h2,h3⟩
theorem DO(I0:Inv X aa U H s0){It:g_}(hS:s0.heap.objs.size<=S)(pM:s0.heap.objs.size<=It){P:Nat->b_->Prop}{St:Nat->G_->Prop}(W:Y3 prog w A.in1 It fp [It] n P St)(m9:S∉fp)(hJ:∀d x,Is X.K J d x->Is X.K H d x)(ha:IsA X.K J ds zs)(ok:SetOk ds)(hn:n=ds.length)(hP:∀i v,P i v->∃x,zs[i]?=some x/\RelV x v)(hu:A.units+20 < UI){led:Bool}{R:Result->c_->Prop}:
  ∀(k i:Nat) (s:c_),n - i=k->i<=n->Ext s0 s->St i s.heap->(∃es,SetAt s.heap S led es/\EsOk X J es (dd (ds.take i))) →
   (∀s' es,Ext s0 s'->SetAt s'.heap S led es->EsOk X J es (dd ds)->R (.ok (.ret .none)) s') →
   VL (q_ prog w) A (.builtin "set.update.loop" ⟨[.ref S,.ref It],[]⟩) R s:=by
 obtain⟨cm,ky,ti,dp,few⟩:=ok;have nc:S≠It:=λe=>m9 (by rw[e];exact W.sub It m_)
 have nb:∀b,b < s0.heap.objs.size->b∉[It]:=λb hb h=>by
  rw[k_.mp h] at hb;exact absurd pM (Nat.not_le.mpr hb)
 have pN:∀b,b < s0.heap.objs.size->b≠S:=λb hb h=>by
  rw[h] at hb;exact absurd hS (Nat.not_le.mpr hb)
 intro k
 induction k with
 | zero =>
  intro i s hk hi ex st eU r;obtain⟨es,s1,s2⟩:=eU;have:i=n:=by omega
  subst this;refine Uq WZ ?_;rw[VS UG _];refine a_ (m:=Wh (.ref It)) (W.done s _ _ st λh' tk keep=>f_ ?_);rw[hn,WJ] at s2;exact r _ es (ex.next λb o hb x=>keep b o (nb b hb) x) (s1.kept λo x=>keep S o (by simpa using nc) x) s2
 | succ k ih =>
  intro i s hk hi ex st eU r;obtain⟨es,s1,s2⟩:=eU;have lt:i < ds.length:=by omega
  refine Uq WZ ?_;rw[VS UG _];refine a_ (m:=Wh (.ref It)) (W.item i s _ _ (by omega) st λv h1 pO pv pP cZ=>?_);obtain⟨x,e1,rv⟩:=hP i v pv;obtain⟨x',fo,hx⟩:=ha.get (n_ lt);rw[e1] at fo;cases fo;have dm:ds[i]∈ds:=Ua lt;have td:isT ds[i]=true:=j_.mp ti _ dm;have kS:dep ds[i]<=8:=H_ (uk dm) dp;obtain⟨b,rfl,rfl⟩:=zt td hx rv;have kT:∀tk,Ext s0 { s with heap:=h1,toks:=tk }:=λtk=>ex.next λb o hb x=>cZ b o (nb b hb) x
  have nn:SetAt h1 S led es:=s1.kept λo x=>cZ S o (by simpa using nc) x
  have I1:=(kT pO).inv I0;have kU:=Aa I1 _ _ _ (j_.mp ky _ dm) (hJ _ _ hx) rv;refine a_ (m:=WB [.ref b] (setAdd S (.ref b))) (TZ ?_);unfold setAdd;refine TZ (a_ (Dd _ _ _ _ _ kU (by show A.units+1+_ < _;omega) λtk=>?_));have I2:=(kT tk).inv I0
  have ch:∀k,∃d',∀hk:k < es.size,d'∈dd (ds.take i)/\Stn X J es[k] d':=λk=>by
   by_cases hk:k < es.size
   ·obtain⟨d',m,q⟩:=s2.2.1 es[k] (UX hk);exact⟨d',λ_=>⟨m,q⟩⟩
   ·exact⟨.non,λh=>absurd h hk⟩
  have gj:∀k (hk:k < es.size),(ch k).choose∈dd (ds.take i)/\Stn X J es[k] (ch k).choose:=λk hk=>(ch k).choose_spec hk
  have sub:∀d'∈dd (ds.take i),d'∈ds:=λd' h=>UP (uQ h)
  have pQ:∀d'∈dd (ds.take i),cmB d' ds[i]=true:=λd' h=>j_.mp (j_.mp cm _ (sub d' h)) _ dm
  have fv:∀d'∈dd (ds.take i),isT d'=true:=λd' h=>j_.mp ti _ (sub d' h)
  have fP:∀d'∈dd (ds.take i),dep d'<=8:=λd' h=>H_ (uk (sub d' h)) dp
  have pR:∀d'∈dd (ds.take i),∀e,Stn X J e d'->KV h1 d' e.2:=λd' h e q=>by
   obtain⟨_,y,q1,q2⟩:=q;exact Aa I2 _ _ _ (j_.mp ky _ (sub d' h)) (hJ _ _ q1) q2
  have ba:(∀k (hk:k < es.size),es[k].1=hD ds[i]->deq (ch k).choose ds[i]=false)->(dd (ds.take i)).any (λe=>deq e ds[i])=false:=λhz=>by
   rw[YO];intro h;obtain⟨d',m,q⟩:=XY.mp h;obtain⟨e,m1,q1⟩:=s2.2.2 d' m;obtain⟨k,hk,rfl⟩:=VW m1;have same:=Stn.det I2 (by have:=fP _ (gj k hk).1;omega) (by have:=fP _ m;omega) (fv _ (gj k hk).1) (fv _ m) ((gj k hk).2.up hJ) (q1.up hJ);have pS:=zg _ _ (pQ d' m) q;have:=hz k hk (by rw[q1.1,pS]);rw[same,q] at this;cases this
  have step:dd (ds.take (i+1))=dstep (dd (ds.take i)) ds[i]:=Lv ds lt
  have cont:∀h2 es',KeptBut S h1 h2->SetAt h2 S led es'->EsOk X J es' (dd (ds.take (i+1)))->VL (q_ prog w) A (.builtin "set.update.loop" ⟨[.ref S,.ref It],[]⟩) R { s with heap:=h2,toks:=tk }:=λh2 es' kb sa eo=>by
   refine ih (i+1) _ (by omega) (by omega) ((kT tk).next (tk:=tk) λb o hb x=>kb b o (pN b hb) x) (W.frame _ _ _ pP λb hb o x=>kb b o (λe=>m9 (e▸hb)) x) ⟨es',sa,eo⟩ r
  refine Qm (s:={ s with heap:=h1,toks:=tk }) (led:=led) (es:=es) (eqf:=λk=>deq (ch k).choose ds[i]) nn (λhz=>?_) (λk hk=>?_) (λk hk _=>?_) (λQ q=>?_) (λQ q=>Gp _ _ 8 _ _ _ kU kS q) (λk hk hh ee=>?_) λhz h2 es' sa mem sz kb=>?_
  ·have l1:=Nz ds (i+1);rw[step,dstep,if_neg (by rw[ba hz];exact h_),R_,US,←s2.1] at l1;omega
  ·obtain⟨m,_,y,q1,q2⟩:=gj k hk;obtain⟨b',_,e⟩:=zt (fv _ m) q1 q2;exact⟨b',e⟩
  ·obtain⟨m,_,y,q1,q2⟩:=gj k hk;exact(wv I2 8 A.in1 (by show A.units+1+8 < _;omega) (by decide) _ _ _ _ _ _ ⟨fP _ m,kS⟩ (hJ _ _ q1) (hJ _ _ hx) q2 rv).2.1
  ·refine Kz (s:={ s with heap:=h1,toks:=tk }) (d:=ds[i]) kU kS _ _ (λy hy=>?_) q;obtain⟨e,m,rfl⟩:=C_.mp hy;have m':e∈es:=(Array.mem_filter.mp (XW.mp m)).1;obtain⟨d',m1,q1⟩:=s2.2.1 e m';exact⟨d',pR d' m1 e q1,fP d' m1⟩
  ·refine f_ ⟨VT UG _,cont h1 es (λb o _ x=>x) nn ?_⟩;rw[step,dstep,if_pos (XY.mpr ⟨_,(gj k hk).1,ee⟩)];exact s2
  ·refine f_ ⟨VT UG _,cont h2 es' kb sa ?_⟩;rw[step,dstep,if_neg (by rw[ba hz];exact h_)];have own:Stn X J (hD ds[i],.ref b) ds[i]:=⟨rfl,_,hx,rv⟩;refine⟨by rw[sz,s2.1];simp,λe he=>?_,λd' cP=>?_⟩
   ·rcases(mem e).mp he with rfl | he
    ·exact⟨_,by simp,own⟩
    ·obtain⟨d',m,q⟩:=s2.2.1 e he;exact⟨d',T6 _ m,q⟩
   ·rcases I_.mp cP with h | h
    ·obtain⟨e,m,q⟩:=s2.2.2 d' h;exact⟨e,(mem e).mpr (.inr m),q⟩
    ·rw[k_.mp h];exact⟨_,(mem _).mpr (.inl rfl),own⟩
end
theorem En:Manifest.owners.lookup (String.ofList ['r','o','t','a','r','e','t','i','_','t','e','s'].reverse)=some Manifest.sig_set_iterator:=by kernel_rfl
theorem wE:Slot "set_iterator" "__next__" "set_iterator.__next__":=.of (owner:= "set_iterator") (n:= "__next__") (by rw[typeLookup_type,Xr];kernel_rfl) (by decide +kernel) (by decide +kernel) (by decide +kernel) (by first | exact .inl (by decide +kernel) | exact .inr (by decide +kernel)) (by rw[isSubtype_type];kernel_rfl)
theorem Fg:entryFor table "set_iterator.__next__"=some Ul.«set_iterator.__next__»:=entryFor_of_tree (by kernel_rfl)
theorem E5(a:b_):argsOk "set_iterator.__next__" ⟨[a],[]⟩:=by
 unfold argsOk;rw[signature?_of (id:= "set_iterator.__next__") (n:=['_','_','t','x','e','n','_','_']) (o:=['r','o','t','a','r','e','t','i','_','t','e','s']) (by kernel_rfl) En]
 kernel_rfl
theorem L':entryFor table "set.__iter__"=some Ul.«frozenset.__iter__»:=entryFor_alias (id':= "frozenset.__iter__") (by kernel_rfl) rfl (by decide +kernel) (by kernel_rfl)
theorem Dy{α:Type}:∀(l:List α) (i:Nat) (h:i < l.length),(l[i]::l.eraseIdx i).Perm l
 | a::l,0,h=>List.Perm.refl _
 | a::l,i+1,h=>by
  rw[List.eraseIdx_cons_succ,List.getElem_cons_succ];exact(swap a _ _).trans ((Dy l i (by simpa using h)).cons a)
theorem FY{α:Type}(next:Nat->Nat):∀(f k:Nat) (left:List α) (bA:Array α),left.length=f->(W0.go next f k left bA).toList.Perm (bA.toList++left)
 | 0,k,left,bA,h=>by
  rw[W0.go,TB.mp h,Uo]
 | f+1,k,left,bA,h=>by
  have lt:next k % left.length < left.length:=ZF _ (by omega);rw[W0.go,n_ lt];dsimp only;refine(FY next f (k+1) _ _ (by rw[List.length_eraseIdx_of_lt lt];omega)).trans ?_;rw[Array.toList_push,YE];exact List.Perm.append_left _ (Dy left _ lt)
theorem LU{α:Type}(next:Nat->Nat)(xs:Array α):(W0 next xs).toList.Perm xs.toList:=by
 have:=FY next xs.size 0 xs.toList #[] (by simp);simpa[W0] using this
section
variable{prog:v_}{w:F_}{E:b_->c_->Prop}{s:c_}
noncomputable def byTx(w:F_):Bool:=w.params.followText "set-order"
noncomputable def walkOf(w:F_)(S:g_)(ep:Nat)(es:Array (Int×b_)):Array (Int×b_):=if byTx w=true then W0 (w.params.setOrder S ep) es else es
theorem xz(w:F_)(S:g_)(ep:Nat)(es:Array (Int×b_)):(walkOf w S ep es).toList.Perm es.toList:=by
 unfold walkOf;split
 ·exact LU _ _
 ·exact List.Perm.refl _
theorem w8(w:F_)(S:g_)(ep:Nat)(es:Array (Int×b_)):(walkOf w S ep es).size=es.size:=by
 have:=(xz w S ep es).length_eq;simpa using this
noncomputable def slotAt(w:F_)(t:Ub)(k:Nat):Nat:=if byTx w=true then 0 else match k with
 | 0=>0
 | k+1=>t.place.getD k 0+1
def SitAt(h:G_)(I S:g_)(slot k n ep:Nat):Prop:=∃o,h.get? I=some o/\o.cls=.type "set_iterator"/\o.data=.fields #[.int slot 0,.int k 0,.ref S,.int n 0,.int ep 0]
def SetIs(h:G_)(S:g_)(es:Array (Int×b_))(ep:Nat)(t:Ub):Prop:=∃o,h.get? S=some o/\o.cls=.type "set"/\o.data=.set es ep t
theorem Jh{w:F_}{t:Ub}{es:Array (Int×b_)}(T:TabOk t es)(hb:byTx w=false)(hk:k<=es.size):VE t.place (slotAt w t k)=k:=by
 unfold slotAt;rw[hb,if_neg h_];have sz:=T.sz;cases k with
 | zero =>
  dsimp only;obtain⟨b1,b2,b3⟩:=x9 T.ris 0
  rcases Yv (VE t.place 0) with h | h
  ·exact h
  ·have:=b2 0 (by omega) h;omega
 | succ k =>
  dsimp only;have lt:k < t.place.size:=by omega
  rw[ZL,dif_pos lt]
  change VE t.place (t.place[k]+1)=k+1
  obtain⟨b1,b2,b3⟩:=x9 T.ris (t.place[k]+1)
  rcases Vc (VE t.place (t.place[k]+1)) (k+1) with l | l | l
  ·have:=b3 k lt (by omega);omega
  ·exact l
  ·have h1:k+1 < t.place.size:=by omega
   have:=b2 (k+1) h1 l;have:=T.ris k (k+1) lt h1 (by omega);omega
theorem Ct{Q:Bool->c_->Prop}(q:Q (byTx w) s):o_ (q_ prog w) A setsByText Q E s:=a_ (W1 (f_ q))
theorem Fj{es:Array (Int×b_)}{t:Ub}(T:TabOk t es)(led:t.led=!byTx w)(hS:SetIs s.heap S es ep t)(hk:k<=es.size){Q:Option (b_×Nat)->c_->Prop}(q:Q ((walkOf w S ep es)[k]?.map λe=>(e.2,slotAt w t (k+1))) s):o_ (q_ prog w) A (ZG S (slotAt w t k) k ep) Q E s:=by
 obtain⟨o,ho,hc,hd⟩:=hS;unfold ZG;refine a_ (TX ho hd T.fits ?_);dsimp only;refine a_ (Ct ?_);cases hb:byTx w with
 | true =>
  rw[if_pos rfl,bne_self_eq_false,if_neg h_];have z:∀k,slotAt w t k=0:=λk=>by unfold slotAt;rw[hb,if_pos rfl]
  rw[z];rw[z] at q;refine a_ ?_;unfold setWalk;refine a_ (TX ho hd T.fits ?_);dsimp only;refine a_ (Ct ?_);rw[hb,if_pos rfl];refine a_ (W1 (f_ (f_ ?_)));unfold walkOf at q;rw[hb,if_pos rfl] at q;exact q
 | false =>
  rw[if_neg h_];show o_ _ _ (if(!t.plain&&decide (es.size > 1))=true then _ else _) _ _ _;rw[T.pl,VQ,Wj,if_neg h_];refine a_ ?_;show o_ _ _ (if(!t.led&&!es.isEmpty)=true then _ else _) _ _ _;rw[led,hb,Bool.not_false,VQ,Wj,if_neg h_];refine f_ (f_ ?_);rw[Jh T hb hk];unfold walkOf at q;rw[hb,if_neg h_] at q;have sz:=T.sz;by_cases lt:k < es.size
  ·have lt':k < t.place.size:=by omega
   rw[l_ lt,l_ lt'];rw[l_ lt] at q;unfold slotAt at q;rw[hb,if_neg h_] at q;simp only[map_some,ZL,lt',dif_pos] at q;exact q
  ·rw[UF (by omega)];rw[UF (by omega)] at q;exact q
end
section
variable{prog:v_}{w:F_}{E:b_->c_->Prop}{s:c_}
theorem E4:Slot "set_iterator" "__iter__" "set_iterator.__iter__":=.of (owner:= "set_iterator") (n:= "__iter__") (by rw[typeLookup_type,Xr];kernel_rfl) (by decide +kernel) (by decide +kernel) (by decide +kernel) (by first | exact .inl (by decide +kernel) | exact .inr (by decide +kernel)) (by rw[isSubtype_type];kernel_rfl)
theorem Oq:entryFor table "set_iterator.__iter__"=some Ul.«dict_keyiterator.__iter__»:=entryFor_alias (id':= "dict_keyiterator.__iter__") (by kernel_rfl) rfl (by decide +kernel) (by kernel_rfl)
theorem N7(a:b_):argsOk "set_iterator.__iter__" ⟨[a],[]⟩:=by
 unfold argsOk;rw[signature?_of (id:= "set_iterator.__iter__") (n:=['_','_','r','e','t','i','_','_']) (o:=['r','o','t','a','r','e','t','i','_','t','e','s']) (by kernel_rfl) En]
 kernel_rfl
theorem SitAt.type{I:g_}{slot:Nat}(h:SitAt s.heap I S slot k n ep):s.TypeIs (.ref I) "set_iterator":=by
 obtain⟨o,h1,h2,_⟩:=h;exact⟨o,h1,h2⟩
theorem SetIs.type{es:Array (Int×b_)}{t:Ub}(h:SetIs s.heap S es ep t):s.TypeIs (.ref S) "set":=by
 obtain⟨o,h1,h2,_⟩:=h;exact⟨o,h1,h2⟩
theorem NL{es:Array (Int×b_)}{t:Ub}(T:TabOk t es)(hS:SetIs s.heap S es ep t){Q:b_->c_->Prop}(q:Q (.ref s.heap.objs.size) { s with heap:=s.heap.push { cls:=.type "set_iterator", data:=.fields #[.int 0 0,.int 0 0,.ref S,.int es.size 0,.int ep 0] } }):o_ (q_ prog w) A (XB (.ref S)) Q E s:=by
 have hT:=hS.type;obtain⟨o,ho,hc,hd⟩:=hS;refine YQ hT F.slot_set_iter (TN F.slot_set_iter hT L' ?_ (F.args_set_iter_1 _));refine a_ (m:=slot0 "__iter__" ⟨[.ref S],[]⟩) (a_ (f_ (f_ ?_)));refine a_ (m:=Ul.Frozenset.sizeOf S) (a_ (V4 ho hd T.fits (f_ ?_)));refine a_ (m:=setDrawn S) ?_;unfold setDrawn;refine a_ (TX ho hd T.fits ?_);dsimp only;refine a_ (Ct (f_ ?_));have z:(!byTx w&&(!t.plain&&decide (es.size > 1)))=false:=by rw[T.pl];simp
 show o_ _ _ (if(!byTx w&&(!t.plain&&decide (es.size > 1)))=true then _ else _) _ _ _;rw[z,if_neg h_];refine a_ (f_ (a_ ?_));unfold setEpoch;refine a_ (TX ho hd T.fits (f_ ?_));exact a_ (Tw (f_ ⟨_,rfl, "set_iterator", _,⟨_,s_ _ rfl,rfl⟩,wE.lookup,q⟩))
theorem MW(hh:A.handled=none){Q:Option b_->c_->Prop}(q:∀h',(∀b o,s.heap.get? b=some o->h'.get? b=some o)->Q none { s with heap:=h' }):
  o_ (q_ prog w) A (newExc (.type "StopIteration") [] >>= λe=>(raiseNew e:Sem PySem.Fin)) (λ_ _=>False) (λe s'=>o_ (q_ prog w) A (Yu e (.type "StopIteration")) (λb fW=>b=true/\Q none fW) (λ_ _=>False) s') s:=by
 refine a_ ?_;unfold newExc newTuple;refine a_ (Tw (a_ (m:=XN _ _) (UZ (a:=b_.none) (by first | rfl | (simp only[XN];rfl)) (Tw ?_ (by size_fits)))) (by size_fits));unfold raiseNew;refine a_ (wpAny_handled ?_);rw[hh];refine a_ (f_ (Y8 ?_));refine U5 (T:= "StopIteration") (b:=true) ⟨_,s_ _ rfl,rfl⟩ XR ⟨rfl,q _ λb o x=>?_⟩;exact e_ _ (e_ _ x)
theorem Pf{I:g_}{es:Array (Int×b_)}{t:Ub}(T:TabOk t es)(led:t.led=!byTx w)(hI:SitAt s.heap I S (slotAt w t k) k es.size ep)(hS:SetIs s.heap S es ep t)(hk:k < es.size){Q:Option b_->c_->Prop}(q:∀v h',(walkOf w S ep es)[k]?.map (·.2)=some v->SitAt h' I S (slotAt w t (k+1)) (k+1) es.size ep->KeptBut I s.heap h'->Q (some v) { s with heap:=h' }):o_ (q_ prog w) A (Wh (.ref I)) Q E s:=by
 have hT:=hI.type;obtain⟨o,ho,hc,hd⟩:=hI;obtain⟨oS,kW,pU,kX⟩:=id hS;unfold Wh;refine a_ (Va (TL (name:=Wm "__next__") hT wE (TN wE hT Fg ?_ (E5 _))));refine a_ (m:=slotArgs "__next__" 0 ⟨[.ref I],[]⟩) (f_ ?_);refine a_ (wpAny_fieldsOf ho hd ?_);refine a_ (V4 kW kX T.fits ?_);rw[if_neg (by simp)];dsimp only;have lt:k < (walkOf w S ep es).size:=by rw[w8];exact hk
 refine a_ (m:=ZG S _ _ _) ?_;simp only[VN];refine Fj T led hS (XA hk) ?_;rw[l_ lt,map_some];dsimp only;refine a_ (UE ho hd (by simp) ?_);obtain⟨h1,e1⟩:∃h1,h1=s.heap.update I (W3 (·.setIfInBounds 0 (Vo ((slotAt w t (k+1):Nat):Int)))):=⟨_,rfl⟩;have iR:=Uj (W3 (·.setIfInBounds 0 (Vo ((slotAt w t (k+1):Nat):Int)))) ho (UT (U0 hd _));have kY:=U0 hd (·.setIfInBounds 0 (Vo ((slotAt w t (k+1):Nat):Int)));have k1:KeptBut I s.heap h1:=λb o ne x=>by rw[e1];exact(N_ _ _ (Tt ne)).trans x
 rw[←e1] at iR ⊢;refine a_ (UE iR kY (by simp) (f_ ⟨_,rfl,f_ (q _ _ (by rw[l_ lt];rfl) ⟨_,Uj _ iR (UT (U0 kY _)),?_,?_⟩ λb o ne x=>(N_ _ _ (Tt ne)).trans (k1 b o ne x))⟩))
 ·exact((WE ..).trans (WE ..)).trans hc
 ·rw[U0 kY];simp[Vo]
theorem IX(hh:A.handled=none){I:g_}{es:Array (Int×b_)}{t:Ub}(T:TabOk t es)(led:t.led=!byTx w)(hI:SitAt s.heap I S (slotAt w t es.size) es.size es.size ep)(hS:SetIs s.heap S es ep t){Q:Option b_->c_->Prop}(q:∀h',KeptBut I s.heap h'->Q none { s with heap:=h' }):o_ (q_ prog w) A (Wh (.ref I)) Q E s:=by
 have hT:=hI.type;obtain⟨o,ho,hc,hd⟩:=hI;obtain⟨oS,kW,pU,kX⟩:=id hS;unfold Wh;refine a_ (Va (TL (name:=Wm "__next__") hT wE (TN wE hT Fg ?_ (E5 _))));refine a_ (m:=slotArgs "__next__" 0 ⟨[.ref I],[]⟩) (f_ ?_);refine a_ (wpAny_fieldsOf ho hd ?_);refine a_ (V4 kW kX T.fits ?_);rw[if_neg (by simp)];dsimp only;refine a_ (m:=ZG S _ _ _) ?_;simp only[VN];refine Fj T led hS (r_ _) ?_;rw[UF (by rw[w8];exact r_ _),Option.map_none];dsimp only;refine a_ (UE ho hd (by simp) ?_);refine TJ (MW (A:=A.in1) (s:={ s with heap:=_ }) (Q:=Q) hh λh' keep=>q h' λb o ne x=>keep b o ((N_ _ _ (Tt ne)).trans x)) (λ_ _ x=>x.elim) λe s' h=>?_
 refine a_ (TJ (wpAny_of_in1 h) (λb fW hb=>?_) λ_ _ x=>x.elim);obtain⟨rfl,hq⟩:=hb;exact f_ hq
theorem LQ(hh:A.handled=none){I:g_}(ne:S≠I){es:Array (Int×b_)}{t:Ub}(T:TabOk t es)(led:t.led=!byTx w):
  Y3 prog w A I [I,S] [I] es.size (λk v=>(walkOf w S ep es)[k]?.map (·.2)=some v) (λk h=>SitAt h I S (slotAt w t k) k es.size ep/\SetIs h S es ep t) where
 sub:=λb hb=>by
  rw[k_.mp hb];exact m_
 frame:=λk h h' st keep=>by
  obtain⟨⟨o,a1,a2⟩,⟨o',b1,b2⟩⟩:=st;exact⟨⟨o,keep I (by simp) o a1,a2⟩,⟨o',keep S (by simp) o' b1,b2⟩⟩
 item:=λk s Q E hk st q=>Pf T led st.1 st.2 hk λv h' e si kb=>by
  refine q v h' s.toks e ⟨si,?_⟩ λb o nb x=>kb b o (λz=>nb (by rw[z];simp)) x
  obtain⟨o',b1,b2⟩:=st.2;exact⟨o',kb S o' ne b1,b2⟩
 done:=λs Q E st q=>IX hh T led st.1 st.2 λh' kb=>q h' s.toks λb o nb x=>kb b o (λz=>nb (by rw[z];simp)) x
 self:=λk s Q E st q=>by
  have hT:=st.1.type;exact YQ hT E4 (TN E4 hT Oq (f_ ⟨_,rfl, "set_iterator", _,hT,wE.lookup,q⟩) (N7 _))
end
section
variable{prog:v_}{w:F_}{E:b_->c_->Prop}{s:c_}
theorem Kf{xs:Array b_}(h:ItemsOf (λk v=>xs[k]?=some v) aj xs.size):aj=xs:=by
 refine Array.ext h.1 λi h1 h2=>?_
 have:=h.2 i aj[i] (l_ h1)
 change xs[i]?=some aj[i] at this
 rw[l_ h2] at this;exact Eq.symm (Tn this)
theorem HW{Q:Bool->c_->Prop}(hT:s.TypeIs (.ref S) "set")(q:Q false s):o_ (q_ prog w) A (listLengthHint (.ref S)) Q E s:=by
 unfold listLengthHint;refine a_ (Xo hT F.slot_set_len.lookup ?_);have sp:splitId "set.__len__"=some ("set", "__len__"):=by decide +kernel
 dsimp only;rw[sp];dsimp only;refine a_ (U5 hT sub_set_self ?_);rw[if_neg (by decide)];exact a_ (YB hT (f_ q))
theorem E3(hh:A.handled=none){es:Array (Int×b_)}{t:Ub}(T:TabOk t es)(led:t.led=!byTx w)(hS:SetIs s.heap S es ep t){Q:List b_->c_->Prop}(q:∀h' tk,(∀b o,s.heap.get? b=some o->h'.get? b=some o)->s.heap.objs.size<=h'.objs.size->Q ((walkOf w S ep es).toList.map (·.2)) { s with heap:=h',toks:=tk }):o_ (q_ prog w) A (ZD (.ref S)) Q E s:=by
 have line:64<=z_:=by rw[TH];decide
 have few:es.size<=60:=by have:=T.few;have:=T.sz;omega
 have nr:S < s.heap.objs.size:=by
  obtain⟨o,ho,_⟩:=hS;exact B_ ho
 unfold ZD;refine a_ (XZ (Uq F.entry_proto_collect ?_));rw[VS F.plain_proto_collect _];refine a_ (m:=newList []) (Tw (f_ ⟨VT YR _,Uq F.entry_list_iadd ?_⟩));rw[VS YR _];obtain⟨h1,e1⟩:∃h1,h1=s.heap.push { cls:=.type "list", data:=.seq ([]:List b_).toArray }:=⟨_,rfl⟩;have dH:h1.objs.size=s.heap.objs.size+1:=by rw[e1,UR]
 have ec:∀b o,s.heap.get? b=some o->h1.get? b=some o:=λb o x=>by rw[e1];exact e_ _ x
 have nu:h1.get? s.heap.objs.size=some { cls:=.type "list", data:=.seq ([]:List b_).toArray }:=by rw[e1];exact s_ _ rfl
 rw[←e1]
 have kZ:SetIs h1 S es ep t:=by
  obtain⟨o,ho,r⟩:=hS;exact⟨o,ec _ _ ho,r⟩
 have fS:s.heap.objs.size≠S:=Wg nr;show o_ _ A.in1 (listExtendWith (.ref s.heap.objs.size) (.ref S) (.ref s.heap.objs.size)) _ _ { s with heap:=h1 };unfold listExtendWith;refine a_ (YB (s:={ s with heap:=h1 }) kZ.type ?_);rw[if_neg (by simp[Ul.List.listSameRef,fS])];refine a_ (NL (s:={ s with heap:=h1 }) T kZ ?_);obtain⟨I,eI⟩:∃I,I=h1.objs.size:=⟨_,rfl⟩;obtain⟨h2,e2⟩:∃h2,h2=h1.push { cls:=.type "set_iterator", data:=.fields #[.int 0 0,.int 0 0,.ref S,.int es.size 0,.int ep 0] }:=⟨_,rfl⟩;have hW:∀b o,h1.get? b=some o->h2.get? b=some o:=λb o x=>by rw[e2];exact e_ _ x
 have nv:SitAt h2 I S (slotAt w t 0) 0 es.size ep:=⟨_,by rw[e2,eI];exact s_ _ rfl,rfl,by unfold slotAt;split<;>rfl⟩
 have nw:SetIs h2 S es ep t:=by
  obtain⟨o,ho,r⟩:=kZ;exact⟨o,hW _ _ ho,r⟩
 show o_ _ _ _ _ _ { s with heap:=h1.push _ };rw[←e2];rw[←eI];refine a_ (TZ (HW (s:={ s with heap:=h2 }) nw.type ?_));rw[if_pos (by decide +kernel)];refine a_ (Ys (a_ (m:=Ul.List.listTouch (.ref s.heap.objs.size)) ?_));have jN:=hW _ _ nu;refine a_ (m:=updateSeq s.heap.objs.size (·.push .none)) (wpAny_updateSeq jN rfl ?_ (by simp) (by simp));have jO:=Uj (Xc (·.push b_.none)) jN rfl;refine wpAny_updateSeq jO rfl ?_ (by show(#[b_.none]:Array b_).size<=_;simp;omega) (by simp);have jP:=Uj (Xc (·.pop)) jO rfl;obtain⟨h4,e4⟩:∃h4,h4=((h2.update s.heap.objs.size (Xc (·.push b_.none))).update s.heap.objs.size (Xc (·.pop))):=⟨_,rfl⟩;have cJ:KeptBut s.heap.objs.size h2 h4:=λb o ne x=>by rw[e4];exact(N_ _ _ (Tt ne)).trans ((N_ _ _ (Tt ne)).trans x)
 rw[←e4] at jP;show o_ _ _ _ _ _ { s with heap:=G_.update (G_.update h2 _ _) _ _ };rw[←e4];have gm:s.heap.objs.size≠I:=by rw[eI,dH];exact Q_ (Vy _)
 have ny:S≠I:=by rw[eI,dH];exact Q_ (Vb nr)
 have W:=(LQ (prog:=prog) (w:=w) (A:=A.in1) (ep:=ep) (by exact hh) ny T led).toS;refine f_ ⟨VT F.plain_extend_loop _,codeAny_extend_loopS W (by omega) s.heap.objs.size (by simp[gm,fS]) _ es.size 0 _ _ _ rfl (Tz _) ?_ jP (ItemsOf.nil _) λs' aj c mv here it=>?_⟩
 ·obtain⟨o,a1,a2⟩:=nv;obtain⟨o',b1,b2⟩:=nw;exact⟨⟨o,cJ _ _ (Tt gm) a1,a2⟩,⟨o',cJ _ _ (Tt fS) b1,b2⟩⟩
 ·obtain⟨h',g',d',kO,jY⟩:=s';have eg:g'=s.gens:=mv.gens;have ed:d'=s.drawn:=mv.drawn;have eo:jY=s.os:=mv.os;subst eg;subst ed;subst eo;refine a_ (wpAny_load here (f_ ?_));have size:es.size=((walkOf w S ep es).map (·.2)).size:=by rw[Array.size_map,w8]
  have all:aj=(walkOf w S ep es).map (·.2):=Kf (by
   rw[←size];refine⟨it.1,λj v hj=>?_⟩;have:=it.2 j v hj;show((walkOf w S ep es).map (·.2))[j]?=some v;rw[Array.getElem?_map]
   exact this)
  have lt':s.heap.objs.size < h'.objs.size:=B_ here;have:=q h' kO (λb o x=>mv.heap b o (λhb=>?_) (cJ b o (Q_ (B_ x)) (hW _ _ (ec _ _ x)))) (XA lt')
  ·rw[all];simpa using this
  ·have lb:=B_ x
   rcases w_.mp hb with z | z
   ·exact Q_ lb z
   ·rw[k_.mp z,eI,dH] at lb;exact absurd lb (Nat.not_lt.mpr (ZE _))
end
section
variable{prog:v_}{w:F_}{E:b_->c_->Prop}{s:c_}
noncomputable def fresh0(w:F_):Obj:={ cls:=.type "set", dict:=none,data:=.set #[] 0 (.fresh 0 0 (!byTx w)) }
theorem Hf(a:b_){Q:b_->c_->Prop}(q:Q (.ref s.heap.objs.size) { s with heap:=s.heap.push (fresh0 w) }):
  VL (q_ prog w) A (.call (.builtin "set.__new__") ⟨[.type "set", a],[]⟩) (wants Q E) s:=by
 refine Xp (a_ (m:=checkBuiltinCall "set.__new__" ⟨[.type "set", a],[]⟩) (UZ (PySem.F.newCall_set_1 a) (f_ ⟨VT F.plain_set_new _,Uq F.entry_set_new ?_⟩)));rw[VS F.plain_set_new _];unfold Ul.«set.__new__» newClass;have fN:=sub_set_self;obtain⟨hp,g,d,tk,os⟩:=s;dsimp only
 wp_walk
 refine W1 (f_ (a_ (wpAny_alloc (f_ (f_ q)))))
theorem Hu(w:F_):TabOk (.fresh 0 0 (!byTx w)) #[]:=by
 refine⟨rfl,λi j hi=>?_,rfl,λi hi=>?_,⟨Tz _,.inr (.inr ⟨rfl,Tz _⟩)⟩,rfl,λi hi=>?_⟩
 all_goals exact absurd hi (Xn _)
variable{H:Hp}
theorem Pv(I0:Inv X aa U H s)(hh:A.handled=none){ak:List b_}(hl:s.heap.IsList l ak.toArray)(hJ:∀d x,Is X.K J d x->Is X.K H d x)(ha:IsA X.K J ds zs)(hv:Vals zs ak)(ok:SetOk ds)(hu:A.units+50 < UI){Q:b_->c_->Prop}(q:∀S s' es,Ext s s'->s.heap.objs.size<=S->SetAt s'.heap S (!byTx w) es->EsOk X J es (dd ds)->Q (.ref S) s'):o_ (q_ prog w) A (call (.type "set") [.ref l]) Q E s:=by
 obtain⟨c,tl,nz⟩:=T7.mro;have k6:=T7.made;have fN:=T7.sub;refine Yq (Xp (f_ ⟨Ws _ (by decide +kernel),Uq YS ?_⟩));rw[Uh.under_plain (Xs "set" [.ref l] []) rfl];have h1:=T7.notType;have h2:=T7.canCreate;have pV:=PySem.F.typeCall_set_1 (.ref l)
 repeat any_goals first | assumption | wp_step
 refine Uk (Hf (w:=w) (.ref l) (E:=E) (Q:=λobj aD=>obj=.ref s.heap.objs.size/\aD={ s with heap:=s.heap.push (fresh0 w) }) ⟨rfl,rfl⟩) λr aD hr=>?_
 rcases r with e | fl
 ·exact hr
 cases fl with
 | ret obj =>
  obtain⟨rfl,rfl⟩:=hr;have hS:(s.heap.push (fresh0 w)).get? s.heap.objs.size=some (fresh0 w):=s_ _ rfl;have hT:c_.TypeIs { s with heap:=s.heap.push (fresh0 w) } (.ref s.heap.objs.size) "set":=⟨_,hS,rfl⟩;have kC:=T7.init.lookup;have pW:=T7.init.bind (.ref s.heap.objs.size)
  repeat any_goals first | assumption | wp_step
  refine Uk (U3 (R:=wants (λr cR=>r=.none/\∃es,Ext s cR/\SetAt cR.heap s.heap.objs.size (!byTx w) es/\EsOk X J es (dd ds)) E) T7.init.plain F.entry_set_init (check_set_init_1 hT ?_)) λhZ cR cL=>?_
  ·obtain⟨ol,ic,dR,nl,ig⟩:=hl;have ii:l < s.heap.objs.size:=B_ ic;obtain⟨nA,fA,k7,ek⟩:=ol;simp only at dR ig;subst dR;subst ig;have eV:(s.heap.push (fresh0 w)).get? l=some { cls:=.type "list", dict:=fA,data:=.seq ak.toArray nl,slots:=ek }:=e_ _ ic;have nB:=PySem.F.sub_list_set;have nC:=PySem.F.sub_list_frozenset;have gf:(type "list" == type "dict")=false:=(by decide);have cp:(s.heap.push (fresh0 w)).IsList l ak.toArray:=⟨_,eV,rfl,nl,rfl⟩;obtain⟨h1,e1⟩:∃h1,h1=s.heap.push (fresh0 w):=⟨_,rfl⟩;have dH:h1.objs.size=s.heap.objs.size+1:=by rw[e1,UR]
   have ec:∀b o,s.heap.get? b=some o->h1.get? b=some o:=λb o x=>by rw[e1];exact e_ _ x
   rw[←e1] at hS eV cp;show o_ _ _ _ _ _ { s with heap:=s.heap.push (fresh0 w) };rw[←e1];have k8:h1.get? s.heap.objs.size=some { cls:=.type "set", dict:=none,data:=.set #[] 0 (.fresh 0 0 (!byTx w)) }:=hS;unfold Ul.«set.__init__» noKeywords updateFrom;generalize hPI:XB=PI
   wp_walk
   subst hPI;refine UV (s:={ s with heap:=h1 }) cp (a_ (XZ ?_));have gm:l≠h1.objs.size:=by rw[dH];exact Q_ (Vb ii)
   refine DO (s0:=s) (led:=!byTx w) I0 (r_ _) (by rw[dH];exact ZE _) (Y3.list (by exact hh) h1.objs.size l gm ak.toArray) ?_ hJ ha ok (by rw[p_,←hv.length,←ha.length]) (λi v hi=>?_) (by show A.units+1+1+20 < _;omega) _ 0 _ rfl (Tz _) ?_ ?_ ?_ λs' es ex sa eo=>?_
   ·rw[dH];intro hm
    rcases w_.mp hm with z | z
    ·exact absurd z (Q_ (Vy _))
    ·exact absurd (k_.mp z) (Wg ii)
   ·have bq:ak[i]?=some v:=by simpa using hi
    have li:i < zs.length:=by
     rw[hv.length]
     rcases Vt i ak.length with z | z
     ·exact z
     ·rw[Uw z] at bq;cases bq
    obtain⟨u,e3,e4⟩:=hv.get (n_ li);rw[bq] at e3;cases e3;exact⟨_,n_ li,e4⟩
   ·exact⟨_,s.toks,rfl,λb o x=>e_ _ (ec b o x)⟩
   ·exact⟨⟨_,s_ _ rfl,rfl,rfl⟩,cp.push _⟩
   ·refine⟨#[],⟨_,0,_,e_ _ k8,rfl,rfl,Hu w,rfl⟩,rfl,λe he=>?_,λd hd=>?_⟩
    ·simp at he
    ·cases hd
   ·exact f_ (f_ ⟨rfl,es,ex,sa,eo⟩)
  ·rcases hZ with e | fB
   ·exact cL
   ·cases fB with
    | ret r =>
     obtain⟨rfl,es,e1,e2,e3⟩:=cL
     repeat any_goals first | assumption | wp_step
     exact q _ _ es e1 (r_ _) e2 e3
    | _=>exact cL.elim
 | _=>exact hr.elim
end
theorem IsA.up{K:PySem.W.Frag}{J H:Hp}(h:∀d x,Is K J d x->Is K H d x):∀{ds:List D}{zs:List V},IsA K J ds zs->IsA K H ds zs
 | [],zs,a=>by rw[a.nil_inv];exact IsA.nil
 | d::ds,zs,a=>by
  obtain⟨x,r,rfl,h1,h2⟩:=a.cons_inv;exact IsA.cons (h _ _ h1) (IsA.up h h2)
section
variable{H:Hp}{s:c_}
theorem z9{α:Type}:∀(l m:List α),l.Nodup->(∀x∈l,x∈m)->m.length<=l.length->l.Perm m
 | [],m,_,_,h=>by rw[TB.mp (Nat.le_zero.mp h)]
 | x::l,m,nd,h,len=>by
  obtain⟨a,b,rfl⟩:=Wt (h x m_);rw[Ue] at nd
  have p:=z9 l (a++b) nd.2 (λy hy=>by
   have:=h y (i_ _ hy)
   rcases I_.mp this with z | z
   ·exact(T6 _ z)
   ·rcases w_.mp z with z | z
    ·subst z;exact absurd hy nd.1
    ·exact L_ _ z) (by simp at len ⊢;omega)
  exact(p.cons x).trans List.perm_middle.symm
theorem Gg:∀(ds aj:List D),aj.Nodup->(ds.foldl dstep aj).Nodup
 | [],aj,h=>h
 | d::ds,aj,h=>by
  refine Gg ds _ ?_;unfold dstep;split
  ·exact h
  ·rename_i no;rw[Vz];refine⟨h,by simp,λa ha b hb e=>?_⟩;rw[k_.mp hb] at e;subst e;exact no (XY.mpr ⟨a,ha,yh a⟩)
theorem yI(ds:List D):(dd ds).Nodup:=Gg ds [] Wb
theorem Gh{l m:List D}(p:l.Perm m)(cm:cmAll l=true):sortD l=sortD m:=by
 refine zO _ _ ((vJ l).trans (p.trans (vJ m).symm)) (zD l) (zD m) λa ha b hb h1 h2=>?_
 have c:=j_.mp (j_.mp cm a ((vJ l).mem_iff.mp ha)) b ((vJ l).mem_iff.mp hb);refine zg a b c ?_;rw[xA a b c];unfold leD at h1 h2;rw[h1,h2];rfl
theorem uV{n:Nat}:∀{xs:List D},(∀x∈xs,dep x<=n)->depA xs<=n
 | [],_=>by rw[depA];exact Tz _
 | x::xs,h=>by
  rw[depA];exact Nat.max_le.mpr ⟨h x m_,uV λy hy=>h y (i_ _ hy)⟩
theorem Aw{J:Hp}{M:List D}:∀(L:List (Int×b_)),(∀e∈L,∃d∈M,Stn X J e d)->∃ds zs,IsA X.K J ds zs/\Vals zs (L.map (·.2))/\ds.length=L.length/\(∀d∈ds,d∈M)/\∀e∈L,∃d∈ds,Stn X J e d
 | [],_=>⟨[],[],IsA.nil,.nil,rfl,λd hd=>(by cases hd),λe he=>(by cases he)⟩
 | e::L,h=>by
  obtain⟨ds,zs,a1,a2,a3,a4,a5⟩:=Aw L λe he=>h e (i_ _ he)
  obtain⟨d,m,q⟩:=h e m_;obtain⟨_,x,q1,q2⟩:=id q;refine⟨d::ds,x::zs,IsA.cons q1 a1,.cons q2 a2,by simp[a3],λd' cP=>?_,λe' eP=>?_⟩
  ·rcases w_.mp cP with z | z
   ·rw[z];exact m
   ·exact a4 d' z
  ·rcases w_.mp eP with z | z
   ·rw[z];exact⟨d,m_,q⟩
   ·obtain⟨d',m',q'⟩:=a5 e' z;exact⟨d',i_ _ m',q'⟩
theorem Jq(hu:X.A.units+100 < UI)(hh:X.A.handled=none)(I:Inv X aa U H s){p:g_}(hJ:∀d x,Is X.K J d x->Is X.K H d x)(hq:SqL X.K H p zs)(ha:IsA X.K J ds zs)(ok:SetOk ds)(kd:ds.all fstI=true\/ds.all fstT=true){Q:VK}(k:∀l cM,IsA X.K J (sortD (dd ds)) cM->H l=none->Q (.ref l) (upd H l (.lst cM))):
  o_ (q_ X.prog X.w) X.A (call (.type "set") [.ref p]) (λv s'=>o_ (q_ X.prog X.w) X.A (call (.builtin "sorted") [v]) (EP X aa U Q) X.xe s') X.xe s:=by
 obtain⟨ag,rv,t,hz⟩:=I.list hq;refine Pv I hh t.isList hJ ha rv ok (by omega) λS s' es ex le sa eo=>?_
 have I':=ex.inv I;obtain⟨cm,ky,ti,dp,few⟩:=ok;obtain⟨o,ep,tb,ho,hc,hd,T,led⟩:=sa
 obtain⟨cH,cM,a1,a2,a3,a4,a5⟩:=Aw (X:=X) (J:=J) (M:=dd ds) (walkOf X.w S ep es).toList λe he=>eo.2.1 e (by
  have:=(xz X.w S ep es).mem_iff.mp he
  simpa using this)
 have tt:∀d∈dd ds,isT d=true:=λd hd=>j_.mp ti _ (uQ hd)
 have pm:(dd ds).Perm cH:=by
  refine z9 _ _ (yI ds) (λd hd=>?_) (by rw[a3,Tv,w8,eo.1];exact r_ _);obtain⟨e,m,q⟩:=eo.2.2 d hd;obtain⟨d',m',q'⟩:=a5 e ((xz X.w S ep es).mem_iff.mpr (by simpa using m));have:=Stn.det I' (by have:=uk (uQ hd);omega) (by have:=uk (uQ (a4 d' m'));omega) (tt d hd) (tt d' (a4 d' m')) (q.up hJ) (q'.up hJ);rw[this];exact m'
 have sub:∀d∈cH,d∈ds:=λd hd=>uQ (a4 d hd)
 have fz:cmAll cH=true:=j_.mpr λa k9=>j_.mpr λb lc=>j_.mp (j_.mp cm a (sub a k9)) b (sub b lc)
 have lf:IsA X.K H cH cM:=IsA.up hJ a1;refine Ad hu I' lf a2 ⟨by have:=pm.length_eq;omega,fz,H_ (uV λx hx=>uk (sub x hx)) (by omega),?_⟩ (λQ' q=>E3 (A:=X.A.in1) (by exact hh) T led ⟨o,ho,hc,hd⟩ q) λl q hp e hl=>k l _ ?_ hl
 ·rcases kd with z | z
  ·exact .inr (.inl (j_.mpr λx hx=>j_.mp z x (sub x hx)))
  ·exact .inr (.inr (j_.mpr λx hx=>j_.mp z x (sub x hx)))
 ·rw[←Gh pm.symm fz,←e];exact a1.perm hp
end
end DL
namespace DL
open PySem PySem.W PySem.Spec PyProof.Rows L2
section
variable{B:BB}{a st e:D_}{p:Pos}{gs:M D}
noncomputable def rRv(K:PySem.W.Frag):R2:=λx y H Q=>∃b xs,x=.ref b/\y=.int (-1)/\SqL K H b xs/\∀l,H l=none->Q (.ref l) (upd H l (.lst xs.reverse))
theorem Vals.rev:∀{xs:List V}{us:List b_},Vals xs us->Vals xs.reverse us.reverse:=λ{xs us} h=>by
 refine At (by simp[h.length]) λi x u e f=>?_
 have l:=h.length
 have hi:i < xs.length:=by
  rcases Vt i xs.length with z | z
  ·exact z
  ·rw[Uw (by simpa using z)] at e;cases e
 rw[Xt hi] at e;rw[Xt (by omega)] at f;obtain⟨u',e1,e2⟩:=h.get e;rw[l,f] at e1;cases e1;exact e2
theorem Ob{ta ts:TE}(he:PE X a ta)(hs:PE X st ts):PE X (.Subscript a (.Slice none none (some st) p2) pos) (tOp (rRv X.K) ta ts):=by
 intro aa s U H Q I h;refine Yo (thn (he aa s U H _ I h) λv s1 ⟨x,H1,I1,r1,q1⟩=>?_);refine wpAny_Slice ?_;rw[Yj,evalPart_some];refine f_ (f_ (thn (hs aa s1 U H1 _ I1 q1) λvk s2 ⟨y,H2,I2,r2,q2⟩=>?_));obtain⟨b,xs,rfl,rfl,hx,q⟩:=q2;cases r1;have I3:Inv X aa U H2 { s2 with heap:=s2.heap.push { cls:=.type "slice", data:=.fields #[.none,.none,vk] } }:=I2.kept (t':=s2.toks) λb ob q=>e_ _ q
 obtain⟨ag,r,ht,hz⟩:=I3.list hx;have aZ:=r.length;show o_ (q_ X.prog X.w) X.A (Yk a (.Slice none none (some st) p2) (.ref b) (.ref s2.heap.objs.size)) (EP X aa U Q) X.xe { s2 with heap:=s2.heap.push { cls:=.type "slice", data:=.fields #[.none,.none,vk] } };refine tail_any (ops:=[.ref b,.ref s2.heap.objs.size]) ht.isList.typeIs WD.lookup ?_ (by with_unfolding_all rfl);obtain⟨tk,rfl⟩:=r2;refine WN ht.isList (G_.IsSliceOf.new ..) .none .none (.int _ _) (by simp) ?_ (by rw[p_]<;>omega);rw[krv_pick];refine⟨.ref _,_,I3.laid (t':=s2.toks) (o:=.lst xs.reverse) (λb ob q=>e_ _ q) (r_ _) ?_,rfl,q _ (I3.hok.fresh (r_ _))⟩;exact⟨by rw[List.length_reverse];exact hz,_,0,Vals.rev r,s_ _ rfl⟩
noncomputable def rvF(c k:D):Option (List D):=match c,k with
 | .lst ds,.int j=>if j=-1 then some ds.reverse else none
 | _,_=>none
theorem Jm(ha:ED X B a ga)(hs:ED X B st gs):EO X B (.Subscript a (.Slice none none (some st) p2) pos) (op2 rvF ga gs):=PE.imp (Ob ha hs) (DU λa b d e B G I H U Γ x y Q r hx hy k=>by
 unfold rvF at e;split at e
 ·obtain⟨rfl,rfl⟩:=tZ e;obtain⟨q,zs,rfl,h3,h4⟩:=tW hx;exact⟨q,zs,rfl,tJ hy,(Same.rdK r.iH h3).sq,λl hl=>k.new r hl h4.reverse⟩
 ·cases e)
end
section
variable{B:BB}{c:D_}{body:List Tr}{gb:M Fl}
noncomputable def whlS:Nat->M Bool->M Fl->M Fl
 | 0,_,_=>λ_=>none
 | n+1,c,b=>bnd c λk=>if k=true then bnd b λf=>match f with
   | .nx=>whlS n c b
   | .ct=>whlS n c b
   | .bk=>ret .nx
   | .rt r=>ret (.rt r)
  else ret .nx
theorem Qg(hp:WT (q_ X.prog X.w) X.A X.env X.xe)(hc:TD X B c gc)(hb:SDs X B body gb):SD X B (.While c body [] pos) (whlS n gc gb):=PS.imp (JF hp hc hb) λE U H q=>by
 obtain⟨G,I,Γ,f,af,r,e1,k⟩:=q;refine⟨λm U H=>∃I2 ai,Rep X.K B G I2 H U ai/\Grow G I I2/\whlS m gc gb ai=some (f,af),⟨n,I,Γ,r,Grow.refl _ _,e1⟩,?_⟩;rintro m aR H2 ⟨I2,ai,r2,g2,e2⟩;cases m with
 | zero=>cases e2
 | succ m =>
  obtain⟨b,aL,e3,e4⟩:=lX e2;refine⟨G,I2,ai,b,aL,r2,e3,λH3 I3 r3 g3=>?_⟩;cases b with
  | true =>
   rw[if_pos rfl] at e4 ⊢;obtain⟨fl,aN,e5,e6⟩:=lX e4;refine⟨λam H'=>∃I4,Rep X.K B G I4 H' am aN/\Grow G I I4/\(fl=.nx\/fl=.ct),λam H' ⟨I4,r4,g4,hf⟩=>⟨m,Vy m,I4,aN,r4,g4,?_⟩,G,I3,aL,fl,aN,r3,e5,λdD H5 I5 r5 g5=>?_⟩
   ·rcases hf with rfl | rfl<;>exact e6
   ·have gg:Grow G I I5:=g2.trans (g3.trans g5);cases fl with
    | nx=>exact⟨I5,r5,gg,.inl rfl⟩
    | ct=>exact⟨I5,r5,gg,.inr rfl⟩
    | bk=>cases e6;exact k dD H5 I5 r5 gg
    | rt v=>cases e6;exact k dD H5 I5 r5 gg
  | false =>
   rw[if_neg h_] at e4 ⊢;cases e4;exact k aR H3 I3 r3 (g2.trans g3)
end
end DL
namespace DL
open PySem
end DL
namespace DL
open PySem PySem.W PySem.Spec PyProof.Rows L2
section
variable{B:BB}{c e:D_}{st:Tr}{ss body:List Tr}{g h:M Fl}
@[irreducible] def SI(X:Cx)(B:BB)(st:Tr)(g:M Fl):Prop:=SD X B st g
@[irreducible] def SIs(X:Cx)(B:BB)(ss:List Tr)(g:M Fl):Prop:=SDs X B ss g
theorem tv(k:SD X B st g):SI X B st g:=by unfold SI;exact k
theorem tK(k:SIs X B ss g):SDs X B ss g:=by unfold SIs at k;exact k
theorem tV:SIs X B [] (ret .nx):=by unfold SIs;exact N3
theorem rT(k:SI X B st g):SIs X B [st] g:=by unfold SI at k;unfold SIs;exact FF k
theorem r9(k:SI X B st g)(t:SIs X B ss h):SIs X B (st::ss) (seqS g h):=by unfold SI at k;unfold SIs at t ⊢;exact Os k t
theorem tQ(hc:TD X B c tc)(ha:SIs X B sa g)(hb:SIs X B sb h):SI X B (.If c sa sb pos) (ifS tc g h):=by unfold SIs at ha hb;unfold SI;exact PB hc ha hb
theorem uO{iter:D_}(hp:WT (q_ X.prog X.w) X.A X.env X.xe)(hc:X.calm=true)(hi:ITD X B tg iter it)(hg:GD X B m tg aE)(hb:SIs X B body g)(hs:∀x,TV iter X.env x=pure x:=by intros;rfl):SI X B (.For tg iter body [] pos) (forS it aE g):=by unfold SIs at hb;unfold SI;exact Kt hp hc hi hg hb hs
theorem L9(hp:WT (q_ X.prog X.w) X.A X.env X.xe)(hc:TD X B c gc)(hb:SIs X B body g):SI X B (.While c body [] pos) (whlS n gc g):=by unfold SIs at hb;unfold SI;exact Qg hp hc hb
theorem tH{x:Str}(hN:X.N.Nodup)(he:ED X B e ga)(hi:X.N[i]?=some x:=by rfl)(hx:locB X.env.scope x=true:=by rfl)(hs:Uy e (some (.Name x aP)) pos.line X.env=pure false:=by rfl)(hf:fnB X x=true:=by rfl):SI X B (.Assign [.Name x aP] e pos) (setV i ga):=by unfold SI;exact Gb hN he hi hx hs hf
end
section
variable{B:BB}{e a st:D_}{es:List D_}{t:M (List D)}
def rInsert:V->List V->Hp->VK->Prop:=λx vs H Q=>∃(l:g_) (xs:List V) (i:Nat) (y:V),x=.ref l/\vs=[.int i,y]/\H l=some (.lst xs)/\i<=xs.length/\xs.length < z_/\Q .non (upd H l (.lst (xs.take i++y::xs.drop i)))
theorem HQ:MtM X "list.insert" rInsert:=by
 intro aa s U H x vs v us Q I rx rv h;obtain⟨l,xs,i,y,rfl,rfl,hH,hi,hz,q⟩:=h;cases rx;obtain⟨u1,u2,rfl,⟨tk,rfl⟩,ru⟩:=rv.two;obtain⟨z,ag,n,r,hl,e⟩:=I.lstM hH;have sv:z_ < 9223372036854775808:=by rw[TH];decide
 have cX:ag.toArray.size<=z_:=by rw[p_];omega
 obtain⟨j,hj⟩:∃j:Int,j=i:=⟨_,rfl⟩;rw[←hj]
 have fits:¬(!Builtin.List.listFitsIndex j)=true:=by
  have:listFitsIndex j=true:=by
   simp[listFitsIndex];omega
  rw[this];simp
 have m:=AutoSeq1.list_insert_list_int_val_1 l ag.toArray n j tk u2 fits cX;refine Xd F.slot_list_insert ⟨_,e,rfl⟩ F.entry_list_insert (F.args_list_insert_3 _ _ _) m ⟨e,?_⟩;refine⟨.non,_,I.lset (its':=ag.take i++u2::ag.drop i) hH e ?_ (Vals.append (r.take _) (.cons ru (r.drop _))) ?_,rfl,q⟩
 ·have h0:¬(j < 0):=by omega
  have hm:min j.toNat ag.toArray.size=i:=by rw[p_];omega
  dsimp only;rw[if_neg h0,hm]
  apply Array.toList_inj.mp
  simp[List.extract_eq_take_drop,List.drop_take];exact Xh (by simp)
 ·rw[R_,S_,XC,Vi];omega
noncomputable def insF(as:List D)(ds:List D):Option (List D):=match as with
 | [.int n,d]=>if 0<=n/\n<=ds.length/\ds.length < lim then some (ds.take n.toNat++d::ds.drop n.toNat) else none
 | _=>none
noncomputable def insS(i:Nat)(t:M (List D)):M Fl:=mutS i (bnd t λds=>bnd (wr i (insF ds)) λ_=>ret .nx)
theorem QE{x:Str}(hv:PE X (.Name x p1) (tVar i))(ha:AD X B (e::es) t)(hs:Uy (.Call (.Attribute (.Name x p1) "insert" aT) (e::es) [] aC) none pos.line X.env=pure false:=by rfl)(iI:d_ (e::es) X.env=(false,eval e X.env)::d_ es X.env:=by rfl)(bt:UQ (.Name x p1) "insert" X.env (eval (.Name x p1) X.env)=eval (.Name x p1) X.env:=by rfl)(bS:((J_ aC (d_ (e::es) X.env)).all (λx=>!x.1)&&(WW aC (Vk [] X.env)).all (λx=>x.1.isSome)
   &&decide ((e::es).length+([]:List U4).length+(if([]:List U4).isEmpty then 0 else 1) < 30))=true:=by rfl)(bu:(aT.endLine == aC.line)=true:=by rfl)(aX:(J_ aC (d_ es X.env)).any (·.1)=false:=by rfl):
  SD X B (.Expr (.Call (.Attribute (.Name x p1) "insert" aT) (e::es) [] aC) pos) (insS i t):=
 PS.imp (AJ (wt Xl PySem.F.slot_list_insert PySem.F.type_list_insert HQ hv ha bt bS bu iI aX) hs) λE U H q=>by
  obtain⟨G,I,Γ,f,af,r,e1,k⟩:=q;obtain⟨hm,e1⟩:=wP e1;obtain⟨ds,ac,e2,e3⟩:=lX e1;obtain⟨d2,ai,e4,e5⟩:=lX e3;cases e5;obtain⟨p,xs,h1,h2⟩:=xC hm r;refine⟨_,h1,.inl ⟨rfl,xs,SqL.of h2⟩,G,I,Γ,ds,ac,r,e2,λvs H1 I1 r1 g1 hd=>?_⟩;obtain⟨p',cf,cs,es',h3,h4,h5,h6,h7⟩:=Bi e4 r1;have hp:p'=p:=by rw[h1] at h3;cases h3;rfl
  subst hp;unfold insF at h6;split at h6
  ·rename_i n d;obtain⟨⟨c1,c2,c3⟩,rfl⟩:=tZ h6;obtain⟨x1,sw,rfl,pX,pY⟩:=hd.cons_inv;obtain⟨x2,sx,rfl,pZ,qa⟩:=pY.cons_inv;rw[qa.nil_inv];obtain⟨m,rfl⟩:=UH c1;have:=tJ pX;subst this;have hl:=h5.length;refine⟨p',cf,m,x2,rfl,rfl,h4,by omega,?_,k U _ I1 (h7 _ (IsA.append (h5.take _) (IsA.cons pZ (h5.drop _)))) g1⟩;rw[←hl];exact E_ c3 (vF (r_ _))
  ·cases h6
end
section
variable{B:BB}{e a st:D_}{es:List D_}{p:Pos}{t:M (List D)}{gs:M D}{kr:Nat}
theorem MU(hc:X.calm=true):CallR X (.builtin "min") (λxs H Q=>∃(q:g_) (i j:Int),xs=[.ref q]/\SqT X.K H q [.int i,.int j]/\Q (.int (if j < i then j else i)) H):=by
 intro aa s U H xs us Q I r h;obtain⟨q,i,j,rfl,hq,k⟩:=h;obtain⟨u,rfl,ru⟩:=vals1 r;cases ru;obtain⟨ag,rv,T,_⟩:=I.tuple hq;obtain⟨u1,u2,rfl,⟨k1,rfl⟩,⟨k2,rfl⟩⟩:=rv.two;have low:q < s.heap.objs.size:=by obtain⟨_,e,_⟩:=T;exact B_ e
 refine call_min_walk (UM T ?_);refine⟨_,_,_,_,_,_,_,rfl,Y3.tuple (A:=X.A.in1) (I.ok.hd hc) _ q (Q_ low) #[.int i k1,.int j k2],⟨⟨_,s_ _ rfl,rfl,rfl⟩,T.push _⟩,(λb hb=>?_),XV 1,CmpOf.ints_lt (λn=>if n=0 then i else j) ?_,λv h' tk hP hk=>?_⟩
 ·show b < (s.heap.push _).objs.size;rw[UR]
  rcases w_.mp hb with rfl | hb
  ·exact Vy _
  ·rw[k_.mp hb];exact Vb low
 ·intro n v hn
  match n,hn with
  | 0,hn=>cases hn;exact⟨k1,rfl⟩
  | 1,hn=>cases hn;exact⟨k2,rfl⟩
  | n+2,hn=>simp at hn
 ·have keep:∀b o,s.heap.get? b=some o->h'.get? b=some o:=λb o e=>by
   refine hk b o (λhm=>?_) (e_ _ e);have hm:=k_.mp hm;exact absurd (hm▸B_ e) (Ug _)
  refine⟨_,H,I.kept keep,?_,k⟩;simp only[p_,S_,List.length_nil,Nat.reduceAdd,Nat.reduceSub,argBest] at hP;by_cases c:j < i
  ·rw[if_pos c];simp[c] at hP;subst hP;exact⟨_,rfl⟩
  ·rw[if_neg c];simp[c] at hP;subst hP;exact⟨_,rfl⟩
theorem Qy(hc:X.calm=true):CallR X (.builtin "max") (λxs H Q=>∃(q:g_) (i j:Int),xs=[.ref q]/\SqT X.K H q [.int i,.int j]/\Q (.int (if j > i then j else i)) H):=by
 intro aa s U H xs us Q I r h;obtain⟨q,i,j,rfl,hq,k⟩:=h;obtain⟨u,rfl,ru⟩:=vals1 r;cases ru;obtain⟨ag,rv,T,_⟩:=I.tuple hq;obtain⟨u1,u2,rfl,⟨k1,rfl⟩,⟨k2,rfl⟩⟩:=rv.two;have low:q < s.heap.objs.size:=by obtain⟨_,e,_⟩:=T;exact B_ e
 refine call_max_walk (UM T ?_);refine⟨_,_,_,_,_,_,_,rfl,Y3.tuple (A:=X.A.in1) (I.ok.hd hc) _ q (Q_ low) #[.int i k1,.int j k2],⟨⟨_,s_ _ rfl,rfl,rfl⟩,T.push _⟩,(λb hb=>?_),XV 1,CmpOf.ints_gt (λn=>if n=0 then i else j) ?_,λv h' tk hP hk=>?_⟩
 ·show b < (s.heap.push _).objs.size;rw[UR]
  rcases w_.mp hb with rfl | hb
  ·exact Vy _
  ·rw[k_.mp hb];exact Vb low
 ·intro n v hn
  match n,hn with
  | 0,hn=>cases hn;exact⟨k1,rfl⟩
  | 1,hn=>cases hn;exact⟨k2,rfl⟩
  | n+2,hn=>simp at hn
 ·have keep:∀b o,s.heap.get? b=some o->h'.get? b=some o:=λb o e=>by
   refine hk b o (λhm=>?_) (e_ _ e);have hm:=k_.mp hm;exact absurd (hm▸B_ e) (Ug _)
  refine⟨_,H,I.kept keep,?_,k⟩;simp only[p_,S_,List.length_nil,Nat.reduceAdd,Nat.reduceSub,argBest] at hP;by_cases c:j > i
  ·rw[if_pos c];simp[c] at hP;subst hP;exact⟨_,rfl⟩
  ·rw[if_neg c];simp[c] at hP;subst hP;exact⟨_,rfl⟩
noncomputable def minTF(ds:List D):Option D:=match ds with
 | [.tup [.int i,.int j]]=>some (.int (if j < i then j else i))
 | _=>none
noncomputable def maxTF(ds:List D):Option D:=match ds with
 | [.tup [.int i,.int j]]=>some (.int (if j > i then j else i))
 | _=>none
theorem EY{K:PySem.W.Frag}{H:Hp}{i j:Int}{x:V}(sm:Same I H)(h:Is K I (.tup [.int i,.int j]) x):∃q,x=.ref q/\SqT K H q [.int i,.int j]:=by
 obtain⟨q,zs,rfl,h3,h4⟩:=tR h;obtain⟨z1,r1,rfl,g1,g2⟩:=h4.cons_inv;obtain⟨z2,r2,rfl,g3,g4⟩:=g2.cons_inv;rw[g4.nil_inv] at h3;have:=tJ g1;subst this;have:=tJ g3;subst this;exact⟨q,rfl,Same.sqT sm h3⟩
theorem K4(hc:X.calm=true)(hg:Gl X "min")(hm:X.mg "min"=none)(ha:AD X B [e] t)(he:d_ [e] X.env=(false,eval e X.env)::d_ [] X.env:=by rfl)(aB:(J_ pos (d_ [] X.env)).any (·.1)=false:=by rfl):
  ED X B (.Call (.Name "min" p) [e] [] pos) (fn1 minTF t):=v3 (MU hc) (λds d e B G I H U Γ xs Q r h k=>by
 unfold minTF at e;split at e
 ·cases e;obtain⟨x,rfl,hx⟩:=h.one;obtain⟨q,rfl,h3⟩:=EY r.iH hx;exact⟨q,_,_,rfl,h3,k.now r (by rw[Is])⟩
 ·cases e) hg hm PyProof.Rows.boot_min ha (by decide) (by decide) he aB
theorem LK(hc:X.calm=true)(hg:Gl X "max")(hm:X.mg "max"=none)(ha:AD X B [e] t)(he:d_ [e] X.env=(false,eval e X.env)::d_ [] X.env:=by rfl)(aB:(J_ pos (d_ [] X.env)).any (·.1)=false:=by rfl):
  ED X B (.Call (.Name "max" p) [e] [] pos) (fn1 maxTF t):=v3 (Qy hc) (λds d e B G I H U Γ xs Q r h k=>by
 unfold maxTF at e;split at e
 ·cases e;obtain⟨x,rfl,hx⟩:=h.one;obtain⟨q,rfl,h3⟩:=EY r.iH hx;exact⟨q,_,_,rfl,h3,k.now r (by rw[Is])⟩
 ·cases e) hg hm boot_max ha (by decide) (by decide) he aB
end
end DL
namespace DL
open PySem PySem.W PySem.Spec PyProof.Rows L2
open PySem.SeqAt
open PySem.AutoSeq1 (wpAny_loadPart')
open PySem.MeetsSeq PySem.MeetsSeq2 PySem.MeetsSeq3
end DL
namespace DL
open PySem PySem.W PySem.Spec PyProof.Rows L2
noncomputable def altM{α:Type}(a b:M α):M α:=λΓ=>match a Γ with
 | some r=>some r
 | none=>b Γ
theorem Dp{α:Type}{a b:M α}{x:α}(h:altM a b Γ=some (x,af)):a Γ=some (x,af)\/b Γ=some (x,af):=by
 unfold altM at h;split at h
 ·rename_i e;cases h;exact .inl e
 ·exact .inr h
section
variable{B:BB}{e:D_}{st:Tr}
theorem Dc{a b:M D}(h1:ED X B e a)(h2:ED X B e b):ED X B e (altM a b):=λaa s U H Q I q=>by
 obtain⟨G,I',Γ,d,af,r,e1,k⟩:=q
 rcases Dp e1 with e1 | e1
 ·exact h1 aa s U H Q I ⟨G,I',Γ,d,af,r,e1,k⟩
 ·exact h2 aa s U H Q I ⟨G,I',Γ,d,af,r,e1,k⟩
theorem Oj{a b:M Fl}(h1:SD X B st a)(h2:SD X B st b):SD X B st (altM a b):=λaa s U H E I q=>by
 obtain⟨G,I',Γ,d,af,r,e1,k⟩:=q
 rcases Dp e1 with e1 | e1
 ·exact h1 aa s U H E I ⟨G,I',Γ,d,af,r,e1,k⟩
 ·exact h2 aa s U H E I ⟨G,I',Γ,d,af,r,e1,k⟩
end
end DL
namespace DL
open PySem PySem.W PySem.Spec PyProof.Rows L2
open PySem.SeqAt
open PySem.AutoSeq1 (wpAny_loadPart')
open PySem.MeetsSeq PySem.MeetsSeq2 PySem.MeetsSeq3
noncomputable def isStar:D_->Bool
 | .Starred ..=>true
 | _=>false
theorem Mf{e:D_}(h:isStar e=false):d_ (e::aF) env=(false,eval e env)::d_ aF env:=by
 cases e<;>first | rfl | (simp[isStar] at h)
theorem fI{B:BB}{e:D_}{es:List D_}{g:M D}{t:M (List D)}(ha:ED X B e g)(hr:AD X B es t)(h:isStar e=false):AD X B (e::es) (consA g t):=Qn ha hr (Mf h)
end DL
namespace DL
open PySem PySem.Spec PyProof.Rows L2
noncomputable def kAll(f:D_->Option (M D)):List D_->Option (M (List D))
 | []=>some nilA
 | e::es=>match f e with
  | some g=>match kAll f es with
   | some t=>some (consA g t)
   | none=>none
  | none=>none
noncomputable def kM:Nat->D_->Option (M D)
 | 0,_=>none
 | n+1,e=>match e with
  | .Constant (.str x) _ _=>some (ret (.str x))
  | _=>none
section
variable{B:BB}
theorem zM{f:D_->Option (M D)}(hf:∀e g,f e=some g->ED X B e g/\isStar e=false):∀(es:List D_) (t:M (List D)),kAll f es=some t->AD X B es t
 | [],t,h=>by cases h;exact f'
 | e::es,t,h=>by
  rw[kAll] at h;split at h
  ·rename_i g hg;split at h
   ·rename_i t' ht;cases h;obtain⟨h1,h2⟩:=hf e g hg;exact fI h1 (zM hf es t' ht) h2
   ·cases h
  ·cases h
theorem wd:∀(n:Nat) (e:D_) (g:M D),kM n e=some g->ED X B e g/\isStar e=false
 | 0,_,_,h=>by cases h
 | n+1,e,g,h=>by
  unfold kM at h;split at h;cases h;split at h
  ·cases h;exact⟨tU,rfl⟩
  ·cases h
theorem ww{e1 e2 e3 e4:D_}{es:List D_}{g1 g2 g3 g4:M D}{t:M (List D)}(h1:ED X B e1 g1)(h2:ED X B e2 g2)(h3:ED X B e3 g3)(h4:ED X B e4 g4)(hr:AD X B es t)(s1:isStar e1=false)(s2:isStar e2=false)(s3:isStar e3=false)(s4:isStar e4=false):AD X B (e1::e2::e3::e4::es) (consA g1 (consA g2 (consA g3 (consA g4 t)))):=
 fI h1 (fI h2 (fI h3 (fI h4 hr s4) s3) s2) s1
theorem ad_k{es:List D_}{t:M (List D)}(h:kAll (kM 9) es=some t):AD X B es t:=zM (wd 9) es t h
end
end DL
namespace DL
open PySem PySem.W PySem.Spec PyProof.Rows L2 PySem.SetTable
section
variable{prog:v_}{w:F_}{E:b_->c_->Prop}{s:c_}
variable{H:Hp}
theorem istup{h:G_}{a:g_}{ag:Array b_}(t:Y1 h a ag):h.IsTuple a ag:=t
theorem Iw(I0:Inv X aa U H s)(hh:A.handled=none){ak:List b_}(hl:s.heap.IsTuple l ak.toArray)(hJ:∀d x,Is X.K J d x->Is X.K H d x)(ha:IsA X.K J ds zs)(hv:Vals zs ak)(ok:SetOk ds)(hu:A.units+50 < UI){Q:b_->c_->Prop}(q:∀S s' es,Ext s s'->s.heap.objs.size<=S->SetAt s'.heap S (!byTx w) es->EsOk X J es (dd ds)->Q (.ref S) s'):o_ (q_ prog w) A (call (.type "set") [.ref l]) Q E s:=by
 obtain⟨c,tl,nz⟩:=T7.mro;have k6:=T7.made;have fN:=T7.sub;refine Yq (Xp (f_ ⟨Ws _ (by decide +kernel),Uq YS ?_⟩));rw[Uh.under_plain (Xs "set" [.ref l] []) rfl];have h1:=T7.notType;have h2:=T7.canCreate;have pV:=PySem.F.typeCall_set_1 (.ref l)
 repeat any_goals first | assumption | wp_step
 refine Uk (Hf (w:=w) (.ref l) (E:=E) (Q:=λobj aD=>obj=.ref s.heap.objs.size/\aD={ s with heap:=s.heap.push (fresh0 w) }) ⟨rfl,rfl⟩) λr aD hr=>?_
 rcases r with e | fl
 ·exact hr
 cases fl with
 | ret obj =>
  obtain⟨rfl,rfl⟩:=hr;have hS:(s.heap.push (fresh0 w)).get? s.heap.objs.size=some (fresh0 w):=s_ _ rfl;have hT:c_.TypeIs { s with heap:=s.heap.push (fresh0 w) } (.ref s.heap.objs.size) "set":=⟨_,hS,rfl⟩;have kC:=T7.init.lookup;have pW:=T7.init.bind (.ref s.heap.objs.size)
  repeat any_goals first | assumption | wp_step
  refine Uk (U3 (R:=wants (λr cR=>r=.none/\∃es,Ext s cR/\SetAt cR.heap s.heap.objs.size (!byTx w) es/\EsOk X J es (dd ds)) E) T7.init.plain F.entry_set_init (check_set_init_1 hT ?_)) λhZ cR cL=>?_
  ·obtain⟨ol,ic,dR,nl,ig⟩:=hl;have ii:l < s.heap.objs.size:=B_ ic;obtain⟨nA,fA,k7,ek⟩:=ol;simp only at dR ig;subst dR;subst ig;have eV:(s.heap.push (fresh0 w)).get? l=some { cls:=.type "tuple", dict:=fA,data:=.seq ak.toArray nl,slots:=ek }:=e_ _ ic;have nB:=PySem.F.sub_tuple_set;have nC:=PySem.F.sub_tuple_frozenset;have gf:(type "tuple" == type "dict")=false:=(by decide);have cp:(s.heap.push (fresh0 w)).IsTuple l ak.toArray:=⟨_,eV,rfl,nl,rfl⟩;obtain⟨h1,e1⟩:∃h1,h1=s.heap.push (fresh0 w):=⟨_,rfl⟩;have dH:h1.objs.size=s.heap.objs.size+1:=by rw[e1,UR]
   have ec:∀b o,s.heap.get? b=some o->h1.get? b=some o:=λb o x=>by rw[e1];exact e_ _ x
   rw[←e1] at hS eV cp;show o_ _ _ _ _ _ { s with heap:=s.heap.push (fresh0 w) };rw[←e1];have k8:h1.get? s.heap.objs.size=some { cls:=.type "set", dict:=none,data:=.set #[] 0 (.fresh 0 0 (!byTx w)) }:=hS;unfold Ul.«set.__init__» noKeywords updateFrom;generalize hPI:XB=PI
   wp_walk
   subst hPI;refine UM (s:={ s with heap:=h1 }) cp (a_ (XZ ?_));have gm:l≠h1.objs.size:=by rw[dH];exact Q_ (Vb ii)
   refine DO (s0:=s) (led:=!byTx w) I0 (r_ _) (by rw[dH];exact ZE _) (Y3.tuple (by exact hh) h1.objs.size l gm ak.toArray) ?_ hJ ha ok (by rw[p_,←hv.length,←ha.length]) (λi v hi=>?_) (by show A.units+1+1+20 < _;omega) _ 0 _ rfl (Tz _) ?_ ?_ ?_ λs' es ex sa eo=>?_
   ·rw[dH];intro hm
    rcases w_.mp hm with z | z
    ·exact absurd z (Q_ (Vy _))
    ·exact absurd (k_.mp z) (Wg ii)
   ·have bq:ak[i]?=some v:=by simpa using hi
    have li:i < zs.length:=by
     rw[hv.length]
     rcases Vt i ak.length with z | z
     ·exact z
     ·rw[Uw z] at bq;cases bq
    obtain⟨u,e3,e4⟩:=hv.get (n_ li);rw[bq] at e3;cases e3;exact⟨_,n_ li,e4⟩
   ·exact⟨_,s.toks,rfl,λb o x=>e_ _ (ec b o x)⟩
   ·exact⟨⟨_,s_ _ rfl,rfl,rfl⟩,cp.push _⟩
   ·refine⟨#[],⟨_,0,_,e_ _ k8,rfl,rfl,Hu w,rfl⟩,rfl,λe he=>?_,λd hd=>?_⟩
    ·simp at he
    ·cases hd
   ·exact f_ (f_ ⟨rfl,es,ex,sa,eo⟩)
  ·rcases hZ with e | fB
   ·exact cL
   ·cases fB with
    | ret r =>
     obtain⟨rfl,es,e1,e2,e3⟩:=cL
     repeat any_goals first | assumption | wp_step
     exact q _ _ es e1 (r_ _) e2 e3
    | _=>exact cL.elim
 | _=>exact hr.elim
end
section
variable{H:Hp}{s:c_}
theorem OD(hu:X.A.units+100 < UI)(hh:X.A.handled=none)(I:Inv X aa U H s){p:g_}(hJ:∀d x,Is X.K J d x->Is X.K H d x)(hq:SqT X.K H p zs)(ha:IsA X.K J ds zs)(ok:SetOk ds)(kd:ds.all fstI=true\/ds.all fstT=true){Q:VK}(k:∀l cM,IsA X.K J (sortD (dd ds)) cM->H l=none->Q (.ref l) (upd H l (.lst cM))):
  o_ (q_ X.prog X.w) X.A (call (.type "set") [.ref p]) (λv s'=>o_ (q_ X.prog X.w) X.A (call (.builtin "sorted") [v]) (EP X aa U Q) X.xe s') X.xe s:=by
 obtain⟨ag,rv,t,hz⟩:=I.tuple hq;refine Iw I hh (istup t) hJ ha rv ok (by omega) λS s' es ex le sa eo=>?_
 have I':=ex.inv I;obtain⟨cm,ky,ti,dp,few⟩:=ok;obtain⟨o,ep,tb,ho,hc,hd,T,led⟩:=sa
 obtain⟨cH,cM,a1,a2,a3,a4,a5⟩:=Aw (X:=X) (J:=J) (M:=dd ds) (walkOf X.w S ep es).toList λe he=>eo.2.1 e (by
  have:=(xz X.w S ep es).mem_iff.mp he
  simpa using this)
 have tt:∀d∈dd ds,isT d=true:=λd hd=>j_.mp ti _ (uQ hd)
 have pm:(dd ds).Perm cH:=by
  refine z9 _ _ (yI ds) (λd hd=>?_) (by rw[a3,Tv,w8,eo.1];exact r_ _);obtain⟨e,m,q⟩:=eo.2.2 d hd;obtain⟨d',m',q'⟩:=a5 e ((xz X.w S ep es).mem_iff.mpr (by simpa using m));have:=Stn.det I' (by have:=uk (uQ hd);omega) (by have:=uk (uQ (a4 d' m'));omega) (tt d hd) (tt d' (a4 d' m')) (q.up hJ) (q'.up hJ);rw[this];exact m'
 have sub:∀d∈cH,d∈ds:=λd hd=>uQ (a4 d hd)
 have fz:cmAll cH=true:=j_.mpr λa k9=>j_.mpr λb lc=>j_.mp (j_.mp cm a (sub a k9)) b (sub b lc)
 have lf:IsA X.K H cH cM:=IsA.up hJ a1;refine Ad hu I' lf a2 ⟨by have:=pm.length_eq;omega,fz,H_ (uV λx hx=>uk (sub x hx)) (by omega),?_⟩ (λQ' q=>E3 (A:=X.A.in1) (by exact hh) T led ⟨o,ho,hc,hd⟩ q) λl q hp e hl=>k l _ ?_ hl
 ·rcases kd with z | z
  ·exact .inr (.inl (j_.mpr λx hx=>j_.mp z x (sub x hx)))
  ·exact .inr (.inr (j_.mpr λx hx=>j_.mp z x (sub x hx)))
 ·rw[←Gh pm.symm fz,←e];exact a1.perm hp
end
section
variable{B:BB}{e:D_}{kr:Nat}
def rSST(X:Cx)(xs:List V)(H:Hp)(Q:VK):Prop:=∃(p:g_) (zs:List V) (ds:List D) (J:Hp),xs=[.ref p]/\(SqL X.K H p zs\/SqT X.K H p zs)/\IsA X.K J ds zs/\(∀d x,Is X.K J d x->Is X.K H d x)/\SetOk ds/\(ds.all fstI=true\/ds.all fstT=true) ∧
 ∀l cM,IsA X.K J (sortD (dd ds)) cM->H l=none->Q (.ref l) (upd H l (.lst cM))
theorem OQ{p:Pos}{t:TA}(hr:Room kr X.A)(hg:Gl X "sorted")(hm:X.mg "sorted"=none)(lg:Gl X "set")(gr:X.mg "set"=none)(ha:PA X [e] t)(he:d_ [e] X.env=(false,eval e X.env)::d_ [] X.env:=by rfl)(eP:d_ [.Call (.Name "set" p') [e] [] aP] X.env=(false,eval (.Call (.Name "set" p') [e] [] aP) X.env)::d_ [] X.env:=by rfl)(aB:∀pos,(J_ pos (d_ [] X.env)).any (·.1)=false:=by intros;rfl):
  PE X (.Call (.Name "sorted" p) [.Call (.Name "set" p') [e] [] aP] [] pos) (tCB (rSST X) t):=by
 intro aa s U H Q I h;refine Ui (vi I hg hm boot_sorted (VI ?_ eP (aB _)) (by decide) (by decide));rw[eP];refine Yp (Ui (vi I lg gr boot_set (TK ?_ he (aB _)) (by decide) (by decide)));refine thn (ha aP aa s U H _ I h) λus s1 ⟨vs,H1,I1,r1,p,zs,ds,J,e1,q1,q2,q3,q4,q5,q6⟩=>?_
 subst e1;obtain⟨u,rfl,ru⟩:=vals1 r1;cases ru
 rcases q1 with q1 | q1
 ·exact thn (Jq (hu100 hr) hr.hd I1 q3 q1 q2 q4 q5 q6) λv s2 q=>WC q
 ·exact thn (OD (hu100 hr) hr.hd I1 q3 q1 q2 q4 q5 q6) λv s2 q=>WC q
def SetCan(xs:List D):Prop:=(cmAll xs=true/\xs.all kyB=true/\xs.all isT=true/\depA xs<=8/\(dd xs).length<=28)/\(xs.all fstI=true\/xs.all fstT=true)
instance decSetCan(xs:List D):Decidable (SetCan xs):=by unfold SetCan;infer_instance
noncomputable def setTF(ds:List D):Option (List D):=match ds with
 | [.lst xs]=>if SetCan xs then some (sortD (dd xs)) else none
 | [.tup xs]=>if SetCan xs then some (sortD (dd xs)) else none
 | _=>none
theorem G9{p:Pos}{t:M (List D)}(hr:Room kr X.A)(hg:Gl X "sorted")(hm:X.mg "sorted"=none)(lg:Gl X "set")(gr:X.mg "set"=none)(ha:AD X B [e] t)(he:d_ [e] X.env=(false,eval e X.env)::d_ [] X.env:=by rfl)(eP:d_ [.Call (.Name "set" p') [e] [] aP] X.env=(false,eval (.Call (.Name "set" p') [e] [] aP) X.env)::d_ [] X.env:=by rfl)(aB:∀pos,(J_ pos (d_ [] X.env)).any (·.1)=false:=by intros;rfl):
  EO X B (.Call (.Name "sorted" p) [.Call (.Name "set" p') [e] [] aP] [] pos) (fn1 setTF t):=PE.imp (OQ hr hg hm lg gr ha he eP aB) (CJ λds d e B G I H U Γ xs Q r h k=>by
 unfold setTF at e;split at e
 ·obtain⟨ok,rfl⟩:=tZ e;obtain⟨x,rfl,hx⟩:=h.one;obtain⟨q,zs,rfl,h3,h4⟩:=tW hx;exact⟨q,zs,_,I,rfl,.inl (Same.rdK r.iH h3).sq,h4,λd x hx=>hx.mono r.iH,ok.1,ok.2,λl cM hz hl=>k.new r hl hz⟩
 ·obtain⟨ok,rfl⟩:=tZ e;obtain⟨x,rfl,hx⟩:=h.one;obtain⟨q,zs,rfl,h3,h4⟩:=tR hx;exact⟨q,zs,_,I,rfl,.inr (Same.sqT r.iH h3),h4,λd x hx=>hx.mono r.iH,ok.1,ok.2,λl cM hz hl=>k.new r hl hz⟩
 ·cases e)
theorem Fp:∀{ns:List Int}{ag:List b_},Vals (ns.map V.int) ag->YC ag ns
 | [],ag,h=>by cases h;exact .nil
 | n::ns,ag,h=>by
  cases h with
  | cons h1 h2=>obtain⟨t,rfl⟩:=h1;exact .cons _ _ (Fp h2)
noncomputable def intsD:List D->Option (List Int)
 | []=>some []
 | .int i::ds=>match intsD ds with
  | some ns=>some (i::ns)
  | none=>none
 | _=>none
theorem DV:∀{ds:List D}{ns:List Int},intsD ds=some ns->ds=ns.map D.int
 | [],ns,h=>by cases h;rfl
 | d::ds,ns,h=>by
  cases d<;>try cases h
  rename_i i;rw[intsD] at h;cases e:intsD ds with
  | none=>rw[e] at h;cases h
  | some ms=>rw[e] at h;cases h;rw[O_,←DV e]
theorem DZ:∀(ns:List Int),intsD (ns.map D.int)=some ns
 | []=>rfl
 | n::ns=>by rw[O_,intsD,DZ ns]
theorem Bo{K:PySem.W.Frag}{I:Hp}:∀{ns:List Int}{zs:List V},IsA K I (ns.map D.int) zs->zs=ns.map V.int
 | [],zs,h=>h.nil_inv
 | n::ns,zs,h=>by
  obtain⟨x,r,rfl,h1,h2⟩:=IsA.cons_inv h;rw[Bo h2,tJ h1];rfl
variable{a b c c':D_}{gc gd:M D}
noncomputable def chn3(F F' fC:D->D->Option D)(ga gb gc gd:M D):M D:=bnd ga λx=>bnd gb λy=>bnd (lft (F x y)) λz=>bnd (lft (asB z)) λk=>if k then(bnd gc λw=>bnd (lft (F' y w)) λz'=>bnd (lft (asB z')) λk'=>if k' then bnd gd λw'=>lft (fC w w') else ret (.bl false)) else ret (.bl false)
noncomputable def tChain3(r r' dj:R2)(ta tb tc td:TE):TE:=λU H Q=>ta U H λx H1=>tb U H1 λy H2=>r x y H2 λz H3=>∃k,z=.bl k ∧
 (if k then(tc U H3 λw H4=>r' y w H4 λz' H5=>∃k',z'=.bl k'/\(if k' then(td U H5 λw' H6=>dj w w' H6 Q) else Q (.bl false) H5)) else Q (.bl false) H3)
theorem O'{r r':R2}{ta tb tc td:TE}(ho:OpR X (Tl op) r)(bV:OpR X (Tl bH) r')(ij:OpR X (Tl dI) dj)(ha:PE X a ta)(hb:PE X b tb)(hc:PE X c tc)(hd:PE X c' td)(hm:UC [op,bH,dI] [b,c,c']=false:=by with_unfolding_all rfl):PE X (.Compare a [op,bH,dI] [b,c,c'] pos) (tChain3 r r' dj ta tb tc td):=by
 intro aa s U H Q I h
 refine Compare_chain (thn (ha aa s U H _ I h) λv s1 ⟨x,H1,I1,r1,q1⟩=>Zh (thn (hb aa s1 U H1 _ I1 q1) λu s2 ⟨y,H2,I2,r2,q2⟩ =>
  thn (ho aa s2 U H2 x y v u _ I2 r1 r2 q2) λd s3 ⟨z,H3,I3,r3,k,e,q3⟩=>?_)) hm
 cases e;cases r3;refine K_ ?_;cases k with
 | false=>exact Zi ⟨.bl false,H3,I3,rfl,q3⟩
 | true =>
  refine Zj (Zh (thn (hc aa s3 U H3 _ I3 q3) λu' s4 ⟨y',H4,I4,r4,q4⟩=>thn (bV aa s4 U H4 y y' u u' _ I4 r2 r4 q4) λd' s5 ⟨z',H5,I5,r5,k',e',q5⟩=>?_));cases e';cases r5;refine K_ ?_;cases k' with
  | false=>exact Zi ⟨.bl false,H5,I5,rfl,q5⟩
  | true=>exact Zj (chain_last (thn (hd aa s5 U H5 _ I5 q5) λw' s6 ⟨z',H6,I6,r6,q6⟩=>ij aa s6 U H6 y' z' u' w' Q I6 r4 r6 q6))
theorem Hy{r r':R2}{K:PySem.W.Frag}(h:OpD K r F)(h':OpD K r' F')(qb:OpD K dj fC):∀U H Q,tD K B (chn3 F F' fC ga gb gc gd) U H Q->tChain3 r r' dj (tD K B ga) (tD K B gb) (tD K B gc) (tD K B gd) U H Q:=λU H Q q=>by
 obtain⟨G,I,Γ,d,af,r,e1,k⟩:=q;obtain⟨d1,ac,e2,e3⟩:=lX e1;obtain⟨d2,ai,e4,e5⟩:=lX e3;obtain⟨d3,aL,e6,e7⟩:=lX e5;obtain⟨e8,rfl⟩:=tN e6;obtain⟨k1,aN,e9,f1⟩:=lX e7;obtain⟨f2,rfl⟩:=tN e9;have:=wA f2;subst this;refine⟨G,I,Γ,d1,ac,r,e2,λv H1 I1 r1 g1 h1=>⟨G,I1,ac,d2,aN,r1,e4,λw H2 I2 r2 g2 h2=>h _ _ _ e8 B G I2 H2 U aN v w _ r2 (h1.mono g2.up) h2 λu H3 I3 r3 g3 h3=>⟨k1,uv h3,?_⟩⟩⟩;cases k1 with
 | false=>cases f1;exact iteF (k _ _ _ r3 (g1.trans (g2.trans g3)) (Is.bl false))
 | true =>
  obtain⟨d4,cx,f3,f4⟩:=lX f1;obtain⟨d5,dU,f5,f6⟩:=lX f4;obtain⟨f7,rfl⟩:=tN f5;obtain⟨k2,ik,f8,f9⟩:=lX f6;obtain⟨i1,rfl⟩:=tN f8;have:=wA i1;subst this;refine iteT ⟨G,I3,aN,d4,_,r3,f3,λz H4 I4 r4 g4 h4=>h' _ _ _ f7 B G I4 H4 U _ w z _ r4 (h2.mono (g3.trans g4).up) h4 λu' H5 I5 r5 g5 h5=>⟨k2,uv h5,?_⟩⟩;have gg:=g1.trans (g2.trans (g3.trans (g4.trans g5)));cases k2 with
  | false=>cases f9;exact iteF (k _ _ _ r5 gg (Is.bl false))
  | true =>
   obtain⟨d6,nD,i2,i3⟩:=lX f9;obtain⟨i4,rfl⟩:=tN i3;exact iteT ⟨G,I5,_,d6,_,r5,i2,λz' H6 I6 r6 g6 h6=>qb _ _ _ i4 B G I6 H6 U _ z z' Q r6 (h4.mono (g5.trans g6).up) h6 (k.after (gg.trans g6))⟩
theorem Kj(ha:ED X B a ga)(hb:ED X B b gb)(hc:ED X B c gc)(hd:ED X B c' gd)(hm:UC [.LtE,.Lt,.Lt] [b,c,c']=false:=by with_unfolding_all rfl):ED X B (.Compare a [.LtE,.Lt,.Lt] [b,c,c'] pos) (chn3 leI ltI ltI ga gb gc gd):=PE.imp (O' vh vZ vZ ha hb hc hd hm) (Hy ur ur ur)
end
end DL
namespace DL
open PySem PySem.W PySem.Spec PyProof.Rows L2
section
variable{B:BB}{a b e:D_}{kr:Nat}
noncomputable def txt(i:Int):Str:=Wm (toString i)
noncomputable def strIF(ds:List D):Option D:=match ds with
 | [.int i]=>if i.natAbs < 1000000 then some (.str (txt i)) else none
 | _=>none
theorem Az{i:Int}(h:i.natAbs < 1000000):i.natAbs.log2 < 1920:=by
 by_cases z:i.natAbs=0
 ·rw[z];decide
 ·have:i.natAbs.log2 < 20:=(Nat.log2_lt z).mpr (by omega);omega
theorem B1{p:Pos}{t:M (List D)}(hg:Gl X "str")(hm:X.mg "str"=none)(ha:AD X B [e] t)(he:d_ [e] X.env=(false,eval e X.env)::d_ [] X.env:=by rfl)(aB:(J_ pos (d_ [] X.env)).any (·.1)=false:=by rfl):
  ED X B (.Call (.Name "str" p) [e] [] pos) (fn1 strIF t):=ya NC (λds d e B G I H U Γ xs Q r h k=>by
 unfold strIF at e;split at e
 ·obtain⟨ok,rfl⟩:=tZ e;obtain⟨y,rfl,hx⟩:=h.one;rw[tJ hx];exact⟨_,rfl,Az ok,k.now r (Is.str _)⟩
 ·cases e) hg hm boot_str ha (by decide) (by decide) he aB
noncomputable def lenSF(ds:List D):Option D:=match ds with
 | [.str x]=>if x.length<=100000 then some (.int x.length) else none
 | _=>none
theorem wW{p:Pos}{t:M (List D)}(hg:Gl X "len")(hm:X.mg "len"=none)(ha:AD X B [e] t)(he:d_ [e] X.env=(false,eval e X.env)::d_ [] X.env:=by rfl)(aB:(J_ pos (d_ [] X.env)).any (·.1)=false:=by rfl):
  ED X B (.Call (.Name "len" p) [e] [] pos) (fn1 lenSF t):=v3 Ky (λds d e B G I H U Γ xs Q r h k=>by
 unfold lenSF at e;split at e
 ·obtain⟨ok,rfl⟩:=tZ e;obtain⟨y,rfl,hx⟩:=h.one;rw[ug hx];exact⟨_,rfl,vF (H_ ok (by decide)),k.now r (Is.int _)⟩
 ·cases e) hg hm boot_len ha (by decide) (by decide) he aB
noncomputable def ixSF(a b:D):Option D:=match a,b with
 | .str z,.int i=>if 0<=i/\i < 1000 then match z.cps[i.toNat]? with
  | some c=>some (.str ⟨#[c]⟩)
  | none=>none
  else none
 | _,_=>none
theorem CY(ha:ED X B a ga)(hb:ED X B b gb)(hs:PlainIxT b:=by exact λ_ _=>rfl):ED X B (.Subscript a b pos) (op2 ixSF ga gb):=PE.imp (OJ ha hb hs) (t_op λa b d e B G I H U Γ x y Q r hx hy k=>by
 unfold ixSF at e;split at e
 ·rename_i z i;split at e
  ·rename_i hi;split at e
   ·rename_i c hc;cases e
    have:i.toNat < z.cps.size:=by
     rcases Vt i.toNat z.cps.size with q | q
     ·exact q
     ·rw[UF q] at hc;cases hc
    exact⟨z,i,c,ug hx,tJ hy,hi.1,Int.lt_of_lt_of_le hi.2 (by decide),by show i < (z.cps.size:Int);omega,hc,k.now r (Is.str _)⟩
   ·cases e
  ·cases e
 ·cases e)
theorem Ez:OpR X (Tl .NotIn) (λx y H Q=>∃i j,x=.str i/\y=.str j/\Q (.bl (!(!(X0 j i 0 j.length 1).isEmpty))) H):=by
 intro aa s U H x y v u Q I rx ry h;obtain⟨i,j,rfl,rfl,q⟩:=h;obtain⟨t,rfl⟩:=rx;obtain⟨t',rfl⟩:=ry;exact notIn_str (Au I q rfl)
noncomputable def ninSF(a b:D):Option D:=match a,b with
 | .str i,.str j=>some (.bl (X0 j i 0 j.length 1).isEmpty)
 | _,_=>none
theorem BI(ha:ED X B a ga)(hb:ED X B b gb)(hm:Us .NotIn b=false:=by rfl):ED X B (.Compare a [.NotIn] [b] pos) (op2 ninSF ga gb):=xq Ez (λa b d e B G I H U Γ x y Q r hx hy k=>by
 unfold ninSF at e;split at e
 ·cases e;refine⟨_,_,ug hx,ug hy,?_⟩;rw[VA];exact k.now r (Is.bl _)
 ·cases e) ha hb hm
noncomputable def fsF(x:Str)(a b:D):Option D:=match a,b with
 | .int i,.int j=>if i.natAbs < 1000/\j.natAbs < 1000/\x.length<=100 then some (.str (txt i++x++txt j)) else none
 | _,_=>none
theorem Hj{i:Int}(h:i.natAbs < 1000):(txt i).length<=4:=by
 have:=int_text_length_le10 (a:=i) (k:=3) (by decide) (by omega);have e:(txt i).length=(toString i).length:=by unfold txt;rw[PySem.ofString_length]
 omega
theorem Gw(d:Str):Str.empty++d=d:=by
 cases d with | mk a=>show(⟨#[]++a⟩:Str)=⟨a⟩;simp
noncomputable def tFs(x:Str)(ta tb:TE):TE:=λU H Q=>ta U H λv H1=>∃m:Int,v=.int m/\m.natAbs < 1000/\tb U H1 λu H2=>∃n:Int,u=.int n/\n.natAbs < 1000/\Q (.str (txt m++x++txt n)) H2
theorem Nf{x:Str}{ta tb:TE}(hx:x.length<=100)(ha:PE X a ta)(hb:PE X b tb):
  PE X (.JoinedStr [.FormattedValue a (-1) none p1,.Constant (.str x) j p2,.FormattedValue b (-1) none p3] pos) (tFs x ta tb):=by
 intro aa s U H Q I h;have line:1000<=z_:=by rw[TH];decide
 refine wpAny_JoinedStr (show Joins _ _ _ [eval (.FormattedValue a (-1) none p1) X.env,eval (.Constant (.str x) j p2) X.env,eval (.FormattedValue b (-1) none p3) X.env] _ _ _ from ?_);refine Wu (thn (ha aa s U H _ I h) λv s1 ⟨m',H1,I1,r1,m,e1,hm,q1⟩=>?_);subst e1;obtain⟨t,rfl⟩:=r1;have lm:=Hj hm;refine Xu (Az (by omega)) ⟨txt m,_,rfl,?_,?_⟩
 ·rw[Gw];omega
 rw[Gw];refine Yn ⟨x,_,rfl,by rw[VU];omega,?_⟩;refine Wu (thn (hb aa _ U H1 _ ((I1.tok _).tok _) q1) λv s2 ⟨n',H2,I2,r2,n,e2,hn,q2⟩=>?_);subst e2;obtain⟨t,rfl⟩:=r2;have ln:=Hj hn;refine Xu (Az (by omega)) ⟨txt n,_,rfl,?_,?_⟩
 ·rw[VU,VU];omega
 ·refine⟨by rw[VU,VU];omega,⟨.str _,H2,(I2.tok _).tok _,⟨_,rfl⟩,q2⟩⟩
noncomputable def fs3(x:Str)(ga gb:M D):M D:=bnd ga λa=>bnd gb λb=>lft (fsF x a b)
theorem FZ{x:Str}(hx:x.length<=100)(ha:ED X B a ga)(hb:ED X B b gb):
  ED X B (.JoinedStr [.FormattedValue a (-1) none p1,.Constant (.str x) j p2,.FormattedValue b (-1) none p3] pos) (fs3 x ga gb):=PE.imp (Nf hx ha hb) λU H Q q=>by
 obtain⟨G,I,Γ,d,af,r,e1,k⟩:=q;obtain⟨d1,ac,e2,e3⟩:=lX e1;obtain⟨d2,ai,e4,e5⟩:=lX e3;obtain⟨e6,rfl⟩:=tN e5;unfold fsF at e6;split at e6
 ·rename_i m n;obtain⟨ok,rfl⟩:=tZ e6;exact⟨G,I,Γ,_,ac,r,e2,λv H1 I1 r1 g1 h1=>⟨m,tJ h1,ok.1,G,I1,ac,_,_,r1,e4,λu H2 I2 r2 g2 h2=>⟨n,tJ h2,ok.2.1,k _ _ _ r2 (g1.trans g2) (Is.str _)⟩⟩⟩
 ·cases e6
theorem Hc:∀{ts:List Str}{ag:List b_},Vals (ts.map V.str) ag->∃l:List (Str×Tok),YZ l=ag/\l.map (·.1)=ts
 | [],ag,h=>by cases h;exact⟨[],rfl,rfl⟩
 | t::ts,ag,h=>by
  cases h with
  | cons h1 h2 =>
   obtain⟨u,rfl⟩:=h1;obtain⟨l,e1,e2⟩:=Hc h2;exact⟨(t,u)::l,by rw[←e1];rfl,by rw[O_,e2]⟩
theorem Fq:MtR X "str.join" (λx xs H Q=>∃sep p texts,x=.str sep/\xs=[.ref p]/\SqL X.K H p (texts.map V.str)/\JoinOk sep texts=true/\Q (.str (Zt sep texts)) H):=by
 intro aa s U H x xs v us Q I rx rs h;obtain⟨sep,p,texts,rfl,rfl,hq,ok,q⟩:=h;obtain⟨t,rfl⟩:=rx;obtain⟨u,rfl,ru⟩:=vals1 rs;cases ru;obtain⟨ag,rv,pl,hz⟩:=I.list hq;obtain⟨l,e1,e2⟩:=Hc rv;subst e1;exact SC.join pl.isList e2 ok λt' k=>⟨.str _,H,I.tok _,⟨_,rfl⟩,q⟩
noncomputable def strsD:List D->Option (List Str)
 | []=>some []
 | .str x::ds=>match strsD ds with
  | some ts=>some (x::ts)
  | none=>none
 | _=>none
theorem Br:∀{ds:List D}{ts:List Str},strsD ds=some ts->ds=ts.map D.str
 | [],ns,h=>by cases h;rfl
 | d::ds,ns,h=>by
  cases d<;>try cases h
  rw[strsD] at h;cases e:strsD ds with
  | none=>rw[e] at h;cases h
  | some ms=>rw[e] at h;cases h;rw[O_,←Br e]
theorem GP:∀(ts:List Str),strsD (ts.map D.str)=some ts
 | []=>rfl
 | n::ns=>by rw[O_,strsD,GP ns]
theorem CM{K:PySem.W.Frag}{I:Hp}:∀{ts:List Str}{zs:List V},IsA K I (ts.map D.str) zs->zs=ts.map V.str
 | [],zs,h=>h.nil_inv
 | n::ns,zs,h=>by
  obtain⟨x,r,rfl,h1,h2⟩:=IsA.cons_inv h;rw[CM h2,ug h1];rfl
noncomputable def joinF(x:Str)(ds:List D):Option D:=match ds with
 | [.lst xs]=>match strsD xs with
  | some ts=>if JoinOk x ts=true then some (.str (Zt x ts)) else none
  | none=>none
 | _=>none
theorem CP{x:Str}{t:M (List D)}(ha:AD X B [e] t)(bt:UQ (.Constant (.str x) j p1) "join" X.env (eval (.Constant (.str x) j p1) X.env)=eval (.Constant (.str x) j p1) X.env:=by rfl)(bS:((J_ aC (d_ [e] X.env)).all (λx=>!x.1)&&(WW aC (Vk [] X.env)).all (λx=>x.1.isSome)&&decide ([e].length+([]:List U4).length+(if([]:List U4).isEmpty then 0 else 1) < 30))=true:=by rfl)(bu:(aT.endLine == aC.line)=true:=by rfl)(hs:d_ [e] X.env=(false,eval e X.env)::d_ [] X.env:=by rfl)(aX:(J_ aC (d_ [] X.env)).any (·.1)=false:=by rfl):
  ED X B (.Call (.Attribute (.Constant (.str x) j p1) "join" aT) [e] [] aC) (fn1 (joinF x) t):=
 PE.imp (wt X2 PySem.F.slot_str_join PySem.F.type_str_join Fq F4 ha bt bS bu hs aX) λU H Q q=>by
  obtain⟨G,I,Γ,d,af,r,e1,k⟩:=q;obtain⟨ds,ac,e2,e3⟩:=lX e1;obtain⟨e4,rfl⟩:=tN e3;unfold joinF at e4;split at e4
  ·split at e4
   ·rename_i ts et;obtain⟨ok,rfl⟩:=tZ e4;have:=Br et;subst this;refine⟨rfl,G,I,Γ,_,_,r,e2,λvs H1 I1 r1 g1 h1=>?_⟩;obtain⟨y,rfl,hy⟩:=h1.one;obtain⟨q,zs,rfl,h3,h4⟩:=tW hy;have:=CM h4;subst this;exact⟨x,q,ts,rfl,rfl,(Same.rdK r1.iH h3).sq,ok,k _ _ _ r1 g1 (Is.str _)⟩
   ·cases e4
  ·cases e4
theorem Hm:∀(l:List (Str×Tok)),Vals ((l.map (·.1)).map V.str) (YZ l)
 | []=>.nil
 | (x,t)::l=>.cons ⟨t,rfl⟩ (Hm l)
theorem A7{H:Hp}{s:c_}{l:List (Str×Tok)}{Q:VK}(I:Inv X aa U H s)(hl:l.length<=z_)(q:∀p,H p=none->Q (.ref p) (upd H p (.lst ((l.map (·.1)).map V.str)))):
  EP X aa U Q (.ref s.heap.objs.size) { s with toks:=tk,heap:=s.heap.push { cls:=.type "list", data:=.seq (YZ l).toArray } }:=
 ⟨.ref s.heap.objs.size,_,I.laid (t':=tk) (λb o e=>e_ _ e) (r_ _) (show ObjOk X.prog X.w _ _ _ (.lst ((l.map (·.1)).map V.str)) from⟨by simpa using hl,YZ l,0,Hm l,s_ _ rfl⟩),rfl,q _ (I.hok.fresh (r_ _))⟩
theorem NJ:MtR X "str.split" (λv xs H Q=>∃x y:Str,v=.str x/\xs=[.str y]/\(y.length == 0)=false/\x.length<=100000/\∀l,H l=none->Q (.ref l) (upd H l (.lst ((TY x y).map V.str)))):=by
 intro aa s U H v xs u us Q I rx rs h;obtain⟨x,y,rfl,rfl,hy,hx,q⟩:=h;obtain⟨t,rfl⟩:=rx;obtain⟨u,rfl,ru⟩:=vals1 rs;obtain⟨t',rfl⟩:=ru;have line:200000<=z_:=by rw[TH];decide
 have few:=split_le x y;cases h1:(decide (x.length < y.length)||decide (Ul.Str.strKind x < Ul.Str.strKind y))
 ·cases hf:(X0 x y 0 x.length (x.length+1)).isEmpty
  ·have e:TY x y=Ul.Str.partsBetween x (X0 x y 0 x.length (x.length+1)) y.length:=by
    unfold TY;rw[h1,hf];rfl
   have e2:=numbered_texts s.toks (TY x y)
   have ln:(numbered s.toks (TY x y)).length<=z_:=by
    have:=congrArg length e2;rw[y_] at this;omega
   have m:=meets_str_split_sep x y t t' h1 hy hf (by omega) (by rw[←e];omega);rw[←e] at m;rw[←e2] at q;have z:=A7 (tk:=s.toks+(TY x y).length) I ln q;rw[←strsFrom_eq] at z;exact Xd W4 (Wk s x t) WK (Wv _ _) m z
  ·have e:TY x y=[x]:=by unfold TY;rw[h1,hf];rfl
   rw[e] at q;exact Xd W4 (Wk s x t) WK (Wv _ _) (meets_str_split_not_found x y t t' h1 hy hf) (A7 (l:=[(x,t)]) I (by simp;omega) q)
 ·have e:TY x y=[x]:=by unfold TY;rw[h1];rfl
  rw[e] at q;exact Xd W4 (Wk s x t) WK (Wv _ _) (meets_str_split_cannot_occur x y t t' h1) (A7 (l:=[(x,t)]) I (by simp;omega) q)
noncomputable def splitF(a:D)(ds:List D):Option (List D):=match a,ds with
 | .str x,[.str y]=>if(y.length == 0)=false/\x.length<=100000 then some ((TY x y).map D.str) else none
 | _,_=>none
noncomputable def splS(i:Nat)(t:M (List D)):M (List D):=bnd (nm i) λa=>bnd t λds=>lft (splitF a ds)
theorem Di{K:PySem.W.Frag}{I:Hp}:∀(ts:List Str),IsA K I (ts.map D.str) (ts.map V.str)
 | []=>IsA.nil
 | t::ts=>IsA.cons (Is.str t) (Di ts)
theorem uH{t:M (List D)}(hv:ED X B (.Name z p1) (nm i))(ha:AD X B [e] t)(bt:UQ (.Name z p1) "split" X.env (eval (.Name z p1) X.env)=eval (.Name z p1) X.env:=by rfl)(bS:((J_ aC (d_ [e] X.env)).all (λx=>!x.1)&&(WW aC (Vk [] X.env)).all (λx=>x.1.isSome)&&decide ([e].length+([]:List U4).length+(if([]:List U4).isEmpty then 0 else 1) < 30))=true:=by rfl)(bu:(aT.endLine == aC.line)=true:=by rfl)(hs:d_ [e] X.env=(false,eval e X.env)::d_ [] X.env:=by rfl)(aX:(J_ aC (d_ [] X.env)).any (·.1)=false:=by rfl):
  EO X B (.Call (.Attribute (.Name z p1) "split" aT) [e] [] aC) (splS i t):=
 PE.imp (wt X2 PySem.F.slot_str_split PySem.F.type_str_split NJ hv ha bt bS bu hs aX) λU H Q q=>by
  obtain⟨G,I,Γ,d,af,r,e1,k⟩:=q;obtain⟨d1,ac,e2,e3⟩:=lX e1;obtain⟨ds,ai,e4,e5⟩:=lX e3;obtain⟨e6,rfl⟩:=tN e5;unfold splitF at e6;split at e6
  ·rename_i x y;obtain⟨ok,rfl⟩:=tZ e6;refine⟨G,I,Γ,_,ac,r,e2,λv H1 I1 r1 g1 h1=>?_⟩;rw[ug h1];refine⟨rfl,G,I1,ac,_,_,r1,e4,λvs H2 I2 r2 g2 h2=>?_⟩;obtain⟨w,rfl,hw⟩:=h2.one;rw[ug hw];exact⟨x,y,rfl,rfl,ok.1,ok.2,λl hl=>(k.after (g1.trans g2)).new r2 hl (Di _)⟩
  ·cases e6
noncomputable def Its(x:Str):It:=⟨λi _=>i < x.cps.size,λi H v H'=>H'=H/\∃c,x.cps[i]?=some c/\v=.str ⟨#[c]⟩,λi _=>x.cps.size<=i⟩
theorem IS{P:v_}{w:F_}{K:PySem.W.Frag}(x:Str)(t:Tok)(it:g_):Turn P w K tg (Its x) [it] it (λi h=>h.IsStrIter it "str_ascii_iterator" x t i) where
 mem:=k_.mpr rfl
 obj:=λi h st b hb=>by
  obtain rfl:=k_.mp hb;obtain⟨o,e,c,d⟩:=st;exact⟨o,e,λv z=>by rw[d] at z;cases z⟩
 keep:=λi h h' ⟨o,e,r⟩ k=>⟨o,k it (k_.mpr rfl) o e,r⟩
 item:=by
  intro X hP hw hK hc i aa s U H E I hf st hg;subst hP hw hK;obtain⟨f0,f1,f2,f3,f4,f5⟩:=hf it (k_.mpr rfl);have hx:x.cps[i]?=some x.cps[i]:=l_ hg;refine wpAny_pyNext_ascii_item st hx λh' dy sb=>?_
  have I1:Inv X aa U H { s with heap:=h',toks:=s.toks+1 }:=I.turned (t':=s.toks+1) (λb o hb e=>(sb.2 b hb).trans e) f0 f1 f3 f4 f5;obtain⟨o,e,c,d⟩:=id dy;exact⟨_,rfl,yJ (s:={ s with heap:=h',toks:=s.toks+1 }) e c d (by decide) ⟨.str _,H,I1,⟨_,rfl⟩,⟨rfl,_,hx,rfl⟩,dy,λb hb=>(hf b hb).1⟩⟩
 done:=by
  intro X hP hw hK hc i aa s U H E I hf st hg;subst hP hw hK;obtain⟨f0,f1,f2,f3,f4,f5⟩:=hf it (k_.mpr rfl);exact wpAny_pyNext_ascii_end (I.ok.hd hc) st (UF hg) λh' eb=>⟨rfl,I.turned (t':=s.toks) (λb o hb e=>eb b o hb e) f0 f1 f3 f4 f5⟩
 self:=λ_ _ _ _ _ st h=>wpAny_pyIter_striter_ascii st h
theorem M9{l:D_}(hl:PE X l tl):PI X tg l (λU H R=>tl U H λv H1=>∃x:Str,v=.str x/\x.cps.all (· < 128)=true/\R (Its x) H1):=by
 intro aa s U H R I h;refine thn (hl aa s U H _ I h) λv s1 ⟨x',H1,I1,r1,x,e,hx,q⟩=>?_
 subst e;obtain⟨t,rfl⟩:=r1;refine wpAny_pyIter_ascii hx ⟨s1.heap.objs.size,[s1.heap.objs.size],_,_,H1,rfl,I1.kept (t':=s1.toks) λb o e=>e_ _ e,IS x t _,⟨_,s_ _ rfl,rfl,rfl⟩,λb hb=>?_,q⟩;obtain rfl:=k_.mp hb;exact I1.fpOk (r_ _) (I1.hok.fresh (r_ _))
noncomputable def signsD(d:D):Option (List D):=match d with
 | .str x=>if x.cps.all (· < 128)=true then some (x.cps.toList.map λc=>.str ⟨#[c]⟩) else none
 | _=>none
noncomputable def itT(g:M D):M (List D):=bnd g λd=>lft (signsD d)
theorem yP(ha:ED X B a ga):ITD X B tg a (itT ga):=PI.imp (M9 ha) λU H R q=>by
 obtain⟨G,I,Γ,ds,af,r,e1,k⟩:=q;obtain⟨d,ac,e2,e3⟩:=lX e1;obtain⟨e4,rfl⟩:=tN e3;unfold signsD at e4;split at e4
 ·rename_i x;obtain⟨ok,rfl⟩:=tZ e4;refine⟨G,I,Γ,_,_,r,e2,λv H1 I1 r1 g1 hd=>⟨x,ug hd,ok,k _ _ _ r1 g1 λi H2 hs=>⟨λd he=>?_,λhe=>?_⟩⟩⟩
  ·rw[Tp,TF] at he;obtain⟨c,hc,rfl⟩:=he;rw[VH] at hc;have hi:i < x.cps.size:=(A_.mp hc).1;refine⟨hi,λy H3 ⟨e5,c',e6,e7⟩=>.inl ⟨e5,?_⟩⟩;rw[hc] at e6;cases e6;rw[e7];exact Is.str _
  ·have:x.cps.size<=i:=by simpa using he
   exact this
 ·cases e4
end
section
variable{B:BB}{e:D_}{t:M (List D)}
theorem Lp:MtR X "list.count" (λx xs H Q=>∃(p:g_) (ns:List Int) (k:Int),x=.ref p/\xs=[.int k]/\SqL X.K H p (ns.map V.int)/\ns.length<=1000/\Q (.int (ns.count k:Nat)) H):=by
 intro aa s U H x xs v us Q I rx rs h;obtain⟨p,ns,k,rfl,rfl,hq,hl,q⟩:=h;cases rx;obtain⟨u,rfl,ru⟩:=vals1 rs;obtain⟨t,rfl⟩:=ru;obtain⟨ag,rv,pl,hz⟩:=I.list hq;exact count_list_ints pl.isList (Fp rv) ⟨.int _,H,I.tok _,⟨_,rfl⟩,q⟩
noncomputable def cntF(a:D)(ds:List D):Option D:=match a,ds with
 | .lst xs,[.int k]=>match intsD xs with
  | some ns=>if ns.length<=1000 then some (.int (ns.count k:Nat)) else none
  | none=>none
 | _,_=>none
noncomputable def cntV(i:Nat)(t:M (List D)):M D:=bnd (nm i) λa=>bnd t λds=>lft (cntF a ds)
theorem FO(hv:ED X B (.Name z p1) (nm i))(ha:AD X B [e] t)(bt:UQ (.Name z p1) "count" X.env (eval (.Name z p1) X.env)=eval (.Name z p1) X.env:=by rfl)(bS:((J_ aC (d_ [e] X.env)).all (λx=>!x.1)&&(WW aC (Vk [] X.env)).all (λx=>x.1.isSome)&&decide ([e].length+([]:List U4).length+(if([]:List U4).isEmpty then 0 else 1) < 30))=true:=by rfl)(bu:(aT.endLine == aC.line)=true:=by rfl)(hs:d_ [e] X.env=(false,eval e X.env)::d_ [] X.env:=by rfl)(aX:(J_ aC (d_ [] X.env)).any (·.1)=false:=by rfl):
  ED X B (.Call (.Attribute (.Name z p1) "count" aT) [e] [] aC) (cntV i t):=
 PE.imp (wt Xl PySem.F.slot_list_count PySem.F.type_list_count Lp hv ha bt bS bu hs aX) λU H Q q=>by
  obtain⟨G,I,Γ,d,af,r,e1,k⟩:=q;obtain⟨d1,ac,e2,e3⟩:=lX e1;obtain⟨ds,ai,e4,e5⟩:=lX e3;obtain⟨e6,rfl⟩:=tN e5;unfold cntF at e6;split at e6
  ·rename_i xs n;split at e6
   ·rename_i ns en;obtain⟨ok,rfl⟩:=tZ e6;refine⟨G,I,Γ,_,ac,r,e2,λv H1 I1 r1 g1 h1=>?_⟩;rw[DV en] at h1;have h0:=h1;obtain⟨q,zs,rfl,h3,h4⟩:=tW h1;have:=Bo h4;subst this;have sq:=(Same.rdK r1.iH h3).sq;refine⟨.inl ⟨rfl,_,sq⟩,G,I1,ac,_,_,r1,e4,λvs H2 I2 r2 g2 h2=>?_⟩;obtain⟨w,rfl,hw⟩:=h2.one;rw[tJ hw];obtain⟨q',cM,e',i3,i4⟩:=tW (h0.mono g2.up);cases e';have:=Bo i4;subst this;exact⟨q,ns,n,rfl,rfl,(Same.rdK r2.iH i3).sq,ok,k _ _ _ r2 (g1.trans g2) (Is.int _)⟩
   ·cases e6
  ·cases e6
end
end DL
namespace DL
open PySem PySem.Spec PyProof.Rows L2 PySem.W
theorem objThere{P:v_}{w:F_}{H:Hp}{h:G_}{a:g_}{o:HO}(x:ObjOk P w H h a o):∃u,h.get? a=some u:=by
 cases o
 case lst=>obtain⟨_,_,_,_,e⟩:=x;exact⟨_,e⟩
 case tup=>obtain⟨_,_,_,_,e,_⟩:=x;exact⟨_,e⟩
 case dK=>obtain⟨_,_,_,_,_,_,_,e,_⟩:=x;exact⟨_,e⟩
 case dT=>obtain⟨_,_,_,_,_,_,_,e,_⟩:=x;exact⟨_,e⟩
 case set=>obtain⟨_,_,_,_,e,_⟩:=x;exact⟨_,e⟩
 case ins=>obtain⟨_,_,_,e,_⟩:=x;exact⟨_,e⟩
 case own=>obtain⟨_,e⟩:=x;exact⟨_,e⟩
 case xd=>obtain⟨_,⟨_,_,_,e,_⟩,_⟩:=x;exact⟨_,e⟩
 case rng=>obtain⟨_,_,_,e⟩:=x;exact⟨_,e⟩
 case frz=>exact⟨_,x.1⟩
 case tbl=>first | exact⟨_,x⟩ | (obtain⟨_,e,_⟩:=x;exact⟨_,e⟩)
 case met=>exact⟨_,x⟩
 case ext=>obtain⟨_,e,_⟩:=x;exact e
def Lasts(h h':G_):Prop:=∀b o,h.get? b=some o->∃o',h'.get? b=some o'
theorem Lasts.none{h h':G_}(l:Lasts h h'){b:g_}(e:h'.get? b=none):h.get? b=none:=by
 cases z:h.get? b with
 | none=>rfl
 | some o=>obtain⟨_,q⟩:=l b o z;rw[e] at q;cases q
def Flies(H:Hp)(h₀ h:G_)(a C:g_):Prop:=∃oe vs a0,h.get? a=some oe/\oe.cls=.ref C/\oe.data=.fields vs/\vs[0]?=some a0/\H a=none/\h₀.get? a=none ∧
 (vs[1]?=some .none\/∃T oT ts,vs[1]?=some (.ref T)/\T≠a/\h.get? T=some oT/\oT.data=.fields ts/\3 < ts.size/\H T=none/\h₀.get? T=none)
theorem Flies.back{H:Hp}{h:G_}{a:g_}(F:Flies H h₀ h a C)(l:Lasts aH h₀):Flies H aH h a C:=by
 obtain⟨oe,vs,a0,e1,e2,e3,e4,e5,e6,e7⟩:=F;refine⟨oe,vs,a0,e1,e2,e3,e4,e5,l.none e6,e7.imp id ?_⟩;rintro⟨T,oT,ts,f1,f2,f3,f4,f5,f6,f7⟩;exact⟨T,oT,ts,f1,f2,f3,f4,f5,f6,l.none f7⟩
structure Turn(H:Hp)(h₀ h h':G_)(fr ch:List g_):Prop where
 new:∀b∈ch,H b=none/\h₀.get? b=none/\∃o vs,h.get? b=some o/\o.data=.fields vs
 keep:∀b o,h.get? b=some o->b∉ch->b∉fr->h'.get? b=some o
 slot:∀b o,h.get? b=some o->b∈fr->∃sl,h'.get? b=some { o with slots:=sl }
section
variable{P:v_}{w:F_}{H:Hp}{h:G_}{l:List Env}{a:g_}{a0:b_}
theorem zk(hl:h.FunFrames base l)(new:∀b∈ch,H b=none/\h₀.get? b=none/\∃o vs,h.get? b=some o/\o.data=.fields vs)(st:(V' h (ch++frs l)).StaysIn h')(up:h.UpToSlots h'):Turn H h₀ h h' (frs l) ch:=
 ⟨new,λb o e n1 n2=>st b o (Y9 _ e λm=>(I_.mp m).elim n1 n2),λb o e m=>up b o e (by
  obtain⟨_,o',e',d⟩:=hl.mem m;rw[e] at e';cases e'
  exact d)⟩
theorem Bj(hok:HOk P w H h)(th:Lasts h₀ h)(hl:h.FunFrames base l)(T:Turn H h₀ h h' (frs l) ch)(ha:a∈ch)(t:h'.TracedAtW (V' h (ch++frs l)) a (.ref C) a0 fl):Flies H h₀ h' a C:=by
 obtain⟨oe,vs,T',oT,ts,e1,⟨e2,e3⟩,e4,e5,e6,e7,e8,e9,lh⟩:=t
 have q:H T'=none/\h₀.get? T'=none:=by
  by_cases m:T'∈ch
  ·exact⟨(T.new _ m).1,(T.new _ m).2.1⟩
  by_cases m2:T'∈frs l
  ·exfalso
   obtain⟨_,o,eo,d⟩:=hl.mem m2;obtain⟨sl,es⟩:=T.slot _ _ eo m2;rw[e8] at es;cases es;exact d ts e9
  have n:h.get? T'=none:=by
   cases z:h.get? T' with
   | none=>rfl
   | some o=>rw[Y9 _ z λq=>(I_.mp q).elim m m2] at e6;cases e6
  refine⟨?_,th.none n⟩;cases z:H T' with
  | none=>rfl
  | some o=>obtain⟨u,z2⟩:=objThere (hok _ _ z);rw[n] at z2;cases z2
 exact⟨oe,vs,a0,e1,e2,e4,e3,(T.new a ha).1,(T.new a ha).2.1,.inr ⟨T',oT,ts,e5,e7,e8,e9,(A_.mp lh).1,q.1,q.2⟩⟩
theorem zz(hl:h.FunFrames base l):h.FunFrames (V' h (ch++frs l)) l:=funFrames_hide hl λenv he b hb=>L_ _ (U7.mpr ⟨env,he,hb⟩)
variable{M:Y2}{E:b_->c_->Prop}{s:c_}{Q:Unit->c_->Prop}{outer:List Env}{L:g_}
theorem Gu(gw:A.frames=some (env::outer))(hf:env.frame=some L)(hl:s.heap.FunFrames base (env::outer))(hok:HOk P w H s.heap)(th:Lasts h₀ s.heap)(F:Flies H h₀ s.heap a C)(k:∀h' ch a0 fl,a∈ch->Turn H h₀ s.heap h' (frs (env::outer)) ch->(V' s.heap (ch++frs (env::outer))).StaysIn h'->h'.FunFrames (V' s.heap (ch++frs (env::outer))) (env::outer)->h'.TracedAtW (V' s.heap (ch++frs (env::outer))) a (.ref C) a0 fl->Q () { s with heap:=h' }):o_ M A (Vl (.ref a) env) Q E s:=by
 obtain⟨oe,vs,a0,e1,e2,e3,e4,e5,e6,e7⟩:=F
 rcases e7 with e7 | ⟨T,oT,ts,f1,f2,f3,f4,f5,f6,f7⟩
 ·unfold Vl;simp only[hf];refine a_ (TM e1 e3 e7 ?_);rw[if_neg (by decide)];refine wpAny_entryW (base:=V' s.heap ([a]++frs (env::outer))) gw (zz hl) hf e1 (λb o q=>Xi _ q) (V_ _ (.head _)) e3 (A_.mp e7).1 e4 λh' hN=>?_
  obtain⟨k1,k2,k3,k4⟩:=hN;rw[e2] at k3;exact k h' [a] a0 _ (.head _) (zk hl (λb hb=>by rw[k_.mp hb];exact⟨e5,e6,_,_,e1,e3⟩) k1 k4) k1 k2 k3
 have new:∀b∈[a,T],H b=none/\h₀.get? b=none/\∃o vs,s.heap.get? b=some o/\o.data=.fields vs:=λb hb=>by
  rcases w_.mp hb with z | z
  ·rw[z];exact⟨e5,e6,_,_,e1,e3⟩
  ·rw[k_.mp z];exact⟨f6,f7,_,_,f3,f4⟩
 have f8:ts[3]?=some ts[3]:=l_ f5;unfold Vl;simp only[hf];refine a_ (TM e1 e3 f1 ?_);rw[if_pos (show(b_.ref T != b_.none)=true by simp)];refine a_ (TM f3 f4 f8 ?_);by_cases hz:(ts[3] == Vo L)=true
 ·rw[if_pos hz];exact f_ (k s.heap [a,T] a0 ts[3] (.head _) (zk hl new (λb o q=>Xi _ q) (.refl _)) (λb o q=>Xi _ q) (zz hl) ⟨oe,vs,T,oT,ts,e1,⟨e2,e4⟩,e3,f1,V_ _ (.tail _ (.head _)),f2,f3,f4,f8⟩)
 rw[if_neg hz];refine a_ (UE f3 f4 f5 ?_);have cJ:∀b,b≠T->(s.heap.update T (W3 (·.setIfInBounds 3 b_.none))).get? b=s.heap.get? b:=λb hb=>N_ _ _ (Tt hb)
 have nE:∀b o,s.heap.get? b=some o->(∀vs,o.data≠.fields vs)->b≠T:=λb o q n z=>by
  rw[z,f3] at q;cases q;exact n ts f4
 refine wpAny_entryW (base:=V' s.heap ([a,T]++frs (env::outer))) (oe:=oe) gw ((zz hl).of_keeps λb o q n=>⟨o,(cJ b (nE b o q n)).trans q,rfl⟩) hf ((cJ a (Tt f2)).trans e1) (λb o q=>(cJ b λz=>by have n:(V' s.heap ([a,T]++frs (env::outer))).get? T=none:=V_ _ (.tail _ (.head _));rw[z,n] at q;cases q).trans (Xi _ q)) (V_ _ (.head _)) e3 (A_.mp f1).1 e4 λh' hN=>?_
 obtain⟨k1,k2,k3,k4⟩:=hN;rw[e2] at k3;exact k h' [a,T] a0 _ (.head _) (zk hl new k1 λb o q n=>k4 b o ((cJ b (nE b o q n)).trans q) n) k1 k2 k3
theorem DK(gw:A.frames=some (env::outer))(hf:env.frame=some L)(hl:s.heap.FunFrames base (env::outer))(hok:HOk P w H s.heap)(th:Lasts h₀ s.heap)(F:Flies H h₀ s.heap a C)(k:∀h' ch,Turn H h₀ s.heap h' (frs (env::outer)) ch->Flies H h₀ h' a C->Q () { s with heap:=h' }):o_ M A (Vl (.ref a) env) (λ_ aD=>o_ M A (Y0 (.ref a) none) Q E aD) E s:=by
 refine Gu gw hf hl hok th F λh1 ch a0 fl ha T k1 k2 k3=>?_
 refine Xv k1 k2 k3 λh2 j1 j2 j3 j4=>?_
 have T2:Turn H h₀ s.heap h2 (frs (env::outer)) ch:=⟨T.new,λb o e n1 n2=>j1 b o (Y9 _ e λm=>(I_.mp m).elim n1 n2),λb o e m=>by
  obtain⟨sl,q⟩:=T.slot b o e m;obtain⟨_,o',e',d⟩:=hl.mem m;rw[e] at e';cases e'
  exact⟨sl,j4 b _ q d⟩⟩
 exact k h2 ch T2 (Bj hok th hl T2 ha j3)
theorem Jk(gw:A.frames=some (env::outer))(hf:env.frame=some L)(hl:s.heap.FunFrames base (env::outer))(hok:HOk P w H s.heap)(th:Lasts h₀ s.heap)(F:Flies H h₀ s.heap a C)(k:∀h' ch,Turn H h₀ s.heap h' (frs (env::outer)) ch->Flies H h₀ h' a C->Q () { s with heap:=h' }):o_ M A (leaving env (.ref a)) Q E s:=by
 unfold leaving;exact a_ (DK gw hf hl hok th F k)
end
noncomputable def CXX(P:v_)(w:F_):CXT:=λouter H s E e s'=>∃a C H',e=.ref a/\s'.os=s.os/\Vm s'.gens/\Un (frs outer) [] H H' s.heap s'.heap/\HOk P w H' s'.heap/\Flies H' s.heap s'.heap a C/\E (.ref C) none H'
def Xz(X:Cx)(C:g_)(U:L2.St)(H:Hp):Prop:=∀aa s aH a,Inv X aa U H s->(∀b o,X.s₀.heap.get? b=some o->b∉X.ex->∃o',aH.get? b=some o')->(∀p∈X.pn++aa,∃o,aH.get? p.1=some o)->Lasts aH s.heap->Flies H aH s.heap a C->X.xe (.ref a) s
theorem Turn.hok{H:Hp}{s:c_}(T:Turn H h₀ s.heap h' (frs X.stack) ch)(I:Inv X aa U H s):HOk X.prog X.w H h':=λb u e=>by
 have no:∀c v,H c=some v->c∉ch/\c∉frs X.stack:=λc v q=>⟨λm=>(by rw[(T.new c m).1] at q;cases q),λm=>(by rw[I.stkFree c m] at q;cases q)⟩
 refine(I.hok b u e).stay (λc v hc q=>?_) (λ_ q=>q) (λ_ _ q=>q)
 rcases hc with rfl | z
 ·exact T.keep c v q (no c u e).1 (no c u e).2
 ·exact T.keep c v q (no c _ z).1 (no c _ z).2
section
variable{P:v_}{w:F_}{K:PySem.W.Frag}{f:g_}{aA:b_}{outer:List Env}{s:c_}{H:Hp}{E:XK}
theorem Pn(he:E (.ref C) none H'):Xz (cxOf (CXX P w) P w K mg base N qual scope f aA A outer s H E) C U H':=λaa s1 aH a I c1 c2 c3 F=>by
 refine Jk I.ok.frames rfl I.stack I.hok c3 F λh' ch T F'=>?_
 have nF:Lasts s.heap aH:=λb o e=>c1 b o e (λz=>nomatch z)
 have cQ:∀b o,s.heap.get? b=some o->b∉ch:=λb o e m=>by
  obtain⟨_,q⟩:=nF b o e;rw[(T.new b m).2.1] at q;cases q
 have qc:∀b o,s.heap.get? b=some o->b∉frs outer->b∉frs (VZ qual scope s.heap.objs.size f aA::outer):=λb o e n m=>by
  rcases w_.mp (I.stkSub b m) with z | z
  ·exact absurd (B_ e) (by rw[z];exact Ug _)
  ·exact n z
 refine⟨a,C,H',rfl,I.os,I.bare,⟨λb o e n hb _=>T.keep b o (I.base.keep b o e n hb (λz=>nomatch z)) (cQ b o e) (qc b o e hb),λb o e n hb _=>?_,λb o e n _=>I.base.free b o e n (λz=>nomatch z),λb o e _=>?_,I.base.tups,I.base.frzs,?_⟩,T.hok I,F'.back nF,he⟩
 ·obtain⟨sl,e1⟩:=I.base.slot b o e n hb (λz=>nomatch z);obtain⟨jT,e2⟩:=T.slot b _ e1 (by unfold frs;rw[Vn];exact i_ _ hb);exact⟨jT,e2⟩
 ·obtain⟨o',e1⟩:=I.base.there b o e (λz=>nomatch z);by_cases m:b∈frs (VZ qual scope s.heap.objs.size f aA::outer)
  ·obtain⟨sl,e2⟩:=T.slot b _ e1 m;exact⟨_,e2⟩
  ·exact⟨_,T.keep b _ e1 (cQ b o e) m⟩
 ·exact I.base.tbls
end
noncomputable def tX(X:Cx)(B:BB)(cl:Nat->g_)(m:M Nat):TE:=λU H _=>∃G I Γ C af,Rep X.K B G I H U Γ/\m Γ=some (C,af)/\∀H' I',Rep X.K B G I' H' U af->Grow G I I'->Xz X (cl C) U H'
noncomputable def tSX(X:Cx)(B:BB)(cl:Nat->g_)(m:M Nat):TS:=λ_ U H=>∃G I Γ C af,Rep X.K B G I H U Γ/\m Γ=some (C,af)/\∀am H' I',Rep X.K B G I' H' am af->Grow G I I'->Xz X (cl C) am H'
def XD(X:Cx)(B:BB)(cl:Nat->g_)(e:D_)(m:M Nat):Prop:=PE X e (tX X B cl m)
def SX(X:Cx)(B:BB)(cl:Nat->g_)(st:Tr)(m:M Nat):Prop:=PS X st (tSX X B cl m)
def SXs(X:Cx)(B:BB)(cl:Nat->g_)(st:List Tr)(m:M Nat):Prop:=PSs X st (tSX X B cl m)
noncomputable def orX(a b:M Nat):M Nat:=λΓ=>match a Γ with
 | some r=>some r
 | none=>b Γ
noncomputable def thenX(g:M Fl)(m:M Nat):M Nat:=bnd g λf=>match f with
 | .nx=>m
 | _=>λ_=>none
noncomputable def nvX:M Nat:=λ_=>none
theorem FU{B:BB}{cl:Nat->g_}{E:Ends}{H:Hp}(q:tSX X B cl nvX E U H):False:=by obtain⟨_,_,_,_,_,_,e,_⟩:=q;cases e
section
variable{B:BB}{cl:Nat->g_}{st:Tr}{aF:List Tr}{g:M Fl}{m m':M Nat}{e:D_}{es:List D_}
theorem Qs:SX X B cl st nvX:=λ_ _ _ _ _ _ q=>(FU q).elim
theorem Jt:SXs X B cl aF nvX:=λ_ _ _ _ _ _ q=>(FU q).elim
theorem Pc(h:SX X B cl st m):SXs X B cl [st] m:=Gz h
theorem E6(h:SD X B st g)(h1:SX X B cl st m)(h2:SXs X B cl aF m'):SXs X B cl (st::aF) (orX m (thenX g m')):=by
 have hh:PS X st λD U H=>tS X.K B g D U H\/tSX X B cl m D U H:=λaa s U H D I q=>q.elim (h aa s U H D I) (h1 aa s U H D I)
 refine PSs.imp (CN hh h2) λE U H q=>?_
 obtain⟨G,I,Γ,C,af,r,e1,k⟩:=q;unfold orX at e1;cases z:m Γ with
 | some y=>rw[z] at e1;cases e1;exact .inr ⟨G,I,Γ,C,af,r,z,k⟩
 | none =>
  rw[z] at e1;obtain⟨f,ac,e2,e3⟩:=lX e1;refine .inl ⟨G,I,Γ,f,ac,r,e2,λbY H1 I1 r1 g1=>?_⟩;cases f with
  | nx=>exact⟨G,I1,ac,C,af,r1,e3,λam H' I' r' g'=>k am H' I' r' (g1.trans g')⟩
  | rt _=>cases e3
  | bk=>cases e3
  | ct=>cases e3
noncomputable def ifX(c:M Bool)(a b:M Nat):M Nat:=bnd c λk=>if k then a else b
theorem JB{c:D_}(hc:TD X B c tc)(ha:SXs X B cl sa m)(hb:SXs X B cl sb m'):SX X B cl (.If c sa sb pos) (ifX tc m m'):=PS.imp (Ej hc ha hb) λE U H q=>by
 obtain⟨G,I,Γ,C,af,r,e1,k⟩:=q;obtain⟨d,ac,e2,e3⟩:=lX e1;refine⟨G,I,Γ,d,ac,r,e2,λH1 I1 r1 g1=>?_⟩;cases d with
 | true=>exact iteT ⟨G,I1,ac,C,af,r1,e3,λam H' I' r' g'=>k am H' I' r' (g1.trans g')⟩
 | false=>exact iteF ⟨G,I1,ac,C,af,r1,e3,λam H' I' r' g'=>k am H' I' r' (g1.trans g')⟩
theorem tSX.tX{E:Ends}{H:Hp}{Q:VK}(q:tSX X B cl m E U H):DL.tX X B cl m U H Q:=by
 obtain⟨G,I,Γ,C,af,r,e1,k⟩:=q;exact⟨G,I,Γ,C,af,r,e1,λH' I'=>k U H' I'⟩
theorem Jz(he:XD X B cl e m):SX X B cl (.Return (some e) pos) m:=PS.imp (AI he) λ_ _ _ q=>q.tX
theorem wo{x:Str}(hN:X.N.Nodup)(he:XD X B cl e m)(hi:X.N[i]?=some x:=by rfl)(hx:locB X.env.scope x=true:=by rfl)(hs:Uy e (some (.Name x aP)) pos.line X.env=pure false:=by rfl)(hf:fnB X x=true:=by rfl):SX X B cl (.Assign [.Name x aP] e pos) m:=PS.imp (CB hN hi (locI hx) he hs (fnI hf)) λ_ _ _ q=>q.tX
noncomputable def spE(K:PySem.W.Frag)(cl:Nat->g_)(gx:List D->Option Nat):Sp:=λvs H _ E=>∃I ds C,Same I H/\IsA K I ds vs/\gx ds=some C/\∀H',Same H H'->E (.ref (cl C)) none H'
noncomputable def fnX(gx:List D->Option Nat)(t:M (List D)):M Nat:=bnd t λds=>lft (gx ds)
theorem Nh{f:g_}{gx:List D->Option Nat}{x:Str}{p:Pos}{t:M (List D)}(F:FnOk X.prog X.w X.K X.mg X.base (CXX X.prog X.w) k f fd ps (spE X.K cl gx))(hr:Room k X.A)(hg:Gl X x)(hm:X.mg x=some (.ref f))(hk:keepIn X.K (.ref f)=true)(hb:Binds X.K fd ps [])(ha:AD X B (e::es) t)(bh:(x == ("__debug__":Str))=false:=by decide)(he:d_ (e::es) X.env=(false,eval e X.env)::d_ es X.env:=by rfl)(aB:(J_ pos (d_ es X.env)).any (·.1)=false:=by rfl):
  XD X B cl (.Call (.Name x p) (e::es) [] pos) (fnX gx t):=by
 intro aa s U H Q I h;obtain⟨G,J,Γ,C,af,r,e1,kk⟩:=h;obtain⟨ds,ac,e2,e3⟩:=lX e1;obtain⟨e4,rfl⟩:=tN e3;refine Ui (wf I hg hm ?_ bh);refine callWith_K (h₀:=X.base) I.ok.mod.kin hk (thn (ha pos aa s U H (λvs H1=>∃J1,Rep X.K B G J1 H1 U af/\Grow G J J1/\IsA X.K J1 ds vs) I ⟨G,J,Γ,ds,_,r,e2,λvs H1 J1 r1 g1 h1=>⟨J1,r1,g1,h1⟩⟩) λus s1 ⟨vs,H1,I1,rv,J1,r1,g1,h1⟩=>⟨I1.kIn,?_⟩) he aB;have sp:spE X.K cl gx vs H1 (λ_ _=>False) (λc _ H2=>c=.ref (cl C)/\Same H1 H2):=⟨J1,ds,C,r1.iH,h1,e4,λH' z=>⟨rfl,z⟩⟩;have hl:us.length=ps.length:=by rw[←rv.length];exact F.len _ _ _ _ sp
 have bb:=hb s1 us I1.kIn (by rw[Uo];exact hl);rw[Uo] at bb;refine Yq (Uk (F.run X.A X.stack s1 H1 ⟨us,[]⟩ us vs _ _ hr I1.env0 bb rv sp) λrr s' hq=>?_);cases rr with
 | ok fl =>
  cases fl with
  | ret u=>obtain⟨_,_,_,_,_,_,_,z⟩:=hq;exact z.elim
  | next=>exact hq.elim
  | brk=>exact hq.elim
  | cont=>exact hq.elim
 | error ex =>
  obtain⟨a,C',H2,rfl,o1,o2,o3,o4,o5,o6,o7⟩:=hq;cases o6;have I2:Inv X aa U H2 s':=I1.call' o1 o3 o4 o2 (λb z=>nomatch z);exact kk H2 J1 (r1.ext (Same.refl _) o7 (r1.iH.trans o7) λb o z=>.inl z) g1 aa s' s1.heap a I2 (λb o z n=>I1.base.there b o z n) (λq hq=>⟨_,(I1.pin q hq).1⟩) (λb o z=>o3.there b o z (λq=>nomatch q)) o5
end
noncomputable def fnE(n ar:Nat)(m:M Nat)(ds:List D):Option Nat:=if ds.length=ar then(m ((ds.map R.val).map some++P_ (n - ds.length) none)).map (·.1) else none
theorem MT{K:PySem.W.Frag}{H:Hp}{vs:List V}(iH:Same I H)(h:IsA K I ds vs):Rep K (λi=>(L2.start N vs)[i]?) H I H (L2.start N vs) ((ds.map R.val).map some++P_ (N.length - ds.length) none) where
 iH:=iH
 gH:=Same.refl _
 len:=by unfold L2.start;simp[h.length]
 slot:=λi q e=>by
  have e':=wk e;obtain⟨d,e1,rfl⟩:=getMap e';obtain⟨v,e2,e3⟩:=h.get e1;refine⟨v,?_,e3⟩;unfold L2.start;rw[T_ (by rw[y_];exact(x_.mp e2).1),Tp,e2];rfl
 dist:=λi j q q' v e e' m m' s1 s2=>by
  obtain⟨d,_,rfl⟩:=getMap (wk e);cases m
 bor:=λi es e=>rfl
section
variable{P:v_}{w:F_}{K:PySem.W.Frag}
theorem wR{cl:Nat->g_}{x:Str}{st:Tr}{f:g_}(F:Fun K x qual st f fd)(S:FnScope N ps (defScope st))(m:M Nat)(hb:∀(aA:b_) (A:Uh) (outer:List Env) (s:c_) (H:Hp) (E:XK) (B:BB),Room k (A.deeper (VZ qual (defScope st) s.heap.objs.size f aA)) →
   SXs (cxOf (CXX P w) P w K mg base N qual (defScope st) f aA A outer s H E) B cl (defBody st) m):FnOk P w K mg base (CXX P w) (k+1) f fd ps (spE K cl (fnE N.length ps.length m)):=by
 obtain⟨oc,od,kV,bZ,pm,an,aA,ct,dQ,rfl,lk,cz⟩:=F.ex
 have par:∀{ds:List D}{C:Nat},fnE N.length ps.length m ds=some C->ds.length=ps.length/\∃af,m ((ds.map R.val).map some++P_ (N.length - ds.length) none)=some (C,af):=λ{ds C} e=>by
  unfold fnE at e;by_cases hc:ds.length=ps.length
  ·rw[if_pos hc] at e;cases z:m ((ds.map R.val).map some++P_ (N.length - ds.length) none) with
   | none=>rw[z] at e;cases e
   | some y=>rw[z] at e;cases e;exact⟨hc,_,rfl⟩
  ·rw[if_neg hc] at e;cases e
 refine GH lk cz S (λvs H Q E h=>?_) λA outer s H vs Q E hr h=>?_
 ·obtain⟨I,ds,C,_,h2,h3,_⟩:=h;rw[←h2.length];exact(par h3).1
 ·obtain⟨I,ds,C,iH,h2,h3,h4⟩:=h;obtain⟨hc,af,e⟩:=par h3;exact⟨_,hb aA A outer s H E (λi=>(L2.start N vs)[i]?) hr,H,I,_,C,af,MT iH h2,e,λam H' I' r' _=>Pn (h4 H' r'.gH)⟩
end
theorem KP{K:Xw}{h:G_}(X:K.In h)(q:excIn K C bB ni=true):
  ∃t n nm qn bs hd sn sub ab col dd k0 k1 k2 k3 k5 mN,h.get? C=some (excClassObj nm qn C n bs t hd sn sub ab col dd k0 k1 k2 k3 k5 ni)/\h.Ns n mN/\mN "__init__"=none/\OwnTail h bB t:=by
 unfold excIn at q;split at q
 case h_2=>cases q
 case h_1 dd cd sl ho =>
  split at q
  case h_2=>cases q
  case h_1 c1 t k0 k1 k2 k3 n k5 e1 e2 =>
   simp only[beq_iff_eq,u_,Vu] at q;obtain⟨⟨⟨⟨⟨z1,z2⟩,z3⟩,z4⟩,z5⟩,z6⟩:=q;subst z1 z2;obtain⟨a1,a2,a3,a4,a5,a6,a7,a8,a9,b1,b2⟩:=cd;have e3:sl=#[k0,k1,k2,k3,some (.builtin n),k5]:=by rw[←e2]
   dsimp only at e1 z3 z5 z6;subst e1 z3 e3;exact⟨t,a4,a1,a5,a2,a6,a7,a8,a9,b1,dd,k0,k1,k2,k3,k5,_,X _ _ ho,.of_isNs (isNs_of_in X z5),nsMap_none_of_in X z5 z6,tail_of_in X z4⟩
noncomputable abbrev VEs:List b_:=[.type "ValueError", .type "Exception", .type "BaseException", .type "object"]
noncomputable def xcIn(K:Xw)(C:g_):Bool:=excIn K C VEs "ValueError.__new__"
theorem OI{P:v_}{w:F_}{H:Hp}{h:G_}{a:g_}(hok:HOk P w H h)(m:G_.MadeExcOf h h' a (.ref C) vs):Flies H h h' a C:=by
 obtain⟨t,e1,_,_⟩:=m.there;refine⟨_,_,_,e1,rfl,rfl,rfl,?_,m.new,.inl rfl⟩;cases z:H a with
 | none=>rfl
 | some o=>obtain⟨_,q⟩:=objThere (hok _ _ z);rw[m.new] at q;cases q
noncomputable def raX(C:Nat)(t:M (List D)):M Nat:=bnd t λds=>lft (if ds.length<=5 then some C else none)
section
variable{B:BB}{cl:Nat->g_}{e:D_}{es:List D_}
theorem wX{x:Str}{C:Nat}{t:M (List D)}(hc:X.calm=true)(hg:Gl X x)(hm:X.mg x=some (.ref (cl C)))(hx:xcIn X.K (cl C)=true)(ha:AD X B (e::es) t)(bh:(x == ("__debug__":Str))=false:=by decide)(he:d_ (e::es) X.env=(false,eval e X.env)::d_ es X.env:=by rfl)(aB:(J_ aC (d_ es X.env)).any (·.1)=false:=by rfl):
  SX X B cl (.Raise (some (.Call (.Name x np) (e::es) [] aC)) none pos) (raX C t):=by
 intro aa s U H D I h;obtain⟨G,J,Γ,C',af,r,e1,kk⟩:=h;obtain⟨ds,ac,e2,e3⟩:=lX e1;obtain⟨e4,rfl⟩:=tN e3;obtain⟨hl,rfl⟩:=tZ e4;obtain⟨tl,n,nm,qn,bs,hd,sn,sub,ab,col,dd,k0,k1,k2,k3,k5,mN,hC,hN,qe,T⟩:=KP I.ok.mod.kin hx
 refine wpAny_Raise_call_subT (nm:=nm) (q:=qn) (N:=n) (bs:=bs) (bm:=tl) (hdct:=hd) (sn:=sn) (sub:=sub) (ab:=ab) (col:=col) (dd:=dd) (k0:=k0) (k1:=k1) (k2:=k2) (k3:=k3) (k5:=k5) PySem.F.excBase_ValueError (mN:=mN) (T.hasType PySem.F.excBase_ValueError.hasBase) (I.ok.hd hc)
  (by rw[he];show(false||(J_ aC (d_ es X.env)).any (·.1))=false;rw[aB];rfl) qe (wf I hg hm ⟨rfl,?_⟩ bh)
 have hh:=ha aC aa s U H (λvs H1=>∃J1,Rep X.K B G J1 H1 U af/\Grow G J J1/\IsA X.K J1 ds vs) I ⟨G,J,Γ,ds,_,r,e2,λvs H1 J1 r1 g1 h1=>⟨J1,r1,g1,h1⟩⟩;rw[he] at hh ⊢;refine XH (thn hh λus s2 ⟨vs,H1,I1,rv,J1,r1,g1,h1⟩=>⟨rfl,?_,I1.bk _ _ hC,hN.keeps I1.bk,T.keeps I1.bk,λh' a hM=>?_⟩)
 ·rw[←rv.length,←h1.length];exact H_ hl (by decide)
 ·exact kk U H1 J1 r1 g1 aa _ s2.heap a (I1.kept (t':=s2.toks) hM.keeps) (λb o z n=>I1.base.there b o z n) (λq hq=>⟨_,(I1.pin q hq).1⟩) (λb o z=>⟨o,hM.keeps b o z⟩) (OI I1.hok hM)
theorem Turn.inv{H:Hp}{s:c_}(T:Turn H aH s.heap h' (frs X.stack) ch)(I:Inv X aa U H s)(c1:∀b o,X.s₀.heap.get? b=some o->b∉X.ex->∃o',aH.get? b=some o')(c2:∀p∈X.pn++aa,∃o,aH.get? p.1=some o):Inv X aa U H { s with heap:=h' }:=by
 have sE:∀b∈ch,b∉frs X.stack:=λb hb m=>by
  obtain⟨_,_,o,vs,e,d⟩:=T.new b hb;obtain⟨_,o',e',d'⟩:=I.stack.mem m;rw[e] at e';cases e';exact d' vs d
 refine I.callN (g':=s.gens) (d':=s.drawn) (t':=s.toks) (ch:=ch) ⟨λb o e _ n2 n3=>T.keep b o e n3 n2,λb o e _ m _=>T.slot b o e m,λb o e n _=>n,λb o e n=>?_,λ_ _ z=>z,λ_ _ _ z=>z,λb q z=>by first | exact z | exact⟨#[],by rw[z];simp⟩⟩ (T.hok I) I.bare λb hb=>?_
 ·by_cases m:b∈frs X.stack
  ·obtain⟨sl,q⟩:=T.slot b o e m;exact⟨_,q⟩
  ·exact⟨_,T.keep b o e n m⟩
 ·obtain⟨n1,n2,o,vs,e,d⟩:=T.new b hb;refine⟨?_,λz=>?_,λy c hy z=>?_,λp hp z=>?_⟩
  ·by_cases m:b∈X.ex
   ·exact .inl m
   ·refine .inr ?_;cases q:X.s₀.heap.get? b with
    | none=>rfl
    | some o'=>obtain⟨_,q'⟩:=c1 b o' q m;rw[n2] at q';cases q'
  ·obtain⟨_,⟨o',es,ep,e',d',_⟩,_⟩:=I.loc;rw[←z,e] at e';cases e';rw[d] at d';cases d'
  ·obtain⟨v,o',e',d'⟩:=I.cell y c hy;rw[z,e] at e';cases e';rw[d] at d';cases d'
  ·obtain⟨_,q⟩:=c2 p hp;rw[z,n2] at q;cases q
theorem QI{P:v_}{w:F_}{H:Hp}{l:List Env}{a:g_}{M:Y2}{E:b_->c_->Prop}{s:c_}{Q:Unit->c_->Prop}(hl:s.heap.FunFrames base l)(hok:HOk P w H s.heap)(th:Lasts h₀ s.heap)(F:Flies H h₀ s.heap a C)(k:∀h' ch,Turn H h₀ s.heap h' (frs l) ch->Flies H h₀ h' a C->Q () { s with heap:=h' }):o_ M A (Y0 (.ref a) none) Q E s:=by
 have F0:=F;obtain⟨oe,vs,a0,e1,e2,e3,e4,e5,e6,e7⟩:=F
 rcases e7 with e7 | ⟨T,oT,ts,f1,f2,f3,f4,f5,f6,f7⟩
 ·unfold Y0;refine a_ (TM e1 e3 e7 ?_);rw[if_neg (by decide)];exact f_ (k s.heap [] ⟨λ_ z=>(nomatch z),λb o e _ _=>e,λb o e _=>⟨o.slots,e⟩⟩ F0)
 ·refine Xv (base:=V' s.heap ([a,T]++frs l)) (l:=l) (cls:=.ref C) (a0:=a0) (fl:=ts[3]) (λb o q=>Xi _ q) (zz hl) ⟨oe,vs,T,oT,ts,e1,⟨e2,e4⟩,e3,f1,V_ _ (.tail _ (.head _)),f2,f3,f4,l_ f5⟩ λh' k1 k2 k3 k4=>?_
  have T':=zk (H:=H) (h₀:=h₀) (ch:=[a,T]) hl (λb hb=>by
   rcases w_.mp hb with rfl | hb
   ·exact⟨e5,e6,_,_,e1,e3⟩
   ·rw[k_.mp hb];exact⟨f6,f7,_,_,f3,f4⟩) k1 (λb o e n=>⟨o.slots,k4 b o e n⟩)
  exact k h' [a,T] T' (Bj hok th hl T' (.head _) k3.at)
theorem Turn.lasts{H:Hp}{h:G_}{fr:List g_}(T:Turn H h₀ h h' fr ch)(l:Lasts h₀ h):Lasts h₀ h':=λb o e=>by
 obtain⟨o',e'⟩:=l b o e;by_cases m:b∈fr
 ·obtain⟨sl,q⟩:=T.slot b o' e' m;exact⟨_,q⟩
 ·exact⟨_,T.keep b o' e' (λz=>by rw[(T.new b z).2.1] at e;cases e) m⟩
end
noncomputable abbrev Cx.tried(X:Cx)(E:b_->c_->Prop)(pn:List (g_×Obj)):Cx:={ X with xe:=E,pn:=pn }
noncomputable abbrev Cx.suite(X:Cx)(a:g_):Cx:={ X with A:=X.A.mark (some (.ref a)),calm:=false,xe:=λ_ _=>False }
section
variable{ps:List (g_×Obj)}{H:Hp}{s:c_}{E:b_->c_->Prop}{a:g_}
theorem Jg(ok:X.Ok):(Cx.tried X E pn).Ok:=by
 cases ok;constructor<;>assumption
theorem Kl(ok:(Cx.tried X E pn).Ok):X.Ok:=by
 cases ok;constructor<;>assumption
theorem GT(I:Inv X aa U H s):Inv (Cx.tried X E (X.pn++aa)) [] U H s:=
 ⟨Jg I.ok,I.os,I.bare,I.base,I.loc,I.cell,I.free,I.freeC,λp hp=>I.pin p (by rw[Uo] at hp;exact hp),I.hok,I.len⟩
theorem xb(I:Inv (Cx.tried X E (X.pn++aa)) ps U H s):Inv X aa U H s:=
 ⟨Kl I.ok,I.os,I.bare,I.base,I.loc,I.cell,I.free,I.freeC,λp hp=>I.pin p (T6 _ hp),I.hok,I.len⟩
theorem LC(ok:X.Ok):(Cx.suite X a).Ok:=by
 have hf:(X.A.mark (some (.ref a))).frames=some X.stack:=ok.frames;cases ok;constructor<;>first | assumption | exact λz=>nomatch z
theorem E1(I:Inv X aa U H s):Inv (Cx.suite X a) aa U H s:=
 ⟨LC I.ok,I.os,I.bare,I.base,I.loc,I.cell,I.free,I.freeC,I.pin,I.hok,I.len⟩
theorem P6(k:X.Ok)(I:Inv (Cx.suite X a) aa U H s):Inv X aa U H s:=
 ⟨k,I.os,I.bare,I.base,I.loc,I.cell,I.free,I.freeC,I.pin,I.hok,I.len⟩
end
theorem NN{e:b_}{env':Env}(h:env'.frame=env.frame):Vl e env'=Vl e env:=by
 unfold Vl PySem.frameOf;rw[h]
def ErX(X:Cx)(C:g_)(x:b_)(s':c_):Prop:=∃m,s'.heap.Ns C m/\∀h',G_.SameBut C s'.heap h'->∀bC:Env,bC.locals=C->o_ (q_ X.prog X.w) X.A (passOn "comprehension.variables-let-go" x bC:Sem b_) (λ_ _=>False) X.xe { s' with heap:=h' }
theorem IV{Cc:g_}{H0:Hp}(cS:X.stack=X.env::X.outer)(fD:X.env.frame=some X.env.locals)(Wi:Within X aa U (cxC X scope N' C s0 H0 ex))(z:Xz X Cc U H'):
  Xz ((cxC X scope N' C s0 H0 ex).wish (Zb (q_ X.prog X.w) X.A (XJ scope (clo X.env.cells scope.names []) C X.env) (ErX X C))) Cc am H':=by
 intro ps s aH a J c1 c2 c3 F;have J':=J.unwish;obtain⟨I,cl⟩:=Wi.back J';obtain⟨mm,⟨oC,es,ep,lj,ls,rC⟩,_⟩:=J'.loc;show o_ _ X.A (Vl (.ref a) (XJ scope (clo X.env.cells scope.names []) C X.env)) _ _ s;rw[NN (env:=X.env) (env':=XJ scope (clo X.env.cells scope.names []) C X.env) rfl];have fr:=I.ok.frames;have st:=I.stack;rw[cS] at fr st;refine Gu fr fD st I.hok c3 F λh' ch a0 fl ha T k1 k2 k3=>?_
 have d1:∀b o,X.s₀.heap.get? b=some o->b∉X.ex->∃o',aH.get? b=some o':=λb o e n=>by
  obtain⟨o',e',n'⟩:=Wi.old b o e n;exact c1 b o' e' n'
 have d2:∀p∈X.pn++aa,∃o,aH.get? p.1=some o:=λp hp=>by
  obtain⟨o',e',n'⟩:=Wi.pin p hp;exact c1 p.1 o' e' n'
 have F2:Flies H' aH h' a Cc:=Bj I.hok c3 st T ha k3;rw[←cS] at T;have I1:=T.inv I d1 d2;have l1:=T.lasts c3
 have hC:∃o',h'.get? C=some o'/\o'.data=.dict es ep:=by
  by_cases m:C∈frs X.stack
  ·obtain⟨sl,q⟩:=T.slot C oC lj m;exact⟨_,q,ls⟩
  ·refine⟨oC,T.keep C oC lj (λm2=>?_) m,ls⟩;obtain⟨_,_,o,vs,e,d⟩:=T.new C m2;rw[show s.heap.get? C=some oC from lj] at e;cases e;rw[ls] at d;cases d
 obtain⟨qf,nG,nH⟩:=hC;refine⟨mm,⟨qf,es,ep,nG,nH,rC⟩,λh2 sb bC dR=>?_⟩;obtain⟨oe,vs,T',oT,ts,e1,⟨e2,e3⟩,e4,e5,e6,e7,e8,e9,lh⟩:=k3
 have ne:∀{b o vs},h'.get? b=some o->o.data=.fields vs->b≠C:=λ{b o vs} e d q=>by
  rw[q,nG] at e;cases e;rw[nH] at d;cases d
 have I2:Inv X aa U H' { s with heap:=h2 }:=Inv.clear (s:={ s with heap:=h' }) I1 cl sb;have g1:h2.get? a=some oe:=(sb.2 a (ne e1 e4)).trans e1;have g2:h2.get? T'=some oT:=(sb.2 T' (ne e8 e9)).trans e8;obtain⟨sF,sH,sJ,j1,j2,j3,j4,j5,j6,j7⟩:=F2;rw[e1] at j1;cases j1;rw[e4] at j3;cases j3
 have q:H' T'=none/\aH.get? T'=none:=by
  rcases j7 with j | ⟨T2,sK,sL,i1,i2,i3,i4,i5,i6,i7⟩
  ·rw[e5] at j;cases j
  ·rw[e5] at i1;cases i1;exact⟨i6,i7⟩
 have gM:3 < ts.size:=(A_.mp lh).1;unfold PySem.passOn Y0;refine a_ (TM g1 e4 e5 ?_);rw[if_neg (show ¬((b_.ref T' == b_.none)=true) by simp)];refine a_ (a_ (TM g1 e4 e5 ?_));rw[if_pos (show(b_.ref T' != b_.none)=true by simp)];refine UE g2 e9 gM ?_;refine Y8 ?_;have cJ:∀b,b≠T'->(h2.update T' (W3 (·.setIfInBounds 3 (bC.frame.elim b_.none λf=>Vo f)))).get? b=h2.get? b:=λb hb=>N_ _ _ (Tt hb)
 have c0:∀b,aH.get? b=none->(aH.hide C).get? b=none:=λb e=>by
  cases y:(aH.hide C).get? b with
  | none=>rfl
  | some o=>rw[G_.of_hide y] at e;cases e
 have qg:∀{b o},(aH.hide C).get? b=some o->b≠C:=λ{b o} e q=>by rw[q,G_.hide_self] at e;cases e
 have l2:Lasts (aH.hide C) h2:=λb o e=>by
  obtain⟨o',e'⟩:=l1 b o (G_.of_hide e);exact⟨o',(sb.2 b (qg e)).trans e'⟩
 have T3:Turn H' (aH.hide C) h2 (h2.update T' (W3 (·.setIfInBounds 3 (bC.frame.elim b_.none λf=>Vo f)))) (frs X.stack) [T']:=by
  refine⟨λb hb=>?_,λb o e n _=>(cJ b λy=>n (by rw[y];exact .head _)).trans e,λb o e m=>⟨o.slots,(cJ b λy=>?_).trans e⟩⟩
  ·rw[k_.mp hb];exact⟨q.1,c0 _ q.2,_,_,g2,e9⟩
  ·obtain⟨_,o',e',d⟩:=I2.stack.mem m;have e2:h2.get? b=some o':=e';rw[y,g2] at e2;cases e2;exact d ts e9
 have nI:∀b o,X.s₀.heap.get? b=some o->b∉X.ex->∃o',(aH.hide C).get? b=some o':=λb o e n=>by
  obtain⟨o',e'⟩:=d1 b o e n;have nb:b≠C:=λy=>absurd (E_ (B_ e) cl.2.2.1) (by rw[y];exact Ug _)
  exact⟨o',(G_.hide_ne aH nb).trans e'⟩
 have nJ:∀p∈X.pn++aa,∃o,(aH.hide C).get? p.1=some o:=λp hp=>by
  obtain⟨o',e'⟩:=d2 p hp;exact⟨o',(G_.hide_ne aH (cl.2.2.2.2 p hp)).trans e'⟩
 have nK:=U0 e9 (·.setIfInBounds 3 (bC.frame.elim b_.none λf=>Vo f));have g3:=Uj (W3 (·.setIfInBounds 3 (bC.frame.elim b_.none λf=>Vo f))) g2 (UT nK);exact z aa _ (aH.hide C) a (T3.inv I2 nI nJ) nI nJ (T3.lasts l2) ⟨oe,vs,a0,(cJ a (Tt e7)).trans g1,e2,e4,e3,j5,c0 _ j6,.inr ⟨T',_,_,e5,e7,g3,nK,by rw[WR];exact gM,q.1,c0 _ q.2⟩⟩
section
variable{B:BB}{cl:Nat->g_}{br iter:D_}{g:TG}{tt:TT}{wi:TI}
noncomputable def tCompX(m:Nat)(wi:TI)(g:TG)(tt:TT)(te:L2.St->TE):TE:=λU H Q=>wi U H λJ H1=>∀p,H1 p=none->CompW m J g tt (te U) U H1 p Q
theorem Kr{te:L2.St->TE}(S:CompScope X.env.scope scope X.N N' m)(hc:X.calm=true)(cS:X.stack=X.env::X.outer)(fD:X.env.frame=some X.env.locals)(hi:PI X tg iter wi)(hg:∀C s H ex,PG (cxC X scope N' C s H ex) tg g)(ht:∀C s H ex,PTs (cxC X scope N' C s H ex) bo tt)(he:∀U C s H ex E,(∀Cc am H',Xz X Cc U H'->Xz ((cxC X scope N' C s H ex).wish E) Cc am H')->PE ((cxC X scope N' C s H ex).wish E) br (te U))(hs:∀x,TV iter X.env x=pure x:=by intros;rfl):PE X (.ListComp br [⟨tg,iter,bo,0⟩] scope pos) (tCompX m wi g tt te):=by
 intro aa s U H Q I h;rw[eval_ListComp];refine U_ (use:=none) rfl hs (Ax λn hn=>I.ok.has n (S.free _ hn rfl)) S.kind S.locals (thn (hi aa s U H _ I h) λxv s1 h1=>thn h1 λgJ s2 h2=>?_);obtain⟨it,fp,tn,J,H2,e,I2,T,dO,f2,hw⟩:=h2;subst e;refine thn (BM (Er:=ErX X) (pos:=pos) (iter:=iter) S hc hg ht (λC s H ex Wi=>he U C s H ex _ λCc am H' z=>IV cS fD Wi z) I2 T dO f2 hw) λaj s3 h3=>thn h3 λbC s4 h4=>Uk h4 λr s5 h5=>?_
 cases r with
 | error x=>exact h5
 | ok fl =>
  obtain⟨p,H5,mm,rfl,hn,I5,cl,q⟩:=h5;exact⟨mm,hn,λh' dF=>⟨.ref p,H5,Inv.clear I5 cl dF,rfl,q⟩⟩
noncomputable def compXM(aE:D->M Unit)(el:M D)(mx:M Nat):List D->M Nat
 | []=>λ_=>none
 | d::ds=>bnd (aE d) λ_=>orX mx (bnd el λ_=>compXM aE el mx ds)
noncomputable def compX(m:Nat)(it:M (List D))(aE:D->M Unit)(el:M D)(mx:M Nat):M Nat:=bnd it λds=>if ds.length<=lim then inC m (compXM aE el mx ds) else λ_=>none
noncomputable def teX(X:Cx)(B:BB)(cl:Nat->g_)(el:M D)(mx:M Nat)(qh:L2.St):TE:=λU H Q=>tD X.K B el U H Q\/∃G I Γ C af,Rep X.K B G I H U Γ/\mx Γ=some (C,af)/\∀H' I',Rep X.K B G I' H' U af->Grow G I I'->Xz X (cl C) qh H'
theorem HC:∀U H Q,tX X B cl (compX m it aE el mx) U H Q->tCompX m (tI X.K B it) (tGD X.K (bUp m B) m aE) (tTD X.K (bUp m B) (ret true)) (teX X (bUp m B) cl el mx) U H Q:=λU H Q q=>by
 obtain⟨G,I,Γ,Cc,af,r,e1,k⟩:=q;obtain⟨ds,ac,e2,e3⟩:=lX e1;by_cases dG:ds.length<=lim
 case neg=>rw[if_neg dG] at e3;cases e3
 rw[if_pos dG] at e3;obtain⟨cn,e4,rfl⟩:=FQ e3;refine⟨G,I,Γ,ds,ac,r,e2,λJ H1 I1 r1 g1 y p hp=>?_⟩;have gp:=r1.gFree hp;have ip:=r1.iFree hp
 refine⟨λi n am H'=>∃aj I2 ai,Rep X.K (bUp m B) (upd G p (.lst aj)) I2 H' am ai/\Grow G I1 I2/\I2 p=none/\aj.length<=i/\am.drop m=U/\compXM aE el mx (ds.drop i) ai=some (Cc,cn)/\i<=ds.length/\n=ds.length - i,
  ⟨ds.length,[],I1,_,(r1.up m).guard hp _,Grow.refl _ _,ip,Tz _,by rw[VV (by simp),UW (by simp),List.nil_append],by simpa using e4,Tz _,rfl⟩,?_⟩
 rintro i n aR H2 ⟨aj,I2,ai,r2,g2,gU,pp,hs,e5,hi,rfl⟩;obtain⟨yg,ys⟩:=y i H2 (g2.up.trans r2.iH);by_cases bD:i < ds.length
 case neg =>
  rw[UW (by omega)] at e5;cases e5
 have hd:ds.drop i=ds[i]::ds.drop (i+1):=Tx bD;obtain⟨go,yld⟩:=yg ds[i] (n_ bD);rw[hd,compXM] at e5;obtain⟨u,aL,e6,e7⟩:=lX e5;refine .inr ⟨go,λx H3 hy=>?_⟩
 have main:∀I3,Rep X.K (bUp m B) (upd G p (.lst aj)) I3 H3 aR ai->Grow (upd G p (.lst aj)) I2 I3->Is X.K I3 ds[i] x->tGD X.K (bUp m B) m aE x aR H3 λaR H3=>tTD X.K (bUp m B) (ret true) aR H3 λb H4 =>
   if b=true then teX X (bUp m B) cl el mx U aR H4 λy H5=>∃aj,H5 p=some (.lst aj)/\aj.length < z_/\∃n',n' < ds.length - i/\∃acc_1 I2 ai,Rep X.K (bUp m B) (upd G p (.lst acc_1)) I2 (upd H5 p (.lst (aj++[y]))) aR ai/\Grow G I1 I2/\I2 p=none/\acc_1.length<=i+1/\aR.drop m=U/\compXM aE el mx (ds.drop (i+1)) ai=some (Cc,cn)/\i+1<=ds.length/\n'=ds.length - (i+1)
   else ∃n',n' < ds.length - i/\∃aj I2 ai,Rep X.K (bUp m B) (upd G p (.lst aj)) I2 H4 aR ai/\Grow G I1 I2/\I2 p=none/\aj.length<=i+1/\aR.drop m=U/\compXM aE el mx (ds.drop (i+1)) ai=some (Cc,cn)/\i+1<=ds.length/\n'=ds.length - (i+1):=by
  intro I3 r3 g3 hx;refine⟨_,I3,ai,ds[i],aL,r3,hx,e6,λiJ H4 I4 r4 g4 kq=>⟨_,I4,aL,true,aL,r4,rfl,λH5 I5 r5 g5=>iteT ?_⟩⟩;have fq:=g3.trans (g4.trans g5);have dF:iJ.drop m=U:=kq.trans hs;unfold orX at e7;cases zx:mx aL with
  | some yx =>
   rw[zx] at e7;cases e7;refine .inr ⟨_,I5,aL,Cc,cn,r5,zx,λH6 I6 r6 g6=>?_⟩;obtain⟨ru,_⟩:=(Rep.down r6 dF).unguard gp;exact k H6 I6 ru (g1.trans (g2.trans (fq.trans g6).unguard))
  | none =>
   rw[zx] at e7;obtain⟨xd,cx,f1,f2⟩:=lX e7;refine .inl ⟨_,I5,aL,xd,cx,r5,f1,λyv H6 I6 r6 g6 mF=>⟨aj,r6.gH _ _ t6,?_,ds.length - (i+1),by omega,aj++[yv],I6,cx,?_⟩⟩
   ·have h1:lim < z_:=by rw[TH];decide
    omega
   ·have fZ:=fq.trans g6;have gW:=fZ.keepsOut gU;exact⟨r6.reguard gW,g2.trans fZ.unguard,gW,by rw[R_,US];omega,dF,f2,bD,rfl⟩
 rcases yld x H3 hy with⟨rfl,hx⟩ | ⟨p2,es,xs,dB,rfl,dh,rfl,hx⟩
 ·exact main I2 r2 (Grow.refl _ _) (hx.mono g2.up)
 ·refine main _ (r2.alloc dh _) (r2.growAlloc dh _) ?_;rw[dB];exact Is.tup (SqT.of t6) ((hx.mono g2.up).mono (uu (r2.iFree dh) _))
theorem zJ(S:CompScope X.env.scope scope X.N N' m)(hc:X.calm=true)(cS:X.stack=X.env::X.outer)(fD:X.env.frame=some X.env.locals)(hi:ITD X B tg iter it)(hg:∀C s H ex,GD (cxC X scope N' C s H ex) (bUp m B) m tg aE)(ht:∀C s H ex,TDs (cxC X scope N' C s H ex) (bUp m B) [] (ret true))(he:∀C s H ex E,ED ((cxC X scope N' C s H ex).wish E) (bUp m B) br el)(hx:∀C s H ex E,XD ((cxC X scope N' C s H ex).wish E) (bUp m B) cl br mx)(hs:∀x,TV iter X.env x=pure x:=by intros;rfl):XD X B cl (.ListComp br [⟨tg,iter,[],0⟩] scope pos) (compX m it aE el mx):=
 PE.imp (Kr (g:=tGD X.K (bUp m B) m aE) (tt:=tTD X.K (bUp m B) (ret true)) (te:=teX X (bUp m B) cl el mx) S hc cS fD hi hg ht (λU C s H ex E up aa s1 bY H1 Q I q=>by
  rcases q with q | ⟨G,J,Γ,Cc,af,r,e1,k⟩
  ·exact he C s H ex E aa s1 bY H1 Q I q
  ·exact hx C s H ex E aa s1 bY H1 Q I ⟨G,J,Γ,Cc,af,r,e1,λH' I' r' g'=>up _ bY H' (k H' I' r' g')⟩) hs) HC
end
def AX(X:Cx)(B:BB)(cl:Nat->g_)(es:List D_)(m:M Nat):Prop:=PA X es λU H _=>tX X B cl m U H λ_ _=>True
section
variable{B:BB}{cl:Nat->g_}{e:D_}{es:List D_}{p:Pos}{m m':M Nat}{g:M D}{x:Str}
theorem MY(h:ED X B e g)(h1:XD X B cl e m)(h2:AX X B cl es m')(he:d_ (e::es) X.env=(false,eval e X.env)::d_ es X.env:=by rfl):AX X B cl (e::es) (orX m (bnd g λ_=>m')):=by
 have hh:PE X e λU H Q=>tD X.K B g U H Q\/tX X B cl m U H Q:=λaa s U H Q I q=>q.elim (h aa s U H Q I) (h1 aa s U H Q I)
 intro pos aa s U H Q I q;refine uU hh h2 he pos aa s U H Q I ?_;obtain⟨G,J,Γ,C,af,r,e1,k⟩:=q;unfold orX at e1;cases z:m Γ with
 | some y=>rw[z] at e1;cases e1;exact .inr ⟨G,J,Γ,C,af,r,z,k⟩
 | none =>
  rw[z] at e1;obtain⟨d,ac,e2,e3⟩:=lX e1;exact .inl ⟨G,J,Γ,d,ac,r,e2,λv H1 I1 r1 g1 _=>⟨G,I1,ac,C,af,r1,e3,λH' I' r' g'=>k H' I' r' (g1.trans g')⟩⟩
theorem yF(hg:Gl X x)(hm:X.mg x=none)(hv:Ud x=some (.type T))(ha:AX X B cl (e::es) m)(hn:x ≠ "__name__":=by decide)(bh:(x == ("__debug__":Str))=false:=by decide)(he:d_ (e::es) X.env=(false,eval e X.env)::d_ es X.env:=by rfl)(aB:(J_ pos (d_ es X.env)).any (·.1)=false:=by rfl):XD X B cl (.Call (.Name x p) (e::es) [] pos) m:=
 Bz (r:=λ_ _ _=>False) (λ_ _ _ _ _ _ _ _ _ q=>q.elim) hg hm hv ha hn bh he aB
theorem Py{x1}(ha:AX X B cl es m):XD X B cl (.Tuple es x1 pos) m:=G4 ha
noncomputable def intTF(ds:List D):Option D:=match ds with
 | [.str x]=>if x.length<=640 then(PySem.intText? x).map .int else none
 | _=>none
theorem HX:CallR X (.type "int") (λxs H Q=>∃x n,xs=[.str x]/\x.length<=640/\PySem.intText? x=some n/\Q (.int n) H):=by
 intro aa s U H xs us Q I r h;obtain⟨x,n,rfl,hl,hn,q⟩:=h;obtain⟨u,rfl,ru⟩:=vals1 r;obtain⟨t,rfl⟩:=ru;exact call_int_1 (KIN.gives_text (u:=t) hl hn).meets ⟨rfl,⟨.int _,H,I.tok _,⟨_,rfl⟩,q⟩⟩
theorem Ab{t:M (List D)}(hg:Gl X "int")(hm:X.mg "int"=none)(ha:AD X B [e] t)(he:d_ [e] X.env=(false,eval e X.env)::d_ [] X.env:=by rfl)(aB:(J_ pos (d_ [] X.env)).any (·.1)=false:=by rfl):
  ED X B (.Call (.Name "int" p) [e] [] pos) (fn1 intTF t):=ya HX (λds d e B G I H U Γ xs Q r h k=>by
 unfold intTF at e;split at e
 ·rename_i x;by_cases hl:x.length<=640
  ·rw[if_pos hl] at e;cases hn:PySem.intText? x with
   | none=>rw[hn] at e;cases e
   | some n =>
    rw[hn] at e;cases e;obtain⟨y,rfl,hx⟩:=h.one;rw[ug hx];exact⟨x,n,rfl,hl,hn,k.now r (Is.int _)⟩
  ·rw[if_neg hl] at e;cases e
 ·cases e) hg hm rfl ha (by decide) (by decide) he aB
end
section
variable{B:BB}{cl:Nat->g_}{e c:D_}{es:List D_}{m m':M Nat}{g:M D}{st:Tr}{aF:List Tr}{gs:M Fl}
theorem xI(h1:XD X B cl e m)(he:d_ (e::es) X.env=(false,eval e X.env)::d_ es X.env:=by rfl):AX X B cl (e::es) m:=λpos aa s U H Q I q =>
 uU (t:=λ_ _ _=>False) h1 (λ_ _ _ _ _ _ _ z=>z.elim) he pos aa s U H Q I q
@[irreducible] def XI(X:Cx)(B:BB)(cl:Nat->g_)(st:Tr)(m:M Nat):Prop:=SX X B cl st m
@[irreducible] def XIs(X:Cx)(B:BB)(cl:Nat->g_)(ss:List Tr)(m:M Nat):Prop:=SXs X B cl ss m
theorem uW(k:SX X B cl st m):XI X B cl st m:=by unfold XI;exact k
theorem wb(k:XIs X B cl aF m):SXs X B cl aF m:=by unfold XIs at k;exact k
theorem xl:XIs X B cl aF nvX:=by unfold XIs;exact Jt
theorem u3(k:XI X B cl st m):XIs X B cl [st] m:=by unfold XI at k;unfold XIs;exact Pc k
theorem xV(k:XI X B cl st m):XIs X B cl (st::aF) m:=by
 unfold XI at k;unfold XIs;exact CN (u:=λ_ _ _=>False) k λ_ _ _ _ _ _ z=>z.elim
theorem yO(k:SI X B st gs)(k1:XI X B cl st m)(t:XIs X B cl aF m'):XIs X B cl (st::aF) (orX m (thenX gs m')):=by
 unfold SI at k;unfold XI at k1;unfold XIs at t ⊢;exact E6 k k1 t
theorem Ph(k:SI X B st gs)(t:XIs X B cl aF m'):XIs X B cl (st::aF) (thenX gs m'):=by
 unfold SI at k;unfold XIs at t ⊢;exact E6 k Qs t
theorem vW(hc:TD X B c tc)(ha:XIs X B cl sa m)(hb:XIs X B cl sb m'):XI X B cl (.If c sa sb pos) (ifX tc m m'):=by
 unfold XIs at ha hb;unfold XI;exact JB hc ha hb
end
end DL
namespace DL
open PySem PySem.Spec PyProof.Rows PySem.W
structure XCls(K:Xw)(C:g_):Prop where
 ga:Zu K (.ref C) "__getattribute__"=some (some (.builtin "BaseException.__getattribute__"))
 ng:Zu K (.ref C) "__getattr__"=some none
 cl:Zu K (.ref C) "__class__"=some (some (.builtin "object.__class__"))
 ob:Y' K C (.type "object")=some true
 be:Y' K C (.type "BaseException")=some true
section
variable{K:Xw}{prog:v_}{w:F_}{E:b_->c_->Prop}{x:g_}{o:Obj}{vs:Array b_}
theorem KZ{h:G_}{g:Array GenState}{d:Drawn}{t:Nat}{os:OsState}{Q:Option b_->c_->Prop}(c:XCls K C)(X:K.In h)(hx:h.get? x=some o)(hc:o.cls=.ref C)(hd:o.data=.fields vs)(q:Q (some (.ref C)) ⟨h,g,d,t+1,os⟩):
  o_ (q_ prog w) A (getAttr? (.ref x) "__class__") Q E ⟨h,g,d,t,os⟩:=by
 obtain⟨oc,od,sM,dQ⟩:=o;dsimp only at hc hd;subst hc hd;have lo1:=YT (M:=q_ prog w) X c.ga;have qi:=YT (M:=q_ prog w) X c.ng;have qj:=YT (M:=q_ prog w) X c.cl;have qk:=X3 (M:=q_ prog w) X c.be;have ql:=X3 (M:=q_ prog w) X c.ob;have nL:WG (q_ prog w) h (YX (.ref x)) (.ref C):=(WG.ld hx).andThen .now;unfold getAttr?;unfold getAttrBy? getAttrBy;refine a_ (wpAny_mkText (a_ (Va (TZ (a_ (nL.at (a_ (lo1.at ?_))))))))
 have no:(onTheHeap (b_.ref C)&&ZH "BaseException.__getattribute__" == ZH "object.__getattribute__")=false:=by
  rw[show(ZH "BaseException.__getattribute__" == ZH "object.__getattribute__")=false from by decide +kernel,XM]
 dsimp only;rw[no,if_neg h_];unfold getAttrByItsOwn;have f3:=PySem.F.attrBase_ValueError.ga.bind (.ref x)
 repeat (any_goals (first | assumption | (with_reducible refine qi.at ?_) | (with_reducible refine VB hx ?_)  | wp_step))
 show VL _ _ (.call _ ⟨[_,_],[]⟩) _ _;refine U3 PySem.F.attrBase_ValueError.ga.plain PySem.F.entry_bexc_ga ?_;have k1:builtinKind "BaseException.__getattribute__"=some .slot:=by decide +kernel
 have k2:splitId "BaseException.__getattribute__"=some ("BaseException", "__getattribute__"):=by decide +kernel
 have k3:=PySem.F.args_bexc_ga (.ref x) (.str "__class__" t);simp only[checkBuiltinCall,k1,k2];refine a_ ?_;unfold Yu;refine a_ (nL.at (qk.at ?_))
 repeat (any_goals (first | wp_step | assumption))
 have T5:(⟨h,g,d,t+1,os⟩:c_).TypeIs (.builtin "object.__class__") "getset_descriptor":=PySem.F.typeOf_object_class;have f5:=PySem.F.typeOf_object_class;have f6:=Y_.lookup;have f7:=PySem.F.slot_gs_set.lookup
 repeat (any_goals (first | assumption | (with_reducible refine qj.at ?_) | (with_reducible refine VB hx ?_)  | wp_step))
 refine U3 Y_.plain PySem.F.entry_gs_get (Y_.check _ _ _ _ _ _ _ _ T5 (PySem.F.args_gs_get _ _ _) ?_);have qm:WG (q_ prog w) h (isSubtype (.ref C) (.type (".".intercalate ("object.__class__".cutAt '.').dropLast))) true:=by rw[show(".".intercalate ("object.__class__".cutAt '.').dropLast) = "object" from by decide +kernel];exact ql
 repeat (any_goals (first | assumption | (with_reducible refine qm.at ?_) | (with_reducible refine VB hx ?_)  | wp_step))
 refine⟨Ws _ (by decide +kernel),Uq PySem.F.entry_object_class ?_⟩
 repeat (any_goals (first | assumption | (with_reducible refine VB hx ?_)  | wp_step))
end
end DL
namespace DL
open PySem PySem.Spec PyProof.Rows L2 PySem.W
theorem M6{K:Xw}{a:g_}(c:XCls K C):KitX K (.ref a) (.ref C) (λh=>∃o vs,h.get? a=some o/\o.cls=.ref C/\o.data=.fields vs) where
 ty:=λM h _ ⟨o,vs,h1,h2,_⟩=>h2▸(WG.ld h1).andThen .now
 it:=λM h X _=>by
  obtain⟨cd,hc,_⟩:=W5.mp c.ob;unfold clsIn at hc;split at hc
  ·rename_i ho;intro A Q E s kp qq;unfold isType loadHead;exact a_ (wpAny_loadPart (kp _ _ (X _ _ ho)) (f_ qq))
  ·cases hc
 ne:=λh tp _ _ _ _ X qo=>by
  obtain⟨cd,hc,_⟩:=W5.mp c.ob;refine YO.mpr λqq=>?_
  cases b_.ref.inj (beq_iff_eq.mp qq);unfold clsIn at hc;split at hc
  ·rename_i ho
   cases(X _ _ ho).symm.trans qo
  ·cases hc
 ca:=λ{prog w A E Q s} X ⟨o,vs,h1,h2,h3⟩ k=>by
  obtain⟨h,g,d,t,os⟩:=s;exact KZ c X h1 h2 h3 k
noncomputable def xNames:List Str:=["NoKin", "NoHouse", "NoRoad", "Ring", "NoHold", "NoLetter", "NoStep", "NoText", "NoRow", "NoLog"]
noncomputable def yNames:List Str:= "RoofError"::xNames
noncomputable def subX(x y:Str):Bool:=x == y||y == ("RoofError":Str)
noncomputable def xclsB(K:Xw)(C:g_):Bool:=Zu K (.ref C) "__getattribute__" == some (some (.builtin "BaseException.__getattribute__"))&&Zu K (.ref C) "__getattr__" == some none &&
 Zu K (.ref C) "__class__" == some (some (.builtin "object.__class__"))&&Y' K C (.type "object") == some true&&Y' K C (.type "BaseException") == some true
theorem Ko{K:Xw}(h:xclsB K C=true):XCls K C:=by
 unfold xclsB at h;simp only[u_,beq_iff_eq] at h;obtain⟨⟨⟨⟨h1,h2⟩,h3⟩,h4⟩,h5⟩:=h;exact⟨h1,h2,h3,h4,h5⟩
noncomputable def xTab(K:Xw):Bool:=xNames.all λx=>xclsB K (clOf K x)&&(ZI K (.ref (clOf K x)) (.type "ValueError") == some true)&&yNames.all λy=>ZI K (.ref (clOf K x)) (.ref (clOf K y)) == some (subX x y)
theorem Lk{K:Xw}(h:xTab K=true){x:Str}(hx:xNames.contains x=true):XCls K (clOf K x):=by
 have:=j_.mp h x (by simpa using hx);simp only[u_] at this;exact Ko this.1.1
theorem NH{K:Xw}(h:xTab K=true){x:Str}(hx:xNames.contains x=true):ZI K (.ref (clOf K x)) (.type "ValueError")=some true:=by
 have:=j_.mp h x (by simpa using hx);simp only[u_,beq_iff_eq] at this;exact this.1.2
theorem OB{K:Xw}(h:xTab K=true){x:Str}(hx:xNames.contains x=true)(hy:yNames.contains y=true):ZI K (.ref (clOf K x)) (.ref (clOf K y))=some (subX x y):=by
 have:=j_.mp h x (by simpa using hx);simp only[u_] at this;exact beq_iff_eq.mp (j_.mp this.2 y (by simpa using hy))
noncomputable def isxF(y:Str)(d:D):Option D:=match d with
 | .exc x _=>if xNames.contains x=true/\yNames.contains y=true then some (.bl (subX x y)) else none
 | _=>none
noncomputable def isvF(d:D):Option D:=match d with
 | .exc x _=>if xNames.contains x=true then some (.bl true) else none
 | _=>none
section
variable{B:BB}{e:D_}
theorem N4{H:Hp}{s:c_}{a:g_}{x:Str}{d:Option g_}(I:Inv X aa U H s)(h:H a=some (ExO X.K a x d)):∃o vs,s.heap.get? a=some o/\o.cls=.ref (clOf X.K x)/\o.data=.fields vs/\∀dx,d=some dx->o.dict=some dx:=by
 obtain⟨p,_⟩:=I.hok a _ h;exact p
theorem E7(hX:xTab X.K=true){H:Hp}{s:c_}{Q:VK}{x:Str}{n:Option Int}{v:V}{c:b_}{b:Bool}{E:b_->c_->Prop}(I:Inv X aa U H s)(hx:xNames.contains x=true)(hd:Is X.K H (.exc x n) v)(r:RelV v u)(k:ZI X.K (.ref (clOf X.K x)) c=some b)(q:Q (.bl b) H):
  o_ (q_ X.prog X.w) A (call (.builtin "isinstance") [u,c]) (EP X aa U Q) E s:=by
 obtain⟨a,d,rfl,h1,_⟩:=AQ hd
 cases(show u=b_.ref a from r)
 obtain⟨o,vs,e1,e2,e3,_⟩:=N4 I h1;exact kia_one (M6 (Lk hX hx)) I.kIn ⟨o,vs,e1,e2,e3⟩ k (λz=>nomatch z) λtk=>⟨.bl b,H,I.tok _,rfl,q⟩
theorem NT(hX:xTab X.K=true)(y:Str):CallR X (.builtin "isinstance") (λxs H Q=>∃x n v,xs=[v,.ref (clOf X.K y)]/\(xNames.contains x=true/\yNames.contains y=true)/\Is X.K H (.exc x n) v/\Q (.bl (subX x y)) H):=by
 intro aa s U H xs us Q I r h;obtain⟨x,n,v,rfl,⟨hx,hy⟩,hd,q⟩:=h;cases r with
 | cons rx r =>
  cases r with
  | cons rt r =>
   cases r;cases rt;exact E7 hX I hx hd rx (OB hX hx hy) q
theorem J2(hX:xTab X.K=true):CallR X (.builtin "isinstance") (λxs H Q=>∃x n v,xs=[v,.ty "ValueError"]/\xNames.contains x=true/\Is X.K H (.exc x n) v/\Q (.bl true) H):=by
 intro aa s U H xs us Q I r h;obtain⟨x,n,v,rfl,hx,hd,q⟩:=h;cases r with
 | cons rx r =>
  cases r with
  | cons rt r =>
   cases r;cases rt;exact E7 hX I hx hd rx (NH hX hx) q
end
section
variable{H:Hp}{s:c_}
theorem LR{P:v_}{w:F_}{h:G_}{K:Xw}{a:g_}{x:Str}{d:Option g_}{o:Obj}{vs:Array b_}(e1:h.get? a=some o)(e2:o.cls=.ref (clOf K x))(e3:o.data=.fields vs)(e4:∀dx,d=some dx->o.dict=some dx):ObjOk P w H' h a (ExO K a x d):=
 ⟨⟨o,vs,e1,e2,e3,e4⟩,⟨o,e1⟩,λh1 h2 ⟨o',kK,q1,q2,q3,q4⟩ k=>⟨o',kK,k _ q1,q2,q3,q4⟩⟩
theorem Inv.track{a:g_}{x:Str}(I:Inv X aa U H s)(c1:∀b o,X.s₀.heap.get? b=some o->b∉X.ex->∃o',aH.get? b=some o')(c2:∀p∈X.pn++aa,∃o,aH.get? p.1=some o)(F:Flies H aH s.heap a (clOf X.K x)):Inv X aa U (upd H a (ExO X.K a x none)) s:=by
 obtain⟨oe,vs,a0,e1,e2,e3,_,e5,e6,_⟩:=F;have up:=uu e5 (ExO X.K a x none);refine⟨I.ok,I.os,I.bare,⟨I.base.keep,I.base.slot,λb o q n hx=>?_,I.base.there,λb xs q=>up _ _ (I.base.tups b xs q),λb o u q=>up _ _ (I.base.frzs b o u q),λb ps q=>let ⟨m,z⟩:=I.base.tbls b ps q;⟨m,up _ _ z⟩⟩,I.loc,I.cell,?_,λy c hy=>?_,λp hp=>?_,λb u q=>?_,I.len⟩
 ·rw[tG λz=>?_]
  ·exact I.base.free b o q n hx
  ·obtain⟨_,k⟩:=c1 b o q hx;rw[z,e6] at k;cases k
 ·rw[tG λz=>?_]
  ·exact I.free
  ·obtain⟨_,⟨o',es,ep,e',d',_⟩,_⟩:=I.loc;rw[z,e1] at e';cases e';rw[e3] at d';cases d'
 ·rw[tG λz=>?_]
  ·exact I.freeC y c hy
  ·obtain⟨v,o',e',d'⟩:=I.cell y c hy;rw[z,e1] at e';cases e';rw[e3] at d';cases d'
 ·obtain⟨k1,k2,k3,k4,k5⟩:=I.pin p hp;refine⟨k1,?_,k3,k4,k5⟩;rw[tG λz=>?_]
  ·exact k2
  ·obtain⟨_,k⟩:=c2 p hp;rw[z,e6] at k;cases k
 ·by_cases hb:b=a
  ·subst hb;rw[t6] at q;cases q;exact LR e1 e2 e3 λdx z=>nomatch z
  ·rw[tG hb] at q;exact(I.hok b u q).stay (λc v _ z=>z) (λc z=>up _ _ z) (λc xs z=>up _ _ z)
theorem N1{M:Y2}{E:b_->c_->Prop}{x:Str}{Q:Unit->c_->Prop}(I:Inv X aa U H s)(hN:X.N.Nodup)(hi:X.N[i]?=some x)(hx:X.env.kindOf x=some .local)(k:∀s',Inv X aa (U.set i none) H s'->Q () s'):
  o_ M A (do bindName X.env x .none;unbindBehindTheSuite X.env x pos) Q E s:=by
 obtain⟨m,hn,hl⟩:=id I.loc;have cne:=I.cne;obtain⟨oL,_,_,lR,_⟩:=id hn;refine wpAny_nameGoes_keeps hx hn (by rw[I.ok.kind];rfl) λh' v ff hs=>?_
 have far:∀b o,X.s₀.heap.get? b=some o->b≠X.env.locals:=λb o e=>Q_ (E_ (B_ e) I.ok.above)
 refine k _ ⟨I.ok,I.os,I.bare,⟨λb o e n hb hx=>(hs.2 b (far b o e)).trans (I.base.keep b o e n hb hx),λb o e n hb hx=>?_,I.base.free,λb o e hx=>?_,I.base.tups,I.base.frzs,I.base.tbls⟩,⟨_,ff,λj y v' e1 e2 e3=>?_⟩,λy c e=>?_,I.free,I.freeC,λp hp=>?_,λb ob e=>?_,by rw[UL];exact I.len⟩
 ·obtain⟨sl,e1⟩:=I.base.slot b o e n hb hx;exact⟨sl,(hs.2 b (far b o e)).trans e1⟩
 ·obtain⟨o',e1⟩:=I.base.there b o e hx;exact⟨o',(hs.2 b (far b o e)).trans e1⟩
 ·by_cases hj:j=i
  ·subst hj;rw[List.getElem?_set] at e2;split at e2
   ·split at e2<;>cases e2
   ·exact absurd rfl ‹_›
  ·rw[Tu (Tt hj)] at e2;obtain⟨u',r',q⟩:=hl j y v' e1 e2 e3;refine⟨u',r',?_⟩
   rcases q with⟨z1,z2⟩ | ⟨z1,c,z2,z3⟩
   ·have ne:y≠x:=λz=>hj (CC hN e1 (z▸hi))
    exact .inl ⟨z1,by simp[ne,z2]⟩
   ·exact .inr ⟨z1,c,z2,z3.sameBut hs (cne y c z2)⟩
 ·obtain⟨w',z⟩:=I.cell y c e;exact⟨w',z.sameBut hs (cne y c e)⟩
 ·obtain⟨z1,z2,z3,z4,z5⟩:=I.pin p hp;exact⟨(hs.2 p.1 z3).trans z1,z2,z3,z4,z5⟩
 ·refine(I.hok b ob e).stay (λc u hc q=>(hs.2 c λz=>?_).trans q) (λ_ q=>q) λ_ _ q=>q
  rw[z] at hc
  rcases hc with hc | hc
  ·rw[←hc,I.free] at e;cases e
  ·rw[I.free] at hc;cases hc
end
noncomputable def xTop(K:Xw):Bool:=typeIn K (.ref (clOf K "RoofError")) == some (.type "type")&&Y' K (clOf K "RoofError") (.type "BaseException") == some true&&xNames.all λx=>Y' K (clOf K x) (.ref (clOf K "RoofError")) == some true
theorem HN{K:Xw}{M:Y2}{E:b_->c_->Prop}{h:G_}{g:Array GenState}{d:Drawn}{t:Nat}{os:OsState}{a T:g_}{o:Obj}{Q:Bool->c_->Prop}(X:K.In h)(ty:typeIn K (.ref T)=some (.type "type"))(be:Y' K T (.type "BaseException")=some true)(sb:Y' K C (.ref T)=some true)(e1:h.get? a=some o)(e2:o.cls=.ref C)(q:Q true ⟨h,g,d,t,os⟩):
  o_ M A (excMatches (.ref a) (.ref T)) Q E ⟨h,g,d,t,os⟩:=by
 have L1:=looks_typeIn (M:=M) X ty;have L2:=X3 (M:=M) X be;have L3:=X3 (M:=M) X sb
 have L4:WG M h (isType (.ref T)) true:=by
  obtain⟨cd,hc,_⟩:=W5.mp be;unfold clsIn at hc;split at hc
  ·rename_i ho;intro A Q E s kp qq;unfold isType loadHead;exact a_ (wpAny_loadPart (kp _ _ (X _ _ ho)) (f_ qq))
  ·cases hc
 have L5:WG M h (YX (.ref a)) (.ref C):=e2▸(WG.ld e1).andThen .now;have f:=tc_notTuple;unfold excMatches Yu isExcClass
 repeat (first | (with_reducible refine L1.at ?_) | (with_reducible refine L4.at ?_) | (with_reducible refine L2.at ?_) | (with_reducible refine L3.at ?_) | (with_reducible refine L5.at ?_) | wp_step)
 exact q
noncomputable def xNm(n:Nat):Str:=xNames.getD n "NoKin"
theorem PH(n:Nat):xNames.contains (xNm n)=true:=by
 match n with
 | 0 | 1 | 2 | 3 | 4 | 5 | 6 | 7 | 8 | 9=>decide
 | k+10=>have e:xNm (k+10) = "NoKin":=rfl;rw[e];decide
noncomputable def clN(K:Xw)(n:Nat):g_:=clOf K (xNm n)
noncomputable def clr(j:Nat):M Unit:=λΓ=>some ((),Γ.set j none)
noncomputable def tryE(g:M Fl)(m:M Nat)(j i:Nat):M Fl:=λΓ=>match m Γ with
 | some (c,ac)=>(bnd (putS j (.val (.exc (xNm c) none))) λ_=>bnd (setV i (nm j)) λ_=>bnd (clr j) λ_=>ret .nx) ac
 | none=>g Γ
theorem Rep.gone{K:Xw}{B:BB}{H:Hp}(r:Rep K B G I H U Γ)(i:Nat):Rep K B G I H (U.set i none) (Γ.set i none) where
 iH:=r.iH
 gH:=r.gH
 len:=by rw[UL,UL];exact r.len
 slot:=λj q e=>by
  rcases ul e with⟨_,z,_⟩ | ⟨n,z⟩
  ·cases z
  ·rw[Tu (Tt n)];exact r.slot j q z
 dist:=λj k q q' v e e' m m' s1 s2=>by
  rcases ul e with⟨_,z,_⟩ | ⟨n,z⟩
  ·cases z
  rcases ul e' with⟨_,z',_⟩ | ⟨n',z'⟩
  ·cases z'
  rw[Tu (Tt n)] at s1;rw[Tu (Tt n')] at s2;exact r.dist j k q q' v z z' m m' s1 s2
 bor:=λj ds e=>by
  rcases ul e with⟨_,z,_⟩ | ⟨n,z⟩
  ·cases z
  ·rw[Tu (Tt n)];exact r.bor j ds z
section
variable{B:BB}
theorem MZ{body:List Tr}{g:M Fl}{m:M Nat}{ep yp ap hp:Pos}(hX:xTop X.K=true)(hN:X.N.Nodup)(cS:X.stack=X.env::X.outer)(fD:X.env.frame=some X.env.locals)(hm:X.mg "RoofError"=some (.ref (clOf X.K "RoofError")))(hb:∀E pn,SDs (Cx.tried X E pn) B body g)(qp:∀E pn,SXs (Cx.tried X E pn) B (clN X.K) body m)(hg:Gl X "RoofError":=by exact rfl)(hi:X.N[i]?=some y:=by rfl)(hj:X.N[j]?=some z:=by rfl)(hy:locB X.env.scope y=true:=by rfl)(hf:fnB X y=true:=by rfl)(hz:X.env.scope.names.lookup z=some .local:=by rfl)(hv:visB X.env.scope z=true:=by rfl)(qt:X.env.kindOf z=some .local:=by rfl)(qu:(z == ("__debug__":Str))=false:=by decide)(qv:(z == ("__classdict__":Str))=false:=by decide)(hs:∀a,Uy (.Name z ep) (some (.Name y yp)) ap.line (Cx.suite X a).env=pure false:=by intros;rfl):
  SD X B (.Try body [.ExceptHandler (some (.Name "RoofError" np)) (some z) [.Assign [.Name y yp] (.Name z ep) ap] hp] [] [] pos) (tryE g m j i):=by
 intro aa s U H D I q;obtain⟨G,J,Γ,f,af,r,e1,k⟩:=q;unfold tryE at e1;cases em:m Γ with
 | none =>
  rw[em] at e1;refine wpAny_Try_except (thn (hb _ (X.pn++aa) [] s U H D (GT I) ⟨G,J,Γ,f,af,r,e1,k⟩) λfl s1 q=>?_);cases fl with
  | next=>obtain⟨am,H',I',q⟩:=q;exact Ve ⟨am,H',xb I',q⟩
  | brk=>obtain⟨am,H',I',q⟩:=q;exact⟨am,H',xb I',q⟩
  | cont=>obtain⟨am,H',I',q⟩:=q;exact⟨am,H',xb I',q⟩
  | ret u=>obtain⟨v,am,H',I',q⟩:=q;exact⟨v,am,H',xb I',q⟩
 | some cy =>
  obtain⟨c,ac⟩:=cy;rw[em] at e1;obtain⟨_,ai,e2,e3⟩:=lX e1;obtain⟨qw,aL,e4,e5⟩:=lX e3;obtain⟨_,aN,e6,e7⟩:=lX e5;cases e7;cases e6;have qx:=e4;obtain⟨hl,rfl⟩:=wK e2
  have qy:qw=.nx:=by
   obtain⟨_,_,_,z2⟩:=lX e4;obtain⟨_,_,_,z4⟩:=lX z2;cases z4;rfl
  subst qy;refine wpAny_Try_except (thn (qp _ (X.pn++aa) [] s U H ⟨λ_ _=>False,λ_ _=>False,λ_ _=>False,λ_ _=>False⟩ (GT I) ⟨G,J,Γ,c,ac,r,em,λam H' I' r' g'=>?_⟩) λfl s1 q=>?_);rotate_left
  ·cases fl with
   | next=>obtain⟨_,_,_,q⟩:=q;exact q.elim
   | brk=>obtain⟨_,_,_,q⟩:=q;exact q.elim
   | cont=>obtain⟨_,_,_,q⟩:=q;exact q.elim
   | ret u=>obtain⟨_,_,_,_,_,q⟩:=q;exact q.elim
  intro ps s1 aH a I1 c1 c2 c3 F;have I2:=xb I1;have lu:∀p∈X.pn++aa,∃o,aH.get? p.1=some o:=λp hp=>c2 p (T6 _ hp)
  have fr:=I2.ok.frames;have st:=I2.stack;rw[cS] at fr st;show o_ (q_ X.prog X.w) X.A (Vl (.ref a) X.env) _ _ s1;refine DK fr fD st I2.hok c3 F λh2 ch T F2=>?_
  rw[←cS] at T;have I3:=T.inv I2 c1 lu;have l3:=T.lasts c3;unfold xTop at hX;simp only[u_,beq_iff_eq] at hX;obtain⟨⟨x1,x2⟩,x3⟩:=hX;have x4:Y' X.K (clN X.K c) (.ref (clOf X.K "RoofError"))=some true:=beq_iff_eq.mp (j_.mp x3 _ (by have:=PH c;simpa using this));obtain⟨oe,vs,a0,f1,f2,f3,f4,f5⟩:=id F2;refine wpAny_handleBy_cons (codeAny_handlers_test (wf (X:=Cx.suite X a) (E1 I3) hg hm (HN I3.kIn x1 x2 x4 f1 f2 (codeAny_handlers_suite_as ?_)) (by decide))) (by intro q;cases q);refine QI I3.stack I3.hok l3 F2 λh3 sN T3 F3=>?_
  have I4:=T3.inv I3 c1 lu;have I5:=DL.Inv.track I4 (x:=xNm c) c1 lu F3;obtain⟨_,_,_,_,_,_,_,free,_⟩:=id F3;have rA:=r'.alloc free (ExO X.K a (xNm c) none);have gA:=r'.growAlloc free (ExO X.K a (xNm c) none);refine Ca (X:=Cx.suite X a) (v:=.ref a) (E1 I5) hN hj (.inl hz) rfl (λs4 I6=>?_) (.inr hz);have rB:=rA.store (i:=j) (q:=.val (.exc (xNm c) none)) (v:=.ref a) (by rw[rA.len];exact hl) (Is.exc t6 λk z=>nomatch z) (λz=>nomatch z) (λ_ z=>nomatch z);have eU:SDs (Cx.suite X a) B [.Assign [.Name y yp] (.Name z ep) ap] (setV i (nm j)):=FF (Gb (X:=Cx.suite X a) hN (Fz (pv j hj hv qu qv)) hi hy (hs a) hf);refine TJ (eU aa _ _ _ ⟨λjQ nM=>∃gy,Rep X.K B G gy nM jQ aL/\Grow G (upd I' a (ExO X.K a (xNm c) none)) gy,λ_ _=>False,λ_ _=>False,λ_ _=>False⟩ I6 ⟨G,_,_,.nx,aL,rB,qx,λjQ nM gy dj qz=>⟨gy,dj,qz⟩⟩) (λfl s5 q=>?_) λ_ _ z=>z.elim
  cases fl with
  | next =>
   obtain⟨dD,H5,I7,gy,r5,g5⟩:=q;refine N1 (P6 I.ok I7) hN hj qt λs6 I8=>?_
   exact⟨_,H5,I8,k _ H5 gy (r5.gone j) (g'.trans (gA.trans g5))⟩
  | brk=>obtain⟨_,_,_,q⟩:=q;exact q.elim
  | cont=>obtain⟨_,_,_,q⟩:=q;exact q.elim
  | ret u=>obtain⟨_,_,_,_,_,q⟩:=q;exact q.elim
theorem Nb:∀U H Q,tD X.K B (un1 (isxF y) ga) U H Q->tCB (λxs H Q=>∃x n v,xs=[v,.ref (clOf X.K y)]/\(xNames.contains x=true/\yNames.contains y=true)/\Is X.K H (.exc x n) v/\Q (.bl (subX x y)) H) (tCons (tD X.K B ga) (tCons (tC (.ref (clOf X.K y))) tNil)) U H Q:=λU H Q q=>by
 obtain⟨G,I,Γ,d,af,r,e1,k⟩:=q;obtain⟨d1,ac,e2,e3⟩:=lX e1;obtain⟨e4,rfl⟩:=tN e3;unfold isxF at e4;split at e4
 ·obtain⟨h1,rfl⟩:=tZ e4;exact⟨G,I,Γ,_,_,r,e2,λv H1 I1 r1 g1 h2=>⟨_,_,v,rfl,h1,h2.mono r1.iH,k _ _ _ r1 g1 (Is.bl _)⟩⟩
 ·cases e4
theorem Jo:∀U H Q,tD X.K B (un1 isvF ga) U H Q->tCB (λxs H Q=>∃x n v,xs=[v,.ty "ValueError"]/\xNames.contains x=true/\Is X.K H (.exc x n) v/\Q (.bl true) H) (tCons (tD X.K B ga) (tCons (tC (.ty "ValueError")) tNil)) U H Q:=λU H Q q=>by
 obtain⟨G,I,Γ,d,af,r,e1,k⟩:=q;obtain⟨d1,ac,e2,e3⟩:=lX e1;obtain⟨e4,rfl⟩:=tN e3;unfold isvF at e4;split at e4
 ·obtain⟨h1,rfl⟩:=tZ e4;exact⟨G,I,Γ,_,_,r,e2,λv H1 I1 r1 g1 h2=>⟨_,_,v,rfl,h1,h2.mono r1.iH,k _ _ _ r1 g1 (Is.bl _)⟩⟩
 ·cases e4
variable{e:D_}
theorem vc{p:Pos}(hX:xTab X.K=true)(hg:Gl X "isinstance")(hm:X.mg "isinstance"=none)(cq:Gl X y)(cg:X.mg y=some (.ref (clOf X.K y)))(ha:ED X B e ga)(hd:(y == ("__debug__":Str))=false:=by decide)(he:d_ [e,.Name y p2] X.env=(false,eval e X.env)::d_ [.Name y p2] X.env:=by rfl)(cr:d_ [.Name y p2] X.env=(false,eval (.Name y p2) X.env)::d_ [] X.env:=by rfl)(aB:(J_ pos (d_ [.Name y p2] X.env)).any (·.1)=false:=by rfl):
  ED X B (.Call (.Name "isinstance" p) [e,.Name y p2] [] pos) (un1 (isxF y) ga):=
 PE.imp (wn (NT hX y) hg hm Xm (uU ha (uU (u7 (v:=.ref (clOf X.K y)) cq cg rfl hd) wB cr) he) (by decide) (by decide) he aB) Nb
theorem Ig{p:Pos}(hX:xTab X.K=true)(hg:Gl X "isinstance")(hm:X.mg "isinstance"=none)(cq:Gl X "ValueError")(cg:X.mg "ValueError"=none)(ha:ED X B e ga)(he:d_ [e,.Name "ValueError" p2] X.env=(false,eval e X.env)::d_ [.Name "ValueError" p2] X.env:=by rfl)(cr:d_ [.Name "ValueError" p2] X.env=(false,eval (.Name "ValueError" p2) X.env)::d_ [] X.env:=by rfl)(aB:(J_ pos (d_ [.Name "ValueError" p2] X.env)).any (·.1)=false:=by rfl):
  ED X B (.Call (.Name "isinstance" p) [e,.Name "ValueError" p2] [] pos) (un1 isvF ga):=
 PE.imp (wn (J2 hX) hg hm Xm (uU ha (uU (Em (v:=.ty "ValueError") cq cg (by decide +kernel) rfl) wB cr) he) (by decide) (by decide) he aB) Jo
end
end DL
namespace DL
open PySem PySem.Spec PyProof.Rows L2 PySem.W
open PySem.Builtin PySem.Builtin.ObjectAttr
end DL
namespace DL
open PySem PySem.Spec PyProof.Rows L2 PySem.W
noncomputable def nine:List Str:=["NoKin", "NoHouse", "NoRoad", "Ring", "NoHold", "NoLetter", "NoStep", "NoText", "NoRow"]
noncomputable def xAll(K:Xw):Bool:=xTab K&&xTop K&&(yNames.all λx=>nsIn K TU x == some (some (.ref (clOf K x))))&&(nine.all λx=>xcIn K (clOf K x))&&nine.all λx=>keepIn K (.ref (clOf K x))
structure Exs(K:Xw)(mg:Str->Option b_):Prop where
 tab:xTab K=true
 top:xTop K=true
 m:∀x,yNames.contains x=true->mg x=some (.ref (clOf K x))
 xc:∀x,nine.contains x=true->xcIn K (clOf K x)=true
 kp:∀x,nine.contains x=true->keepIn K (.ref (clOf K x))=true
theorem Qa{K:Xw}{h:G_}(X:K.In h)(G:h.Ns TU mg)(b:xAll K=true):Exs K mg:=by
 unfold xAll at b;simp only[u_] at b;obtain⟨⟨⟨⟨b1,b2⟩,b3⟩,b4⟩,b5⟩:=b;exact⟨b1,b2,λx hx=>Zx X G (beq_iff_eq.mp (j_.mp b3 x (by simpa using hx))),λx hx=>j_.mp b4 x (by simpa using hx),λx hx=>j_.mp b5 x (by simpa using hx)⟩
end DL
namespace DL
open PySem PySem.W PySem.Spec PyProof.Rows L2
section
variable{B:BB}{e:D_}{p:Pos}{t:M (List D)}
theorem HM:CallR X (.type "int") (λxs H Q=>∃b:Bool,xs=[.bl b]/\Q (.int (if b then 1 else 0)) H):=by
 intro aa s U H xs us Q I r h;obtain⟨b,rfl,q⟩:=h;obtain⟨u,rfl,ru⟩:=vals1 r;cases ru;exact call_int_1 (meets_int_new_bool b) (show(Made.int (if b then 1 else 0)).post _ s from⟨rfl,⟨.int _,H,I.tok _,⟨_,rfl⟩,q⟩⟩)
noncomputable def intBF(ds:List D):Option D:=match ds with
 | [.bl b]=>some (.int (if b then 1 else 0))
 | _=>none
theorem Ho(hg:Gl X "int")(hm:X.mg "int"=none)(ha:AD X B [e] t)(he:d_ [e] X.env=(false,eval e X.env)::d_ [] X.env:=by rfl)(aB:(J_ pos (d_ [] X.env)).any (·.1)=false:=by rfl):
  ED X B (.Call (.Name "int" p) [e] [] pos) (fn1 intBF t):=ya HM (λds d e B G I H U Γ xs Q r h k=>by
 unfold intBF at e;split at e
 ·cases e;obtain⟨y,rfl,hx⟩:=h.one;rw[uv hx];exact⟨_,rfl,k.now r (Is.int _)⟩
 ·cases e) hg hm boot_int ha (by decide) (by decide) he aB
end
end DL
namespace DL
open PySem PySem.Spec PyProof.Rows L2 PySem.W
section
variable{B:BB}{a b e:D_}
noncomputable def tok0(o:Option Int):Option (Int×Tok):=o.map λi=>(i,0)
noncomputable def cutT(x:Str)(lo hi:Option Int):Str:=if((UJ x (tok0 lo) (tok0 hi) none).length == x.length)=true then x else⟨((UJ x (tok0 lo) (tok0 hi) none).filterMap (x.cps[·]?)).toArray⟩
theorem EJ{v:b_}{o:Option Int}(p:XG v o):∃l:Option (Int×Tok),v=partValue l/\l.map (·.1)=o:=by
 cases p with
 | none=>exact⟨none,rfl,rfl⟩
 | int i t=>exact⟨some (i,t),rfl,rfl⟩
theorem Kp{x:Str}{l u:Option (Int×Tok)}{lo:Option Int}(h1:l.map (·.1)=lo)(h2:u.map (·.1)=hi):UJ x l u none=UJ x (tok0 lo) (tok0 hi) none:=by
 subst h1 h2;unfold UJ tok0;cases l<;>cases u<;>rfl
theorem Il:SlR X (λx lo hi H Q=>∃z,x=.str z/\(cutT z lo hi).length<=z_/\Q (.str (cutT z lo hi)) H):=by
 intro aa s U H x v vl vu lo hi sl Q I rx hs pl pu h;obtain⟨z,rfl,hz,q⟩:=h;obtain⟨t,rfl⟩:=rx;refine⟨"str", _,PySem.F.slot_str_getitem.lookup,Wk s z t,?_⟩;obtain⟨l,rfl,e1⟩:=EJ pl;obtain⟨u,rfl,e2⟩:=EJ pu;refine wpAny_getItem_str_slice (l:=l) (u:=u) (st:=none) hs rfl ?_;have ep:=Kp (x:=z) e1 e2;unfold sliceMade;rw[ep];unfold cutT at hz q;have one:((((none:Option (Int×Tok)).map (·.1)).getD 1 == 1)&&(UJ z (tok0 lo) (tok0 hi) none).length == z.length)=((UJ z (tok0 lo) (tok0 hi) none).length == z.length):=rfl;rw[one];split
 ·rename_i h;rw[if_pos h] at q;exact⟨.str z,H,I,⟨_,rfl⟩,q⟩
 ·rename_i h;rw[if_neg h] at q hz;exact⟨hz,⟨.str _,H,I.tok _,⟨_,rfl⟩,q⟩⟩
noncomputable def slSF(d:D)(lo hi:Option Int):Option D:=match d with
 | .str x=>if(cutT x lo hi).length<=1000000 then some (.str (cutT x lo hi)) else none
 | _=>none
theorem CZ{lo hi:Option D_}(ha:ED X B a ga)(hl:partD lo X B gl)(hh:partD hi X B gh):ED X B (.Subscript a (.Slice lo hi none p2) pos) (sl3 slSF ga gl gh):=PE.imp (DD Il ha hl hh) λU H Q q=>by
 obtain⟨G,I,Γ,d,af,r,e1,k⟩:=q;obtain⟨c,ac,e2,e3⟩:=lX e1;obtain⟨l,ai,e4,e5⟩:=lX e3;obtain⟨h,aL,e6,e7⟩:=lX e5;obtain⟨e8,rfl⟩:=tN e7;refine⟨G,I,Γ,c,ac,r,e2,λv H1 I1 r1 g1 hv=>⟨G,I1,ac,l,ai,r1,e4,λH2 I2 r2 g2=>⟨G,I2,ai,h,_,r2,e6,λH3 I3 r3 g3=>?_⟩⟩⟩;unfold slSF at e8;split at e8
 ·rename_i x;obtain⟨ok,rfl⟩:=tZ e8;exact⟨x,ug hv,H_ ok (by rw[TH];decide),(k.after (g1.trans (g2.trans g3))).now r3 (Is.str _)⟩
 ·cases e8
theorem PM:OpR X (UA .Mult) (λx y H Q=>∃z n,x=.str z/\y=.int n/\MulOk z n/\Q (.str (ZJ z n)) H):=by
 intro aa s U H x y v u Q I rx ry h;obtain⟨z,n,rfl,rfl,ok,q⟩:=h;obtain⟨t,rfl⟩:=rx;obtain⟨t',rfl⟩:=ry;exact PySem.SB.mul ok λt' k=>⟨.str _,H,I.tok _,⟨_,rfl⟩,q⟩
noncomputable def mulSF(a b:D):Option D:=match a,b with
 | .str z,.int n=>if 0<=n/\n<=10000/\z.length<=100 then some (.str (ZJ z n)) else none
 | _,_=>none
theorem Lw{n:Int}(h:0<=n/\n<=10000/\z.length<=100):MulOk z n:=by
 obtain⟨h1,h2,h3⟩:=h;refine⟨by simp;omega,λc _ w=>?_,λc _=>?_⟩
 ·have:(2 ^ 63 - 1) / n>=100:=by
   rw[ge_iff_le,Int.le_ediv_iff_mul_le (by omega)];omega
  omega
 ·have:z.length*n.toNat<=100*10000:=Nat.mul_le_mul h3 (by omega);unfold tooLong;rw[TH];simp;omega
theorem Ba(ha:ED X B a ga)(hb:ED X B b gb):ED X B (.BinOp a .Mult b pos) (op2 mulSF ga gb):=vP PM (λa b d e B G I H U Γ x y Q r hx hy k=>by
 unfold mulSF at e;split at e
 ·obtain⟨ok,rfl⟩:=tZ e;exact⟨_,_,ug hx,tJ hy,Lw ok,k.now r (Is.str _)⟩
 ·cases e) ha hb
end
end DL
namespace DL
open PySem PySem.W PySem.Spec PyProof.Rows L2
section
variable{B:BB}{a b c c':D_}{gc gd:M D}
theorem Mq{r r':R2}{ta tb tc td:TE}(ho:OpR X (Tl op) r)(bV:OpR X (Tl bH) r')(ij:OpR X (Tl dI) dj)(ha:PE X a ta)(hb:PE X b tb)(hc:PE X c tc)(hd:PE X c' td)(hm:UC [op,bH,dI] [b,c,c']=false:=by with_unfolding_all rfl):PT X (.Compare a [op,bH,dI] [b,c,c'] pos) (tTest (tChain3 r r' dj ta tb tc td)):=by
 intro aa s U H Q I h
 refine isTrue_chain (thn (ha aa s U H _ I h) λv s1 ⟨x,H1,I1,r1,q1⟩=>test_link (thn (hb aa s1 U H1 _ I1 q1) λu s2 ⟨y,H2,I2,r2,q2⟩ =>
  thn (ho aa s2 U H2 x y v u _ I2 r1 r2 q2) λd s3 ⟨z,H3,I3,r3,k,e,q3⟩=>?_)) hm
 subst e;cases r3;refine K_ ?_;cases k with
 | false =>
  obtain⟨k',e',q'⟩:=q3;cases e';exact Zi ⟨H3,I3,q'⟩
 | true =>
  refine Zj (test_link (thn (hc aa s3 U H3 _ I3 q3) λu' s4 ⟨y',H4,I4,r4,q4⟩=>thn (bV aa s4 U H4 y y' u u' _ I4 r2 r4 q4) λd' s5 ⟨z',H5,I5,r5,k',e',q5⟩=>?_));subst e';cases r5;refine K_ ?_;cases k' with
  | false =>
   obtain⟨k2,e2,q'⟩:=q5;cases e2;exact Zi ⟨H5,I5,q'⟩
  | true =>
   refine Zj (test_last (thn (hd aa s5 U H5 _ I5 q5) λw' s6 ⟨z3,H6,I6,r6,q6⟩=>thn (ij aa s6 U H6 y' z3 u' w' _ I6 r4 r6 q6) λd' s7 ⟨z2,H7,I7,r7,k2,e2,q7⟩=>?_));subst e2;cases r7;exact K_ ⟨H7,I7,q7⟩
theorem QA(ha:ED X B a ga)(hb:ED X B b gb)(hc:ED X B c gc)(hd:ED X B c' gd)(hm:UC [.LtE,.LtE,.Lt] [b,c,c']=false:=by with_unfolding_all rfl):TD X B (.Compare a [.LtE,.LtE,.Lt] [b,c,c'] pos) (tst (chn3 leI leI ltI ga gb gc gd)):=PT.imp (Mq vh vh vZ ha hb hc hd hm) (ze (Hy ur ur ur))
noncomputable def joinG(a:D)(ds:List D):Option D:=match a with
 | .str x=>joinF x ds
 | _=>none
noncomputable def jnS(i:Nat)(t:M (List D)):M D:=bnd (nm i) λa=>bnd t λds=>lft (joinG a ds)
theorem G1{e:D_}{t:M (List D)}(hv:ED X B (.Name z p1) (nm i))(ha:AD X B [e] t)(bt:UQ (.Name z p1) "join" X.env (eval (.Name z p1) X.env)=eval (.Name z p1) X.env:=by rfl)(bS:((J_ aC (d_ [e] X.env)).all (λx=>!x.1)&&(WW aC (Vk [] X.env)).all (λx=>x.1.isSome)&&decide ([e].length+([]:List U4).length+(if([]:List U4).isEmpty then 0 else 1) < 30))=true:=by rfl)(bu:(aT.endLine == aC.line)=true:=by rfl)(hs:d_ [e] X.env=(false,eval e X.env)::d_ [] X.env:=by rfl)(aX:(J_ aC (d_ [] X.env)).any (·.1)=false:=by rfl):
  ED X B (.Call (.Attribute (.Name z p1) "join" aT) [e] [] aC) (jnS i t):=
 PE.imp (wt X2 PySem.F.slot_str_join PySem.F.type_str_join Fq hv ha bt bS bu hs aX) λU H Q q=>by
  obtain⟨G,I,Γ,d,af,r,e1,k⟩:=q;obtain⟨d1,ac,e2,e3⟩:=lX e1;obtain⟨ds,ai,e4,e5⟩:=lX e3;obtain⟨e6,rfl⟩:=tN e5;unfold joinG at e6;split at e6
  ·rename_i x;unfold joinF at e6;split at e6
   ·split at e6
    ·rename_i ts et;obtain⟨ok,rfl⟩:=tZ e6;have:=Br et;subst this;refine⟨G,I,Γ,_,ac,r,e2,λv H1 I1 r1 g1 h1=>?_⟩;rw[ug h1];refine⟨rfl,G,I1,ac,_,_,r1,e4,λvs H2 I2 r2 g2 h2=>?_⟩;obtain⟨y,rfl,hy⟩:=h2.one;obtain⟨q,zs,rfl,h3,h4⟩:=tW hy;have:=CM h4;subst this;exact⟨x,q,ts,rfl,rfl,(Same.rdK r2.iH h3).sq,ok,(k.after (g1.trans g2)).now r2 (Is.str _)⟩
    ·cases e6
   ·cases e6
  ·cases e6
end
section
variable{B:BB}{a b:D_}
theorem HI(ha:ED X B a ga)(hb:ED X B b gb)(hm:Us .NotIn b=false:=by rfl):TD X B (.Compare a [.NotIn] [b] pos) (tst (op2 ninSF ga gb)):=vo Ez (λa b d e B G I H U Γ x y Q r hx hy k=>by
 unfold ninSF at e;split at e
 ·cases e;refine⟨_,_,ug hx,ug hy,?_⟩;rw[VA];exact k.now r (Is.bl _)
 ·cases e) ha hb hm
end
end DL
namespace DL
open PySem PySem.Spec PyProof.Rows L2
inductive KTx(X:Cx):List D_->M (List D)->Prop
 | nil:KTx X [] nilA
 | str {x:Str} {a b es t}:KTx X es t->KTx X (.Constant (.str x) a b::es) (consA (ret (.str x)) t)
 | mul {x:Str}{i:Int} {a b c d p es t}:KTx X es t->KTx X (.BinOp (.Constant (.str x) a b) .Mult (.Constant (.int i) c d) p::es) (consA (op2 mulSF (ret (.str x)) (ret (.int i))) t)
 | add {y x:Str}{i:Int} {a b c d e f p q es t}:KTx X es t->KTx X (.BinOp (.Constant (.str y) a b) .Add (.BinOp (.Constant (.str x) c d) .Mult (.Constant (.int i) e f) p) q::es) (consA (op2 addF (ret (.str y)) (op2 mulSF (ret (.str x)) (ret (.int i)))) t)
theorem KTx.ad{B:BB}{es:List D_}{t:M (List D)}(h:KTx X es t):AD X B es t:=by
 induction h with
 | nil=>exact f'
 | str _ ih=>exact fI tU ih rfl
 | mul _ ih=>exact fI (Ba tU gV) ih rfl
 | add _ ih=>exact fI (t9 tU (Ba tU gV)) ih rfl
theorem uS{B:BB}{e:D_}{x:Str}{g:M (List D)}(hN:X.N.Nodup)(he:EO X B e g)(hi:X.N[i]?=some x:=by rfl)(hx:locB X.env.scope x=true:=by rfl)(hs:Uy e (some (.Name x aP)) pos.line X.env=pure false:=by rfl)(hf:fnB X x=true:=by rfl):SI X B (.Assign [.Name x aP] e pos) (setO i g):=by unfold SI;exact NB hN he hi hx hs hf
end DL
namespace DL
open PySem L2
variable {α Y:Type}
def wp(m:M α)(Γ:Gm)(Q:α->Gm->Prop):Prop:=∃a af,m Γ=some (a,af)/\Q a af
def wpF(g:List R->Option (R×List R))(rs:List R)(Q:R->List R->Prop):Prop:=∃r aQ,g rs=some (r,aQ)/\Q r aQ
def wpB(g:List R->Option (R×List R))(c ds:List D)(Q:R->List D->Prop):Prop:=∃r c',bcF g c ds=some (r,c')/\Q r c'
section
variable{Q:α->Gm->Prop}{QD:D->Gm->Prop}{QL:List D->Gm->Prop}{QB:Bool->Gm->Prop}{QS:Fl->Gm->Prop}{QU:Unit->Gm->Prop}
theorem wp.mono{m:M α}{Q':α->Gm->Prop}(h:wp m Γ Q)(f:∀a Γ,Q a Γ->Q' a Γ):wp m Γ Q':=by
 obtain⟨a,af,e,q⟩:=h;exact⟨a,af,e,f _ _ q⟩
@[simp ↓] theorem wm{a:α}:wp (ret a) Γ Q↔Q a Γ:=by
 constructor
 ·rintro⟨b,af,e,q⟩;cases e;exact q
 ·intro q;exact⟨_,_,rfl,q⟩
@[simp ↓] theorem t5{Y:Type}{m:M Y}{f:Y->M α}:wp (bnd m f) Γ Q↔wp m Γ λb ac=>wp (f b) ac Q:=by
 constructor
 ·rintro⟨a,af,e,q⟩;obtain⟨b,ac,e1,e2⟩:=lX e;exact⟨b,ac,e1,a,af,e2,q⟩
 ·rintro⟨b,ac,e1,a,af,e2,q⟩;exact⟨a,af,by unfold bnd;rw[e1];exact e2,q⟩
@[simp ↓] theorem M1{a:α}:wp (lft (some a)) Γ Q↔Q a Γ:=by
 constructor
 ·rintro⟨b,af,e,q⟩;cases e;exact q
 ·intro q;exact⟨_,_,rfl,q⟩
theorem u6{o:Option α}{a:α}(h:o=some a):wp (lft o) Γ Q↔Q a Γ:=by rw[h,M1]
@[simp ↓] theorem FB:wp (nm i) Γ QD↔match Γ[i]? with
  | some (some (.val d))=>QD d Γ
  | some (some (.own ds))=>QD (.lst ds) (Γ.set i (some (.val (.lst ds))))
  | some (some (.fro ds))=>QD (.lst ds) Γ
  | _=>False:=by
 unfold wp nm
 rcases e:Γ[i]? with _ | _ | r
 ·simp
 ·simp
 ·cases r<;>simp<;>exact⟨λ⟨_,_,⟨h1,h2⟩,q⟩=>by subst h1;subst h2;exact q,λq=>⟨_,_,⟨rfl,rfl⟩,q⟩⟩
@[simp ↓] theorem JC{F:D->D->Option α}{a b:M D}:wp (op2 F a b) Γ Q↔wp a Γ λx ac=>wp b ac λy ai=>wp (lft (F x y)) ai Q:=by simp[op2]
@[simp ↓] theorem RN{F:List D->Option α}{t:M (List D)}:wp (fn1 F t) Γ Q↔wp t Γ λds ac=>wp (lft (F ds)) ac Q:=by simp[fn1]
@[simp ↓] theorem R8:wp nilA Γ QL↔QL [] Γ:=by simp[nilA]
@[simp ↓] theorem QV{g:M D}{t:M (List D)}:wp (consA g t) Γ QL↔wp g Γ λd ac=>wp t ac λds ai=>QL (d::ds) ai:=by simp[consA]
@[simp ↓] theorem Rv{t:M (List D)}:wp (tupA t) Γ QD↔wp t Γ λds ac=>wp (lft (if ds.length<=lim then some (.tup ds) else none)) ac QD:=by simp[tupA]
@[simp ↓] theorem RI{t:M (List D)}:wp (lstA t) Γ QL↔wp t Γ λds ac=>wp (lft (if ds.length<=lim then some ds else none)) ac QL:=by simp[lstA]
@[simp ↓] theorem S2{t:M (List D)}:wp (frz t) Γ QD↔wp t Γ λds ac=>QD (.lst ds) ac:=by simp[frz]
@[simp ↓] theorem SO{g:M D}:wp (tst g) Γ QB↔wp g Γ λd ac=>wp (lft (asB d)) ac QB:=by simp[tst]
@[simp] theorem SS{b:Bool}:asB (.bl b)=some b:=rfl
@[simp] theorem Rm{b:Int}:asI (.int b)=some b:=rfl
@[simp ↓] theorem Sm{a b c:M D}:wp (chn F F' a b c) Γ QD↔wp a Γ λx ac=>wp b ac λy ai=>wp (lft (F x y)) ai λz aL=>wp (lft (asB z)) aL λk aN=>if k=true then wp c aN λw cx=>wp (lft (F' y w)) cx QD else QD (.bl false) aN:=by
 simp only[chn,t5]
 constructor<;>(intro h;refine h.mono λx ac h=>h.mono λy ai h=>h.mono λz aL h=>h.mono λk aN h=>?_)<;>(cases k<;>simpa using h)
@[simp ↓] theorem QX{a b:M Bool}:wp (andT a b) Γ QB↔wp a Γ λk ac=>if k=true then wp b ac QB else QB false ac:=by
 simp only[andT,t5]
 constructor<;>(intro h;refine h.mono λk ac h=>?_)<;>(cases k<;>simpa using h)
@[simp ↓] theorem QY{a b:M Bool}:wp (orT a b) Γ QB↔wp a Γ λk ac=>if k=true then QB true ac else wp b ac QB:=by
 simp only[orT,t5]
 constructor<;>(intro h;refine h.mono λk ac h=>?_)<;>(cases k<;>simpa using h)
@[simp ↓] theorem Sv{a:M Bool}:wp (notT a) Γ QB↔wp a Γ λk ac=>QB (!k) ac:=by simp[notT]
@[simp ↓] theorem Rf{a b:M D}:wp (andV a b) Γ QD↔wp a Γ λd ac=>wp (lft (asB d)) ac λk ai=>if k=true then wp b ai QD else QD (.bl false) ai:=by
 simp only[andV,t5]
 constructor<;>(intro h;refine h.mono λd ac h=>h.mono λk ai h=>?_)<;>(cases k<;>simpa using h)
@[simp ↓] theorem Rs{a:M D}:wp (notV a) Γ QD↔wp a Γ λd ac=>wp (lft (asB d)) ac λk ai=>QD (.bl (!k)) ai:=by simp[notV]
@[simp ↓] theorem Ti{c:M Bool}{a b:M D}:wp (ifV c a b) Γ QD↔wp c Γ λk ac=>if k=true then wp a ac QD else wp b ac QD:=by
 simp only[ifV,t5]
 constructor<;>(intro h;refine h.mono λk ac h=>?_)<;>(cases k<;>simpa using h)
theorem Ds{a b:M Fl}:wp (seqS a b) Γ QS↔wp a Γ λf ac=>match f with
  | .nx=>wp b ac QS
  | .rt r=>QS (.rt r) ac
  | .bk=>QS .bk ac
  | .ct=>QS .ct ac:=by
 simp only[seqS,t5]
 constructor<;>(intro h;refine h.mono λf ac h=>?_)<;>(cases f<;>simpa using h)
@[simp ↓] theorem SJ{a:M D}:wp (dropS a) Γ QS↔wp a Γ λ_ ac=>QS .nx ac:=by simp[dropS]
@[simp ↓] theorem PR{a:M D}:wp (retS a) Γ QS↔wp a Γ λd ac=>QS (.rt (.val d)) ac:=by simp[retS]
@[simp ↓] theorem Sg{a:M (List D)}:wp (retO a) Γ QS↔wp a Γ λd ac=>QS (.rt (.own d)) ac:=by simp[retO]
@[simp ↓] theorem EN{c:M Bool}{a b:M Fl}:wp (ifS c a b) Γ QS↔wp c Γ λk ac=>if k=true then wp a ac QS else wp b ac QS:=by
 simp only[ifS,t5]
 constructor<;>(intro h;refine h.mono λk ac h=>?_)<;>(cases k<;>simpa using h)
@[simp ↓] theorem RG{q:R}:wp (putS i q) Γ QU↔i < Γ.length/\QU () (Γ.set i (some q)):=by
 unfold wp putS;constructor
 ·rintro⟨a,af,e,h⟩;obtain⟨h1,h2⟩:=tZ e;cases h2;exact⟨h1,h⟩
 ·rintro⟨h1,h2⟩;exact⟨(),_,by rw[if_pos h1],h2⟩
@[simp ↓] theorem RA{d:D}:wp (tgN i d) Γ QU↔i < Γ.length/\QU () (Γ.set i (some (.val d))):=by simp[tgN]
@[simp ↓] theorem SV:wp (tgNil []) Γ QU↔QU () Γ:=by simp[tgNil]
@[simp ↓] theorem Rw{f:D->M Unit}{t:List D->M Unit}{d:D}:wp (tgCons f t (d::ds)) Γ QU↔wp (f d) Γ λ_ ac=>wp (t ds) ac QU:=by simp[tgCons]
@[simp ↓] theorem RK{t:List D->M Unit}:wp (tgTup n t (.tup ds)) Γ QU↔ds.length=n/\wp (t ds) Γ QU:=by
 unfold tgTup;by_cases h:ds.length=n
 ·simp[h]
 ·simp only[h,if_false,false_and,iff_false];rintro⟨_,_,e,_⟩;cases e
@[simp ↓] theorem Sa{g:M D}{f:D->M Unit}:wp (asgS g f) Γ QS↔wp g Γ λd ac=>wp (f d) ac λ_ ai=>QS .nx ai:=by simp[asgS]
@[simp ↓] theorem Ar{g:M D}:wp (setV i g) Γ QS↔wp g Γ λd ac=>i < ac.length/\QS .nx (ac.set i (some (.val d))):=by simp[setV]
@[simp ↓] theorem Rb{g:M (List D)}:wp (setO i g) Γ QS↔wp g Γ λd ac=>i < ac.length/\QS .nx (ac.set i (some (.own d))):=by simp[setO]
@[simp ↓] theorem wT{m:M α}:wp (mutS i m) Γ Q↔isMut Γ i=true/\wp m Γ Q:=by
 unfold mutS wp;by_cases h:isMut Γ i=true
 ·simp[h]
 ·simp[h]
@[simp ↓] theorem Sd{F:List D->Option (List D)}:wp (wr i F) Γ QU↔match Γ[i]? with
  | some (some (.own ds))=>∃es,F ds=some es/\QU () (Γ.set i (some (.own es)))
  | some (some (.bor ds))=>∃es,F ds=some es/\QU () (Γ.set i (some (.bor es)))
  | _=>False:=by
 unfold wp wr
 rcases e:Γ[i]? with _ | _ | r
 ·simp
 ·simp
 ·cases r with
  | val d=>simp
  | fro d=>simp
  | dic d=>simp
  | own ds =>
   rcases he:F ds with _ | es
   ·simp[he]
   ·simp[he];exact⟨λ⟨_,q⟩=>q,λq=>⟨(),q⟩⟩
  | bor ds =>
   rcases he:F ds with _ | es
   ·simp[he]
   ·simp[he];exact⟨λ⟨_,q⟩=>q,λq=>⟨(),q⟩⟩
@[simp ↓] theorem Q9{g:M D}:wp (appS i g) Γ QS↔isMut Γ i=true/\wp g Γ λd ac=>wp (wr i (appF d)) ac λ_ ai=>QS .nx ai:=by simp only[appS,wT,t5,wm]
@[simp ↓] theorem SR{gi gv:M D}:wp (stS i gi gv) Γ QS↔wp gv Γ λd ac=>isMut ac i=true/\wp gi ac λn ai=>wp (lft (asI n)) ai λk aL=>wp (wr i (stF k d)) aL λ_ aN=>QS .nx aN:=by simp only[stS,wT,t5,wm]
@[simp ↓] theorem Re:wp (look i) Γ QD↔match Γ[i]? with
  | some (some (.own ds))=>QD (.lst ds) Γ
  | some (some (.bor ds))=>QD (.lst ds) Γ
  | _=>False:=by
 unfold wp look
 rcases e:Γ[i]? with _ | _ | r
 ·simp
 ·simp
 ·cases r<;>simp<;>exact⟨λ⟨_,_,⟨h1,h2⟩,q⟩=>by subst h1;subst h2;exact q,λq=>⟨_,_,⟨rfl,rfl⟩,q⟩⟩
@[simp ↓] theorem Tc{g:M D}:wp (atN i g) Γ QD↔isMut Γ i=true/\wp g Γ λn ac=>wp (look i) ac λl ai=>wp (lft (ixF l n)) ai QD:=by simp only[atN,wT,t5]
@[simp ↓] theorem Sw:wp (lenN i) Γ QD↔wp (look i) Γ λl ai=>wp (lft (lenF [l])) ai QD:=by simp only[lenN,t5]
@[simp ↓] theorem SH{g:M D}{QO:Option Int->Gm->Prop}:wp (prt g) Γ QO↔wp g Γ λd ac=>wp (lft (asI d)) ac λi ai=>QO (some i) ai:=by simp[prt]
@[simp ↓] theorem Rr{F:D->Option Int->Option Int->Option α}{g:M D}:wp (sl3 F g gl gh) Γ Q↔wp g Γ λd ac=>wp gl ac λl ai=>wp gh ai λh aL=>wp (lft (F d l h)) aL Q:=by simp[sl3]
@[simp ↓] theorem RY{g:M D}:wp (itS g) Γ QL↔wp g Γ λd ac=>wp (lft (seqI d)) ac QL:=by simp[itS]
@[simp ↓] theorem Rx:wp (forS it aE body) Γ QS↔wp it Γ λds ac=>wp (forM aE body ds) ac QS:=by simp[forS]
@[simp ↓] theorem RT{g:List R->Option (R×List R)}{t:M (List D)}{QR:R->Gm->Prop}:wp (callB i g t) Γ QR↔isMut Γ i=true/\wp t Γ λds ac=>match ac[i]? with
  | some (some (.own c))=>wpB g c ds λr c'=>QR r (ac.set i (some (.own c')))
  | some (some (.bor c))=>wpB g c ds λr c'=>QR r (ac.set i (some (.bor c')))
  | _=>False:=by
 simp only[callB,wT,t5];refine and_congr_right λ_=>?_
 have bP:∀(ds:List D) (ac:Gm),wp (λΓ:Gm=>match Γ[i]? with
   | some (some (.own c))=>match bcF g c ds with
    | some (r,c')=>some (r,Γ.set i (some (.own c')))
    | none=>none
   | some (some (.bor c))=>match bcF g c ds with
    | some (r,c')=>some (r,Γ.set i (some (.bor c')))
    | none=>none
   | _=>none) ac QR↔(match ac[i]? with
  | some (some (.own c))=>wpB g c ds λr c'=>QR r (ac.set i (some (.own c')))
  | some (some (.bor c))=>wpB g c ds λr c'=>QR r (ac.set i (some (.bor c')))
  | _=>False):=by
  intro ds ac;unfold wp wpB;dsimp only
  rcases e:ac[i]? with _ | _ | r
  ·simp
  ·simp
  ·cases r with
   | val d=>simp
   | fro d=>simp
   | dic d=>simp
   | own c =>
    rcases he:bcF g c ds with _ | ⟨r,c'⟩
    ·simp[he]
    ·simp only[he];constructor
     ·rintro⟨a,b,h,q⟩;cases h;exact⟨_,_,rfl,q⟩
     ·rintro⟨a,b,h,q⟩;cases h;exact⟨_,_,rfl,q⟩
   | bor c =>
    rcases he:bcF g c ds with _ | ⟨r,c'⟩
    ·simp[he]
    ·simp only[he];constructor
     ·rintro⟨a,b,h,q⟩;cases h;exact⟨_,_,rfl,q⟩
     ·rintro⟨a,b,h,q⟩;cases h;exact⟨_,_,rfl,q⟩
 constructor
 ·intro h;exact h.mono λds ac h=>(bP ds ac).mp h
 ·intro h;exact h.mono λds ac h=>(bP ds ac).mpr h
@[simp ↓] theorem Ru{g:List R->Option (R×List R)}{t:M (List D)}:wp (cbV i g t) Γ QD↔wp (callB i g t) Γ λr ac=>wp (lft (asV r)) ac QD:=by simp only[cbV,t5]
@[simp] theorem Rk{d:D}:asV (.val d)=some d:=rfl
@[simp] theorem So{d:List D}:asO (.own d)=some d:=rfl
theorem Es(J:Nat->Gm->Prop)(h0:J 0 Γ)(hs:∀(i:Nat) (d:D) (Γ:Gm),ds[i]?=some d->J i Γ->wp (aE d) Γ λ_ ac=>wp body ac λf ai=>match f with
   | .nx=>J (i+1) ai
   | .ct=>J (i+1) ai
   | .bk=>QS .nx ai
   | .rt r=>QS (.rt r) ai)(hd:∀Γ,J ds.length Γ->QS .nx Γ):wp (forM aE body ds) Γ QS:=by
 have bP:∀(n:Nat) (es:List D) (Γ:Gm) (i:Nat),es.length=n->ds.drop i=es->i<=ds.length->J i Γ->wp (forM aE body es) Γ QS:=by
  intro n
  induction n with
  | zero =>
   intro es Γ i hl he hi hj;have:es=[]:=TB.mp hl;subst this
   have cG:i=ds.length:=by
    have:=congrArg length he;rw[Vi] at this;simp at this;omega
   subst cG;exact⟨_,_,rfl,hd Γ hj⟩
  | succ n ih =>
   intro es Γ i hl he hi hj;cases es with
   | nil=>simp at hl
   | cons d es =>
    have bD:i < ds.length:=by
     have:=congrArg length he;rw[Vi,S_] at this;omega
    have cr:ds.drop i=ds[i]::ds.drop (i+1):=Tx bD;rw[cr] at he;injection he with e1 e2
    have cP:ds[i]?=some d:=by rw[n_ bD,e1]
    have step:=hs i d Γ cP hj;rw[forM,t5];refine step.mono λ_ ac h1=>?_
    rw[t5];refine h1.mono λf ai h2=>?_
    cases f with
    | nx=>exact ih es ai (i+1) (by simpa using hl) e2 bD h2
    | ct=>exact ih es ai (i+1) (by simpa using hl) e2 bD h2
    | bk=>exact⟨_,_,rfl,h2⟩
    | rt r=>exact⟨_,_,rfl,h2⟩
 exact bP ds.length ds Γ 0 rfl rfl (Tz _) h0
theorem FN{rs:List R}{QR:R->List R->Prop}(hl:rs.length=ar)(h:wp body (rs.map some++P_ (n - rs.length) none) λf af=>∃r,flR f=some r/\∃l,fin rs af=some l/\QR r l):wpF (fnD n ar body) rs QR:=by
 obtain⟨f,af,e,r,e1,l,e2,q⟩:=h;refine⟨r,l,?_,q⟩;unfold fnD;rw[if_pos hl];unfold fnD1;rw[e];simp only[e1,e2]
theorem Kx{g:List R->Option (R×List R)}{d:D}(h:wpF g (ds.map .val) λr _=>r=.val d):cvF g ds=some d:=by
 obtain⟨r,aQ,e,rfl⟩:=h;unfold cvF;rw[e]
theorem KY{g:List R->Option (R×List R)}{P:List D->Prop}(h:wpF g (ds.map .val) λr _=>∃d,r=.own d/\P d):∃d,coF g ds=some d/\P d:=by
 obtain⟨r,aQ,e,d,rfl,hp⟩:=h;exact⟨d,by unfold coF;rw[e],hp⟩
theorem Ll{g:List R->Option (R×List R)}{c:List D}{QR:R->List D->Prop}(h:wpF g (.bor c::ds.map .val) λr aQ=>∃c' t,aQ=.bor c'::t/\QR r c'):wpB g c ds QR:=by
 obtain⟨r,aQ,e,c',t,rfl,q⟩:=h;exact⟨r,c',by unfold bcF;rw[e],q⟩
end
end DL
namespace DL
open PySem L2
section
variable{α:Type}{Q:α->Gm->Prop}{QD:D->Gm->Prop}{QL:List D->Gm->Prop}{i j:Int}
@[simp ↓] theorem vz{c:Prop}[Decidable c]{a:α}:wp (lft (if c then some a else none)) Γ Q↔c/\Q a Γ:=by
 by_cases h:c
 ·simp[h]
 ·simp only[h,if_false,false_and,iff_false];rintro⟨_,_,e,_⟩;cases e
@[simp ↓] theorem QW:wp (lft (none:Option α)) Γ Q↔False:=by
 simp only[iff_false];rintro⟨_,_,e,_⟩;cases e
@[simp ↓] theorem SF:wp (λ_=>(none:Option (α×Gm))) Γ Q↔False:=by
 simp only[iff_false];rintro⟨_,_,e,_⟩;cases e
@[simp] theorem RS:subI (.int i) (.int j)=some (.int (i - j)):=rfl
@[simp] theorem Rh:addF (.int i) (.int j)=some (.int (i+j)):=rfl
@[simp] theorem f_lt:ltI (.int i) (.int j)=some (.bl (decide (i < j))):=rfl
@[simp] theorem f_le:leI (.int i) (.int j)=some (.bl (decide (i<=j))):=rfl
@[simp] theorem f_gt:gtI (.int i) (.int j)=some (.bl (decide (j < i))):=rfl
@[simp] theorem f_ge:geI (.int i) (.int j)=some (.bl (decide (j<=i))):=rfl
@[simp ↓] theorem Q1:wp (lft (modI (.int i) (.int j))) Γ QD↔0 < j/\QD (.int (i % j)) Γ:=by simp[modI,intF]
@[simp ↓] theorem SL:wp (lft (divI (.int i) (.int j))) Γ QD↔(0 < j/\j < 2 ^ 200)/\QD (.int (i / j)) Γ:=by simp only[divI,intF,decide_eq_true_eq,vz]
@[simp ↓] theorem RU:wp (lft (mulI (.int i) (.int j))) Γ QD↔((-(2 ^ 64) < i/\i < 2 ^ 64)\/(-(2 ^ 64) < j/\j < 2 ^ 64))/\QD (.int (i*j)) Γ:=by simp only[mulI,intF,decide_eq_true_eq,vz]
@[simp ↓] theorem Q8:wp (lft (powI (.int i) (.int j))) Γ QD↔(0<=j/\j<=1000000/\i.natAbs < 2 ^ 64)/\QD (.int (i ^ j.toNat)) Γ:=by simp only[powI,intF,decide_eq_true_eq,vz]
@[simp] theorem Si:ixF (.lst ds) (.int i)=atI ds i:=rfl
@[simp] theorem SW:ixF (.tup ds) (.int i)=atI ds i:=rfl
theorem vD{α:Type}{ds:List α}:atI ds (n:Int)=ds[n]?:=by
 unfold atI ixN;rw[if_pos (by omega)];by_cases h:(n:Int) < ds.length
 ·rw[if_pos h];simp
 ·rw[if_neg h];have:ds.length<=n:=by omega
  simp[Uw this]
@[simp] theorem Rq{α:Type}{a:α}{ds:List α}:atI (a::ds) 0=some a:=by
 rw[show(0:Int)=((0:Nat):Int) from rfl,vD];rfl
@[simp] theorem Td{α:Type}{a b:α}{ds:List α}:atI (a::b::ds) 1=some b:=by
 rw[show(1:Int)=((1:Nat):Int) from rfl,vD];rfl
@[simp] theorem RJ{α:Type}{a b c:α}{ds:List α}:atI (a::b::c::ds) 2=some c:=by
 rw[show(2:Int)=((2:Nat):Int) from rfl,vD];rfl
theorem Fn{α:Type}{ds:List α}{i:Int}(h0:0<=i)(h1:i < ds.length):∃a,atI ds i=some a/\a∈ds:=by
 obtain⟨n,rfl⟩:=UH h0;have h:n < ds.length:=by omega
 exact⟨ds[n],by rw[vD,n_ h],Ua h⟩
@[simp] theorem RQ{a b d:D}:stF 1 d (a::b::ds)=some (a::d::ds):=by
 unfold stF ixN;rw[if_pos (by omega),if_pos (by simp;omega)];rfl
@[simp] theorem Q0{a b c d:D}:stF 2 d (a::b::c::ds)=some (a::b::d::ds):=by
 unfold stF ixN;rw[if_pos (by omega),if_pos (by simp;omega)];rfl
@[simp] theorem QT:lenF [.lst ds]=some (.int ds.length):=rfl
@[simp] theorem Rc:lenF [.tup ds]=some (.int ds.length):=rfl
@[simp] theorem SA:tupF [.lst ds]=some (.tup ds):=rfl
@[simp] theorem SE:tupF [.tup ds]=some (.tup ds):=rfl
@[simp] theorem Rz:lstF [.lst ds]=some ds:=rfl
@[simp] theorem RW:lstF [.tup ds]=some ds:=rfl
@[simp] theorem RP:seqI (.lst ds)=some ds:=rfl
@[simp] theorem Sk:seqI (.tup ds)=some ds:=rfl
@[simp] theorem Su{b:Bool}:reprF [.bl b]=some (.str (if b then "True" else "False")):=rfl
@[simp] theorem Sz{lo:Option Int}:slF (.lst ds) lo hi=some (.lst (cutD ds lo hi)):=rfl
@[simp] theorem Ra{xs:List D}:zipI [.lst xs,.lst ys]=some (pairsD xs ys):=rfl
@[simp] theorem Tf{xs:List D}:zipI [.tup xs,.tup ys]=some (pairsD xs ys):=rfl
@[simp] theorem Tk{xs:List D}:enumI [.lst xs]=some (numD 0 xs):=rfl
@[simp] theorem Sc{xs:List D}:enumI [.tup xs]=some (numD 0 xs):=rfl
@[simp ↓] theorem Tj:wp (lft (rngI1 [.int j])) Γ QL↔(-1000000<=j/\j<=1000000)/\QL (rngD 0 j.toNat) Γ:=by simp only[rngI1,vz]
@[simp ↓] theorem Sj:wp (lft (rngI2 [.int i,.int j])) Γ QL↔((-1000000<=i/\i<=1000000)/\-1000000<=j/\j<=1000000)/\QL (rngD i (j - i).toNat) Γ:=by simp only[rngI2,vz]
@[simp ↓] theorem Ss{a b:D}:wp (lft (eqF neg a b)) Γ QD↔(dep a<=100/\dep b<=100)/\QD (.bl (if neg then !deq a b else deq a b)) Γ:=by simp only[eqF,vz]
@[simp ↓] theorem RH{xs:List D}:wp (lft (catF (.lst xs) (.lst ys))) Γ QL↔xs.length+ys.length<=lim/\QL (xs++ys) Γ:=by simp only[catF,vz]
@[simp] theorem RR{Γ:Gm}(h:Γ[k]?=some (some (.own ds))):isMut Γ k=true:=by unfold isMut;rw[h];rfl
@[simp] theorem RC{a:Int}:dep (.int a)=0:=by simp[dep]
@[simp] theorem Ry{a:Str}:dep (.str a)=0:=by simp[dep]
@[simp] theorem Rp:dep (.lst [])=1:=by simp[dep,depA]
@[simp] theorem RM{a b:Str}:deq (.str a) (.str b)=(a == b):=by simp[deq]
@[simp] theorem ub{a b:Int}:deq (.int a) (.int b)=(a == b):=by simp[deq]
@[simp] theorem R4:deq (.lst ds) (.lst [])=ds.isEmpty:=by cases ds<;>simp[deq,deqA]
@[simp] theorem R9{a b:Bool}:deq (.str (if a then "True" else "False")) (.str (if b then "True" else "False"))=(a == b):=by cases a<;>cases b<;>decide
@[simp] theorem Jj:lim=1000000:=rfl
theorem Cj{d:Nat}:HT.sIx n d (some (k:Int))=min k n:=by
 show(if(k:Int) < 0 then((k:Int)+(n:Int)).toNat else min (k:Int).toNat n)=min k n;rw[if_neg (by omega),VN]
theorem K7:cutD ds none (some (n:Int))=ds.take n:=by
 unfold cutD;rw[Cj,HT.Du];simp
theorem Of:cutD ds (some (n:Int)) none=ds.drop n:=by
 unfold cutD;rw[Cj,HT.Du,Xh (by simp)];by_cases h:n<=ds.length
 ·rw[Nat.min_eq_left h]
 ·rw[Nat.min_eq_right (by omega),UW (r_ _),UW (by omega)]
@[simp] theorem SY{d:D}{P:List D->Prop}:(∃es,appF d ds=some es/\P es)↔ds.length < 1000000/\P (ds++[d]):=by
 unfold appF;rw[Jj];by_cases h:ds.length < 1000000<;>simp[h]
theorem oI{a b:M Fl}{QS:Fl->Gm->Prop}(h:∀K:Fl->Gm->Prop,(∀ac,wp b ac QS->K .nx ac)->(∀r ac,QS (.rt r) ac->K (.rt r) ac)->wp a Γ K):wp (seqS a b) Γ QS:=by
 rw[Ds];exact h _ (λ_ h=>h) (λ_ _ h=>h)
theorem Bq{a b:M Fl}{QS:Fl->Gm->Prop}(P:Gm->Prop)(h:∀K:Fl->Gm->Prop,(∀ac,P ac->K .nx ac)->(∀r ac,QS (.rt r) ac->K (.rt r) ac)->wp a Γ K)(h2:∀ac,P ac->wp b ac QS):wp (seqS a b) Γ QS:=by
 rw[Ds];exact h _ (λ_ p=>h2 _ p) (λ_ _ h=>h)
theorem uR{QS:Fl->Gm->Prop}(J:Nat->Gm->Prop)(h0:J 0 Γ)(hs:∀(i:Nat) (d:D) (Γ:Gm),ds[i]?=some d->J i Γ->∀K:Fl->Gm->Prop,(∀ai,J (i+1) ai->K .nx ai)->(∀ai,J (i+1) ai->K .ct ai)->(∀ai,QS .nx ai->K .bk ai)->(∀r ai,QS (.rt r) ai->K (.rt r) ai)->wp (aE d) Γ λ_ ac=>wp body ac K)(hd:∀Γ,J ds.length Γ->QS .nx Γ):wp (forM aE body ds) Γ QS:=
 Es J h0 (λi d Γ h j=>hs i d Γ h j _ (λ_ h=>h) (λ_ h=>h) (λ_ h=>h) (λ_ _ h=>h)) hd
theorem vM{rs:List R}{QR:R->List R->Prop}(hl:rs.length=ar)(h:∀K:Fl->Gm->Prop,(∀r af,(∃l,fin rs af=some l/\QR r l)->K (.rt r) af)->(∀af,(∃l,fin rs af=some l/\QR (.val .non) l)->K .nx af)->wp body (rs.map some++P_ (n - rs.length) none) K):wpF (fnD n ar body) rs QR:=
 FN hl (h _ (λr _ h=>⟨r,rfl,h⟩) (λ_ h=>⟨_,rfl,h⟩))
theorem vE{c:List D}{QR:R->List D->Prop}(hl:ds.length+1=ar)(h:∀K:Fl->Gm->Prop,(∀r c' af,(∃t,fin (ds.map .val) af=some t)->QR r c'->K (.rt r) (some (.bor c')::af))->(∀c' af,(∃t,fin (ds.map .val) af=some t)->QR (.val .non) c'->K .nx (some (.bor c')::af))->wp body ((.bor c::ds.map .val).map some++P_ (n - (ds.length+1)) none) K):wpB (fnD n ar body) c ds QR:=by
 refine Ll (vM (by simpa using hl) λK k1 k2=>?_);refine(by simpa using h K (λr c' af ⟨t,e⟩ q=>k1 r _ ⟨_,by simp[fin,e],c',t,rfl,q⟩) (λc' af ⟨t,e⟩ q=>k2 _ ⟨_,by simp[fin,e],c',t,rfl,q⟩))
theorem DP{α:Type}(xs:List α)(f:α->D)(p:α->Bool)(v:α->D)(h:wp it Γ λds ac=>ds=xs.map f/\xs.length<=1000000/\(∀x∈xs,∀cs:Gm,cs.length=m->wp (aE (f x)) (cs++ac) λ_ ai=>wp ts ai λb aL=>b=p x/\(if b=true then wp el aL λy aN=>y=v x/\∃cw,cw.length=m/\aN=cw++ac else ∃cw,cw.length=m/\aL=cw++ac)) ∧
   QL ((xs.filter p).map v) ac):wp (compO m it aE ts el) Γ QL:=by
 unfold compO;rw[t5];refine h.mono λds ac ⟨fX,hl,hp,hq⟩=>?_
 subst fX;rw[if_pos (by simpa using hl)]
 have bP:∀(es:List α) (cs:Gm),(∀d∈es,d∈xs)->cs.length=m->∃cw,cw.length=m/\compM aE ts el (es.map f) (cs++ac)=some ((es.filter p).map v,cw++ac):=by
  intro es
  induction es with
  | nil=>intro cs _ hc;exact⟨cs,hc,rfl⟩
  | cons d es ih =>
   intro cs hm hc;obtain⟨u,ai,e1,b,aL,e2,hb,h3⟩:=hp d (hm d m_) cs hc;have gr:∀d∈es,d∈xs:=λd hd=>hm d (i_ _ hd)
   cases b with
   | false =>
    rw[if_neg h_] at h3;obtain⟨cw,bW,rfl⟩:=h3;obtain⟨lv,cT,e3⟩:=ih cw gr bW;refine⟨lv,cT,?_⟩;rw[O_,compM];unfold bnd;simp only[e1,e2,VR,if_false];rw[e3,W6,←hb];simp
   | true =>
    rw[if_pos rfl] at h3;obtain⟨x,aN,e4,rfl,cw,bW,rfl⟩:=h3;obtain⟨lv,cT,e3⟩:=ih cw gr bW;refine⟨lv,cT,?_⟩;rw[O_,compM];unfold bnd;simp only[e1,e2,if_true,e4];rw[e3,W6,←hb];rfl
 obtain⟨cw,bW,e⟩:=bP xs (P_ m none) (λ_ h=>h) (by simp);refine⟨_,_,?_,hq⟩;unfold inC;rw[e];simp[bW,List.drop_append]
theorem ux{α:Type}(xs:List α)(f:α->D)(p:α->Bool)(v:α->D)(h:wp it Γ λds ac=>ds=xs.map f/\xs.length<=1000000/\(∀x∈xs,∀a,wp (aE (f x)) (a::ac) λ_ ai=>wp ts ai λb aL=>b=p x/\(if b=true then wp el aL λy aN=>y=v x/\∃a',aN=a'::ac else ∃a',aL=a'::ac)) ∧
   QL ((xs.filter p).map v) ac):wp (compO 1 it aE ts el) Γ QL:=by
 refine DP xs f p v (h.mono λds ac ⟨h1,h2,h3,h4⟩=>⟨h1,h2,λx hx cs hc=>?_,h4⟩);obtain⟨a,rfl⟩:=List.length_eq_one_iff.mp hc;refine(h3 x hx a).mono λ_ ai h=>h.mono λb aL ⟨h5,h6⟩=>⟨h5,?_⟩
 cases b with
 | true=>simp only[if_true] at h6 ⊢;exact h6.mono λy aN ⟨h7,a',h8⟩=>⟨h7,[a'],rfl,h8⟩
 | false=>simp only[VR,if_false] at h6 ⊢;obtain⟨a',h8⟩:=h6;exact⟨[a'],rfl,h8⟩
theorem wJ{α:Type}(xs:List α)(f:α->D)(p:α->Bool)(v:α->D)(h:wp it Γ λds ac=>ds=xs.map f/\xs.length<=1000000/\(∀x∈xs,∀a b,wp (aE (f x)) (a::b::ac) λ_ ai=>wp ts ai λb aL=>b=p x/\(if b=true then wp el aL λy aN=>y=v x/\∃a' b',aN=a'::b'::ac else ∃a' b',aL=a'::b'::ac)) ∧
   QL ((xs.filter p).map v) ac):wp (compO 2 it aE ts el) Γ QL:=by
 refine DP xs f p v (h.mono λds ac ⟨h1,h2,h3,h4⟩=>⟨h1,h2,λx hx cs hc=>?_,h4⟩)
 obtain⟨a,b,rfl⟩:∃a b,cs=[a,b]:=by
  match cs,hc with
  | [a,b],_=>exact⟨a,b,rfl⟩
 refine(h3 x hx a b).mono λ_ ai h=>h.mono λb aL ⟨h5,h6⟩=>⟨h5,?_⟩
 cases b with
 | true=>simp only[if_true] at h6 ⊢;exact h6.mono λy aN ⟨h7,a',b',h8⟩=>⟨h7,[a',b'],rfl,h8⟩
 | false=>simp only[VR,if_false] at h6 ⊢;obtain⟨a',b',h8⟩:=h6;exact⟨[a',b'],rfl,h8⟩
theorem tY{d:D}(hl:ds.length=ar)(h:∀K:Fl->Gm->Prop,(∀af,(∃l,fin (ds.map .val) af=some l)->K (.rt (.val d)) af)->(∀af,d=.non->(∃l,fin (ds.map .val) af=some l)->K .nx af)->wp body ((ds.map .val).map some++P_ (n - ds.length) none) K):cvF (fnD n ar body) ds=some d:=by
 refine Kx (vM (by simpa using hl) λK k1 k2=>?_);have:=h K (λaf ⟨l,e⟩=>k1 _ _ ⟨l,e,rfl⟩) (λaf hd ⟨l,e⟩=>k2 _ ⟨l,e,by rw[hd]⟩);simpa using this
theorem Ff{α:Type}{f:α->Bool}{xs:List α}:blsD (xs.map λx=>.bl (f x))=some (xs.map f):=by
 induction xs with
 | nil=>rfl
 | cons x xs ih=>simp only[O_,blsD,ih]
theorem vX{α:Type}{f:α->Bool}{xs:List α}:allF [.lst (xs.map λx=>.bl (f x))]=some (.bl (xs.all f)):=by
 unfold allF;simp only[Ff];simp[comp_def]
theorem MO{α:Type}{f:α->Bool}{xs:List α}:anyF [.lst (xs.map λx=>.bl (f x))]=some (.bl (xs.any f)):=by
 unfold anyF;simp only[Ff];simp[comp_def]
end
section
variable{α:Type}{Q:α->Gm->Prop}{QD:D->Gm->Prop}{QL:List D->Gm->Prop}{i j:Int}
theorem E8{xs:List D}(h:SortOk xs):sortF [.lst xs]=some (sortD xs):=by
 unfold sortF;exact if_pos h
end
end DL
namespace DL
theorem zE{α:Type}:∀(l m:List α),l.Nodup->(∀x∈l,x∈m)->l.length<=m.length
 | [],m,_,_=>Tz _
 | x::l,m,nd,h=>by
  obtain⟨a,b,rfl⟩:=Wt (h x m_);rw[Ue] at nd
  have:=zE l (a++b) nd.2 (λy hy=>by
   have:=h y (i_ _ hy)
   rcases I_.mp this with z | z
   ·exact(T6 _ z)
   ·rcases w_.mp z with z | z
    ·subst z;exact absurd hy nd.1
    ·exact(L_ _ z))
  simp at this ⊢;omega
theorem Pg{os:List D}(hl:ds.length=ar)(h:∀K:Fl->Gm->Prop,(∀af,(∃l,fin (ds.map .val) af=some l)->K (.rt (.own os)) af)->wp body ((ds.map .val).map some++P_ (n - ds.length) none) K):coF (fnD n ar body) ds=some os:=by
 have w:wpF (fnD n ar body) (ds.map .val) λr _=>r=.own os:=vM (by simpa using hl) λK k1 _=>by
  have:=h K (λaf ⟨l,e⟩=>k1 _ _ ⟨l,e,rfl⟩);simpa using this
 obtain⟨r,aQ,e,rfl⟩:=w;unfold coF;rw[e]
section
variable{QS:Fl->Gm->Prop}{QL:List D->Gm->Prop}
theorem IE{c:M Bool}{b:M Fl}(J:Nat->Gm->Prop)(hs:∀(m:Nat) (Γ:Gm),J m Γ->wp c Γ λk ac=>if k=true then ∃m',m=m'+1/\∀K:Fl->Gm->Prop,(∀ai,J m' ai->K .nx ai)->(∀ai,J m' ai->K .ct ai)->(∀ai,QS .nx ai->K .bk ai)->(∀r ai,QS (.rt r) ai->K (.rt r) ai)->wp b ac K else QS .nx ac):
  ∀(n m:Nat) (Γ:Gm),m < n->J m Γ->wp (whlS n c b) Γ QS:=by
 intro n
 induction n with
 | zero=>intro m Γ h;omega
 | succ n ih =>
  intro m Γ h j;rw[whlS,t5];refine(hs m Γ j).mono λk ac q=>?_
  cases k with
  | false=>rw[if_neg h_] at q ⊢;rw[wm];exact q
  | true =>
   rw[if_pos rfl] at q ⊢;obtain⟨m',rfl,q⟩:=q;rw[t5];refine q _ (λai j2=>?_) (λai j2=>?_) (λai z=>?_) λr ai z=>?_
   ·exact ih m' ai (by omega) j2
   ·exact ih m' ai (by omega) j2
   ·exact(wm).mpr z
   ·exact(wm).mpr z
end
end DL
namespace Own
open PySem PySem.Spec PyProof.Rows L2 DL
noncomputable def GK:M Fl:=
 (retS (andV (un1 (isiF .iT) (nm 0)) (notV (un1 (isiF .bT) (nm 0)))))
noncomputable def uZ:List R->Option (R×List R):=fnD 1 1 GK
noncomputable def Bx:M Fl:=
 (retS (andV (fn1 (cvF uZ) (consA (nm 0) nilA)) (chn leI leI (ret (.int 0)) (nm 0) (ret (.int 9)))))
noncomputable def we:List R->Option (R×List R):=fnD 1 1 Bx
noncomputable def BH:M Fl:=
 (seqS (ifS (orT (notT (tst (un1 (isiF .tT) (nm 0)))) (tst (op2 (eqF true) (fn1 lenF (consA (nm 0) nilA)) (ret (.int 2)))))
  (retS (ret (.bl false))) (ret .nx))
  (retS (andV (fn1 (cvF we) (consA (op2 ixF (nm 0) (ret (.int 0))) nilA)) (andV (fn1 (cvF we) (consA (op2 ixF (nm 0) (ret (.int 1))) nilA)) (op2 leI (op2 ixF (nm 0) (ret (.int 0))) (op2 ixF (nm 0) (ret (.int 1))))))))
noncomputable def zK:List R->Option (R×List R):=fnD 1 1 BH
noncomputable def CI:M Fl:=
 (retS (andV (un1 (isiF .tT) (nm 0)) (chn leI leI (ret (.int 1)) (fn1 lenF (consA (nm 0) nilA)) (ret (.int 3)))))
noncomputable def wM:List R->Option (R×List R):=fnD 1 1 CI
noncomputable def Cg:M Fl:=
 (retS (andV (fn1 (cvF wM) (consA (nm 0) nilA)) (fn1 allF (consA (frz (compO 1 (itS (nm 0)) (tgN 0) (ret true) (fn1 (cvF we) (consA (nm 0) nilA)))) nilA))))
noncomputable def wz:List R->Option (R×List R):=fnD 1 1 Cg
noncomputable def zV:M Fl:=
 (retS (andV (fn1 (cvF wM) (consA (nm 0) nilA)) (fn1 allF (consA (frz (compO 1 (itS (nm 0)) (tgN 0) (ret true) (fn1 (cvF zK) (consA (nm 0) nilA)))) nilA))))
noncomputable def wa:List R->Option (R×List R):=fnD 1 1 zV
noncomputable def xK:M Fl:=
 (seqS (ifS (orT (notT (tst (un1 (isiF .tT) (nm 1)))) (tst (op2 (eqF true) (fn1 lenF (consA (nm 1) nilA)) (ret (.int 2)))))
  (retS (ret (.bl false))) (ret .nx))
  (retS (andV (fn1 (cvF uZ) (consA (op2 ixF (nm 1) (ret (.int 0))) nilA)) (andV (fn1 (cvF uZ) (consA (op2 ixF (nm 1) (ret (.int 1))) nilA)) (chn3 leI ltI ltI (ret (.int 0)) (op2 ixF (nm 1) (ret (.int 0))) (op2 ixF (nm 1) (ret (.int 1))) (nm 0))))))
noncomputable def xf:List R->Option (R×List R):=fnD 2 2 xK
noncomputable def Bs:M Fl:=
 (ifS (notT (tst (chn leI ltI (ret (.int 0)) (nm 1) (op2 ixF (nm 0) (ret (.int 0))))))
  (λ_=>none) (ret .nx))
noncomputable def wj:List R->Option (R×List R):=fnD 2 2 Bs
noncomputable def zY:M Fl:=
 (seqS (dropS (fn1 (cvF wj) (consA (nm 0) (consA (nm 1) nilA))))
  (retO (fn1 sortF (consA (frz (compO 1 (itS (op2 ixF (nm 0) (ret (.int 1)))) (tgN 0) (tst (op2 (inF false) (nm 2) (nm 0))) (ifV (tst (op2 (eqF false) (op2 ixF (nm 0) (ret (.int 0))) (nm 2))) (op2 ixF (nm 0) (ret (.int 1))) (op2 ixF (nm 0) (ret (.int 0)))))) nilA))))
noncomputable def yy:List R->Option (R×List R):=fnD 2 2 zY
noncomputable def zp(g:List R->Option (R×List R)):M Fl:=
 (seqS (ifS (tst (op2 (eqF false) (nm 2) (nm 3)))
  (retO (lstA (consA (nm 2) nilA))) (ret .nx))
  (seqS (forS (itS (frz (fn1 (coF yy) (consA (nm 0) (consA (nm 2) nilA))))) (tgN 4)
  (ifS (tst (op2 (eqF true) (nm 4) (nm 1)))
  (seqS (setV 5 (altM (frz (fn1 (coF g) (consA (nm 0) (consA (nm 2) (consA (nm 4) (consA (nm 3) nilA)))))) (fn1 (cvF g) (consA (nm 0) (consA (nm 2) (consA (nm 4) (consA (nm 3) nilA)))))))
  (ifS (tst (op2 (isNF true) (nm 5) (ret .non)))
  (retO (op2 catF (frz (lstA (consA (nm 2) nilA))) (nm 5))) (ret .nx))) (ret .nx)))
  (retS (ret .non))))
noncomputable def vC:Nat->List R->Option (R×List R)
 | 0=>λ_=>none
 | k+1=>fnD 6 4 (zp (vC k))
noncomputable def BU:M Fl:=
 (seqS (dropS (fn1 (cvF wj) (consA (nm 0) (consA (nm 1) nilA))))
  (seqS (dropS (fn1 (cvF wj) (consA (nm 0) (consA (nm 2) nilA))))
  (altM (retO (fn1 (coF (vC 21)) (consA (nm 0) (consA (ret .non) (consA (nm 1) (consA (nm 2) nilA)))))) (retS (fn1 (cvF (vC 21)) (consA (nm 0) (consA (ret .non) (consA (nm 1) (consA (nm 2) nilA)))))))))
noncomputable def vI:List R->Option (R×List R):=fnD 3 3 BU
noncomputable def Cm:M Fl:=
 (seqS (forS (fn1 enumI (consA (nm 1) nilA)) (tgTup 2 (tgCons (tgN 2) (tgCons (tgN 3) tgNil)))
  (ifS (tst (op2 (isNF true) (altM (frz (fn1 (coF vI) (consA (tupA (consA (nm 0) (consA (sl3 slF (nm 1) (ret none) (prt (nm 2))) nilA))) (consA (op2 ixF (nm 3) (ret (.int 0))) (consA (op2 ixF (nm 3) (ret (.int 1))) nilA))))) (fn1 (cvF vI) (consA (tupA (consA (nm 0) (consA (sl3 slF (nm 1) (ret none) (prt (nm 2))) nilA))) (consA (op2 ixF (nm 3) (ret (.int 0))) (consA (op2 ixF (nm 3) (ret (.int 1))) nilA))))) (ret .non)))
  (retS (ret (.bl true))) (ret .nx)))
  (retS (ret (.bl false))))
noncomputable def yq:List R->Option (R×List R):=fnD 4 2 Cm
noncomputable def zw:M Fl:=
 (seqS (ifS (orT (notT (tst (un1 (isiF .tT) (nm 0)))) (tst (op2 (eqF true) (fn1 lenF (consA (nm 0) nilA)) (ret (.int 2)))))
  (retS (ret (.bl false))) (ret .nx))
  (seqS (setV 1 (op2 ixF (nm 0) (ret (.int 0))))
  (seqS (setV 2 (op2 ixF (nm 0) (ret (.int 1))))
  (seqS (ifS (orT (notT (tst (fn1 (cvF uZ) (consA (nm 1) nilA)))) (orT (notT (tst (chn leI leI (ret (.int 1)) (nm 1) (ret (.int 8))))) (notT (tst (un1 (isiF .tT) (nm 2))))))
  (retS (ret (.bl false))) (ret .nx))
  (seqS (ifS (notT (tst (fn1 allF (consA (frz (compO 1 (itS (nm 2)) (tgN 0) (ret true) (fn1 (cvF xf) (consA (nm 2) (consA (nm 0) nilA))))) nilA))))
  (retS (ret (.bl false))) (ret .nx))
  (retS (andV (op2 (eqF false) (frz (fn1 lstF (consA (nm 2) nilA))) (frz (fn1 setTF (consA (nm 2) nilA)))) (notV (fn1 (cvF yq) (consA (nm 1) (consA (nm 2) nilA)))))))))))
noncomputable def vK:List R->Option (R×List R):=fnD 3 1 zw
noncomputable def Gd:M Fl:=
 (seqS (ifS (orT (notT (tst (chn leI leI (ret (.int 1)) (fn1 lenSF (consA (nm 0) nilA)) (ret (.int 4))))) (tst (fn1 anyF (consA (frz (compO 1 (itT (nm 0)) (tgN 0) (ret true) (op2 ninSF (nm 0) (ret (.str "0123456789"))))) nilA))))
  (λ_=>none) (ret .nx))
  (seqS (ifS (andT (tst (op2 (eqF false) (op2 ixSF (nm 0) (ret (.int 0))) (ret (.str "0")))) (tst (op2 (eqF true) (nm 0) (ret (.str "0")))))
  (λ_=>none) (ret .nx))
  (retS (fn1 intTF (consA (nm 0) nilA)))))
noncomputable def uC:List R->Option (R×List R):=fnD 1 1 Gd
noncomputable def Dx:M Nat:=
 (orX (ifX (orT (notT (tst (chn leI leI (ret (.int 1)) (fn1 lenSF (consA (nm 0) nilA)) (ret (.int 4))))) (tst (fn1 anyF (consA (frz (compO 1 (itT (nm 0)) (tgN 0) (ret true) (op2 ninSF (nm 0) (ret (.str "0123456789"))))) nilA))))
  (raX 7 (consA (ret (.str "it is no number of few figures")) nilA)) nvX) (thenX (ifS (orT (notT (tst (chn leI leI (ret (.int 1)) (fn1 lenSF (consA (nm 0) nilA)) (ret (.int 4))))) (tst (fn1 anyF (consA (frz (compO 1 (itT (nm 0)) (tgN 0) (ret true) (op2 ninSF (nm 0) (ret (.str "0123456789"))))) nilA))))
  (λ_=>none) (ret .nx))
  (ifX (andT (tst (op2 (eqF false) (op2 ixSF (nm 0) (ret (.int 0))) (ret (.str "0")))) (tst (op2 (eqF true) (nm 0) (ret (.str "0")))))
  (raX 7 (consA (ret (.str "a 0 stands ahead")) nilA)) nvX)))
noncomputable def vn:List D->Option Nat:=fnE 1 1 Dx
noncomputable def AK:M Fl:=
 (seqS (setV 1 (fn1 tupF (consA (frz (compO 1 (itS (frz (splS 0 (consA (ret (.str ",")) nilA)))) (tgN 0) (ret true) (fn1 (cvF uC) (consA (nm 0) nilA)))) nilA)))
  (seqS (ifS (notT (tst (fn1 (cvF wz) (consA (nm 1) nilA))))
  (λ_=>none) (ret .nx))
  (retS (nm 1))))
noncomputable def xQ:List R->Option (R×List R):=fnD 2 1 AK
noncomputable def zA:M Nat:=
 (orX (compX 1 (itS (frz (splS 0 (consA (ret (.str ",")) nilA)))) (tgN 0) (fn1 (cvF uC) (consA (nm 0) nilA)) (fnX vn (consA (nm 0) nilA))) (thenX (setV 1 (fn1 tupF (consA (frz (compO 1 (itS (frz (splS 0 (consA (ret (.str ",")) nilA)))) (tgN 0) (ret true) (fn1 (cvF uC) (consA (nm 0) nilA)))) nilA)))
  (ifX (notT (tst (fn1 (cvF wz) (consA (nm 1) nilA))))
  (raX 7 (consA (ret (.str "it is no letter")) nilA)) nvX)))
noncomputable def xW:List D->Option Nat:=fnE 2 1 zA
noncomputable def Ci:M Fl:=
 (retS (fn1 tupF (consA (frz (compO 1 (itS (frz (splS 0 (consA (ret (.str "-")) nilA)))) (tgN 0) (ret true) (fn1 (cvF uC) (consA (nm 0) nilA)))) nilA)))
noncomputable def uK:List R->Option (R×List R):=fnD 1 1 Ci
noncomputable def xT:M Nat:=
 (compX 1 (itS (frz (splS 0 (consA (ret (.str "-")) nilA)))) (tgN 0) (fn1 (cvF uC) (consA (nm 0) nilA)) (fnX vn (consA (nm 0) nilA)))
noncomputable def vO:List D->Option Nat:=fnE 1 1 xT
noncomputable def zT:M Fl:=
 (seqS (setV 1 (fn1 tupF (consA (frz (compO 1 (itS (frz (splS 0 (consA (ret (.str ",")) nilA)))) (tgN 0) (ret true) (fn1 (cvF uK) (consA (nm 0) nilA)))) nilA)))
  (seqS (ifS (notT (tst (fn1 (cvF wa) (consA (nm 1) nilA))))
  (λ_=>none) (ret .nx))
  (retS (nm 1))))
noncomputable def zd:List R->Option (R×List R):=fnD 2 1 zT
noncomputable def y3:M Nat:=
 (orX (compX 1 (itS (frz (splS 0 (consA (ret (.str ",")) nilA)))) (tgN 0) (fn1 (cvF uK) (consA (nm 0) nilA)) (fnX vO (consA (nm 0) nilA))) (thenX (setV 1 (fn1 tupF (consA (frz (compO 1 (itS (frz (splS 0 (consA (ret (.str ",")) nilA)))) (tgN 0) (ret true) (fn1 (cvF uK) (consA (nm 0) nilA)))) nilA)))
  (ifX (notT (tst (fn1 (cvF wa) (consA (nm 1) nilA))))
  (raX 7 (consA (ret (.str "it is no wish")) nilA)) nvX)))
noncomputable def xR:List D->Option Nat:=fnE 2 1 y3
noncomputable def AZ:M Fl:=
 (seqS (setV 1 (frz (splS 0 (consA (ret (.str " ")) nilA))))
  (seqS (setV 2 (tupA (consA (fn1 (cvF uC) (consA (op2 ixF (nm 1) (ret (.int 0))) nilA)) (consA (fn1 tupF (consA (frz (compO 1 (itS (sl3 slF (nm 1) (prt (ret (.int 1))) (ret none))) (tgN 0) (ret true) (fn1 (cvF uK) (consA (nm 0) nilA)))) nilA)) nilA))))
  (seqS (ifS (notT (tst (fn1 (cvF vK) (consA (nm 2) nilA))))
  (λ_=>none) (ret .nx))
  (retS (nm 2)))))
noncomputable def yu:List R->Option (R×List R):=fnD 3 1 AZ
noncomputable def xL:M Nat:=
 (thenX (setV 1 (frz (splS 0 (consA (ret (.str " ")) nilA))))
  (orX (orX (fnX vn (consA (op2 ixF (nm 1) (ret (.int 0))) nilA)) (bnd (fn1 (cvF uC) (consA (op2 ixF (nm 1) (ret (.int 0))) nilA)) λ_=>(compX 1 (itS (sl3 slF (nm 1) (prt (ret (.int 1))) (ret none))) (tgN 0) (fn1 (cvF uK) (consA (nm 0) nilA)) (fnX vO (consA (nm 0) nilA))))) (thenX (setV 2 (tupA (consA (fn1 (cvF uC) (consA (op2 ixF (nm 1) (ret (.int 0))) nilA)) (consA (fn1 tupF (consA (frz (compO 1 (itS (sl3 slF (nm 1) (prt (ret (.int 1))) (ret none))) (tgN 0) (ret true) (fn1 (cvF uK) (consA (nm 0) nilA)))) nilA)) nilA))))
  (ifX (notT (tst (fn1 (cvF vK) (consA (nm 2) nilA))))
  (raX 7 (consA (ret (.str "it is no web")) nilA)) nvX))))
noncomputable def zq:List D->Option Nat:=fnE 3 1 xL
noncomputable def AT:M Fl:=
 (seqS (ifS (tst (op2 geI (nm 0) (op2 powI (ret (.int 10)) (ret (.int 18)))))
  (retS (nm 0)) (ret .nx))
  (seqS (setV 2 (op2 modI (op2 addF (op2 addF (op2 mulI (op2 modI (nm 0) (ret (.int 998244353))) (ret (.int 40692))) (op2 mulI (nm 1) (ret (.int 69621)))) (ret (.int 1009))) (ret (.int 2147483399))))
  (seqS (setV 3 (op2 modI (op2 addF (op2 addF (op2 mulI (nm 2) (nm 2)) (op2 mulI (nm 1) (ret (.int 48271)))) (op2 modI (nm 0) (ret (.int 131071)))) (ret (.int 2147483647))))
  (seqS (setV 4 (op2 modI (op2 addF (op2 addF (op2 mulI (nm 3) (nm 3)) (op2 mulI (nm 2) (ret (.int 17)))) (ret (.int 3))) (ret (.int 2147483629))))
  (retS (op2 addF (op2 mulI (op2 addF (op2 mulI (nm 2) (ret (.int 2147483647))) (nm 3)) (ret (.int 2147483629))) (nm 4)))))))
noncomputable def xw:List R->Option (R×List R):=fnD 5 2 AT
noncomputable def AW:M Fl:=
 (seqS (setO 1 (fn1 lstF (consA (sl3 slF (nm 0) (ret none) (prt (ret (.int 12)))) nilA)))
  (seqS (forS (fn1 enumI (consA (sl3 slF (nm 0) (prt (ret (.int 12))) (prt (ret (.int 63)))) nilA)) (tgTup 2 (tgCons (tgN 2) (tgCons (tgN 3) tgNil)))
  (stS 1 (op2 modI (nm 2) (ret (.int 12))) (op2 addF (atN 1 (op2 modI (nm 2) (ret (.int 12)))) (nm 3))))
  (retO (lstA (consA (nm 1) (consA (ret (.int 0)) (consA (ret (.int 0)) nilA)))))))
noncomputable def wZ:List R->Option (R×List R):=fnD 4 1 AW
noncomputable def B3:M Fl:=
 (seqS (ifS (tst (op2 ltI (atN 0 (ret (.int 2))) (nm 1)))
  (seqS (setV 2 (atN 0 (ret (.int 1))))
  (seqS (setV 3 (op2 mulI (ret (.int 11)) (nm 2)))
  (seqS (ifS (tst (op2 ltI (nm 2) (fn1 lenF (consA (atN 0 (ret (.int 0))) nilA))))
  (setV 3 (op2 ixF (atN 0 (ret (.int 0))) (nm 2))) (ifS (tst (op2 (eqF true) (atN 0 (ret (.int 0))) (frz (lstA nilA))))
  (setV 3 (op2 modI (op2 ixF (atN 0 (ret (.int 0))) (op2 modI (op2 addF (op2 mulI (nm 2) (ret (.int 7))) (ret (.int 1))) (fn1 lenF (consA (atN 0 (ret (.int 0))) nilA)))) (op2 addF (op2 powI (ret (.int 10)) (ret (.int 17))) (op2 mulI (ret (.int 3)) (nm 2))))) (ret .nx)))
  (seqS (stS 0 (ret (.int 1)) (op2 addF (nm 2) (ret (.int 1))))
  (stS 0 (ret (.int 2)) (fn1 (cvF xw) (consA (nm 3) (consA (nm 2) nilA)))))))) (ret .nx))
  (seqS (setV 4 (op2 modI (atN 0 (ret (.int 2))) (nm 1)))
  (seqS (stS 0 (ret (.int 2)) (op2 divI (atN 0 (ret (.int 2))) (nm 1)))
  (retS (nm 4)))))
noncomputable def um:List R->Option (R×List R):=fnD 5 2 B3
noncomputable def v5(g:List R->Option (R×List R)):M Fl:=
 (seqS (ifS (orT (tst (op2 (isNF false) (nm 1) (ret .non))) (tst (un1 (isiF .bT) (nm 1))))
  (retS (andV (op2 (eqF false) (un1 (isiF .bT) (nm 0)) (un1 (isiF .bT) (nm 1))) (op2 (eqF false) (nm 0) (nm 1)))) (ret .nx))
  (seqS (ifS (tst (un1 (isiF .sT) (nm 1)))
  (retS (andV (un1 (isiF .sT) (nm 0)) (op2 (eqF false) (nm 0) (nm 1)))) (ret .nx))
  (seqS (ifS (tst (un1 (isiF .iT) (nm 1)))
  (retS (andV (un1 (isiF .iT) (nm 0)) (andV (notV (un1 (isiF .bT) (nm 0))) (op2 (eqF false) (nm 0) (nm 1))))) (ret .nx))
  (seqS (ifS (orT (tst (op2 (eqF true) (un1 (isiF .tT) (nm 1)) (un1 (isiF .tT) (nm 0)))) (tst (op2 (eqF true) (un1 (isiF .lT) (nm 1)) (un1 (isiF .lT) (nm 0)))))
  (retS (ret (.bl false))) (ret .nx))
  (retS (andV (op2 (eqF false) (fn1 lenF (consA (nm 0) nilA)) (fn1 lenF (consA (nm 1) nilA))) (fn1 allF (consA (frz (compO 2 (fn1 zipI (consA (nm 0) (consA (nm 1) nilA))) (tgTup 2 (tgCons (tgN 0) (tgCons (tgN 1) tgNil))) (ret true) (fn1 (cvF g) (consA (nm 0) (consA (nm 1) nilA))))) nilA))))))))
noncomputable def vw:Nat->List R->Option (R×List R)
 | 0=>λ_=>none
 | k+1=>fnD 2 2 (v5 (vw k))
noncomputable def Be:M Fl:=
 (retS (andV (un1 (isiF .iT) (nm 0)) (andV (notV (un1 (isiF .bT) (nm 0))) (chn leI ltI (ret (.int 0)) (nm 0) (nm 1)))))
noncomputable def wx:List R->Option (R×List R):=fnD 2 2 Be
noncomputable def Ex:M Fl:=
 (seqS (setV 3 (frz (compO 2 (fn1 zipI (consA (nm 1) (consA (nm 2) nilA))) (tgTup 2 (tgCons (tgN 0) (tgCons (tgN 1) tgNil))) (tst (nm 0)) (nm 1))))
  (seqS (ifS (orT (tst (op2 (eqF true) (fn1 lenF (consA (nm 3) nilA)) (ret (.int 1)))) (notT (tst (un1 isvF (nm 0)))))
  (retS (ret (.str "odd"))) (ret .nx))
  (retS (op2 ixF (nm 3) (ret (.int 0))))))
noncomputable def Af:List R->Option (R×List R):=fnD 4 3 Ex
noncomputable def BC:M Fl:=
 (seqS (setO 2 (lstA nilA))
  (seqS (forS (fn1 rngI1 (consA (nm 1) nilA)) (tgN 3)
  (insS 2 (consA (cbV 0 um (consA (op2 addF (nm 3) (ret (.int 1))) nilA)) (consA (nm 3) nilA))))
  (retS (nm 2))))
noncomputable def xP:List R->Option (R×List R):=fnD 4 2 BC
noncomputable def Co:M Fl:=
 (seqS (setV 2 (cbV 0 um (consA (ret (.int 4)) nilA)))
  (seqS (setV 3 (op2 addF (ret (.int 1)) (cbV 0 um (consA (nm 1) nilA))))
  (seqS (setV 4 (cbV 0 xP (consA (nm 3) nilA)))
  (seqS (setO 5 (lstA nilA))
  (seqS (forS (fn1 rngI2 (consA (ret (.int 1)) (consA (nm 3) nilA))) (tgN 6)
  (ifS (tst (op2 geI (cbV 0 um (consA (ret (.int 6)) nilA)) (nm 2)))
  (seqS (setV 7 (tupA (consA (op2 ixF (nm 4) (nm 6)) (consA (op2 ixF (nm 4) (cbV 0 um (consA (nm 6) nilA))) nilA))))
  (appS 5 (tupA (consA (fn1 minTF (consA (nm 7) nilA)) (consA (fn1 maxTF (consA (nm 7) nilA)) nilA))))) (ret .nx)))
  (retS (tupA (consA (nm 3) (consA (fn1 tupF (consA (frz (fn1 sortF (consA (nm 5) nilA))) nilA)) nilA)))))))))
noncomputable def zf:List R->Option (R×List R):=fnD 8 2 Co
noncomputable def A8:M Fl:=
 (seqS (setV 2 (frz (fn1 lstF (consA (nm 1) nilA))))
  (seqS (setV 3 (un1 negI (ret (.int 1))))
  (seqS (whlS 100 (tst (op2 (eqF true) (nm 3) (fn1 lenF (consA (nm 2) nilA))))
  (seqS (setV 3 (fn1 lenF (consA (nm 2) nilA)))
  (seqS (setV 4 (frz (op2 catF (frz (compO 2 (itS (nm 2)) (tgTup 2 (tgCons (tgN 0) (tgCons (tgN 1) tgNil))) (ret true) (nm 0))) (frz (compO 2 (itS (nm 2)) (tgTup 2 (tgCons (tgN 0) (tgCons (tgN 1) tgNil))) (ret true) (nm 1))))))
  (setV 2 (frz (compO 1 (itS (nm 2)) (tgN 0) (andT (tst (op2 gtI (cntV 5 (consA (op2 ixF (nm 0) (ret (.int 0))) nilA)) (ret (.int 1)))) (tst (op2 gtI (cntV 5 (consA (op2 ixF (nm 0) (ret (.int 1))) nilA)) (ret (.int 1))))) (nm 0)))))))
  (retS (op2 (eqF false) (nm 2) (frz (lstA nilA)))))))
noncomputable def zI:List R->Option (R×List R):=fnD 5 2 A8
noncomputable def BF:M Fl:=
 (seqS (ifS (orT (notT (tst (un1 (isiF .tT) (nm 0)))) (orT (tst (op2 (eqF true) (fn1 lenF (consA (nm 0) nilA)) (ret (.int 2)))) (orT (notT (tst (fn1 (cvF wx) (consA (op2 ixF (nm 0) (ret (.int 0))) (consA (ret (.int 9)) nilA))))) (tst (op2 (eqF false) (op2 ixF (nm 0) (ret (.int 0))) (ret (.int 0)))))))
  (retS (ret (.bl false))) (ret .nx))
  (seqS (asgS (nm 0) (tgTup 2 (tgCons (tgN 1) (tgCons (tgN 2) tgNil))))
  (seqS (ifS (notT (tst (un1 (isiF .tT) (nm 2))))
  (retS (ret (.bl false))) (ret .nx))
  (seqS (forS (itS (nm 2)) (tgN 3)
  (seqS (ifS (orT (notT (tst (un1 (isiF .tT) (nm 3)))) (orT (tst (op2 (eqF true) (fn1 lenF (consA (nm 3) nilA)) (ret (.int 2)))) (notT (tst (fn1 allF (consA (frz (compO 1 (itS (nm 3)) (tgN 0) (ret true) (fn1 (cvF wx) (consA (nm 0) (consA (nm 2) nilA))))) nilA))))))
  (retS (ret (.bl false))) (ret .nx))
  (ifS (tst (op2 geI (op2 ixF (nm 3) (ret (.int 0))) (op2 ixF (nm 3) (ret (.int 1)))))
  (retS (ret (.bl false))) (ret .nx))))
  (retS (andV (op2 (eqF false) (frz (fn1 lstF (consA (nm 2) nilA))) (frz (fn1 setTF (consA (nm 2) nilA)))) (fn1 (cvF zI) (consA (nm 1) (consA (nm 2) nilA)))))))))
noncomputable def wU:List R->Option (R×List R):=fnD 4 1 BF
noncomputable def Hk:M Fl:=
 (seqS (setO 1 (lstA (consA (un1 (isxF "NoKin") (nm 0)) (consA (un1 (isxF "NoHouse") (nm 0)) (consA (un1 (isxF "NoRoad") (nm 0)) nilA)))))
  (seqS (setO 1 (op2 catF (nm 1) (frz (lstA (consA (un1 (isxF "Ring") (nm 0)) (consA (un1 (isxF "NoHold") (nm 0)) (consA (un1 (isxF "NoLetter") (nm 0)) nilA)))))))
  (seqS (setO 1 (op2 catF (nm 1) (frz (lstA (consA (un1 (isxF "NoStep") (nm 0)) (consA (un1 (isxF "NoText") (nm 0)) (consA (un1 (isxF "NoRow") (nm 0)) nilA)))))))
  (seqS (appS 1 (un1 (isxF "NoLog") (nm 0)))
  (seqS (setV 2 (frz (lstA (consA (ret (.str "kin")) (consA (ret (.str "house")) (consA (ret (.str "road")) (consA (ret (.str "ring")) (consA (ret (.str "hold")) (consA (ret (.str "letter")) (consA (ret (.str "step")) (consA (ret (.str "text")) (consA (ret (.str "row")) (consA (ret (.str "log")) nilA)))))))))))))
  (retS (fn1 (cvF Af) (consA (nm 0) (consA (nm 1) (consA (nm 2) nilA))))))))))
noncomputable def xE:List R->Option (R×List R):=fnD 3 1 Hk
noncomputable def A2:M Fl:=
 (seqS (setV 2 (cbV 0 um (consA (ret (.int 4)) nilA)))
  (seqS (setV 3 (cbV 0 um (consA (nm 1) nilA)))
  (seqS (setV 4 (cbV 0 um (consA (op2 subI (nm 1) (nm 3)) nilA)))
  (retS (op2 ixF (frz (lstA (consA (tupA (consA (ret (.int 0)) (consA (op2 subI (nm 1) (ret (.int 1))) nilA))) (consA (tupA (consA (nm 3) (consA (nm 3) nilA))) (consA (tupA (consA (nm 3) (consA (op2 addF (nm 3) (nm 4)) nilA))) (consA (tupA (consA (nm 3) (consA (fn1 minF (consA (op2 subI (nm 1) (ret (.int 1))) (consA (op2 addF (nm 3) (ret (.int 2))) nilA))) nilA))) nilA)))))) (nm 2))))))
noncomputable def zc:List R->Option (R×List R):=fnD 5 2 A2
noncomputable def Ah:M Fl:=
 (retS (fn1 tupF (consA (frz (compO 1 (fn1 rngI1 (consA (nm 1) nilA)) (tgN 0) (ret true) (cbV 1 zc (consA (nm 3) nilA)))) nilA)))
noncomputable def yi:List R->Option (R×List R):=fnD 3 3 Ah
noncomputable def An:M Fl:=
 (retS (fn1 tupF (consA (frz (compO 1 (fn1 rngI1 (consA (nm 1) nilA)) (tgN 0) (ret true) (cbV 1 um (consA (ret (.int 10)) nilA)))) nilA)))
noncomputable def zv:List R->Option (R×List R):=fnD 2 2 An
noncomputable def AO:M Fl:=
 (retS (fn1 (joinF ",") (consA (frz (compO 1 (itS (nm 0)) (tgN 0) (ret true) (fn1 strIF (consA (nm 0) nilA)))) nilA)))
noncomputable def yK:List R->Option (R×List R):=fnD 1 1 AO
noncomputable def BS:M Fl:=
 (retS (fn1 (joinF ",") (consA (frz (compO 2 (itS (nm 0)) (tgTup 2 (tgCons (tgN 0) (tgCons (tgN 1) tgNil))) (ret true) (fs3 "-" (nm 0) (nm 1)))) nilA)))
noncomputable def yZ:List R->Option (R×List R):=fnD 1 1 BS
noncomputable def zS:M Fl:=
 (retS (fn1 (joinF " ") (consA (frz (op2 catF (frz (lstA (consA (fn1 strIF (consA (op2 ixF (nm 0) (ret (.int 0))) nilA)) nilA))) (frz (compO 2 (itS (op2 ixF (nm 0) (ret (.int 1)))) (tgTup 2 (tgCons (tgN 0) (tgCons (tgN 1) tgNil))) (ret true) (fs3 "-" (nm 0) (nm 1)))))) nilA)))
noncomputable def w4:List R->Option (R×List R):=fnD 1 1 zS
noncomputable def DA:M Fl:=
 (retS (ret (.str " !\"#$&'()*+,-./0123456789:;<=>?@ABCDEFGHIJKLMNOPQRSTUVWXYZ[\\]^_`abcdefghijklmnopqrstuvwxyz{|}~\n")))
noncomputable def yT:List R->Option (R×List R):=fnD 0 0 DA
noncomputable def Dv:M Fl:=
 (seqS (ifS (orT (tst (op2 (eqF false) (nm 0) (ret (.str "")))) (orT (tst (op2 gtI (fn1 lenSF (consA (nm 0) nilA)) (ret (.int 4)))) (tst (op2 (eqF true) (frz (compO 1 (itT (nm 0)) (tgN 0) (tst (op2 ninSF (nm 0) (ret (.str "0123456789")))) (nm 0))) (frz (lstA nilA))))))
  (retS (un1 negI (ret (.int 1)))) (ret .nx))
  (retS (ifV (tst (op2 (eqF false) (fn1 strIF (consA (fn1 intTF (consA (nm 0) nilA)) nilA)) (nm 0))) (fn1 intTF (consA (nm 0) nilA)) (un1 negI (ret (.int 1))))))
noncomputable def u5:List R->Option (R×List R):=fnD 1 1 Dv
noncomputable def AY:M Fl:=
 (seqS (setV 1 (fn1 tupF (consA (frz (compO 1 (itS (frz (splS 0 (consA (ret (.str ",")) nilA)))) (tgN 0) (ret true) (fn1 (cvF u5) (consA (nm 0) nilA)))) nilA)))
  (retS (ifV (andT (tst (op2 ltI (fn1 lenF (consA (nm 1) nilA)) (ret (.int 4)))) (tst (op2 (eqF false) (frz (compO 1 (itS (nm 1)) (tgN 0) (notT (tst (chn leI ltI (ret (.int 0)) (nm 0) (ret (.int 10))))) (nm 0))) (frz (lstA nilA))))) (nm 1) (ret .non))))
noncomputable def zC:List R->Option (R×List R):=fnD 2 1 AY
noncomputable def A3:M Fl:=
 (seqS (setO 1 (lstA nilA))
  (seqS (forS (itS (frz (splS 0 (consA (ret (.str ",")) nilA)))) (tgN 2)
  (seqS (setV 3 (fn1 tupF (consA (frz (compO 1 (itS (frz (splS 2 (consA (ret (.str "-")) nilA)))) (tgN 0) (ret true) (fn1 (cvF u5) (consA (nm 0) nilA)))) nilA)))
  (seqS (ifS (orT (tst (op2 (eqF true) (fn1 lenF (consA (nm 3) nilA)) (ret (.int 2)))) (notT (tst (chn3 leI leI ltI (ret (.int 0)) (op2 ixF (nm 3) (ret (.int 0))) (op2 ixF (nm 3) (ret (.int 1))) (ret (.int 10))))))
  (retS (ret .non)) (ret .nx))
  (appS 1 (nm 3)))))
  (retS (ifV (tst (op2 ltI (lenN 1) (ret (.int 4)))) (fn1 tupF (consA (nm 1) nilA)) (ret .non)))))
noncomputable def xS:List R->Option (R×List R):=fnD 4 1 A3
noncomputable def Bn:M Fl:=
 (seqS (setV 1 (frz (splS 0 (consA (ret (.str " ")) nilA))))
  (seqS (setV 2 (frz (compO 1 (itS (sl3 slF (nm 1) (prt (ret (.int 1))) (ret none))) (tgN 0) (ret true) (fn1 tupF (consA (frz (compO 1 (itS (frz (splS 0 (consA (ret (.str "-")) nilA)))) (tgN 0) (ret true) (fn1 (cvF u5) (consA (nm 0) nilA)))) nilA)))))
  (seqS (setV 3 (tupA (consA (fn1 (cvF u5) (consA (op2 ixF (nm 1) (ret (.int 0))) nilA)) (consA (fn1 tupF (consA (nm 2) nilA)) nilA))))
  (retS (ifV (tst (fn1 (cvF wU) (consA (nm 3) nilA))) (nm 3) (ret .non))))))
noncomputable def zG:List R->Option (R×List R):=fnD 4 1 Bn
noncomputable def Cz:M Fl:=
 (seqS (setV 2 (cbV 0 um (consA (ret (.int 10)) nilA)))
  (seqS (setV 3 (cbV 0 um (consA (op2 addF (fn1 lenSF (consA (nm 1) nilA)) (ret (.int 1))) nilA)))
  (seqS (ifS (tst (op2 ltI (nm 2) (ret (.int 5))))
  (seqS (setV 4 (op2 ixSF (fn1 (cvF yT) nilA) (cbV 0 um (consA (ret (.int 95)) nilA))))
  (retS (op2 addF (op2 addF (sl3 slSF (nm 1) (ret none) (prt (nm 3))) (op2 mulSF (nm 4) (fn1 intBF (consA (op2 ltI (nm 2) (ret (.int 4))) nilA)))) (sl3 slSF (nm 1) (prt (op2 addF (nm 3) (fn1 intBF (consA (op2 gtI (nm 2) (ret (.int 1))) nilA)))) (ret none))))) (ret .nx))
  (seqS (ifS (tst (op2 (eqF false) (nm 2) (ret (.int 5))))
  (retS (sl3 slSF (nm 1) (ret none) (prt (nm 3)))) (ret .nx))
  (seqS (setV 5 (op2 ixF (frz (lstA (consA (ret (.str ",")) (consA (ret (.str "-")) (consA (ret (.str " ")) nilA))))) (cbV 0 um (consA (ret (.int 3)) nilA))))
  (seqS (setV 6 (frz (splS 1 (consA (nm 5) nilA))))
  (seqS (setV 7 (cbV 0 um (consA (fn1 lenF (consA (nm 6) nilA)) nilA)))
  (seqS (setV 8 (frz (lstA (consA (ret (.str "")) (consA (ret (.str "0")) (consA (ret (.str "00")) (consA (ret (.str "9")) (consA (ret (.str "10")) (consA (ret (.str "01")) (consA (ret (.str "-1")) (consA (ret (.str "3-3")) (consA (ret (.str "5-4")) (consA (ret (.str "0-9")) (consA (ret (.str "0-7")) (consA (ret (.str "7-0")) (consA (ret (.str "8")) (consA (ret (.str "1")) (consA (ret (.str "10000")) (consA (op2 mulSF (ret (.str "9")) (ret (.int 30))) nilA)))))))))))))))))))
  (seqS (setV 9 (frz (lstA (consA (frz (op2 catF (sl3 slF (nm 6) (ret none) (prt (nm 7))) (sl3 slF (nm 6) (prt (op2 addF (nm 7) (ret (.int 1)))) (ret none)))) (consA (frz (op2 catF (sl3 slF (nm 6) (ret none) (prt (op2 addF (nm 7) (ret (.int 1))))) (sl3 slF (nm 6) (prt (nm 7)) (ret none)))) (consA (frz (op2 rvF (nm 6) (un1 negI (ret (.int 1))))) (consA (frz (lstA nilA)) nilA)))))))
  (seqS (ifS (tst (op2 ltI (nm 2) (ret (.int 9))))
  (retS (jnS 5 (consA (op2 ixF (nm 9) (op2 subI (nm 2) (ret (.int 6)))) nilA))) (ret .nx))
  (retS (jnS 5 (consA (frz (op2 catF (frz (op2 catF (sl3 slF (nm 6) (ret none) (prt (nm 7))) (frz (lstA (consA (op2 ixF (nm 8) (cbV 0 um (consA (ret (.int 16)) nilA))) nilA))))) (sl3 slF (nm 6) (prt (op2 addF (nm 7) (ret (.int 1)))) (ret none)))) nilA)))))))))))))
noncomputable def wL:List R->Option (R×List R):=fnD 10 2 Cz
noncomputable def zX:M Fl:=
 (seqS (setV 1 (op2 addF (ret (.int 1)) (cbV 0 um (consA (ret (.int 6)) nilA))))
  (seqS (setV 2 (op2 addF (ret (.int 1)) (cbV 0 um (consA (ret (.int 8)) nilA))))
  (seqS (setO 3 (lstA nilA))
  (seqS (forS (fn1 rngI1 (consA (nm 2) nilA)) (tgN 4)
  (forS (fn1 rngI2 (consA (op2 addF (nm 4) (ret (.int 1))) (consA (nm 2) nilA))) (tgN 5)
  (ifS (tst (op2 ltI (cbV 0 um (consA (ret (.int 6)) nilA)) (nm 1)))
  (appS 3 (tupA (consA (nm 4) (consA (nm 5) nilA)))) (ret .nx))))
  (retS (tupA (consA (nm 2) (consA (fn1 tupF (consA (nm 3) nilA)) nilA))))))))
noncomputable def yH:List R->Option (R×List R):=fnD 6 1 zX
noncomputable def xt:M Fl:=
 (seqS (setV 2 (ret .non))
  (seqS (setV 3 (ret .non))
  (seqS (tryE (ifS (tst (op2 (eqF false) (nm 0) (ret (.int 0))))
  (setV 2 (fn1 (cvF xQ) (consA (nm 1) nilA))) (ifS (tst (op2 (eqF false) (nm 0) (ret (.int 1))))
  (setV 2 (fn1 (cvF zd) (consA (nm 1) nilA))) (setV 2 (fn1 (cvF yu) (consA (nm 1) nilA))))) (ifX (tst (op2 (eqF false) (nm 0) (ret (.int 0))))
  (fnX xW (consA (nm 1) nilA)) (ifX (tst (op2 (eqF false) (nm 0) (ret (.int 1))))
  (fnX xR (consA (nm 1) nilA)) (fnX zq (consA (nm 1) nilA)))) 4 3)
  (retS (ifV (tst (op2 (isNF false) (nm 3) (ret .non))) (tupA (consA (ret (.str "told")) (consA (nm 2) nilA))) (tupA (consA (fn1 (cvF xE) (consA (nm 3) nilA)) (consA (ret .non) nilA))))))))
noncomputable def vV:List R->Option (R×List R):=fnD 5 2 xt
noncomputable def xh:M Fl:=
 (seqS (setV 2 (ret .non))
  (seqS (ifS (tst (op2 (eqF false) (nm 0) (ret (.int 0))))
  (setV 2 (fn1 (cvF zC) (consA (nm 1) nilA))) (ifS (tst (op2 (eqF false) (nm 0) (ret (.int 1))))
  (setV 2 (fn1 (cvF xS) (consA (nm 1) nilA))) (setV 2 (fn1 (cvF zG) (consA (nm 1) nilA)))))
  (retS (tupA (consA (ifV (tst (op2 (isNF false) (nm 2) (ret .non))) (ret (.str "text")) (ret (.str "told"))) (consA (nm 2) nilA))))))
noncomputable def vU:List R->Option (R×List R):=fnD 3 2 xh
noncomputable def CL:M Fl:=
 (seqS (setO 1 (fn1 (coF wZ) (consA (nm 0) nilA)))
  (seqS (setO 2 (lstA (consA (ret (.str "")) (consA (ret (.str " ")) (consA (ret (.str "\n")) (consA (ret (.str ",")) (consA (ret (.str "-")) (consA (ret (.str "0")) (consA (ret (.str "9")) (consA (ret (.str "10")) (consA (ret (.str "0-0")) (consA (ret (.str "8")) (consA (ret (.str "1 ")) (consA (ret (.str " 1")) (consA (ret (.str "0,0,0,0")) (consA (ret (.str "0-9,0-9,0-9,0-9")) (consA (ret (.str "2 0-1")) nilA)))))))))))))))))
  (seqS (setO 2 (op2 catF (nm 2) (frz (lstA (consA (op2 mulSF (ret (.str "9")) (ret (.int 5000))) (consA (op2 mulSF (ret (.str "0")) (ret (.int 5000))) (consA (op2 addF (ret (.str "0-")) (op2 mulSF (ret (.str "9")) (ret (.int 5000)))) (consA (op2 addF (ret (.str "2 0-")) (op2 mulSF (ret (.str "9")) (ret (.int 5000)))) (consA (op2 addF (ret (.str "1,")) (op2 mulSF (ret (.str "9")) (ret (.int 5000)))) nilA)))))))))
  (seqS (forS (fn1 rngI1 (consA (ret (.int 4)) nilA)) (tgN 3)
  (seqS (setO 4 (lstA (consA (fn1 (cvF yK) (consA (cbV 1 zv (consA (op2 addF (ret (.int 1)) (cbV 1 um (consA (ret (.int 3)) nilA))) nilA)) nilA)) (consA (fn1 (cvF w4) (consA (cbV 1 zf (consA (ret (.int 8)) nilA)) nilA)) nilA))))
  (seqS (appS 2 (fn1 (cvF w4) (consA (cbV 1 yH nilA) nilA)))
  (seqS (appS 4 (fn1 (cvF yZ) (consA (cbV 1 yi (consA (op2 addF (ret (.int 1)) (cbV 1 um (consA (ret (.int 3)) nilA))) (consA (ret (.int 10)) nilA))) nilA)))
  (forS (itS (frz (op2 catF (nm 4) (sl3 slF (nm 4) (prt (ret (.int 1))) (ret none))))) (tgN 5)
  (forS (fn1 rngI1 (consA (ret (.int 4)) nilA)) (tgN 6)
  (seqS (setV 7 (cbV 1 wL (consA (nm 5) nilA)))
  (appS 2 (ifV (tst (op2 (eqF false) (cbV 1 um (consA (ret (.int 3)) nilA)) (ret (.int 0)))) (cbV 1 wL (consA (nm 7) nilA)) (nm 7))))))))))
  (seqS (forS (itS (nm 2)) (tgN 5)
  (forS (fn1 rngI1 (consA (ret (.int 3)) nilA)) (tgN 8)
  (ifS (notT (tst (fn1 (cvF (vw 8)) (consA (fn1 (cvF vV) (consA (nm 8) (consA (nm 5) nilA))) (consA (fn1 (cvF vU) (consA (nm 8) (consA (nm 5) nilA))) nilA)))))
  (retS (ret (.bl false))) (ret .nx))))
  (retS (ret (.bl true))))))))
noncomputable def vT:List R->Option (R×List R):=fnD 9 1 CL
theorem nk(h:decide N.Nodup=true:=by kernel_rfl):N.Nodup:=of_decide_eq_true h
theorem en(i:Nat){B:BB}{x:Str}(hN:X.N[i]?=some x:=by rfl)(hv:visB X.env.scope x=true:=by rfl)(hd:(x == ("__debug__":Str))=false:=by decide)(cz:(x == ("__classdict__":Str))=false:=by decide):ED X B (.Name x pos) (nm i):=Fz (pv i hN hv hd cz)
noncomputable def top(i:Nat):Tr:=PySem.Challenge.pw_roofpost_k72_texts_bent.main.body.getD i (.Pass ⟨0,0,0,0⟩)
noncomputable abbrev B4:Tr:=top 16
noncomputable abbrev AR:Tr:=top 17
noncomputable abbrev Bw:Tr:=top 18
noncomputable abbrev CQ:Tr:=top 19
noncomputable abbrev zZ:Tr:=top 20
noncomputable abbrev AB:Tr:=top 21
noncomputable abbrev Bk:Tr:=top 24
noncomputable abbrev CA:Tr:=top 25
noncomputable abbrev Bu:Tr:=top 26
noncomputable abbrev Al:Tr:=top 27
noncomputable abbrev By:Tr:=top 28
noncomputable abbrev CF:Tr:=top 29
noncomputable abbrev yd:Tr:=top 30
noncomputable abbrev zo:Tr:=top 34
noncomputable abbrev ym:Tr:=top 35
noncomputable abbrev zH:Tr:=top 36
noncomputable abbrev zF:Tr:=top 37
noncomputable abbrev zu:Tr:=top 38
noncomputable abbrev Cr:Tr:=top 40
noncomputable abbrev BZ:Tr:=top 41
noncomputable abbrev A6:Tr:=top 42
noncomputable abbrev yw:Tr:=top 43
noncomputable abbrev Cb:Tr:=top 44
noncomputable abbrev AA:Tr:=top 45
noncomputable abbrev B8:Tr:=top 46
noncomputable abbrev B0:Tr:=top 47
noncomputable abbrev Ay:Tr:=top 48
noncomputable abbrev Cv:Tr:=top 49
noncomputable abbrev CS:Tr:=top 50
noncomputable abbrev B9:Tr:=top 51
noncomputable abbrev Cq:Tr:=top 52
noncomputable abbrev Bc:Tr:=top 53
noncomputable abbrev Bg:Tr:=top 54
noncomputable abbrev B7:Tr:=top 55
noncomputable abbrev Am:Tr:=top 56
noncomputable abbrev BV:Tr:=top 57
noncomputable abbrev AN:Tr:=top 58
noncomputable abbrev Da:Tr:=top 59
noncomputable abbrev Ag:Tr:=top 60
noncomputable abbrev Ai:Tr:=top 61
noncomputable abbrev AE:Tr:=top 62
noncomputable abbrev AU:Tr:=top 63
noncomputable abbrev zQ:Tr:=top 64
noncomputable abbrev zP:Tr:=top 65
noncomputable abbrev A4:Tr:=top 66
structure CdX(P:v_)(w:F_)(K:PySem.W.Frag)(mg:Str->Option b_)(base:G_)(cl:Nat->g_)(k:Nat)(f:g_)(fd:U8)(ps:List Str)(gx:List D->Option Nat)(x:Str):Prop where
 G:FnOk P w K mg base (CXX P w) k f fd ps (spE K cl gx)
 b:Binds K fd ps []
 p:PySem.W.keepIn K (.ref f)=true
 m:mg x=some (.ref f)
theorem cqX{B:BB}{cl:Nat->g_}{e:D_}{es:List D_}{p:Pos}{kr:Nat}{f:g_}{x:Str}{gx:List D->Option Nat}{t:M (List D)}(G:CdX X.prog X.w X.K X.mg X.base cl k f fd ps gx x)(hr:Room kr X.A)(ha:AD X B (e::es) t)(hk:k<=kr:=by decide)(hg:Gl X x:=by exact rfl)(bh:(x == ("__debug__":Str))=false:=by decide)(he:d_ (e::es) X.env=(false,eval e X.env)::d_ es X.env:=by rfl)(aB:(J_ pos (d_ es X.env)).any (·.1)=false:=by rfl):XD X B cl (.Call (.Name x p) (e::es) [] pos) (fnX gx t):=Nh G.G (hr.mono hk) hg G.m G.p G.b ha bh he aB
structure Cd(P:v_)(w:F_)(K:PySem.W.Frag)(mg:Str->Option b_)(base:G_)(k:Nat)(f:g_)(fd:U8)(ps:List Str)(g:List R->Option (R×List R))(x:Str):Prop where
 G:FnOk P w K mg base CX0 k f fd ps (spD K g)
 b:Binds K fd ps []
 p:PySem.W.keepIn K (.ref f)=true
 m:mg x=some (.ref f)
abbrev Bv(P w K mg base f fd):=Cd P w K mg base 2 f fd ["thing"] uZ "is_whole"
abbrev DM(P w K mg base f fd):=Cd P w K mg base 3 f fd ["thing"] we "is_figure"
abbrev Pk(P w K mg base f fd):=Cd P w K mg base 4 f fd ["thing"] zK "is_pair"
abbrev DC(P w K mg base f fd):=Cd P w K mg base 2 f fd ["thing"] wM "has_fields"
abbrev GM(P w K mg base f fd):=Cd P w K mg base 4 f fd ["thing"] wz "is_letter"
abbrev F6(P w K mg base f fd):=Cd P w K mg base 5 f fd ["thing"] wa "is_wish"
abbrev G'(P w K mg base f fd):=Cd P w K mg base 29 f fd ["thing"] vK "is_web"
abbrev Nj(P w K mg base f fd):=Cd P w K mg base 3 f fd ["many", "thing"] xf "is_road"
abbrev Mz(P w K mg base f fd):=Cd P w K mg base 28 f fd ["many", "roads"] yq "has_ring"
abbrev Eo(P w K mg base f fd):=Cd P w K mg base 2 f fd ["web", "house"] wj "must_be_house"
abbrev Dm(P w K mg base f fd):=Cd P w K mg base 3 f fd ["web", "house"] yy "neighbours_of"
abbrev Km(P w K mg base f fd):=Cd P w K mg base 27 f fd ["web", "one", "other"] vI "way_between"
abbrev KJ(P w K mg base f fd):=Cd P w K mg base 26 f fd ["web", "came", "house", "other"] (vC 21) "way_on"
abbrev IK(P w K mg base f fd):=Cd P w K mg base 5 f fd ["text"] xQ "read_letter"
abbrev OF(P w K mg base f fd):=Cd P w K mg base 6 f fd ["text"] zd "read_wish"
abbrev OG(P w K mg base f fd):=Cd P w K mg base 30 f fd ["text"] yu "read_web"
abbrev yY(P w K mg base f fd):=Cd P w K mg base 3 f fd ["text"] uK "read_pair"
abbrev wH(P w K mg base f fd):=Cd P w K mg base 2 f fd ["text"] uC "read_number"
abbrev ML(P w K mg base f fd):=Cd P w K mg base 2 f fd ["cell", "at"] xw "_law_blend"
abbrev HS(P w K mg base f fd):=Cd P w K mg base 2 f fd ["script"] wZ "_law_pot"
abbrev vL(P w K mg base f fd):=Cd P w K mg base 3 f fd ["pot", "many"] um "_law_pick"
abbrev Nd(P w K mg base f fd):=Cd P w K mg base 11 f fd ["found", "due"] (vw 8) "_law_same"
abbrev IN(P w K mg base f fd):=Cd P w K mg base 2 f fd ["thing", "many"] wx "_law_whole"
abbrev Js(P w K mg base f fd):=Cd P w K mg base 2 f fd ["caught", "kinds", "names"] Af "_law_kind"
abbrev Mc(P w K mg base f fd):=Cd P w K mg base 4 f fd ["pot", "many"] xP "_law_order"
abbrev Jl(P w K mg base f fd):=Cd P w K mg base 5 f fd ["pot", "most"] zf "_law_web"
abbrev Na(P w K mg base f fd):=Cd P w K mg base 2 f fd ["many", "roads"] zI "_law_without_ring"
abbrev IG(P w K mg base f fd):=Cd P w K mg base 3 f fd ["thing"] wU "_law_is_web"
abbrev Qp(P w K mg base f fd):=Cd P w K mg base 3 f fd ["caught"] xE "_law_named"
abbrev OM(P w K mg base f fd):=Cd P w K mg base 4 f fd ["pot", "top"] zc "_law_pair"
abbrev MB(P w K mg base f fd):=Cd P w K mg base 5 f fd ["pot", "fields", "top"] yi "_law_wish"
abbrev Ix(P w K mg base f fd):=Cd P w K mg base 4 f fd ["pot", "fields"] zv "_law_letter"
abbrev PJ(P w K mg base f fd):=Cd P w K mg base 2 f fd ["letter"] yK "_law_letter_text"
abbrev Og(P w K mg base f fd):=Cd P w K mg base 2 f fd ["wish"] yZ "_law_wish_text"
abbrev Mr(P w K mg base f fd):=Cd P w K mg base 2 f fd ["web"] w4 "_law_web_text"
abbrev Kh(P w K mg base f fd):=Cd P w K mg base 2 f fd [] yT "_law_signs"
abbrev BO(P w K mg base f fd):=Cd P w K mg base 2 f fd ["word"] u5 "_law_number"
abbrev HD(P w K mg base f fd):=Cd P w K mg base 3 f fd ["text"] zC "_law_read_letter"
abbrev HJ(P w K mg base f fd):=Cd P w K mg base 3 f fd ["text"] xS "_law_read_wish"
abbrev J7(P w K mg base f fd):=Cd P w K mg base 4 f fd ["text"] zG "_law_read_web"
abbrev Op(P w K mg base f fd):=Cd P w K mg base 4 f fd ["pot", "text"] wL "_law_bent_text"
abbrev Qb(P w K mg base f fd):=Cd P w K mg base 4 f fd ["pot"] yH "_law_any_roads"
abbrev P4(P w K mg base f fd):=Cd P w K mg base 31 f fd ["way", "text"] vV "_law_told"
abbrev Kb(P w K mg base f fd):=Cd P w K mg base 5 f fd ["way", "text"] vU "_law_text_due"
abbrev wl(P w K mg base cl f fd):=CdX P w K mg base cl 2 f fd ["text"] vn "read_number"
abbrev yM(P w K mg base cl f fd):=CdX P w K mg base cl 3 f fd ["text"] vO "read_pair"
abbrev P9(P w K mg base cl f fd):=CdX P w K mg base cl 5 f fd ["text"] xW "read_letter"
abbrev Pi(P w K mg base cl f fd):=CdX P w K mg base cl 6 f fd ["text"] xR "read_wish"
abbrev JS(P w K mg base cl f fd):=CdX P w K mg base cl 30 f fd ["text"] zq "read_web"
section
variable{P:v_}{w:F_}{K:PySem.W.Frag}
theorem Iy:FnScope ["thing"] ["thing"] (defScope B4):=⟨rfl,rfl,rfl,by decide +kernel,rfl,by decide +kernel,by decide +kernel⟩
theorem MX{f:g_}(F:Fun K "is_whole" "is_whole" B4 f fd)(ae:mg "isinstance"=none)(aS:mg "bool"=none)(aI:mg "int"=none):FnOk P w K mg base CX0 2 f fd ["thing"] (spD K uZ):=
 tM (k:=1) (N:=["thing"]) F Iy GK (λaA A outer s H E B hr=>tK
  (rT (tv (tE (uz (xN rfl ae rfl aI (en 0)) (uP (yj (wI rfl ae rfl aS (en 0)))))))))
theorem O5:FnScope ["thing"] ["thing"] (defScope AR):=⟨rfl,rfl,rfl,by decide +kernel,rfl,by decide +kernel,by decide +kernel⟩
theorem MD{f:g_}(F:Fun K "is_figure" "is_figure" AR f fd){dF' cY'}(cj:Bv P w K mg base dF' cY')(dL:mg "LEAST"=some (.int 0 dJ))(ey:mg "MOST"=some (.int 9 eu)):FnOk P w K mg base CX0 3 f fd ["thing"] (spD K we):=
 tM (k:=2) (N:=["thing"]) F O5 Bx (λaA A outer s H E B hr=>tK
  (rT (tv (tE (uz (tF cj.G (hr.mono (by decide)) rfl cj.m cj.p cj.b (fI (en 0) f' rfl)) (uP (EA (ed_c (v:=.int 0) (u7 rfl dL ⟨_,rfl⟩) (λ_=>Is.int _)) (en 0) (ed_c (v:=.int 9) (u7 rfl ey ⟨_,rfl⟩) (λ_=>Is.int _)))))))))
theorem HV:FnScope ["thing"] ["thing"] (defScope Bw):=⟨rfl,rfl,rfl,by decide +kernel,rfl,by decide +kernel,by decide +kernel⟩
theorem JE{f:g_}(F:Fun K "is_pair" "is_pair" Bw f fd){fW' fk'}(c6:DM P w K mg base fW' fk')(aq:mg "len"=none)(ae:mg "isinstance"=none)(ah:mg "tuple"=none):FnOk P w K mg base CX0 4 f fd ["thing"] (spD K zK):=
 tM (k:=3) (N:=["thing"]) F HV BH (λaA A outer s H E B hr=>tK
  (r9 (tQ (TW.td (ut (uf (ud (vb rfl ae rfl ah (en 0)))) (uN (uM hr (uG rfl aq (fI (en 0) f' rfl)) gV))))
  (rT (tv (tE uJ))) tV)
  (rT (tv (tE (uz (tF c6.G (hr.mono (by decide)) rfl c6.m c6.p c6.b (fI (tP (en 0) gV) f' rfl)) (uz (tF c6.G (hr.mono (by decide)) rfl c6.m c6.p c6.b (fI (tP (en 0) gV) f' rfl)) (uP (Iu (tP (en 0) gV) (tP (en 0) gV))))))))))
theorem P3:FnScope ["thing"] ["thing"] (defScope CQ):=⟨rfl,rfl,rfl,by decide +kernel,rfl,by decide +kernel,by decide +kernel⟩
theorem IT{f:g_}(F:Fun K "has_fields" "has_fields" CQ f fd)(aq:mg "len"=none)(ae:mg "isinstance"=none)(ah:mg "tuple"=none)(bL:mg "MOST_FIELDS"=some (.int 3 bK)):FnOk P w K mg base CX0 2 f fd ["thing"] (spD K wM):=
 tM (k:=1) (N:=["thing"]) F P3 CI (λaA A outer s H E B hr=>tK
  (rT (tv (tE (uz (vb rfl ae rfl ah (en 0)) (uP (EA gV (uG rfl aq (fI (en 0) f' rfl)) (ed_c (v:=.int 3) (u7 rfl bL ⟨_,rfl⟩) (λ_=>Is.int _)))))))))
theorem Qv:FnScope ["thing"] ["thing"] (defScope zZ):=⟨rfl,rfl,rfl,by decide +kernel,rfl,by decide +kernel,by decide +kernel⟩
theorem NP{f:g_}(F:Fun K "is_letter" "is_letter" zZ f fd){fW' fk'}(c6:DM P w K mg base fW' fk'){fl' eu'}(eA:DC P w K mg base fl' eu')(aV:mg "all"=none):FnOk P w K mg base CX0 4 f fd ["thing"] (spD K wz):=
 tM (k:=3) (N:=["thing"]) F Qv Cg (λaA A outer s H E B hr=>tK
  (rT (tv (tE (uz (tF eA.G (hr.mono (by decide)) rfl eA.m eA.p eA.b (fI (en 0) f' rfl)) (uP (xi rfl rfl aV (fI (tx (ua (N':=["number", "-thing"]) (m:=1) (CompScope.of (by kernel_rfl)) rfl (t4 (en 0)) (λ_ _ _ _=>(gd_n (i:=0) (m:=1) nk)) (λ_ _ _ _=>t7) (λ_ _ _ _=>(tF c6.G (hr.mono (by decide)) rfl c6.m c6.p c6.b (fI (en 0) f' rfl))))) f' rfl))))))))
theorem JZ:FnScope ["thing"] ["thing"] (defScope AB):=⟨rfl,rfl,rfl,by decide +kernel,rfl,by decide +kernel,by decide +kernel⟩
theorem MQ{f:g_}(F:Fun K "is_wish" "is_wish" AB f fd){sC' qA'}(iS:Pk P w K mg base sC' qA'){fl' eu'}(eA:DC P w K mg base fl' eu')(aV:mg "all"=none):FnOk P w K mg base CX0 5 f fd ["thing"] (spD K wa):=
 tM (k:=4) (N:=["thing"]) F JZ zV (λaA A outer s H E B hr=>tK
  (rT (tv (tE (uz (tF eA.G (hr.mono (by decide)) rfl eA.m eA.p eA.b (fI (en 0) f' rfl)) (uP (xi rfl rfl aV (fI (tx (ua (N':=["pair", "-thing"]) (m:=1) (CompScope.of (by kernel_rfl)) rfl (t4 (en 0)) (λ_ _ _ _=>(gd_n (i:=0) (m:=1) nk)) (λ_ _ _ _=>t7) (λ_ _ _ _=>(tF iS.G (hr.mono (by decide)) rfl iS.m iS.p iS.b (fI (en 0) f' rfl))))) f' rfl))))))))
theorem Om:FnScope ["thing", "many", "roads"] ["thing"] (defScope Bk):=⟨rfl,rfl,rfl,by decide +kernel,rfl,by decide +kernel,by decide +kernel⟩
theorem Qt{f:g_}(F:Fun K "is_web" "is_web" Bk f fd){dF' cY'}(cj:Bv P w K mg base dF' cY'){sD' qB'}(iU:Nj P w K mg base sD' qB'){qC' ow'}(iV:Mz P w K mg base qC' ow')(aq:mg "len"=none)(ae:mg "isinstance"=none)(ah:mg "tuple"=none)(aV:mg "all"=none)(aO:mg "sorted"=none)(c7:mg "set"=none)(aM:mg "list"=none)(bN:mg "MOST_HOUSES"=some (.int 8 bM)):FnOk P w K mg base CX0 29 f fd ["thing"] (spD K vK):=
 tM (k:=28) (N:=["thing", "many", "roads"]) F Om zw (λaA A outer s H E B hr=>tK
  (r9 (tQ (TW.td (ut (uf (ud (vb rfl ae rfl ah (en 0)))) (uN (uM hr (uG rfl aq (fI (en 0) f' rfl)) gV))))
  (rT (tv (tE uJ))) tV)
  (r9 (tH (i:=1) nk (tP (en 0) gV))
  (r9 (tH (i:=2) nk (tP (en 0) gV))
  (r9 (tQ (TW.td (ut (uf (ud (tF cj.G (hr.mono (by decide)) rfl cj.m cj.p cj.b (fI (en 1) f' rfl)))) (ut (uf (yk gV (en 1) (ed_c (v:=.int 8) (u7 rfl bN ⟨_,rfl⟩) (λ_=>Is.int _)))) (uN (uf (ud (vb rfl ae rfl ah (en 2))))))))
  (rT (tv (tE uJ))) tV)
  (r9 (tQ (uf (ud (xi rfl rfl aV (fI (tx (ua (N':=["road", "-thing", "many", "-roads"]) (m:=1) (CompScope.of (by kernel_rfl)) rfl (t4 (en 2)) (λ_ _ _ _=>(gd_n (i:=0) (m:=1) nk)) (λ_ _ _ _=>t7) (λ_ _ _ _=>(tF iU.G (hr.mono (by decide)) rfl iU.m iU.p iU.b (fI (en 2) (fI (en 0) f' rfl) rfl))))) f' rfl))))
  (rT (tv (tE uJ))) tV)
  (rT (tv (tE (uz (vH hr (tx (xY rfl aM (fI (en 2) f' rfl))) (tx (G9 hr rfl aO rfl c7 (fI (en 2) f' rfl)))) (uP (yj (tF iV.G (hr.mono (by decide)) rfl iV.m iV.p iV.b (fI (en 1) (fI (en 2) f' rfl) rfl))))))))))))))
theorem Nu:FnScope ["many", "thing"] ["many", "thing"] (defScope CA):=⟨rfl,rfl,rfl,by decide +kernel,rfl,by decide +kernel,by decide +kernel⟩
theorem Lb{f:g_}(F:Fun K "is_road" "is_road" CA f fd){dF' cY'}(cj:Bv P w K mg base dF' cY')(aq:mg "len"=none)(ae:mg "isinstance"=none)(ah:mg "tuple"=none):FnOk P w K mg base CX0 3 f fd ["many", "thing"] (spD K xf):=
 tM (k:=2) (N:=["many", "thing"]) F Nu xK (λaA A outer s H E B hr=>tK
  (r9 (tQ (TW.td (ut (uf (ud (vb rfl ae rfl ah (en 1)))) (uN (uM hr (uG rfl aq (fI (en 1) f' rfl)) gV))))
  (rT (tv (tE uJ))) tV)
  (rT (tv (tE (uz (tF cj.G (hr.mono (by decide)) rfl cj.m cj.p cj.b (fI (tP (en 1) gV) f' rfl)) (uz (tF cj.G (hr.mono (by decide)) rfl cj.m cj.p cj.b (fI (tP (en 1) gV) f' rfl)) (uP (Kj gV (tP (en 1) gV) (tP (en 1) gV) (en 0))))))))))
theorem P0:FnScope ["many", "roads", "k", "road"] ["many", "roads"] (defScope Bu):=⟨rfl,rfl,rfl,by decide +kernel,rfl,by decide +kernel,by decide +kernel⟩
theorem OE{f:g_}(F:Fun K "has_ring" "has_ring" Bu f fd){lY' k5'}(eW:Km P w K mg base lY' k5')(aY:mg "enumerate"=none):FnOk P w K mg base CX0 28 f fd ["many", "roads"] (spD K yq):=
 tM (k:=27) (N:=["many", "roads", "k", "road"]) F P0 Cm (λaA A outer s H E B hr=>tK
  (r9 (uO WL rfl (Fh rfl aY (fI (en 1) f' rfl)) (vj (m:=100) rfl (uA (gd_n (i:=2) (m:=100) nk) (uA (gd_n (i:=3) (m:=100) nk) vp)))
  (rT (tQ (Gv (Dc (tx (xn eW.G (hr.mono (by decide)) rfl eW.m eW.p eW.b (fI (uB (fI (en 0) (fI (uL (en 1) uE (uy (en 2))) f' rfl) rfl)) (fI (tP (en 3) gV) (fI (tP (en 3) gV) f' rfl) rfl) rfl))) (tF eW.G (hr.mono (by decide)) rfl eW.m eW.p eW.b (fI (uB (fI (en 0) (fI (uL (en 1) uE (uy (en 2))) f' rfl) rfl)) (fI (tP (en 3) gV) (fI (tP (en 3) gV) f' rfl) rfl) rfl))) uD)
  (rT (tv (tE uJ))) tV)))
  (rT (tv (tE uJ)))))
theorem Oz:FnScope ["web", "house"] ["web", "house"] (defScope Al):=⟨rfl,rfl,rfl,by decide +kernel,rfl,by decide +kernel,by decide +kernel⟩
theorem LH{f:g_}(F:Fun K "must_be_house" "must_be_house" Al f fd) :FnOk P w K mg base CX0 2 f fd ["web", "house"] (spD K wj):=
 tM (k:=1) (N:=["web", "house"]) F Oz Bs (λaA A outer s H E B hr=>tK
  (rT (tQ (uf (EM gV (en 1) (tP (en 0) gV)))
  (rT (tv vQ)) tV)))
theorem Ot:FnScope ["web", "house"] ["web", "house"] (defScope By):=⟨rfl,rfl,rfl,by decide +kernel,rfl,by decide +kernel,by decide +kernel⟩
theorem Ms{f:g_}(F:Fun K "neighbours_of" "neighbours_of" By f fd){dG' dc'}(c8:Eo P w K mg base dG' dc')(aO:mg "sorted"=none):FnOk P w K mg base CX0 3 f fd ["web", "house"] (spD K yy):=
 tM (k:=2) (N:=["web", "house"]) F Ot zY (λaA A outer s H E B hr=>tK
  (r9 (tv (Ch (tF c8.G (hr.mono (by decide)) rfl c8.m c8.p c8.b (fI (en 0) (fI (en 1) f' rfl) rfl))))
  (rT (tv (wS (Ee hr rfl aO (fI (tx (ua (N':=["road", "-web", "house"]) (m:=1) (CompScope.of (by kernel_rfl)) rfl (t4 (tP (en 0) gV)) (λ_ _ _ _=>(gd_n (i:=0) (m:=1) nk)) (λ_ _ _ _=>(xG (Ib hr (en 2) (en 0)))) (λ_ _ _ _=>(vx (uI hr (tP (en 0) gV) (en 2)) (tP (en 0) gV) (tP (en 0) gV))))) f' rfl)))))))
theorem La:FnScope ["web", "one", "other"] ["web", "one", "other"] (defScope CF):=⟨rfl,rfl,rfl,by decide +kernel,rfl,by decide +kernel,by decide +kernel⟩
theorem IF{f:g_}(F:Fun K "way_between" "way_between" CF f fd){dG' dc'}(c8:Eo P w K mg base dG' dc'){tS' sE'}(eX:KJ P w K mg base tS' sE'):FnOk P w K mg base CX0 27 f fd ["web", "one", "other"] (spD K vI):=
 tM (k:=26) (N:=["web", "one", "other"]) F La BU (λaA A outer s H E B hr=>tK
  (r9 (tv (Ch (tF c8.G (hr.mono (by decide)) rfl c8.m c8.p c8.b (fI (en 0) (fI (en 1) f' rfl) rfl))))
  (r9 (tv (Ch (tF c8.G (hr.mono (by decide)) rfl c8.m c8.p c8.b (fI (en 0) (fI (en 2) f' rfl) rfl))))
  (rT (tv (Oj (wS (xn eX.G (hr.mono (by decide)) rfl eX.m eX.p eX.b (ww (en 0) uD (en 1) (en 2) f' rfl rfl rfl rfl))) (tE (tF eX.G (hr.mono (by decide)) rfl eX.m eX.p eX.b (ww (en 0) uD (en 1) (en 2) f' rfl rfl rfl rfl)))))))))
theorem M7:FnScope ["web", "came", "house", "other", "neighbour", "way"] ["web", "came", "house", "other"] (defScope yd):=⟨rfl,rfl,rfl,by decide +kernel,rfl,by decide +kernel,by decide +kernel⟩
theorem O2{g:List R->Option (R×List R)}(hk:4<=kk){f:g_}(F:Fun K "way_on" "way_on" yd f fd)(G:FnOk P w K mg base CX0 kk f fd ["web", "came", "house", "other"] (spD K g)){dH' dd'}(fE:Dm P w K mg base dH' dd')(il:Binds K fd ["web", "came", "house", "other"] [])(im:PySem.W.keepIn K (.ref f)=true)(io:mg "way_on"=some (.ref f)):FnOk P w K mg base CX0 (kk+1) f fd ["web", "came", "house", "other"] (spD K (fnD 6 4 (zp g))):=
 tM (N:=["web", "came", "house", "other", "neighbour", "way"]) F M7 (zp g) (λaA A outer s H E B hr=>tK
  (r9 (tQ (uI hr (en 2) (en 3))
  (rT (tv (wS (ue (fI (en 2) f' rfl))))) tV)
  (r9 (uO WL rfl (t4 (tx (xn fE.G (hr.mono (H_ (by decide) hk)) rfl fE.m fE.p fE.b (fI (en 0) (fI (en 2) f' rfl) rfl)))) (gd_n (i:=4) (m:=100) nk)
  (rT (tQ (uM hr (en 4) (en 1))
  (r9 (tH (i:=5) nk (Dc (tx (xn G hr rfl io im il (ww (en 0) (en 2) (en 4) (en 3) f' rfl rfl rfl rfl))) (tF G hr rfl io im il (ww (en 0) (en 2) (en 4) (en 3) f' rfl rfl rfl rfl))))
  (rT (tQ (Gv (en 5) uD)
  (rT (tv (wS (u0 (tx (ue (fI (en 2) f' rfl))) (en 5))))) tV))) tV)))
  (rT (tv (tE uD))))))
theorem Hv{f:g_}{fd:U8}(F:Fun K "way_on" "way_on" yd f fd){dH' dd'}(fE:Dm P w K mg base dH' dd')(il:Binds K fd ["web", "came", "house", "other"] [])(im:PySem.W.keepIn K (.ref f)=true)(io:mg "way_on"=some (.ref f)):∀n:Nat,FnOk P w K mg base CX0 (5+n) f fd ["web", "came", "house", "other"] (spD K (vC n))
 | 0=>xB
 | n+1=>O2 (H_ (by decide) (Vr _ n)) F (Hv F fE il im io n) fE il im io
theorem FG:FnScope ["text", "letter"] ["text"] (defScope zo):=⟨rfl,rfl,rfl,by decide +kernel,rfl,by decide +kernel,by decide +kernel⟩
theorem QG{f:g_}(F:Fun K "read_letter" "read_letter" zo f fd){a4' aX'}(aW:wH P w K mg base a4' aX'){fX' fp'}(eB:GM P w K mg base fX' fp'){fx_read_number fdx_read_number}(aJ:wl P w K mg base (clN K) fx_read_number fdx_read_number)(EX:Exs K mg)(ah:mg "tuple"=none):FnOk P w K mg base CX0 5 f fd ["text"] (spD K xQ):=
 tM (k:=4) (N:=["text", "letter"]) F FG AK (λaA A outer s H E B hr=>tK
  (r9 (tH (i:=1) nk (uF rfl ah (fI (tx (ua (N':=["word", "-text", "-letter"]) (m:=1) (CompScope.of (by kernel_rfl)) rfl (t4 (tx (uH (en 0) (fI tU f' rfl)))) (λ_ _ _ _=>(gd_n (i:=0) (m:=1) nk)) (λ_ _ _ _=>t7) (λ_ _ _ _=>(tF aW.G (hr.mono (by decide)) rfl aW.m aW.p aW.b (fI (en 0) f' rfl))))) f' rfl)))
  (r9 (tQ (uf (ud (tF eB.G (hr.mono (by decide)) rfl eB.m eB.p eB.b (fI (en 1) f' rfl))))
  (rT (tv vQ)) tV)
  (rT (tv (tE (en 1)))))))
theorem QN{f:g_}(F:Fun K "read_letter" "read_letter" zo f fd){a4' aX'}(aW:wH P w K mg base a4' aX'){fX' fp'}(eB:GM P w K mg base fX' fp'){fx_read_number fdx_read_number}(aJ:wl P w K mg base (clN K) fx_read_number fdx_read_number)(EX:Exs K mg)(ah:mg "tuple"=none):FnOk P w K mg base (CXX P w) 5 f fd ["text"] (spE K (clN K) xW):=
 wR (k:=4) (N:=["text", "letter"]) F FG zA (λaA A outer s H E B hr=>wb
  (yO (tH (i:=1) nk (uF rfl ah (fI (tx (ua (N':=["word", "-text", "-letter"]) (m:=1) (CompScope.of (by kernel_rfl)) rfl (t4 (tx (uH (en 0) (fI tU f' rfl)))) (λ_ _ _ _=>(gd_n (i:=0) (m:=1) nk)) (λ_ _ _ _=>t7) (λ_ _ _ _=>(tF aW.G (hr.mono (by decide)) rfl aW.m aW.p aW.b (fI (en 0) f' rfl))))) f' rfl))) (uW (wo (i:=1) nk (yF rfl ah rfl (xI (zJ (N':=["word", "-text", "-letter"]) (m:=1) (CompScope.of (by kernel_rfl)) rfl rfl rfl (t4 (tx (uH (en 0) (fI tU f' rfl)))) (λ_ _ _ _=>(gd_n (i:=0) (m:=1) nk)) (λ_ _ _ _=>t7) (λ_ _ _ _ _=>(tF aW.G (hr.mono (by decide)) rfl aW.m aW.p aW.b (fI (en 0) f' rfl))) (λ_ _ _ _ _=>(cqX aJ hr (fI (en 0) f' rfl)))) rfl))))
  (xV (vW (uf (ud (tF eB.G (hr.mono (by decide)) rfl eB.m eB.p eB.b (fI (en 1) f' rfl))))
  (u3 (uW (wX rfl rfl (EX.m "NoText" (by decide)) (EX.xc "NoText" (by decide)) (fI tU f' rfl)))) xl))))
theorem Gf:FnScope ["text", "wish"] ["text"] (defScope ym):=⟨rfl,rfl,rfl,by decide +kernel,rfl,by decide +kernel,by decide +kernel⟩
theorem Iz{f:g_}(F:Fun K "read_wish" "read_wish" ym f fd){bV' bI'}(bw:yY P w K mg base bV' bI'){h9' gU'}(eC:F6 P w K mg base h9' gU'){fx_read_pair fdx_read_pair}(bp:yM P w K mg base (clN K) fx_read_pair fdx_read_pair)(EX:Exs K mg)(ah:mg "tuple"=none):FnOk P w K mg base CX0 6 f fd ["text"] (spD K zd):=
 tM (k:=5) (N:=["text", "wish"]) F Gf zT (λaA A outer s H E B hr=>tK
  (r9 (tH (i:=1) nk (uF rfl ah (fI (tx (ua (N':=["word", "-text", "-wish"]) (m:=1) (CompScope.of (by kernel_rfl)) rfl (t4 (tx (uH (en 0) (fI tU f' rfl)))) (λ_ _ _ _=>(gd_n (i:=0) (m:=1) nk)) (λ_ _ _ _=>t7) (λ_ _ _ _=>(tF bw.G (hr.mono (by decide)) rfl bw.m bw.p bw.b (fI (en 0) f' rfl))))) f' rfl)))
  (r9 (tQ (uf (ud (tF eC.G (hr.mono (by decide)) rfl eC.m eC.p eC.b (fI (en 1) f' rfl))))
  (rT (tv vQ)) tV)
  (rT (tv (tE (en 1)))))))
theorem Lc{f:g_}(F:Fun K "read_wish" "read_wish" ym f fd){bV' bI'}(bw:yY P w K mg base bV' bI'){h9' gU'}(eC:F6 P w K mg base h9' gU'){fx_read_pair fdx_read_pair}(bp:yM P w K mg base (clN K) fx_read_pair fdx_read_pair)(EX:Exs K mg)(ah:mg "tuple"=none):FnOk P w K mg base (CXX P w) 6 f fd ["text"] (spE K (clN K) xR):=
 wR (k:=5) (N:=["text", "wish"]) F Gf y3 (λaA A outer s H E B hr=>wb
  (yO (tH (i:=1) nk (uF rfl ah (fI (tx (ua (N':=["word", "-text", "-wish"]) (m:=1) (CompScope.of (by kernel_rfl)) rfl (t4 (tx (uH (en 0) (fI tU f' rfl)))) (λ_ _ _ _=>(gd_n (i:=0) (m:=1) nk)) (λ_ _ _ _=>t7) (λ_ _ _ _=>(tF bw.G (hr.mono (by decide)) rfl bw.m bw.p bw.b (fI (en 0) f' rfl))))) f' rfl))) (uW (wo (i:=1) nk (yF rfl ah rfl (xI (zJ (N':=["word", "-text", "-wish"]) (m:=1) (CompScope.of (by kernel_rfl)) rfl rfl rfl (t4 (tx (uH (en 0) (fI tU f' rfl)))) (λ_ _ _ _=>(gd_n (i:=0) (m:=1) nk)) (λ_ _ _ _=>t7) (λ_ _ _ _ _=>(tF bw.G (hr.mono (by decide)) rfl bw.m bw.p bw.b (fI (en 0) f' rfl))) (λ_ _ _ _ _=>(cqX bp hr (fI (en 0) f' rfl)))) rfl))))
  (xV (vW (uf (ud (tF eC.G (hr.mono (by decide)) rfl eC.m eC.p eC.b (fI (en 1) f' rfl))))
  (u3 (uW (wX rfl rfl (EX.m "NoText" (by decide)) (EX.xc "NoText" (by decide)) (fI tU f' rfl)))) xl))))
theorem DS:FnScope ["text", "words", "web"] ["text"] (defScope zH):=⟨rfl,rfl,rfl,by decide +kernel,rfl,by decide +kernel,by decide +kernel⟩
theorem Mu{f:g_}(F:Fun K "read_web" "read_web" zH f fd){a4' aX'}(aW:wH P w K mg base a4' aX'){bV' bI'}(bw:yY P w K mg base bV' bI'){ju' ia'}(eD:G' P w K mg base ju' ia'){fx_read_pair fdx_read_pair}(bp:yM P w K mg base (clN K) fx_read_pair fdx_read_pair){fx_read_number fdx_read_number}(aJ:wl P w K mg base (clN K) fx_read_number fdx_read_number)(EX:Exs K mg)(ah:mg "tuple"=none):FnOk P w K mg base CX0 30 f fd ["text"] (spD K yu):=
 tM (k:=29) (N:=["text", "words", "web"]) F DS AZ (λaA A outer s H E B hr=>tK
  (r9 (tH (i:=1) nk (tx (uH (en 0) (fI tU f' rfl))))
  (r9 (tH (i:=2) nk (uB (fI (tF aW.G (hr.mono (by decide)) rfl aW.m aW.p aW.b (fI (tP (en 1) gV) f' rfl)) (fI (uF rfl ah (fI (tx (ua (N':=["word", "-text", "-words", "-web"]) (m:=1) (CompScope.of (by kernel_rfl)) rfl (t4 (uL (en 1) (uy gV) uE)) (λ_ _ _ _=>(gd_n (i:=0) (m:=1) nk)) (λ_ _ _ _=>t7) (λ_ _ _ _=>(tF bw.G (hr.mono (by decide)) rfl bw.m bw.p bw.b (fI (en 0) f' rfl))))) f' rfl)) f' rfl) rfl)))
  (r9 (tQ (uf (ud (tF eD.G (hr.mono (by decide)) rfl eD.m eD.p eD.b (fI (en 2) f' rfl))))
  (rT (tv vQ)) tV)
  (rT (tv (tE (en 2))))))))
theorem OT{f:g_}(F:Fun K "read_web" "read_web" zH f fd){a4' aX'}(aW:wH P w K mg base a4' aX'){bV' bI'}(bw:yY P w K mg base bV' bI'){ju' ia'}(eD:G' P w K mg base ju' ia'){fx_read_pair fdx_read_pair}(bp:yM P w K mg base (clN K) fx_read_pair fdx_read_pair){fx_read_number fdx_read_number}(aJ:wl P w K mg base (clN K) fx_read_number fdx_read_number)(EX:Exs K mg)(ah:mg "tuple"=none):FnOk P w K mg base (CXX P w) 30 f fd ["text"] (spE K (clN K) zq):=
 wR (k:=29) (N:=["text", "words", "web"]) F DS xL (λaA A outer s H E B hr=>wb
  (Ph (tH (i:=1) nk (tx (uH (en 0) (fI tU f' rfl))))
  (yO (tH (i:=2) nk (uB (fI (tF aW.G (hr.mono (by decide)) rfl aW.m aW.p aW.b (fI (tP (en 1) gV) f' rfl)) (fI (uF rfl ah (fI (tx (ua (N':=["word", "-text", "-words", "-web"]) (m:=1) (CompScope.of (by kernel_rfl)) rfl (t4 (uL (en 1) (uy gV) uE)) (λ_ _ _ _=>(gd_n (i:=0) (m:=1) nk)) (λ_ _ _ _=>t7) (λ_ _ _ _=>(tF bw.G (hr.mono (by decide)) rfl bw.m bw.p bw.b (fI (en 0) f' rfl))))) f' rfl)) f' rfl) rfl))) (uW (wo (i:=2) nk (Py (MY (tF aW.G (hr.mono (by decide)) rfl aW.m aW.p aW.b (fI (tP (en 1) gV) f' rfl)) (cqX aJ hr (fI (tP (en 1) gV) f' rfl)) (xI (yF rfl ah rfl (xI (zJ (N':=["word", "-text", "-words", "-web"]) (m:=1) (CompScope.of (by kernel_rfl)) rfl rfl rfl (t4 (uL (en 1) (uy gV) uE)) (λ_ _ _ _=>(gd_n (i:=0) (m:=1) nk)) (λ_ _ _ _=>t7) (λ_ _ _ _ _=>(tF bw.G (hr.mono (by decide)) rfl bw.m bw.p bw.b (fI (en 0) f' rfl))) (λ_ _ _ _ _=>(cqX bp hr (fI (en 0) f' rfl)))) rfl)) rfl) rfl))))
  (xV (vW (uf (ud (tF eD.G (hr.mono (by decide)) rfl eD.m eD.p eD.b (fI (en 2) f' rfl))))
  (u3 (uW (wX rfl rfl (EX.m "NoText" (by decide)) (EX.xc "NoText" (by decide)) (fI tU f' rfl)))) xl)))))
theorem Gc:FnScope ["text"] ["text"] (defScope zF):=⟨rfl,rfl,rfl,by decide +kernel,rfl,by decide +kernel,by decide +kernel⟩
theorem Qk{f:g_}(F:Fun K "read_pair" "read_pair" zF f fd){a4' aX'}(aW:wH P w K mg base a4' aX'){fx_read_number fdx_read_number}(aJ:wl P w K mg base (clN K) fx_read_number fdx_read_number)(ah:mg "tuple"=none):FnOk P w K mg base CX0 3 f fd ["text"] (spD K uK):=
 tM (k:=2) (N:=["text"]) F Gc Ci (λaA A outer s H E B hr=>tK
  (rT (tv (tE (uF rfl ah (fI (tx (ua (N':=["word", "-text"]) (m:=1) (CompScope.of (by kernel_rfl)) rfl (t4 (tx (uH (en 0) (fI tU f' rfl)))) (λ_ _ _ _=>(gd_n (i:=0) (m:=1) nk)) (λ_ _ _ _=>t7) (λ_ _ _ _=>(tF aW.G (hr.mono (by decide)) rfl aW.m aW.p aW.b (fI (en 0) f' rfl))))) f' rfl))))))
theorem ME{f:g_}(F:Fun K "read_pair" "read_pair" zF f fd){a4' aX'}(aW:wH P w K mg base a4' aX'){fx_read_number fdx_read_number}(aJ:wl P w K mg base (clN K) fx_read_number fdx_read_number)(ah:mg "tuple"=none):FnOk P w K mg base (CXX P w) 3 f fd ["text"] (spE K (clN K) vO):=
 wR (k:=2) (N:=["text"]) F Gc xT (λaA A outer s H E B hr=>wb
  (u3 (uW (Jz (yF rfl ah rfl (xI (zJ (N':=["word", "-text"]) (m:=1) (CompScope.of (by kernel_rfl)) rfl rfl rfl (t4 (tx (uH (en 0) (fI tU f' rfl)))) (λ_ _ _ _=>(gd_n (i:=0) (m:=1) nk)) (λ_ _ _ _=>t7) (λ_ _ _ _ _=>(tF aW.G (hr.mono (by decide)) rfl aW.m aW.p aW.b (fI (en 0) f' rfl))) (λ_ _ _ _ _=>(cqX aJ hr (fI (en 0) f' rfl)))) rfl))))))
theorem EV:FnScope ["text"] ["text"] (defScope zu):=⟨rfl,rfl,rfl,by decide +kernel,rfl,by decide +kernel,by decide +kernel⟩
theorem L7{f:g_}(F:Fun K "read_number" "read_number" zu f fd)(EX:Exs K mg)(cN:mg "any"=none)(aq:mg "len"=none)(aI:mg "int"=none)(bi:mg "FIGURES"=some (.str "0123456789" bO))(aK:mg "MOST_FIGURES"=some (.int 4 aU)):FnOk P w K mg base CX0 2 f fd ["text"] (spD K uC):=
 tM (k:=1) (N:=["text"]) F EV Gd (λaA A outer s H E B hr=>tK
  (r9 (tQ (TW.td (ut (uf (yk gV (wW rfl aq (fI (en 0) f' rfl)) (ed_c (v:=.int 4) (u7 rfl aK ⟨_,rfl⟩) (λ_=>Is.int _)))) (uN (ud (Cn rfl rfl cN (fI (tx (ua (N':=["sign", "-text"]) (m:=1) (CompScope.of (by kernel_rfl)) rfl (yP (en 0)) (λ_ _ _ _=>(gd_n (i:=0) (m:=1) nk)) (λ_ _ _ _=>t7) (λ_ _ _ _=>(BI (en 0) (ed_c (v:=.str "0123456789") (u7 rfl bi ⟨_,rfl⟩) (λ_=>Is.str _)))))) f' rfl))))))
  (rT (tv vQ)) tV)
  (r9 (tQ (TW.td (xM (uI hr (CY (en 0) gV) tU) (yn (uM hr (en 0) tU))))
  (rT (tv vQ)) tV)
  (rT (tv (tE (Ab rfl aI (fI (en 0) f' rfl))))))))
theorem MK{f:g_}(F:Fun K "read_number" "read_number" zu f fd)(EX:Exs K mg)(cN:mg "any"=none)(aq:mg "len"=none)(aI:mg "int"=none)(bi:mg "FIGURES"=some (.str "0123456789" bO))(aK:mg "MOST_FIGURES"=some (.int 4 aU)):FnOk P w K mg base (CXX P w) 2 f fd ["text"] (spE K (clN K) vn):=
 wR (k:=1) (N:=["text"]) F EV Dx (λaA A outer s H E B hr=>wb
  (yO (tQ (TW.td (ut (uf (yk gV (wW rfl aq (fI (en 0) f' rfl)) (ed_c (v:=.int 4) (u7 rfl aK ⟨_,rfl⟩) (λ_=>Is.int _)))) (uN (ud (Cn rfl rfl cN (fI (tx (ua (N':=["sign", "-text"]) (m:=1) (CompScope.of (by kernel_rfl)) rfl (yP (en 0)) (λ_ _ _ _=>(gd_n (i:=0) (m:=1) nk)) (λ_ _ _ _=>t7) (λ_ _ _ _=>(BI (en 0) (ed_c (v:=.str "0123456789") (u7 rfl bi ⟨_,rfl⟩) (λ_=>Is.str _)))))) f' rfl))))))
  (rT (tv vQ)) tV) (vW (TW.td (ut (uf (yk gV (wW rfl aq (fI (en 0) f' rfl)) (ed_c (v:=.int 4) (u7 rfl aK ⟨_,rfl⟩) (λ_=>Is.int _)))) (uN (ud (Cn rfl rfl cN (fI (tx (ua (N':=["sign", "-text"]) (m:=1) (CompScope.of (by kernel_rfl)) rfl (yP (en 0)) (λ_ _ _ _=>(gd_n (i:=0) (m:=1) nk)) (λ_ _ _ _=>t7) (λ_ _ _ _=>(BI (en 0) (ed_c (v:=.str "0123456789") (u7 rfl bi ⟨_,rfl⟩) (λ_=>Is.str _)))))) f' rfl))))))
  (u3 (uW (wX rfl rfl (EX.m "NoText" (by decide)) (EX.xc "NoText" (by decide)) (fI tU f' rfl)))) xl)
  (xV (vW (TW.td (xM (uI hr (CY (en 0) gV) tU) (yn (uM hr (en 0) tU))))
  (u3 (uW (wX rfl rfl (EX.m "NoText" (by decide)) (EX.xc "NoText" (by decide)) (fI tU f' rfl)))) xl))))
theorem JO:FnScope ["cell", "at", "one", "two", "three"] ["cell", "at"] (defScope Cr):=⟨rfl,rfl,rfl,by decide +kernel,rfl,by decide +kernel,by decide +kernel⟩
theorem Mn{f:g_}(F:Fun K "_law_blend" "_law_blend" Cr f fd) :FnOk P w K mg base CX0 2 f fd ["cell", "at"] (spD K xw):=
 tM (k:=1) (N:=["cell", "at", "one", "two", "three"]) F JO AT (λaA A outer s H E B hr=>tK
  (r9 (tQ (AH (en 0) (A5 gV gV))
  (rT (tv (tE (en 0)))) tV)
  (r9 (tH (i:=2) nk (va (t9 (t9 (u8 (va (en 0) gV) gV) (u8 (en 1) gV)) gV) gV))
  (r9 (tH (i:=3) nk (va (t9 (t9 (u8 (en 2) (en 2)) (u8 (en 1) gV)) (va (en 0) gV)) gV))
  (r9 (tH (i:=4) nk (va (t9 (t9 (u8 (en 3) (en 3)) (u8 (en 2) gV)) gV) gV))
  (rT (tv (tE (t9 (u8 (t9 (u8 (en 2) gV) (en 3)) gV) (en 4))))))))))
theorem HH:FnScope ["script", "cells", "k", "cell"] ["script"] (defScope BZ):=⟨rfl,rfl,rfl,by decide +kernel,rfl,by decide +kernel,by decide +kernel⟩
theorem NF{f:g_}(F:Fun K "_law_pot" "_law_pot" BZ f fd)(aM:mg "list"=none)(aY:mg "enumerate"=none):FnOk P w K mg base CX0 2 f fd ["script"] (spD K wZ):=
 tM (k:=1) (N:=["script", "cells", "k", "cell"]) F HH AW (λaA A outer s H E B hr=>tK
  (r9 (uS (i:=1) nk (xY rfl aM (fI (uL (en 0) uE (uy gV)) f' rfl)))
  (r9 (uO WL rfl (Fh rfl aY (fI (uL (en 0) (uy gV) (uy gV)) f' rfl)) (vj (m:=100) rfl (uA (gd_n (i:=2) (m:=100) nk) (uA (gd_n (i:=3) (m:=100) nk) vp)))
  (rT (tv (yf (pv 1) (va (en 2) gV) (t9 (vd (pv 1) (va (en 2) gV)) (en 3))))))
  (rT (tv (wS (ue (fI (en 1) (fI gV (fI gV f' rfl) rfl) rfl))))))))
theorem MG:FnScope ["pot", "many", "at", "cell", "found"] ["pot", "many"] (defScope A6):=⟨rfl,rfl,rfl,by decide +kernel,rfl,by decide +kernel,by decide +kernel⟩
theorem Mg{f:g_}(F:Fun K "_law_pick" "_law_pick" A6 f fd){ox' nP'}(iW:ML P w K mg base ox' nP')(aq:mg "len"=none):FnOk P w K mg base CX0 3 f fd ["pot", "many"] (spD K um):=
 tM (k:=2) (N:=["pot", "many", "at", "cell", "found"]) F MG B3 (λaA A outer s H E B hr=>tK
  (r9 (tQ (vY (vd (pv 0) gV) (en 1))
  (r9 (tH (i:=2) nk (vd (pv 0) gV))
  (r9 (tH (i:=3) nk (u8 gV (en 2)))
  (r9 (tQ (vY (en 2) (uG rfl aq (fI (vd (pv 0) gV) f' rfl)))
  (rT (tH (i:=3) nk (tP (vd (pv 0) gV) (en 2)))) (rT (tQ (uM hr (vd (pv 0) gV) (tx (ue f')))
  (rT (tH (i:=3) nk (va (tP (vd (pv 0) gV) (va (t9 (u8 (en 2) gV) gV) (uG rfl aq (fI (vd (pv 0) gV) f' rfl)))) (t9 (A5 gV gV) (u8 gV (en 2)))))) tV)))
  (r9 (tv (yf (pv 0) gV (t9 (en 2) gV)))
  (rT (tv (yf (pv 0) gV (tF iW.G (hr.mono (by decide)) rfl iW.m iW.p iW.b (fI (en 3) (fI (en 2) f' rfl) rfl))))))))) tV)
  (r9 (tH (i:=4) nk (va (vd (pv 0) gV) (en 1)))
  (r9 (tv (yf (pv 0) gV (JP (vd (pv 0) gV) (en 1))))
  (rT (tv (tE (en 4))))))))
theorem LX:FnScope ["found", "due"] ["found", "due"] (defScope yw):=⟨rfl,rfl,rfl,by decide +kernel,rfl,by decide +kernel,by decide +kernel⟩
theorem NS{g:List R->Option (R×List R)}(hk:2<=kk){f:g_}(F:Fun K "_law_same" "_law_same" yw f fd)(G:FnOk P w K mg base CX0 kk f fd ["found", "due"] (spD K g))(ae:mg "isinstance"=none)(aS:mg "bool"=none)(bc:mg "str"=none)(aI:mg "int"=none)(aM:mg "list"=none)(ah:mg "tuple"=none)(ce:mg "zip"=none)(aV:mg "all"=none)(aq:mg "len"=none)(iX:Binds K fd ["found", "due"] [])(iY:PySem.W.keepIn K (.ref f)=true)(iZ:mg "_law_same"=some (.ref f)):FnOk P w K mg base CX0 (kk+1) f fd ["found", "due"] (spD K (fnD 2 2 (v5 g))):=
 tM (N:=["found", "due"]) F LX (v5 g) (λaA A outer s H E B hr=>tK
  (r9 (tQ (TW.td (ut (Bm (en 1) uD) (uN (ud (wI rfl ae rfl aS (en 1))))))
  (rT (tv (tE (uz (vH hr (wI rfl ae rfl aS (en 0)) (wI rfl ae rfl aS (en 1))) (uP (vH hr (en 0) (en 1))))))) tV)
  (r9 (tQ (ud (FH rfl ae rfl bc (en 1)))
  (rT (tv (tE (uz (FH rfl ae rfl bc (en 0)) (uP (vH hr (en 0) (en 1))))))) tV)
  (r9 (tQ (ud (xN rfl ae rfl aI (en 1)))
  (rT (tv (tE (uz (xN rfl ae rfl aI (en 0)) (uz (yj (wI rfl ae rfl aS (en 0))) (uP (vH hr (en 0) (en 1)))))))) tV)
  (r9 (tQ (TW.td (ut (uM hr (vb rfl ae rfl ah (en 1)) (vb rfl ae rfl ah (en 0))) (uN (uM hr (G0 rfl ae rfl aM (en 1)) (G0 rfl ae rfl aM (en 0))))))
  (rT (tv (tE uJ))) tV)
  (rT (tv (tE (uz (vH hr (uG rfl aq (fI (en 0) f' rfl)) (uG rfl aq (fI (en 1) f' rfl))) (uP (xi rfl rfl aV (fI (tx (ua (N':=["one", "other", "-found", "-due"]) (m:=2) (CompScope.of (by kernel_rfl)) rfl (El rfl ce (fI (en 0) (fI (en 1) f' rfl) rfl)) (λ_ _ _ _=>(vj (m:=2) rfl (uA (gd_n (i:=0) (m:=2) nk) (uA (gd_n (i:=1) (m:=2) nk) vp)))) (λ_ _ _ _=>t7) (λ_ _ _ _=>(tF G hr rfl iZ iY iX (fI (en 0) (fI (en 1) f' rfl) rfl))))) f' rfl))))))))))))
theorem EE{f:g_}{fd:U8}(F:Fun K "_law_same" "_law_same" yw f fd)(ae:mg "isinstance"=none)(aS:mg "bool"=none)(bc:mg "str"=none)(aI:mg "int"=none)(aM:mg "list"=none)(ah:mg "tuple"=none)(ce:mg "zip"=none)(aV:mg "all"=none)(aq:mg "len"=none)(iX:Binds K fd ["found", "due"] [])(iY:PySem.W.keepIn K (.ref f)=true)(iZ:mg "_law_same"=some (.ref f)):∀n:Nat,FnOk P w K mg base CX0 (3+n) f fd ["found", "due"] (spD K (vw n))
 | 0=>xB
 | n+1=>NS (H_ (by decide) (Vr _ n)) F (EE F ae aS bc aI aM ah ce aV aq iX iY iZ n) ae aS bc aI aM ah ce aV aq iX iY iZ
theorem Pl:FnScope ["thing", "many"] ["thing", "many"] (defScope Cb):=⟨rfl,rfl,rfl,by decide +kernel,rfl,by decide +kernel,by decide +kernel⟩
theorem N9{f:g_}(F:Fun K "_law_whole" "_law_whole" Cb f fd)(ae:mg "isinstance"=none)(aS:mg "bool"=none)(aI:mg "int"=none):FnOk P w K mg base CX0 2 f fd ["thing", "many"] (spD K wx):=
 tM (k:=1) (N:=["thing", "many"]) F Pl Be (λaA A outer s H E B hr=>tK
  (rT (tv (tE (uz (xN rfl ae rfl aI (en 0)) (uz (yj (wI rfl ae rfl aS (en 0))) (uP (KU gV (en 0) (en 1)))))))))
theorem LW:FnScope ["caught", "kinds", "names", "found"] ["caught", "kinds", "names"] (defScope AA):=⟨rfl,rfl,rfl,by decide +kernel,rfl,by decide +kernel,by decide +kernel⟩
theorem M8{f:g_}(F:Fun K "_law_kind" "_law_kind" AA f fd)(EX:Exs K mg)(ce:mg "zip"=none)(ae:mg "isinstance"=none)(bR:mg "ValueError"=none)(aq:mg "len"=none):FnOk P w K mg base CX0 2 f fd ["caught", "kinds", "names"] (spD K Af):=
 tM (k:=1) (N:=["caught", "kinds", "names", "found"]) F LW Ex (λaA A outer s H E B hr=>tK
  (r9 (tv (BK (i:=3) (N':=["kind", "name", "-caught", "-kinds", "-names", "-found"]) (m:=2) (CompScope.of (by kernel_rfl)) rfl nk (El rfl ce (fI (en 1) (fI (en 2) f' rfl) rfl)) (λ_ _ _ _=>(vj (m:=2) rfl (uA (gd_n (i:=0) (m:=2) nk) (uA (gd_n (i:=1) (m:=2) nk) vp)))) (λ_ _ _ _=>(xG (ud (en 0)))) (λ_ _ _ _=>(en 1))))
  (r9 (tQ (TW.td (ut (uM hr (uG rfl aq (fI (en 3) f' rfl)) gV) (uN (uf (ud (Ig EX.tab rfl ae rfl bR (en 0)))))))
  (rT (tv (tE tU))) tV)
  (rT (tv (tE (tP (en 3) gV)))))))
theorem LD:FnScope ["pot", "many", "order", "k"] ["pot", "many"] (defScope B8):=⟨rfl,rfl,rfl,by decide +kernel,rfl,by decide +kernel,by decide +kernel⟩
theorem Jw{f:g_}(F:Fun K "_law_order" "_law_order" B8 f fd){bc' a7'}(aw:vL P w K mg base bc' a7')(aG:mg "range"=none):FnOk P w K mg base CX0 4 f fd ["pot", "many"] (spD K xP):=
 tM (k:=3) (N:=["pot", "many", "order", "k"]) F LD BC (λaA A outer s H E B hr=>tK
  (r9 (uS (i:=2) nk (ue f'))
  (r9 (uO WL rfl (vN rfl aG (fI (en 1) f' rfl)) (gd_n (i:=3) (m:=100) nk)
  (rT (tv (QE (pv 2) (fI (t8 aw.G (hr.mono (by decide)) rfl aw.m aw.p aw.b (pv 0) (fI (t9 (en 3) gV) f' rfl)) (fI (en 3) f' rfl) rfl)))))
  (rT (tv (tE (en 2)))))))
theorem JG:FnScope ["pot", "most", "often", "many", "order", "roads", "k", "pair"] ["pot", "most"] (defScope B0):=⟨rfl,rfl,rfl,by decide +kernel,rfl,by decide +kernel,by decide +kernel⟩
theorem Ou{f:g_}(F:Fun K "_law_web" "_law_web" B0 f fd){bc' a7'}(aw:vL P w K mg base bc' a7'){oy' nQ'}(i8:Mc P w K mg base oy' nQ')(aG:mg "range"=none)(c9:mg "min"=none)(fF:mg "max"=none)(aO:mg "sorted"=none)(ah:mg "tuple"=none):FnOk P w K mg base CX0 5 f fd ["pot", "most"] (spD K zf):=
 tM (k:=4) (N:=["pot", "most", "often", "many", "order", "roads", "k", "pair"]) F JG Co (λaA A outer s H E B hr=>tK
  (r9 (tH (i:=2) nk (t8 aw.G (hr.mono (by decide)) rfl aw.m aw.p aw.b (pv 0) (fI gV f' rfl)))
  (r9 (tH (i:=3) nk (t9 gV (t8 aw.G (hr.mono (by decide)) rfl aw.m aw.p aw.b (pv 0) (fI (en 1) f' rfl))))
  (r9 (tH (i:=4) nk (t8 i8.G (hr.mono (by decide)) rfl i8.m i8.p i8.b (pv 0) (fI (en 3) f' rfl)))
  (r9 (uS (i:=5) nk (ue f'))
  (r9 (uO WL rfl (Db rfl aG (fI gV (fI (en 3) f' rfl) rfl)) (gd_n (i:=6) (m:=100) nk)
  (rT (tQ (AH (t8 aw.G (hr.mono (by decide)) rfl aw.m aw.p aw.b (pv 0) (fI gV f' rfl)) (en 2))
  (r9 (tH (i:=7) nk (uB (fI (tP (en 4) (en 6)) (fI (tP (en 4) (t8 aw.G (hr.mono (by decide)) rfl aw.m aw.p aw.b (pv 0) (fI (en 6) f' rfl))) f' rfl) rfl)))
  (rT (tv (v6 (pv 5) (uB (fI (K4 rfl rfl c9 (fI (en 7) f' rfl)) (fI (LK rfl rfl fF (fI (en 7) f' rfl)) f' rfl) rfl)))))) tV)))
  (rT (tv (tE (uB (fI (en 3) (fI (uF rfl ah (fI (tx (Ee hr rfl aO (fI (en 5) f' rfl))) f' rfl)) f' rfl) rfl)))))))))))
theorem NZ:FnScope ["many", "roads", "left", "size", "ends"] ["many", "roads"] (defScope Ay):=⟨rfl,rfl,rfl,by decide +kernel,rfl,by decide +kernel,by decide +kernel⟩
theorem OL{f:g_}(F:Fun K "_law_without_ring" "_law_without_ring" Ay f fd)(aM:mg "list"=none)(aq:mg "len"=none):FnOk P w K mg base CX0 2 f fd ["many", "roads"] (spD K zI):=
 tM (k:=1) (N:=["many", "roads", "left", "size", "ends"]) F NZ A8 (λaA A outer s H E B hr=>tK
  (r9 (tH (i:=2) nk (tx (xY rfl aM (fI (en 1) f' rfl))))
  (r9 (tH (i:=3) nk (xx gV))
  (r9 (L9 WL (uM hr (en 3) (uG rfl aq (fI (en 2) f' rfl)))
  (r9 (tH (i:=3) nk (uG rfl aq (fI (en 2) f' rfl)))
  (r9 (tH (i:=4) nk (tx (u0 (tx (ua (N':=["one", "other", "-many", "-roads", "-left", "-size", "-ends"]) (m:=2) (CompScope.of (by kernel_rfl)) rfl (t4 (en 2)) (λ_ _ _ _=>(vj (m:=2) rfl (uA (gd_n (i:=0) (m:=2) nk) (uA (gd_n (i:=1) (m:=2) nk) vp)))) (λ_ _ _ _=>t7) (λ_ _ _ _=>(en 0)))) (tx (ua (N':=["one", "other", "-many", "-roads", "-left", "-size", "-ends"]) (m:=2) (CompScope.of (by kernel_rfl)) rfl (t4 (en 2)) (λ_ _ _ _=>(vj (m:=2) rfl (uA (gd_n (i:=0) (m:=2) nk) (uA (gd_n (i:=1) (m:=2) nk) vp)))) (λ_ _ _ _=>t7) (λ_ _ _ _=>(en 1)))))))
  (rT (tv (BK (i:=2) (N':=["road", "-many", "-roads", "-left", "-size", "ends"]) (m:=1) (CompScope.of (by kernel_rfl)) rfl nk (t4 (en 2)) (λ_ _ _ _=>(gd_n (i:=0) (m:=1) nk)) (λ_ _ _ _=>(xG (TW.td (xM (Ae (FO (en 5) (fI (tP (en 0) gV) f' rfl)) gV) (yn (Ae (FO (en 5) (fI (tP (en 0) gV) f' rfl)) gV)))))) (λ_ _ _ _=>(en 0))))))))
  (rT (tv (tE (vH hr (en 2) (tx (ue f'))))))))))
theorem MM:FnScope ["thing", "many", "roads", "road"] ["thing"] (defScope Cv):=⟨rfl,rfl,rfl,by decide +kernel,rfl,by decide +kernel,by decide +kernel⟩
theorem Oo{f:g_}(F:Fun K "_law_is_web" "_law_is_web" Cv f fd){oz' nR'}(eY:IN P w K mg base oz' nR'){ib' gZ'}(i9:Na P w K mg base ib' gZ')(aq:mg "len"=none)(ae:mg "isinstance"=none)(ah:mg "tuple"=none)(aV:mg "all"=none)(aO:mg "sorted"=none)(c7:mg "set"=none)(aM:mg "list"=none):FnOk P w K mg base CX0 3 f fd ["thing"] (spD K wU):=
 tM (k:=2) (N:=["thing", "many", "roads", "road"]) F MM BF (λaA A outer s H E B hr=>tK
  (r9 (tQ (TW.td (ut (uf (ud (vb rfl ae rfl ah (en 0)))) (ut (uM hr (uG rfl aq (fI (en 0) f' rfl)) gV) (ut (uf (ud (tF eY.G (hr.mono (by decide)) rfl eY.m eY.p eY.b (fI (tP (en 0) gV) (fI gV f' rfl) rfl)))) (uN (uI hr (tP (en 0) gV) gV))))))
  (rT (tv (tE uJ))) tV)
  (r9 (tv (Ih (en 0) (vj (m:=100) rfl (uA (gd_n (i:=1) (m:=100) nk) (uA (gd_n (i:=2) (m:=100) nk) vp)))))
  (r9 (tQ (uf (ud (vb rfl ae rfl ah (en 2))))
  (rT (tv (tE uJ))) tV)
  (r9 (uO WL rfl (t4 (en 2)) (gd_n (i:=3) (m:=100) nk)
  (r9 (tQ (TW.td (ut (uf (ud (vb rfl ae rfl ah (en 3)))) (ut (uM hr (uG rfl aq (fI (en 3) f' rfl)) gV) (uN (uf (ud (xi rfl rfl aV (fI (tx (ua (N':=["house", "-thing", "many", "-roads", "-road"]) (m:=1) (CompScope.of (by kernel_rfl)) rfl (t4 (en 3)) (λ_ _ _ _=>(gd_n (i:=0) (m:=1) nk)) (λ_ _ _ _=>t7) (λ_ _ _ _=>(tF eY.G (hr.mono (by decide)) rfl eY.m eY.p eY.b (fI (en 0) (fI (en 2) f' rfl) rfl))))) f' rfl))))))))
  (rT (tv (tE uJ))) tV)
  (rT (tQ (AH (tP (en 3) gV) (tP (en 3) gV))
  (rT (tv (tE uJ))) tV))))
  (rT (tv (tE (uz (vH hr (tx (xY rfl aM (fI (en 2) f' rfl))) (tx (G9 hr rfl aO rfl c7 (fI (en 2) f' rfl)))) (uP (tF i9.G (hr.mono (by decide)) rfl i9.m i9.p i9.b (fI (en 1) (fI (en 2) f' rfl) rfl))))))))))))
theorem HF:FnScope ["caught", "kinds", "names"] ["caught"] (defScope CS):=⟨rfl,rfl,rfl,by decide +kernel,rfl,by decide +kernel,by decide +kernel⟩
theorem IY{f:g_}(F:Fun K "_law_named" "_law_named" CS f fd){qD' oA'}(ja:Js P w K mg base qD' oA')(EX:Exs K mg)(ae:mg "isinstance"=none):FnOk P w K mg base CX0 3 f fd ["caught"] (spD K xE):=
 tM (k:=2) (N:=["caught", "kinds", "names"]) F HF Hk (λaA A outer s H E B hr=>tK
  (r9 (uS (i:=1) nk (ue (fI (vc EX.tab rfl ae rfl (EX.m "NoKin" (by decide)) (en 0)) (fI (vc EX.tab rfl ae rfl (EX.m "NoHouse" (by decide)) (en 0)) (fI (vc EX.tab rfl ae rfl (EX.m "NoRoad" (by decide)) (en 0)) f' rfl) rfl) rfl)))
  (r9 (uS (i:=1) nk (u0 (en 1) (tx (ue (fI (vc EX.tab rfl ae rfl (EX.m "Ring" (by decide)) (en 0)) (fI (vc EX.tab rfl ae rfl (EX.m "NoHold" (by decide)) (en 0)) (fI (vc EX.tab rfl ae rfl (EX.m "NoLetter" (by decide)) (en 0)) f' rfl) rfl) rfl)))))
  (r9 (uS (i:=1) nk (u0 (en 1) (tx (ue (fI (vc EX.tab rfl ae rfl (EX.m "NoStep" (by decide)) (en 0)) (fI (vc EX.tab rfl ae rfl (EX.m "NoText" (by decide)) (en 0)) (fI (vc EX.tab rfl ae rfl (EX.m "NoRow" (by decide)) (en 0)) f' rfl) rfl) rfl)))))
  (r9 (tv (v6 (pv 1) (vc EX.tab rfl ae rfl (EX.m "NoLog" (by decide)) (en 0))))
  (r9 (tH (i:=2) nk (by with_reducible exact(tx (ue (ad_k (by kernel_rfl))))))
  (rT (tv (tE (tF ja.G (hr.mono (by decide)) rfl ja.m ja.p ja.b (fI (en 0) (fI (en 1) (fI (en 2) f' rfl) rfl) rfl)))))))))))
theorem Nq:FnScope ["pot", "top", "way", "low", "more"] ["pot", "top"] (defScope B9):=⟨rfl,rfl,rfl,by decide +kernel,rfl,by decide +kernel,by decide +kernel⟩
theorem Ov{f:g_}(F:Fun K "_law_pair" "_law_pair" B9 f fd){bc' a7'}(aw:vL P w K mg base bc' a7')(c9:mg "min"=none):FnOk P w K mg base CX0 4 f fd ["pot", "top"] (spD K zc):=
 tM (k:=3) (N:=["pot", "top", "way", "low", "more"]) F Nq A2 (λaA A outer s H E B hr=>tK
  (r9 (tH (i:=2) nk (t8 aw.G (hr.mono (by decide)) rfl aw.m aw.p aw.b (pv 0) (fI gV f' rfl)))
  (r9 (tH (i:=3) nk (t8 aw.G (hr.mono (by decide)) rfl aw.m aw.p aw.b (pv 0) (fI (en 1) f' rfl)))
  (r9 (tH (i:=4) nk (t8 aw.G (hr.mono (by decide)) rfl aw.m aw.p aw.b (pv 0) (fI (y6 (en 1) (en 3)) f' rfl)))
  (rT (tv (tE (tP (tx (ue (ww (uB (fI gV (fI (y6 (en 1) gV) f' rfl) rfl)) (uB (fI (en 3) (fI (en 3) f' rfl) rfl)) (uB (fI (en 3) (fI (t9 (en 3) (en 4)) f' rfl) rfl)) (uB (fI (en 3) (fI (Pw rfl rfl c9 (fI (y6 (en 1) gV) (fI (t9 (en 3) gV) f' rfl) rfl)) f' rfl) rfl)) f' rfl rfl rfl rfl))) (en 2)))))))))
theorem IB:FnScope ["pot", "fields", "top"] ["pot", "fields", "top"] (defScope Cq):=⟨rfl,rfl,rfl,by decide +kernel,rfl,by decide +kernel,by decide +kernel⟩
theorem JI{f:g_}(F:Fun K "_law_wish" "_law_wish" Cq f fd){qE' oB'}(jb:OM P w K mg base qE' oB')(aG:mg "range"=none)(ah:mg "tuple"=none):FnOk P w K mg base CX0 5 f fd ["pot", "fields", "top"] (spD K yi):=
 tM (k:=4) (N:=["pot", "fields", "top"]) F IB Ah (λaA A outer s H E B hr=>tK
  (rT (tv (tE (uF rfl ah (fI (tx (ua (N':=["k", "pot", "-fields", "top"]) (m:=1) (CompScope.of (by kernel_rfl)) rfl (vN rfl aG (fI (en 1) f' rfl)) (λ_ _ _ _=>(gd_n (i:=0) (m:=1) nk)) (λ_ _ _ _=>t7) (λ_ _ _ _=>(t8 jb.G (hr.mono (by decide)) rfl jb.m jb.p jb.b (pv 1) (fI (en 3) f' rfl))))) f' rfl))))))
theorem O9:FnScope ["pot", "fields"] ["pot", "fields"] (defScope Bc):=⟨rfl,rfl,rfl,by decide +kernel,rfl,by decide +kernel,by decide +kernel⟩
theorem Je{f:g_}(F:Fun K "_law_letter" "_law_letter" Bc f fd){bc' a7'}(aw:vL P w K mg base bc' a7')(aG:mg "range"=none)(ah:mg "tuple"=none):FnOk P w K mg base CX0 4 f fd ["pot", "fields"] (spD K zv):=
 tM (k:=3) (N:=["pot", "fields"]) F O9 An (λaA A outer s H E B hr=>tK
  (rT (tv (tE (uF rfl ah (fI (tx (ua (N':=["k", "pot", "-fields"]) (m:=1) (CompScope.of (by kernel_rfl)) rfl (vN rfl aG (fI (en 1) f' rfl)) (λ_ _ _ _=>(gd_n (i:=0) (m:=1) nk)) (λ_ _ _ _=>t7) (λ_ _ _ _=>(t8 aw.G (hr.mono (by decide)) rfl aw.m aw.p aw.b (pv 1) (fI gV f' rfl))))) f' rfl))))))
theorem Ps:FnScope ["letter"] ["letter"] (defScope Bg):=⟨rfl,rfl,rfl,by decide +kernel,rfl,by decide +kernel,by decide +kernel⟩
theorem JN{f:g_}(F:Fun K "_law_letter_text" "_law_letter_text" Bg f fd)(bc:mg "str"=none):FnOk P w K mg base CX0 2 f fd ["letter"] (spD K yK):=
 tM (k:=1) (N:=["letter"]) F Ps AO (λaA A outer s H E B hr=>tK
  (rT (tv (tE (CP (fI (tx (ua (N':=["number", "-letter"]) (m:=1) (CompScope.of (by kernel_rfl)) rfl (t4 (en 0)) (λ_ _ _ _=>(gd_n (i:=0) (m:=1) nk)) (λ_ _ _ _=>t7) (λ_ _ _ _=>(B1 rfl bc (fI (en 0) f' rfl))))) f' rfl))))))
theorem MH:FnScope ["wish"] ["wish"] (defScope B7):=⟨rfl,rfl,rfl,by decide +kernel,rfl,by decide +kernel,by decide +kernel⟩
theorem Jx{f:g_}(F:Fun K "_law_wish_text" "_law_wish_text" B7 f fd) :FnOk P w K mg base CX0 2 f fd ["wish"] (spD K yZ):=
 tM (k:=1) (N:=["wish"]) F MH BS (λaA A outer s H E B hr=>tK
  (rT (tv (tE (CP (fI (tx (ua (N':=["low", "high", "-wish"]) (m:=2) (CompScope.of (by kernel_rfl)) rfl (t4 (en 0)) (λ_ _ _ _=>(vj (m:=2) rfl (uA (gd_n (i:=0) (m:=2) nk) (uA (gd_n (i:=1) (m:=2) nk) vp)))) (λ_ _ _ _=>t7) (λ_ _ _ _=>(FZ (by decide) (en 0) (en 1))))) f' rfl))))))
theorem Io:FnScope ["web"] ["web"] (defScope Am):=⟨rfl,rfl,rfl,by decide +kernel,rfl,by decide +kernel,by decide +kernel⟩
theorem QH{f:g_}(F:Fun K "_law_web_text" "_law_web_text" Am f fd)(bc:mg "str"=none):FnOk P w K mg base CX0 2 f fd ["web"] (spD K w4):=
 tM (k:=1) (N:=["web"]) F Io zS (λaA A outer s H E B hr=>tK
  (rT (tv (tE (CP (fI (tx (u0 (tx (ue (fI (B1 rfl bc (fI (tP (en 0) gV) f' rfl)) f' rfl))) (tx (ua (N':=["one", "other", "-web"]) (m:=2) (CompScope.of (by kernel_rfl)) rfl (t4 (tP (en 0) gV)) (λ_ _ _ _=>(vj (m:=2) rfl (uA (gd_n (i:=0) (m:=2) nk) (uA (gd_n (i:=1) (m:=2) nk) vp)))) (λ_ _ _ _=>t7) (λ_ _ _ _=>(FZ (by decide) (en 0) (en 1))))))) f' rfl))))))
theorem Mo:FnScope [] [] (defScope BV):=⟨rfl,rfl,rfl,by decide +kernel,rfl,by decide +kernel,by decide +kernel⟩
theorem KB{f:g_}(F:Fun K "_law_signs" "_law_signs" BV f fd) :FnOk P w K mg base CX0 2 f fd [] (spD K yT):=
 tM (k:=1) (N:=[]) F Mo DA (λaA A outer s H E B hr=>tK
  (rT (tv (tE tU))))
theorem Lu:FnScope ["word"] ["word"] (defScope AN):=⟨rfl,rfl,rfl,by decide +kernel,rfl,by decide +kernel,by decide +kernel⟩
theorem Ow{f:g_}(F:Fun K "_law_number" "_law_number" AN f fd)(aq:mg "len"=none)(aI:mg "int"=none)(bc:mg "str"=none):FnOk P w K mg base CX0 2 f fd ["word"] (spD K u5):=
 tM (k:=1) (N:=["word"]) F Lu Dv (λaA A outer s H E B hr=>tK
  (r9 (tQ (TW.td (ut (uI hr (en 0) tU) (ut (Ae (wW rfl aq (fI (en 0) f' rfl)) gV) (uN (uM hr (tx (ua (N':=["sign", "-word"]) (m:=1) (CompScope.of (by kernel_rfl)) rfl (yP (en 0)) (λ_ _ _ _=>(gd_n (i:=0) (m:=1) nk)) (λ_ _ _ _=>(xG (HI (en 0) tU))) (λ_ _ _ _=>(en 0)))) (tx (ue f')))))))
  (rT (tv (tE (xx gV)))) tV)
  (rT (tv (tE (vx (uI hr (B1 rfl bc (fI (Ab rfl aI (fI (en 0) f' rfl)) f' rfl)) (en 0)) (Ab rfl aI (fI (en 0) f' rfl)) (xx gV)))))))
theorem Lg:FnScope ["text", "found"] ["text"] (defScope Da):=⟨rfl,rfl,rfl,by decide +kernel,rfl,by decide +kernel,by decide +kernel⟩
theorem NX{f:g_}(F:Fun K "_law_read_letter" "_law_read_letter" Da f fd){cG' ch'}(ck:BO P w K mg base cG' ch')(ah:mg "tuple"=none)(aq:mg "len"=none):FnOk P w K mg base CX0 3 f fd ["text"] (spD K zC):=
 tM (k:=2) (N:=["text", "found"]) F Lg AY (λaA A outer s H E B hr=>tK
  (r9 (tH (i:=1) nk (uF rfl ah (fI (tx (ua (N':=["word", "-text", "-found"]) (m:=1) (CompScope.of (by kernel_rfl)) rfl (t4 (tx (uH (en 0) (fI tU f' rfl)))) (λ_ _ _ _=>(gd_n (i:=0) (m:=1) nk)) (λ_ _ _ _=>t7) (λ_ _ _ _=>(tF ck.G (hr.mono (by decide)) rfl ck.m ck.p ck.b (fI (en 0) f' rfl))))) f' rfl)))
  (rT (tv (tE (vx (TW.td (xM (vY (uG rfl aq (fI (en 1) f' rfl)) gV) (yn (uI hr (tx (ua (N':=["one", "-text", "-found"]) (m:=1) (CompScope.of (by kernel_rfl)) rfl (t4 (en 1)) (λ_ _ _ _=>(gd_n (i:=0) (m:=1) nk)) (λ_ _ _ _=>(xG (uf (EM gV (en 0) gV)))) (λ_ _ _ _=>(en 0)))) (tx (ue f')))))) (en 1) uD))))))
theorem Mb:FnScope ["text", "found", "part", "pair"] ["text"] (defScope Ag):=⟨rfl,rfl,rfl,by decide +kernel,rfl,by decide +kernel,by decide +kernel⟩
theorem JU{f:g_}(F:Fun K "_law_read_wish" "_law_read_wish" Ag f fd){cG' ch'}(ck:BO P w K mg base cG' ch')(ah:mg "tuple"=none)(aq:mg "len"=none):FnOk P w K mg base CX0 3 f fd ["text"] (spD K xS):=
 tM (k:=2) (N:=["text", "found", "part", "pair"]) F Mb A3 (λaA A outer s H E B hr=>tK
  (r9 (uS (i:=1) nk (ue f'))
  (r9 (uO WL rfl (t4 (tx (uH (en 0) (fI tU f' rfl)))) (gd_n (i:=2) (m:=100) nk)
  (r9 (tH (i:=3) nk (uF rfl ah (fI (tx (ua (N':=["word", "-text", "-found", "-part", "-pair"]) (m:=1) (CompScope.of (by kernel_rfl)) rfl (t4 (tx (uH (en 2) (fI tU f' rfl)))) (λ_ _ _ _=>(gd_n (i:=0) (m:=1) nk)) (λ_ _ _ _=>t7) (λ_ _ _ _=>(tF ck.G (hr.mono (by decide)) rfl ck.m ck.p ck.b (fI (en 0) f' rfl))))) f' rfl)))
  (r9 (tQ (TW.td (ut (uM hr (uG rfl aq (fI (en 3) f' rfl)) gV) (uN (uf (QA gV (tP (en 3) gV) (tP (en 3) gV) gV)))))
  (rT (tv (tE uD))) tV)
  (rT (tv (v6 (pv 1) (en 3)))))))
  (rT (tv (tE (vx (vY (OY rfl aq (pv 1)) gV) (uF rfl ah (fI (en 1) f' rfl)) uD)))))))
theorem MJ:FnScope ["text", "words", "roads", "found"] ["text"] (defScope Ai):=⟨rfl,rfl,rfl,by decide +kernel,rfl,by decide +kernel,by decide +kernel⟩
theorem Oi{f:g_}(F:Fun K "_law_read_web" "_law_read_web" Ai f fd){cG' ch'}(ck:BO P w K mg base cG' ch'){nS' lZ'}(jc:IG P w K mg base nS' lZ')(ah:mg "tuple"=none):FnOk P w K mg base CX0 4 f fd ["text"] (spD K zG):=
 tM (k:=3) (N:=["text", "words", "roads", "found"]) F MJ Bn (λaA A outer s H E B hr=>tK
  (r9 (tH (i:=1) nk (tx (uH (en 0) (fI tU f' rfl))))
  (r9 (tv (BK (i:=2) (N':=["part", "-text", "-words", "-roads", "-found"]) (m:=1) (CompScope.of (by kernel_rfl)) rfl nk (t4 (uL (en 1) (uy gV) uE)) (λ_ _ _ _=>(gd_n (i:=0) (m:=1) nk)) (λ_ _ _ _=>t7) (λ_ _ _ _=>(uF rfl ah (fI (tx (ua (N':=["word", "-part", "-text", "-words", "-roads", "-found"]) (m:=1) (CompScope.of (by kernel_rfl)) rfl (t4 (tx (uH (en 0) (fI tU f' rfl)))) (λ_ _ _ _=>(gd_n (i:=0) (m:=1) nk)) (λ_ _ _ _=>t7) (λ_ _ _ _=>(tF ck.G (hr.mono (by decide)) rfl ck.m ck.p ck.b (fI (en 0) f' rfl))))) f' rfl)))))
  (r9 (tH (i:=3) nk (uB (fI (tF ck.G (hr.mono (by decide)) rfl ck.m ck.p ck.b (fI (tP (en 1) gV) f' rfl)) (fI (uF rfl ah (fI (en 2) f' rfl)) f' rfl) rfl)))
  (rT (tv (tE (vx (ud (tF jc.G (hr.mono (by decide)) rfl jc.m jc.p jc.b (fI (en 3) f' rfl))) (en 3) uD))))))))
theorem Kk:FnScope ["pot", "text", "way", "place", "sign", "mark", "parts", "at", "odd", "some"] ["pot", "text"] (defScope AE):=⟨rfl,rfl,rfl,by decide +kernel,rfl,by decide +kernel,by decide +kernel⟩
theorem O4{f:g_}(F:Fun K "_law_bent_text" "_law_bent_text" AE f fd){bc' a7'}(aw:vL P w K mg base bc' a7'){oD' nT'}(jd:Kh P w K mg base oD' nT')(aq:mg "len"=none)(aI:mg "int"=none):FnOk P w K mg base CX0 4 f fd ["pot", "text"] (spD K wL):=
 tM (k:=3) (N:=["pot", "text", "way", "place", "sign", "mark", "parts", "at", "odd", "some"]) F Kk Cz (λaA A outer s H E B hr=>tK
  (r9 (tH (i:=2) nk (t8 aw.G (hr.mono (by decide)) rfl aw.m aw.p aw.b (pv 0) (fI gV f' rfl)))
  (r9 (tH (i:=3) nk (t8 aw.G (hr.mono (by decide)) rfl aw.m aw.p aw.b (pv 0) (fI (t9 (wW rfl aq (fI (en 1) f' rfl)) gV) f' rfl)))
  (r9 (tQ (vY (en 2) gV)
  (r9 (tH (i:=4) nk (CY (Ox jd.G (hr.mono (by decide)) rfl jd.m jd.p jd.b) (t8 aw.G (hr.mono (by decide)) rfl aw.m aw.p aw.b (pv 0) (fI gV f' rfl))))
  (rT (tv (tE (t9 (t9 (CZ (en 1) uE (uy (en 3))) (Ba (en 4) (Ho rfl aI (fI (HB (en 2) gV) f' rfl)))) (CZ (en 1) (uy (t9 (en 3) (Ho rfl aI (fI (JV (en 2) gV) f' rfl)))) uE)))))) tV)
  (r9 (tQ (uI hr (en 2) gV)
  (rT (tv (tE (CZ (en 1) uE (uy (en 3)))))) tV)
  (r9 (tH (i:=5) nk (tP (tx (ue (ad_k (by kernel_rfl)))) (t8 aw.G (hr.mono (by decide)) rfl aw.m aw.p aw.b (pv 0) (fI gV f' rfl))))
  (r9 (tH (i:=6) nk (tx (uH (en 1) (fI (en 5) f' rfl))))
  (r9 (tH (i:=7) nk (t8 aw.G (hr.mono (by decide)) rfl aw.m aw.p aw.b (pv 0) (fI (uG rfl aq (fI (en 6) f' rfl)) f' rfl)))
  (r9 (tH (i:=8) nk (by with_reducible exact(tx (ue (KTx.ad (.str (.str (.str (.str (.str (.str (.str (.str (.str (.str (.str (.str (.str (.str (.str (.mul .nil)))))))))))))))))))))
  (r9 (tH (i:=9) nk (tx (ue (ww (tx (u0 (uL (en 6) uE (uy (en 7))) (uL (en 6) (uy (t9 (en 7) gV)) uE))) (tx (u0 (uL (en 6) uE (uy (t9 (en 7) gV))) (uL (en 6) (uy (en 7)) uE))) (tx (Jm (en 6) (xx gV))) (tx (ue f')) f' rfl rfl rfl rfl))))
  (r9 (tQ (vY (en 2) gV)
  (rT (tv (tE (G1 (en 5) (fI (tP (en 9) (y6 (en 2) gV)) f' rfl))))) tV)
  (rT (tv (tE (G1 (en 5) (fI (tx (u0 (tx (u0 (uL (en 6) uE (uy (en 7))) (tx (ue (fI (tP (en 8) (t8 aw.G (hr.mono (by decide)) rfl aw.m aw.p aw.b (pv 0) (fI gV f' rfl))) f' rfl))))) (uL (en 6) (uy (t9 (en 7) gV)) uE))) f' rfl))))))))))))))))
theorem O6:FnScope ["pot", "share", "many", "pairs", "one", "other"] ["pot"] (defScope AU):=⟨rfl,rfl,rfl,by decide +kernel,rfl,by decide +kernel,by decide +kernel⟩
theorem LV{f:g_}(F:Fun K "_law_any_roads" "_law_any_roads" AU f fd){bc' a7'}(aw:vL P w K mg base bc' a7')(aG:mg "range"=none)(ah:mg "tuple"=none):FnOk P w K mg base CX0 4 f fd ["pot"] (spD K yH):=
 tM (k:=3) (N:=["pot", "share", "many", "pairs", "one", "other"]) F O6 zX (λaA A outer s H E B hr=>tK
  (r9 (tH (i:=1) nk (t9 gV (t8 aw.G (hr.mono (by decide)) rfl aw.m aw.p aw.b (pv 0) (fI gV f' rfl))))
  (r9 (tH (i:=2) nk (t9 gV (t8 aw.G (hr.mono (by decide)) rfl aw.m aw.p aw.b (pv 0) (fI gV f' rfl))))
  (r9 (uS (i:=3) nk (ue f'))
  (r9 (uO WL rfl (vN rfl aG (fI (en 2) f' rfl)) (gd_n (i:=4) (m:=100) nk)
  (rT (uO WL rfl (Db rfl aG (fI (t9 (en 4) gV) (fI (en 2) f' rfl) rfl)) (gd_n (i:=5) (m:=100) nk)
  (rT (tQ (vY (t8 aw.G (hr.mono (by decide)) rfl aw.m aw.p aw.b (pv 0) (fI gV f' rfl)) (en 1))
  (rT (tv (v6 (pv 3) (uB (fI (en 4) (fI (en 5) f' rfl) rfl))))) tV)))))
  (rT (tv (tE (uB (fI (en 2) (fI (uF rfl ah (fI (en 3) f' rfl)) f' rfl) rfl))))))))))
theorem JA:FnScope ["way", "text", "found", "caught", "e"] ["way", "text"] (defScope zQ):=⟨rfl,rfl,rfl,by decide +kernel,rfl,by decide +kernel,by decide +kernel⟩
theorem NQ{f:g_}(F:Fun K "_law_told" "_law_told" zQ f fd){l0' k6'}(je:IK P w K mg base l0' k6'){oE' nU'}(jf:OF P w K mg base oE' nU'){qF' oF'}(jg:OG P w K mg base qF' oF'){oG' nV'}(jh:Qp P w K mg base oG' nV'){fx_read_letter fdx_read_letter}(dM:P9 P w K mg base (clN K) fx_read_letter fdx_read_letter){fx_read_wish fdx_read_wish}(eE:Pi P w K mg base (clN K) fx_read_wish fdx_read_wish){fx_read_web fdx_read_web}(eZ:JS P w K mg base (clN K) fx_read_web fdx_read_web)(EX:Exs K mg):FnOk P w K mg base CX0 31 f fd ["way", "text"] (spD K vV):=
 tM (k:=30) (N:=["way", "text", "found", "caught", "e"]) F JA xt (λaA A outer s H E B hr=>tK
  (r9 (tH (i:=2) nk uD)
  (r9 (tH (i:=3) nk uD)
  (r9 (tv (MZ (i:=3) (j:=4) EX.top nk rfl rfl (EX.m "RoofError" (by decide)) (λ_ _=>tK (rT (tQ (uI hr (en 0) gV)
  (rT (tH (i:=2) nk (tF je.G (hr.mono (by decide)) rfl je.m je.p je.b (fI (en 1) f' rfl)))) (rT (tQ (uI hr (en 0) gV)
  (rT (tH (i:=2) nk (tF jf.G (hr.mono (by decide)) rfl jf.m jf.p jf.b (fI (en 1) f' rfl)))) (rT (tH (i:=2) nk (tF jg.G (hr.mono (by decide)) rfl jg.m jg.p jg.b (fI (en 1) f' rfl))))))))) (λ_ _=>wb (u3 (vW (uI hr (en 0) gV)
  (u3 (uW (wo (i:=2) nk (cqX dM hr (fI (en 1) f' rfl))))) (u3 (vW (uI hr (en 0) gV)
  (u3 (uW (wo (i:=2) nk (cqX eE hr (fI (en 1) f' rfl))))) (u3 (uW (wo (i:=2) nk (cqX eZ hr (fI (en 1) f' rfl))))))))))))
  (rT (tv (tE (vx (Bm (en 3) uD) (uB (fI tU (fI (en 2) f' rfl) rfl)) (uB (fI (tF jh.G (hr.mono (by decide)) rfl jh.m jh.p jh.b (fI (en 3) f' rfl)) (fI uD f' rfl) rfl))))))))))
theorem Qh:FnScope ["way", "text", "found"] ["way", "text"] (defScope zP):=⟨rfl,rfl,rfl,by decide +kernel,rfl,by decide +kernel,by decide +kernel⟩
theorem PF{f:g_}(F:Fun K "_law_text_due" "_law_text_due" zP f fd){iE' ic'}(ji:HD P w K mg base iE' ic'){ki' jv'}(jj:HJ P w K mg base ki' jv'){k7' kj'}(jk:J7 P w K mg base k7' kj'):FnOk P w K mg base CX0 5 f fd ["way", "text"] (spD K vU):=
 tM (k:=4) (N:=["way", "text", "found"]) F Qh xh (λaA A outer s H E B hr=>tK
  (r9 (tH (i:=2) nk uD)
  (r9 (tQ (uI hr (en 0) gV)
  (rT (tH (i:=2) nk (tF ji.G (hr.mono (by decide)) rfl ji.m ji.p ji.b (fI (en 1) f' rfl)))) (rT (tQ (uI hr (en 0) gV)
  (rT (tH (i:=2) nk (tF jj.G (hr.mono (by decide)) rfl jj.m jj.p jj.b (fI (en 1) f' rfl)))) (rT (tH (i:=2) nk (tF jk.G (hr.mono (by decide)) rfl jk.m jk.p jk.b (fI (en 1) f' rfl)))))))
  (rT (tv (tE (uB (fI (vx (Bm (en 2) uD) tU tU) (fI (en 2) f' rfl) rfl))))))))
theorem O1:FnScope ["script", "pot", "some", "turn", "texts", "text", "time", "bent", "way"] ["script"] (defScope A4):=⟨rfl,rfl,rfl,by decide +kernel,rfl,by decide +kernel,by decide +kernel⟩
theorem Ja{f:g_}(F:Fun K "law" "law" A4 f fd){sF' qG'}(jl:HS P w K mg base sF' qG'){iF' ie'}(jm:PJ P w K mg base iF' ie'){nW' l1'}(jn:Ix P w K mg base nW' l1'){bc' a7'}(aw:vL P w K mg base bc' a7'){k8' kk'}(fc:Mr P w K mg base k8' kk'){sG' qH'}(jo:Jl P w K mg base sG' qH'){kl' jw'}(jp:Qb P w K mg base kl' jw'){km' jx'}(jq:Og P w K mg base km' jx'){qI' oH'}(jr:MB P w K mg base qI' oH'){kn' jy'}(fe:Op P w K mg base kn' jy'){qJ' oI'}(jt:Nd P w K mg base qJ' oI'){qK' oJ'}(ju:P4 P w K mg base qK' oJ'){k9' ko'}(jv:Kb P w K mg base k9' ko')(aG:mg "range"=none):FnOk P w K mg base CX0 32 f fd ["script"] (spD K vT):=
 tM (k:=31) (N:=["script", "pot", "some", "turn", "texts", "text", "time", "bent", "way"]) F O1 CL (λaA A outer s H E B hr=>tK
  (r9 (uS (i:=1) nk (xn jl.G (hr.mono (by decide)) rfl jl.m jl.p jl.b (fI (en 0) f' rfl)))
  (r9 (uS (i:=2) nk (by with_reducible exact(ue (ad_k (by kernel_rfl)))))
  (r9 (uS (i:=2) nk (u0 (en 2) (by with_reducible exact(tx (ue (KTx.ad (.mul (.mul (.add (.add (.add .nil)))))))))))
  (r9 (uO WL rfl (vN rfl aG (fI gV f' rfl)) (gd_n (i:=3) (m:=100) nk)
  (r9 (uS (i:=4) nk (ue (fI (tF jm.G (hr.mono (by decide)) rfl jm.m jm.p jm.b (fI (t8 jn.G (hr.mono (by decide)) rfl jn.m jn.p jn.b (pv 1) (fI (t9 gV (t8 aw.G (hr.mono (by decide)) rfl aw.m aw.p aw.b (pv 1) (fI gV f' rfl))) f' rfl)) f' rfl)) (fI (tF fc.G (hr.mono (by decide)) rfl fc.m fc.p fc.b (fI (t8 jo.G (hr.mono (by decide)) rfl jo.m jo.p jo.b (pv 1) (fI gV f' rfl)) f' rfl)) f' rfl) rfl)))
  (r9 (tv (v6 (pv 2) (tF fc.G (hr.mono (by decide)) rfl fc.m fc.p fc.b (fI (t8 jp.G (hr.mono (by decide)) rfl jp.m jp.p jp.b (pv 1) f') f' rfl))))
  (r9 (tv (v6 (pv 4) (tF jq.G (hr.mono (by decide)) rfl jq.m jq.p jq.b (fI (t8 jr.G (hr.mono (by decide)) rfl jr.m jr.p jr.b (pv 1) (fI (t9 gV (t8 aw.G (hr.mono (by decide)) rfl aw.m aw.p aw.b (pv 1) (fI gV f' rfl))) (fI gV f' rfl) rfl)) f' rfl))))
  (rT (uO WL rfl (t4 (tx (u0 (en 4) (uL (en 4) (uy gV) uE)))) (gd_n (i:=5) (m:=100) nk)
  (rT (uO WL rfl (vN rfl aG (fI gV f' rfl)) (gd_n (i:=6) (m:=100) nk)
  (r9 (tH (i:=7) nk (t8 fe.G (hr.mono (by decide)) rfl fe.m fe.p fe.b (pv 1) (fI (en 5) f' rfl)))
  (rT (tv (v6 (pv 2) (vx (uI hr (t8 aw.G (hr.mono (by decide)) rfl aw.m aw.p aw.b (pv 1) (fI gV f' rfl)) gV) (t8 fe.G (hr.mono (by decide)) rfl fe.m fe.p fe.b (pv 1) (fI (en 7) f' rfl)) (en 7))))))))))))))
  (r9 (uO WL rfl (t4 (en 2)) (gd_n (i:=5) (m:=100) nk)
  (rT (uO WL rfl (vN rfl aG (fI gV f' rfl)) (gd_n (i:=8) (m:=100) nk)
  (rT (tQ (uf (ud (tF jt.G (hr.mono (by decide)) rfl jt.m jt.p jt.b (fI (tF ju.G (hr.mono (by decide)) rfl ju.m ju.p ju.b (fI (en 8) (fI (en 5) f' rfl) rfl)) (fI (tF jv.G (hr.mono (by decide)) rfl jv.m jv.p jv.b (fI (en 8) (fI (en 5) f' rfl) rfl)) f' rfl) rfl))))
  (rT (tv (tE uJ))) tV)))))
  (rT (tv (tE uJ)))))))))
end
structure Dn(K:PySem.W.Frag)(mg:Str->Option b_)(x:Str)(st:Tr)(f:g_)(fd:U8):Prop where
 F:Fun K x x st f fd
 m:mg x=some (.ref f)
 a:PySem.W.nsIn K TU x=some (some (.ref f))
theorem dn{K:PySem.W.Frag}{h:G_}{x:Str}{st:Tr}{f:g_}{sl:Array (Option b_)}{kV dc:b_}(X:K.In h)(G:h.Ns TU mg)(a:PySem.W.nsIn K TU x=some (some (.ref f)))(l:K.lookup f=some ⟨oc,od,.func (WM x x (defArgs st) (defBody st) (defScope st) .none kV dc pm an cd ct),sl⟩)(c:codeIn K cd x=true)(k:PySem.W.keepIn K (.ref f)=true):Dn K mg x st f (WM x x (defArgs st) (defBody st) (defScope st) .none kV dc pm an cd ct):=⟨MR l c k,PySem.W.mg_of X G a,a⟩
section
variable{P:v_}{w:F_}{K:PySem.W.Frag}{x:Str}{st:Tr}{f:g_}{g:List R->Option (R×List R)}
theorem lenOf1{α:Type}{us:List α}(h:us.length=1):∃a,us=[a]:=by
 obtain⟨a,us,rfl⟩:=TQ h;exact⟨a,by rw[TB.mp (V8 h)]⟩
theorem lenOf2{α:Type}{us:List α}(h:us.length=2):∃a b,us=[a,b]:=by
 obtain⟨a,us,rfl⟩:=TQ h;obtain⟨b,rfl⟩:=lenOf1 (V8 h);exact⟨a,b,rfl⟩
theorem lenOf3{α:Type}{us:List α}(h:us.length=3):∃a b c,us=[a,b,c]:=by
 obtain⟨a,us,rfl⟩:=TQ h;obtain⟨b,c,rfl⟩:=lenOf2 (V8 h);exact⟨a,b,c,rfl⟩
theorem lenOf4{α:Type}{us:List α}(h:us.length=4):∃a b c d,us=[a,b,c,d]:=by
 obtain⟨a,us,rfl⟩:=TQ h;obtain⟨b,c,d,rfl⟩:=lenOf3 (V8 h);exact⟨a,b,c,d,rfl⟩
theorem Dn.b0(D:Dn K mg x st f fd)(h:∀(kV dc pm:b_) (an:Option g_) (cd ct:b_),Uu (WM x x (defArgs st) (defBody st) (defScope st) .none kV dc pm an cd ct) ⟨[],[]⟩=pure []:=by intros;rfl):Binds K fd [] []:=D.F.binds λ_ _ _ _ _ _ us hl=>by obtain rfl:=TB.mp hl;exact h _ _ _ _ _ _
theorem Dn.c0(D:Dn K mg x st f fd)(G:FnOk P w K mg base CX0 k f fd [] (spD K g))(h:∀(kV dc pm:b_) (an:Option g_) (cd ct:b_),Uu (WM x x (defArgs st) (defBody st) (defScope st) .none kV dc pm an cd ct) ⟨[],[]⟩=pure []:=by intros;rfl):Cd P w K mg base k f fd [] g x:=⟨G,D.b0 h,D.F.kp,D.m⟩
theorem Dn.b1{p:Str}(D:Dn K mg x st f fd)(h:∀(kV dc pm:b_) (an:Option g_) (cd ct a:b_),Uu (WM x x (defArgs st) (defBody st) (defScope st) .none kV dc pm an cd ct) ⟨[a],[]⟩=pure [(p,a)]:=by intros;rfl):Binds K fd [p] []:=D.F.binds λ_ _ _ _ _ _ us hl=>by obtain⟨a,rfl⟩:=lenOf1 hl;exact h _ _ _ _ _ _ a
theorem Dn.x1{cl:Nat->g_}{gx:List D->Option Nat}{p:Str}(D:Dn K mg x st f fd)(G:FnOk P w K mg base (CXX P w) k f fd [p] (spE K cl gx))(h:∀(kV dc pm:b_) (an:Option g_) (cd ct a:b_),Uu (WM x x (defArgs st) (defBody st) (defScope st) .none kV dc pm an cd ct) ⟨[a],[]⟩=pure [(p,a)]:=by intros;rfl):CdX P w K mg base cl k f fd [p] gx x:=⟨G,D.b1 h,D.F.kp,D.m⟩
theorem Dn.c1{p:Str}(D:Dn K mg x st f fd)(G:FnOk P w K mg base CX0 k f fd [p] (spD K g))(h:∀(kV dc pm:b_) (an:Option g_) (cd ct a:b_),Uu (WM x x (defArgs st) (defBody st) (defScope st) .none kV dc pm an cd ct) ⟨[a],[]⟩=pure [(p,a)]:=by intros;rfl):Cd P w K mg base k f fd [p] g x:=⟨G,D.b1 h,D.F.kp,D.m⟩
theorem Dn.b2{p q:Str}(D:Dn K mg x st f fd)(h:∀(kV dc pm:b_) (an:Option g_) (cd ct a b:b_),Uu (WM x x (defArgs st) (defBody st) (defScope st) .none kV dc pm an cd ct) ⟨[a,b],[]⟩=pure [(p,a),(q,b)]:=by intros;rfl):Binds K fd [p,q] []:=D.F.binds λ_ _ _ _ _ _ us hl=>by obtain⟨a,b,rfl⟩:=lenOf2 hl;exact h _ _ _ _ _ _ a b
theorem Dn.x2{cl:Nat->g_}{gx:List D->Option Nat}{p q:Str}(D:Dn K mg x st f fd)(G:FnOk P w K mg base (CXX P w) k f fd [p,q] (spE K cl gx))(h:∀(kV dc pm:b_) (an:Option g_) (cd ct a b:b_),Uu (WM x x (defArgs st) (defBody st) (defScope st) .none kV dc pm an cd ct) ⟨[a,b],[]⟩=pure [(p,a),(q,b)]:=by intros;rfl):CdX P w K mg base cl k f fd [p,q] gx x:=⟨G,D.b2 h,D.F.kp,D.m⟩
theorem Dn.c2{p q:Str}(D:Dn K mg x st f fd)(G:FnOk P w K mg base CX0 k f fd [p,q] (spD K g))(h:∀(kV dc pm:b_) (an:Option g_) (cd ct a b:b_),Uu (WM x x (defArgs st) (defBody st) (defScope st) .none kV dc pm an cd ct) ⟨[a,b],[]⟩=pure [(p,a),(q,b)]:=by intros;rfl):Cd P w K mg base k f fd [p,q] g x:=⟨G,D.b2 h,D.F.kp,D.m⟩
theorem Dn.b3{p q r:Str}(D:Dn K mg x st f fd)(h:∀(kV dc pm:b_) (an:Option g_) (cd ct a b c:b_),Uu (WM x x (defArgs st) (defBody st) (defScope st) .none kV dc pm an cd ct) ⟨[a,b,c],[]⟩=pure [(p,a),(q,b),(r,c)]:=by intros;rfl):Binds K fd [p,q,r] []:=D.F.binds λ_ _ _ _ _ _ us hl=>by obtain⟨a,b,c,rfl⟩:=lenOf3 hl;exact h _ _ _ _ _ _ a b c
theorem Dn.x3{cl:Nat->g_}{gx:List D->Option Nat}{p q r:Str}(D:Dn K mg x st f fd)(G:FnOk P w K mg base (CXX P w) k f fd [p,q,r] (spE K cl gx))(h:∀(kV dc pm:b_) (an:Option g_) (cd ct a b c:b_),Uu (WM x x (defArgs st) (defBody st) (defScope st) .none kV dc pm an cd ct) ⟨[a,b,c],[]⟩=pure [(p,a),(q,b),(r,c)]:=by intros;rfl):CdX P w K mg base cl k f fd [p,q,r] gx x:=⟨G,D.b3 h,D.F.kp,D.m⟩
theorem Dn.c3{p q r:Str}(D:Dn K mg x st f fd)(G:FnOk P w K mg base CX0 k f fd [p,q,r] (spD K g))(h:∀(kV dc pm:b_) (an:Option g_) (cd ct a b c:b_),Uu (WM x x (defArgs st) (defBody st) (defScope st) .none kV dc pm an cd ct) ⟨[a,b,c],[]⟩=pure [(p,a),(q,b),(r,c)]:=by intros;rfl):Cd P w K mg base k f fd [p,q,r] g x:=⟨G,D.b3 h,D.F.kp,D.m⟩
theorem Dn.b4{p q r s:Str}(D:Dn K mg x st f fd)(h:∀(kV dc pm:b_) (an:Option g_) (cd ct a b c d:b_),Uu (WM x x (defArgs st) (defBody st) (defScope st) .none kV dc pm an cd ct) ⟨[a,b,c,d],[]⟩=pure [(p,a),(q,b),(r,c),(s,d)]:=by intros;rfl):Binds K fd [p,q,r,s] []:=D.F.binds λ_ _ _ _ _ _ us hl=>by obtain⟨a,b,c,d,rfl⟩:=lenOf4 hl;exact h _ _ _ _ _ _ a b c d
theorem Dn.x4{cl:Nat->g_}{gx:List D->Option Nat}{p q r s:Str}(D:Dn K mg x st f fd)(G:FnOk P w K mg base (CXX P w) k f fd [p,q,r,s] (spE K cl gx))(h:∀(kV dc pm:b_) (an:Option g_) (cd ct a b c d:b_),Uu (WM x x (defArgs st) (defBody st) (defScope st) .none kV dc pm an cd ct) ⟨[a,b,c,d],[]⟩=pure [(p,a),(q,b),(r,c),(s,d)]:=by intros;rfl):CdX P w K mg base cl k f fd [p,q,r,s] gx x:=⟨G,D.b4 h,D.F.kp,D.m⟩
theorem Dn.c4{p q r s:Str}(D:Dn K mg x st f fd)(G:FnOk P w K mg base CX0 k f fd [p,q,r,s] (spD K g))(h:∀(kV dc pm:b_) (an:Option g_) (cd ct a b c d:b_),Uu (WM x x (defArgs st) (defBody st) (defScope st) .none kV dc pm an cd ct) ⟨[a,b,c,d],[]⟩=pure [(p,a),(q,b),(r,c),(s,d)]:=by intros;rfl):Cd P w K mg base k f fd [p,q,r,s] g x:=⟨G,D.b4 h,D.F.kp,D.m⟩
end
theorem all_mk{P:v_}{w:F_}{K:PySem.W.Frag}(qA:mg "law"=some (.ref fa)){f0 d0}(D0:Dn K mg "is_whole" B4 f0 d0){f1 d1}(D1:Dn K mg "is_figure" AR f1 d1){f2 d2}(D2:Dn K mg "is_pair" Bw f2 d2){f3 d3}(D3:Dn K mg "has_fields" CQ f3 d3){f4 d4}(D4:Dn K mg "is_letter" zZ f4 d4){f5 d5}(D5:Dn K mg "is_wish" AB f5 d5){f6 d6}(D6:Dn K mg "is_web" Bk f6 d6){f7 d7}(D7:Dn K mg "is_road" CA f7 d7){f8 d8}(D8:Dn K mg "has_ring" Bu f8 d8){f9 d9}(D9:Dn K mg "must_be_house" Al f9 d9){f10 d10}(nN:Dn K mg "neighbours_of" By f10 d10){f11 d11}(nO:Dn K mg "way_between" CF f11 d11){f12 d12}(ir:Dn K mg "way_on" yd f12 d12){f13 d13}(jw:Dn K mg "read_letter" zo f13 d13){f14 d14}(jx:Dn K mg "read_wish" ym f14 d14){f15 d15}(jy:Dn K mg "read_web" zH f15 d15){f16 d16}(jz:Dn K mg "read_pair" zF f16 d16){f17 d17}(jA:Dn K mg "read_number" zu f17 d17){f18 d18}(nP:Dn K mg "_law_blend" Cr f18 d18){f19 d19}(nQ:Dn K mg "_law_pot" BZ f19 d19){f20 d20}(nR:Dn K mg "_law_pick" A6 f20 d20){f21 d21}(iu:Dn K mg "_law_same" yw f21 d21){f22 d22}(nS:Dn K mg "_law_whole" Cb f22 d22){f23 d23}(nT:Dn K mg "_law_kind" AA f23 d23){f24 d24}(nU:Dn K mg "_law_order" B8 f24 d24){f25 d25}(nV:Dn K mg "_law_web" B0 f25 d25){f26 d26}(nW:Dn K mg "_law_without_ring" Ay f26 d26){f27 d27}(nY:Dn K mg "_law_is_web" Cv f27 d27){f28 d28}(nZ:Dn K mg "_law_named" CS f28 d28){f29 d29}(n4:Dn K mg "_law_pair" B9 f29 d29){f30 d30}(n5:Dn K mg "_law_wish" Cq f30 d30){f31 d31}(n6:Dn K mg "_law_letter" Bc f31 d31){f32 d32}(n9:Dn K mg "_law_letter_text" Bg f32 d32){f33 d33}(og:Dn K mg "_law_wish_text" B7 f33 d33){f34 d34}(oh:Dn K mg "_law_web_text" Am f34 d34){f35 d35}(oj:Dn K mg "_law_signs" BV f35 d35){f36 d36}(om:Dn K mg "_law_number" AN f36 d36){f37 d37}(oo:Dn K mg "_law_read_letter" Da f37 d37){f38 d38}(oq:Dn K mg "_law_read_wish" Ag f38 d38){f39 d39}(ou:Dn K mg "_law_read_web" Ai f39 d39){f40 d40}(ow:Dn K mg "_law_bent_text" AE f40 d40){f41 d41}(ox:Dn K mg "_law_any_roads" AU f41 d41){f42 d42}(oy:Dn K mg "_law_told" zQ f42 d42){f43 d43}(oz:Dn K mg "_law_text_due" zP f43 d43){f44 d44}(lw:Dn K mg "law" A4 f44 d44)(bR:mg "ValueError"=none)(aV:mg "all"=none)(cN:mg "any"=none)(aS:mg "bool"=none)(aY:mg "enumerate"=none)(aI:mg "int"=none)(ae:mg "isinstance"=none)(aq:mg "len"=none)(aM:mg "list"=none)(fF:mg "max"=none)(c9:mg "min"=none)(aG:mg "range"=none)(c7:mg "set"=none)(aO:mg "sorted"=none)(bc:mg "str"=none)(ah:mg "tuple"=none)(ce:mg "zip"=none)(bi:mg "FIGURES"=some (.str "0123456789" bO))(dL:mg "LEAST"=some (.int 0 dJ))(ey:mg "MOST"=some (.int 9 eu))(bL:mg "MOST_FIELDS"=some (.int 3 bK))(aK:mg "MOST_FIGURES"=some (.int 4 aU))(bN:mg "MOST_HOUSES"=some (.int 8 bM))(EX:Exs K mg):
  ∃fd:U8,(∀(s:c_) (v:b_),Yz s fd ⟨[v],[]⟩ [("script", v)])/\∀base:G_,K.In base->base.Ns TU mg->FnOk P w K mg base CX0 32 fa fd ["script"] (spD K vT):=by
 cases qA.symm.trans lw.m;refine⟨d44,λs v=>?_,λbase _ _=>?_⟩
 ·obtain⟨_,_,_,_,_,_,_,_,_,rfl,_,_⟩:=lw.F.ex;exact .of_eq rfl
 have qB:=nQ.c1 (NF (P:=P) (w:=w) (base:=base) nQ.F aM aY);have qC:=n9.c1 (JN (P:=P) (w:=w) (base:=base) n9.F bc);have qD:=nP.c2 (Mn (P:=P) (w:=w) (base:=base) nP.F );have fG:=nR.c2 (Mg nR.F qD aq);have qE:=n6.c2 (Je n6.F fG aG ah);have qF:=oh.c1 (QH (P:=P) (w:=w) (base:=base) oh.F bc);have qG:=nU.c2 (Jw nU.F fG aG);have qH:=nV.c2 (Ou nV.F fG qG aG c9 fF aO ah);have qI:=ox.c1 (LV ox.F fG aG ah);have qJ:=og.c1 (Jx (P:=P) (w:=w) (base:=base) og.F );have qK:=n4.c2 (Ov n4.F fG c9);have qL:=n5.c3 (JI n5.F qK aG ah);have qM:=oj.c0 (KB (P:=P) (w:=w) (base:=base) oj.F );have qN:=ow.c2 (O4 ow.F fG qM aq aI);have qO:=iu.c2 (EE (P:=P) (w:=w) (base:=base) iu.F ae aS bc aI aM ah ce aV aq iu.b2 iu.F.kp iu.m 8);have gz:=jA.c1 (L7 (P:=P) (w:=w) (base:=base) jA.F EX cN aq aI bi aK);have gB:=jA.x1 (MK (P:=P) (w:=w) (base:=base) jA.F EX cN aq aI bi aK);have C0:=D0.c1 (MX (P:=P) (w:=w) (base:=base) D0.F ae aS aI);have C1:=D1.c1 (MD D1.F C0 dL ey);have C3:=D3.c1 (IT (P:=P) (w:=w) (base:=base) D3.F aq ae ah bL);have C4:=D4.c1 (NP D4.F C1 C3 aV);have qP:=jw.c1 (QG jw.F gz C4 gB EX ah);have qQ:=jw.x1 (QN jw.F gz C4 gB EX ah);have jB:=jz.c1 (Qk jz.F gz gB ah);have jC:=jz.x1 (ME jz.F gz gB ah);have C2:=D2.c1 (JE D2.F C1 aq ae ah);have C5:=D5.c1 (MQ D5.F C2 C3 aV);have qR:=jx.c1 (Iz jx.F jB C5 jC EX ah);have qS:=jx.x1 (Lc jx.F jB C5 jC EX ah);have C7:=D7.c2 (Lb D7.F C0 aq ae ah);have C9:=D9.c2 (LH (P:=P) (w:=w) (base:=base) D9.F );have qT:=nN.c2 (Ms nN.F C9 aO);have qU:=ir.c4 (Hv ir.F qT ir.b4 ir.F.kp ir.m 21);have qV:=nO.c3 (IF nO.F C9 qU);have C8:=D8.c2 (OE D8.F qV aY);have C6:=D6.c1 (Qt D6.F C0 C7 C8 aq ae ah aV aO c7 aM bN);have qW:=jy.c1 (Mu jy.F gz jB C6 jC gB EX ah);have qX:=jy.x1 (OT jy.F gz jB C6 jC gB EX ah);have qY:=nT.c3 (M8 (P:=P) (w:=w) (base:=base) nT.F EX ce ae bR aq);have qZ:=nZ.c1 (IY nZ.F qY EX ae);have ra:=oy.c2 (NQ oy.F qP qR qW qZ qQ qS qX EX);have lE:=om.c1 (Ow (P:=P) (w:=w) (base:=base) om.F aq aI bc);have rb:=oo.c1 (NX oo.F lE ah aq);have rc:=oq.c1 (JU oq.F lE ah aq);have rf:=nS.c2 (N9 (P:=P) (w:=w) (base:=base) nS.F ae aS aI);have rh:=nW.c2 (OL (P:=P) (w:=w) (base:=base) nW.F aM aq);have rj:=nY.c1 (Oo nY.F rf rh aq ae ah aV aO c7 aM);have rl:=ou.c1 (Oi ou.F lE rj ah);have rm:=oz.c2 (PF oz.F rb rc rl);exact Ja lw.F qB qC qE fG qF qH qI qJ qL qN qO ra rm aG
theorem walk{l:PySem.W.OpenLaw}{q:v_}{XP:(Str->Option b_)->G_->Prop}{YP:F_->G_->Prop}{d:DefRec}{K:Params->PySem.W.Frag}(oA:∀ns:List Int,ns.length<=63->∃rs,vT [.val (.lst (ns.map D.int))]=some (.val (.bl true),rs))(hn:l.most=some 63)(gO:d.params.defaults=[])(hY:∀(w:F_) (h:G_),YP w h->(K w.params).In h)(F:∀(w:F_) (mg:Str->Option b_) (fa:g_) (h:G_),(K w.params).In h->h.Ns TU mg->mg d.name=some (.ref fa) →
   ∃fd:U8,(∀(s:c_) (u:b_),Yz s fd ⟨[u],[]⟩ [("script", u)])/\∀base:G_,(K w.params).In base->base.Ns TU mg->FnOk l.prog w (K w.params) mg base CX0 32 fa fd ["script"] (spD (K w.params) vT)):
  PySem.W.WalkO q cU XP YP l.row.toRowW d [] (λf vs=>PySem.call f vs):=
 Jf (n:=63) (k:=32) (x:= "script") (CX:=λ_=>CX0) (sp:=λw=>spD (K w.params) vT) hn (by decide) gO ⟨rfl,by decide,by decide,rfl⟩ hY F (λ_ H a ns hl _ hS=>N2 hS (oA ns hl)) λ_ _ _ _ _ z=>z
end Own
namespace Own
open DL L2
@[simp] theorem Do:∀xs:List Int,depA (xs.map D.int)=0
 | []=>rfl
 | x::xs=>by rw[O_,depA,Do xs];rfl
@[simp] theorem Rt(xs:List Int):dep (.lst (xs.map D.int))=1:=by rw[dep,Do]
def Adj(rs:List (Int×Int))(a b:Int):Prop:=(a,b)∈rs\/(b,a)∈rs
theorem Adj.symm{a b:Int}(h:Adj rs a b):Adj rs b a:=h.elim .inr .inl
structure Web(n:Nat)(rs:List (Int×Int))(rk:Int->Nat):Prop where
 n1:1<=n
 n8:n<=8
 lt:∀r∈rs,0<=r.1/\r.1 < r.2/\r.2 < n
 nd:rs.Nodup
 ne:∀a b,Adj rs a b->rk a≠rk b
 rk8:∀a b,Adj rs a b->rk a < 8
 one:∀v a b,Adj rs v a->Adj rs v b->rk a < rk v->rk b < rk v->a=b
def Par(rs:List (Int×Int))(rk:Int->Nat)(v p:Int):Prop:=Adj rs v p/\rk p < rk v
inductive Desc(rs:List (Int×Int))(rk:Int->Nat)(x:Int):Int->Prop where
 | refl:Desc rs rk x x
 | up {v p:Int} (a:Par rs rk v p) (d:Desc rs rk x p):Desc rs rk x v
noncomputable def Wl(N:Int->List Int):Nat->Option Int->Int->List Int
 | 0,_,h=>[h]
 | k+1,c,h=>h::((N h).filter λu=>decide (some u≠c)).flatMap (Wl N k (some h))
theorem zm{N:Int->List Int}{c:Option Int}{h:Int}:h∈Wl N k c h:=by
 cases k<;>exact m_
theorem CK{N:Int->List Int}{c:Option Int}{h v:Int}:v∈Wl N (k+1) c h↔v=h\/∃u,u∈N h/\some u≠c/\v∈Wl N k (some h) u:=by
 rw[Wl,w_,X4];simp only[Tq,decide_eq_true_eq,and_assoc]
section
variable{rk:Int->Nat}{N:Int->List Int}
theorem Desc.rk_le{x v:Int}(h:Desc rs rk x v):rk x<=rk v:=by
 induction h with
 | refl=>exact r_ _
 | up a _ ih=>exact H_ ih (XA a.2)
theorem Desc.trans{x y v:Int}(h1:Desc rs rk x y)(h2:Desc rs rk y v):Desc rs rk x v:=by
 induction h2 with
 | refl=>exact h1
 | up a _ ih=>exact .up a ih
theorem Web.chain(W:Web n rs rk){a b v:Int}(h1:Desc rs rk a v)(h2:Desc rs rk b v):Desc rs rk a b\/Desc rs rk b a:=by
 induction h1 with
 | refl=>exact .inr h2
 | @up v p q d ih =>
  cases h2 with
  | refl=>exact .inl (.up q d)
  | @up _ p' q' d' =>
   have:=W.one v p p' q.1 q'.1 q.2 q'.2;subst this;exact ih d'
theorem Web.sib0(W:Web n rs rk){a b h:Int}(pa:Par rs rk a h)(pb:Par rs rk b h)(d:Desc rs rk a b):a=b:=by
 cases d with
 | refl=>rfl
 | @up _ p q d' =>
  have:=W.one b p h q.1 pb.1 q.2 pb.2;subst this;have:=d'.rk_le;have:=pa.2;omega
theorem Web.sib(W:Web n rs rk){a b h v:Int}(pa:Par rs rk a h)(pb:Par rs rk b h)(h1:Desc rs rk a v)(h2:Desc rs rk b v):a=b:=by
 rcases W.chain h1 h2 with d | d
 ·exact W.sib0 pa pb d
 ·exact(W.sib0 pb pa d).symm
def Side(rs:List (Int×Int))(rk:Int->Nat)(c h v:Int):Prop:=(rk c < rk h/\Desc rs rk h v)\/(rk h < rk c/\¬Desc rs rk c v)
theorem Web.side(W:Web n rs rk)(hN:∀v u,u∈N v↔Adj rs v u):∀(k:Nat) (c h:Int),Adj rs c h->∀v∈Wl N k (some c) h,Side rs rk c h v:=by
 have base:∀c h,Adj rs c h->Side rs rk c h h:=λc h a=>by
  have:=W.ne c h a;by_cases l:rk c < rk h
  ·exact .inl ⟨l,.refl⟩
  ·exact .inr ⟨by omega,λd=>by have:=d.rk_le;omega⟩
 intro k
 induction k with
 | zero=>intro c h a v hv;rw[Wl,k_] at hv;subst hv;exact base c v a
 | succ k ih =>
  intro c h a v hv
  rcases CK.mp hv with rfl | ⟨u,hu,hc,hv⟩
  ·exact base c v a
  ·have au:=(hN h u).mp hu;have hc:u≠c:=λz=>hc (by rw[z])
   have s:=ih h u au v hv;have n1:=W.ne c h a;have n2:=W.ne h u au;by_cases l:rk c < rk h
   ·rcases s with⟨s1,s2⟩ | ⟨s1,_⟩
    ·exact .inl ⟨l,.trans (.up ⟨au.symm,s1⟩ .refl) s2⟩
    ·exact absurd (W.one h u c au a.symm s1 l) hc
   ·have l:rk h < rk c:=by omega
    have pc:Par rs rk c h:=⟨a,l⟩;refine .inr ⟨l,λd=>?_⟩
    rcases s with⟨s1,s2⟩ | ⟨s1,s2⟩
    ·exact hc (W.sib (h:=h) ⟨au.symm,s1⟩ pc s2 d)
    ·exact s2 (.trans (.up pc .refl) d)
theorem Web.back(W:Web n rs rk)(hN:∀v u,u∈N v↔Adj rs v u){c h:Int}(a:Adj rs c h):c∉Wl N k (some c) h:=λm=>by
 rcases W.side hN k c h a c m with⟨s1,s2⟩ | ⟨_,s2⟩
 ·have:=s2.rk_le;omega
 ·exact s2 .refl
theorem Web.apart(W:Web n rs rk)(hN:∀v u,u∈N v↔Adj rs v u){h a b v:Int}(ha:Adj rs h a)(hb:Adj rs h b)(h1:v∈Wl N k (some h) a)(h2:v∈Wl N k (some h) b):a=b:=by
 rcases W.side hN k h a ha v h1 with⟨s1,s2⟩ | ⟨s1,s2⟩<;>rcases W.side hN k h b hb v h2 with⟨t1,t2⟩ | ⟨t1,t2⟩
 ·exact W.sib (h:=h) ⟨ha.symm,s1⟩ ⟨hb.symm,t1⟩ s2 t2
 ·exact absurd (.trans (.up ⟨ha.symm,s1⟩ .refl) s2) t2
 ·exact absurd (.trans (.up ⟨hb.symm,t1⟩ .refl) t2) s2
 ·exact W.one h a b ha hb s1 t1
theorem Hl{α Y:Type}{f:α->List Y}:∀{l:List α},l.Nodup->(∀x∈l,(f x).Nodup)->(∀x∈l,∀y∈l,∀v,v∈f x->v∈f y->x=y)->(l.flatMap f).Nodup
 | [],_,_,_=>Wb
 | x::l,hn,h1,h2=>by
  rw[List.flatMap_cons,Vz];rw[Ue] at hn;refine⟨h1 x m_,Hl hn.2 (λy hy=>h1 y (i_ _ hy)) (λy hy z hz=>h2 y (i_ _ hy) z (i_ _ hz)),λv hv u hu e=>?_⟩;subst e;obtain⟨y,hy,dW⟩:=X4.mp hu;have:=h2 x m_ y (i_ _ hy) v hv dW;subst this;exact hn.1 hy
theorem Web.nodup(W:Web n rs rk)(hN:∀v u,u∈N v↔Adj rs v u)(hn:∀v,(N v).Nodup):∀(k:Nat) (c:Option Int) (h:Int),(Wl N k c h).Nodup:=by
 intro k
 induction k with
 | zero=>intro c h;rw[Wl];exact Ue.mpr ⟨by simp,Wb⟩
 | succ k ih =>
  intro c h;rw[Wl,Ue];refine⟨λm=>?_,Hl ((hn h).filter _) (λu hu=>ih _ _) λu hu v hv x h1 h2=>?_⟩
  ·obtain⟨u,hu,m⟩:=X4.mp m;exact W.back hN ((hN h u).mp (Tq.mp hu).1) m
  ·exact W.apart hN ((hN h u).mp (Tq.mp hu).1) ((hN h v).mp (Tq.mp hv).1) h1 h2
noncomputable def mu(rk:Int->Nat):Option Int->Int->Nat
 | none,_=>18
 | some c,h=>if rk c < rk h then 8 - rk h else 9+rk h
theorem Web.mu_lt(W:Web n rs rk){c:Option Int}{h u:Int}(hc:∀x,c=some x->Adj rs x h)(hu:Adj rs h u)(ne:some u≠c):mu rk (some h) u < mu rk c h:=by
 have n2:=W.ne h u hu;have r1:=W.rk8 h u hu;have r2:=W.rk8 u h hu.symm;cases c with
 | none=>simp only[mu];split<;>omega
 | some c =>
  have a:=hc c rfl;have n1:=W.ne c h a;simp only[mu];by_cases l:rk c < rk h
  ·rw[if_pos l];by_cases m:rk h < rk u
   ·rw[if_pos m];omega
   ·exact absurd (W.one h u c hu a.symm (by omega) l) (λz=>ne (by rw[z]))
  ·rw[if_neg l];split<;>omega
end
def PotOk(c:List D):Prop:=∃(ns:List Int) (fH aj:Int),c=[.lst (ns.map .int),.int fH,.int aj]/\0<=fH
theorem NR(a b:Int):∃z,cvF xw [.int a,.int b]=some (.int z):=by
 have:wpF xw [.val (.int a),.val (.int b)] λr _=>∃z,r=.val (.int z):=by
  refine vM rfl λKE hE _=>?_
  rw[AT];refine oI ?_;rintro K hK hR;simp;split
  ·exact hR _ _ (hE _ _ ⟨_,rfl,_,rfl⟩)
  ·refine hK _ ?_;refine oI ?_;rintro K hK -;simp;refine hK _ ?_;have l1:=WH (a % 998244353*40692+b*69621+1009) (show(2147483399:Int)≠0 by decide);have u1:=Vv (a % 998244353*40692+b*69621+1009) (show(0:Int) < 2147483399 by decide);generalize (a % 998244353*40692+b*69621+1009) % 2147483399=x at *;refine oI ?_;rintro K hK -;simp;refine⟨by omega,hK _ ?_⟩;have l2:=WH (x*x+b*48271+a % 131071) (show(2147483647:Int)≠0 by decide);have u2:=Vv (x*x+b*48271+a % 131071) (show(0:Int) < 2147483647 by decide);generalize (x*x+b*48271+a % 131071) % 2147483647=y at *;refine oI ?_;rintro K hK -;simp;refine⟨by omega,hK _ ?_⟩;generalize (y*y+x*17+3) % 2147483629=z at *;simp;exact hE _ _ ⟨_,rfl,_,rfl⟩
 obtain⟨r,aQ,e,z,rfl⟩:=this;exact⟨z,by unfold cvF;simp only[map];rw[e]⟩
theorem uo{c:List D}{u:Int}{Q:R->List D->Prop}(hc:PotOk c)(h1:1<=u)(h2:u < 2 ^ 200)(k:∀n c',0<=n->n < u->PotOk c'->Q (.val (.int n)) c'):wpB um c [.int u] Q:=by
 obtain⟨ns,fH,aj,rfl,h0⟩:=hc;refine vE rfl λKE hE _=>?_
 rw[B3];refine Bq (λac=>∃lF jR x y z,0<=lF/\ac=[some (.bor [.lst (ns.map .int),.int lF,.int jR]),some (.val (.int u)),x,y,z]) (λK hK _=>?_) ?_
 ·simp[isMut,R.mut];split
  ·refine oI λK1 eF _=>?_
   simp[isMut,R.mut];refine eF _ ?_;refine oI λK1 eF _=>?_
   simp[isMut,R.mut];refine eF _ ?_;refine Bq (λac=>∃m,ac=[some (.bor [.lst (ns.map .int),.int fH,.int aj]),some (.val (.int u)),some (.val (.int fH)),some (.val (.int m)),none]) (λK1 eF _=>?_) ?_
   ·simp[isMut,R.mut];split
    ·rename_i h;obtain⟨a,e,m⟩:=Fn (ds:=ns.map D.int) h0 (by simpa using h);obtain⟨b,_,rfl⟩:=C_.mp m;rw[u6 e];simp;exact eF _ ⟨_,rfl⟩
    ·rename_i h;split
     ·exact eF _ ⟨_,rfl⟩
     ·rename_i h';have hl:0 < ns.length:=by cases ns with | nil=>simp at h' | cons=>simp
      refine⟨by omega,?_⟩;obtain⟨a,e,m⟩:=Fn (ds:=ns.map D.int) (i:=(fH*7+1) % (ns.length:Int)) (WH _ (by omega)) (by simpa using Vv _ (by omega));obtain⟨b,_,rfl⟩:=C_.mp m;rw[u6 e];simp;exact⟨by omega,eF _ ⟨_,rfl⟩⟩
   ·rintro ac ⟨m,rfl⟩;refine oI λK1 eF _=>?_
    simp[isMut,R.mut];refine eF _ ?_;obtain⟨z,e⟩:=NR m fH;simp[isMut,R.mut,e];exact hK _ ⟨_,_,_,_,_,by omega,rfl⟩
  ·exact hK _ ⟨_,_,_,_,_,h0,rfl⟩
 ·rintro ac ⟨lF,jR,x,y,z,h3,rfl⟩;refine oI ?_;rintro K hK -;simp[isMut,R.mut];refine⟨by omega,hK _ ?_⟩;refine oI ?_;rintro K hK -;simp[isMut,R.mut];refine⟨⟨by omega,by simpa using h2⟩,hK _ ?_⟩;simp;exact hE _ _ _ ⟨_,rfl⟩ (k _ _ (WH _ (by omega)) (Vv _ (by omega)) ⟨_,_,_,rfl,h3⟩)
theorem wV{xs:List D}{d:D}(h:(numD m xs)[i]?=some d):∃x,xs[i]?=some x/\d=.tup [.int ((m+i:Nat):Int),x]:=by
 induction xs generalizing m i with
 | nil=>simp[numD] at h
 | cons a xs ih =>
  cases i with
  | zero=>simp[numD] at h;exact⟨a,rfl,h.symm⟩
  | succ i =>
   simp only[numD,WY] at h;obtain⟨x,e1,e2⟩:=ih h;exact⟨x,by simpa using e1,by rw[e2,show m+1+i=m+(i+1) from by omega]⟩
theorem FK{α:Type}{f:α->D}{xs:List α}{lo:Option Int}:∃ys:List α,cutD (xs.map f) lo hi=ys.map f/\(∀y∈ys,y∈xs)/\ys.length=min (HT.sIx xs.length xs.length hi - HT.sIx xs.length 0 lo) (xs.length - HT.sIx xs.length 0 lo):=by
 refine⟨(xs.drop (HT.sIx xs.length 0 lo)).take (HT.sIx xs.length xs.length hi - HT.sIx xs.length 0 lo),?_,?_,?_⟩
 ·unfold cutD;simp[List.map_drop,YU]
 ·intro y h;exact X5 (UP h)
 ·simp
theorem On(ns:List Int):∃d,coF wZ [.lst (ns.map .int)]=some d/\PotOk d:=by
 refine KY ?_;unfold wZ;refine FN rfl ?_;rw[AW];refine oI λK hK _=>?_
 simp;refine hK _ ?_;obtain⟨cs,e,-,hl⟩:=FK (f:=D.int) (xs:=ns) (lo:=none) (hi:=some 12);rw[e]
 have eO:cs.length=min 12 ns.length:=by
  rw[hl];simp[HT.sIx]
 refine Bq (λac=>∃cs,∃x y z,ac=[x,some (.own (map D.int cs)),y,z]) (λK hK _=>?_) ?_
 ·simp;obtain⟨ms,e,-,hm⟩:=FK (f:=D.int) (xs:=ns) (lo:=some 12) (hi:=some 63);rw[e];refine Es (J:=λi Γ=>∃cs:List Int,∃y z,cs.length=min 12 ns.length/\Γ=[some (.val (.lst (ns.map .int))),some (.own (cs.map .int)),y,z]) ⟨cs,_,_,eO,rfl⟩ ?_ ?_
  ·rintro i d Γ hd ⟨cs,y,z,hc,rfl⟩;obtain⟨x,e1,rfl⟩:=wV hd;rw[Tp,TF] at e1;obtain⟨n,e1,rfl⟩:=e1;have hi:i < ms.length:=(x_.mp e1).1
   have sO:12 < ns.length:=by
    simp[HT.sIx] at hm;omega
   simp[isMut,R.mut];have jW:cs.length=12:=by omega
   have rn:((i:Int) % 12)=((i % 12:Nat):Int):=by omega
   rw[rn];have bD:i % 12 < cs.length:=by omega
   rw[u6 (a:=D.int cs[i % 12]) (by rw[vD];simp[bD])];simp;refine⟨(cs.set (i % 12) (cs[i % 12]+n)).map .int,?_,?_⟩
   ·unfold stF L2.ixN;rw[if_pos (by omega),if_pos (by simp;omega),show((i:Int) % 12).toNat=i % 12 from by omega];simp
   ·exact⟨cs.set (i % 12) (cs[i % 12]+n),by simpa using hc,by simp⟩
  ·rintro Γ ⟨cs,y,z,hc,rfl⟩;exact hK _ ⟨cs,_,_,_,rfl⟩
 ·rintro ac ⟨cs,x,y,z,rfl⟩;simp[flR,fin];exact⟨cs,0,0,rfl,by omega⟩
noncomputable def pairD(p:Int×Int):D:=.tup [.int p.1,.int p.2]
@[simp] theorem RO{p:Int×Int}:ixF (pairD p) (.int 0)=some (.int p.1):=rfl
@[simp] theorem SN{p:Int×Int}:ixF (pairD p) (.int 1)=some (.int p.2):=rfl
theorem v8{lo:Int}{d:D}(h:(rngD lo n)[i]?=some d):d=.int (lo+i)/\i < n:=by
 unfold rngD at h;rw[Tp,TF] at h;obtain⟨k,h1,rfl⟩:=h;obtain⟨h2,h3⟩:=x_.mp h1;rw[Wo] at h3;subst h3;exact⟨rfl,by simpa using h2⟩
@[simp] theorem BD{lo:Int}:(rngD lo n).length=n:=by simp[rngD]
theorem u4(h:∀d∈ds,dep d<=n):depA ds<=n:=by
 induction ds with
 | nil=>simp[depA]
 | cons d ds ih =>
  rw[depA];have h1:=h d m_;have h2:=ih λd hd=>h d (i_ _ hd)
  omega
noncomputable def webD(n:Nat)(rs:List (Int×Int)):D:=.tup [.int n,.tup (rs.map pairD)]
@[simp] theorem Rg:ixF (webD n rs) (.int 0)=some (.int n):=rfl
@[simp] theorem RX:ixF (webD n rs) (.int 1)=some (.tup (rs.map pairD)):=rfl
noncomputable def sortI(xs:List Int):List Int:=xs.mergeSort λa b=>decide (a<=b)
theorem Nr(xs:List Int):(sortI xs).Perm xs:=Wq _ _
theorem Np(xs:List Int):sortD (xs.map D.int)=(sortI xs).map D.int:=by
 unfold sortD sortI;refine(Yw λa _ b _=>?_).symm;unfold leD;rw[vA];by_cases h:a<=b
 ·rw[decide_eq_true h,decide_eq_false (by omega)];rfl
 ·rw[decide_eq_false h,decide_eq_true (by omega)];rfl
theorem LA{xs:List Int}:depA (xs.map D.int)<=0:=u4 λd hd=>by
 obtain⟨n,_,rfl⟩:=C_.mp hd;simp[dep]
theorem Nw{xs:List Int}(h:xs.length < 64):sortF [.lst (xs.map D.int)]=some ((sortI xs).map D.int):=by
 rw[E8,Np];refine⟨by simpa using h,?_,by have:=LA (xs:=xs);omega,.inl ?_⟩
 ·unfold cmAll;rw[j_];intro a ha;rw[j_];intro b hb;obtain⟨i,_,rfl⟩:=C_.mp ha;obtain⟨j,_,rfl⟩:=C_.mp hb;rfl
 ·rw[j_];intro a ha;obtain⟨i,_,rfl⟩:=C_.mp ha;rfl
theorem zy{α Y:Type}{f:α->Y}:∀{l:List α},l.Nodup->(∀x∈l,∀y∈l,f x=f y->x=y)->(l.map f).Nodup
 | [],_,_=>Wb
 | x::l,hn,h=>by
  rw[Ue] at hn;rw[O_,Ue];refine⟨λm=>?_,zy hn.2 λy hy z hz=>h y (i_ _ hy) z (i_ _ hz)⟩;obtain⟨y,hy,e⟩:=C_.mp m;have:=h y (i_ _ hy) x m_ e;subst this;exact hn.1 hy
noncomputable def nbL(rs:List (Int×Int))(h:Int):List Int:=(rs.filter λr=>decide (h=r.1)||decide (h=r.2)).map λr=>if r.1=h then r.2 else r.1
noncomputable def nbs(rs:List (Int×Int))(h:Int):List Int:=sortI (nbL rs h)
section
variable{rk:Int->Nat}
theorem Web.nb0(W:Web n rs rk)(h u:Int):u∈nbL rs h↔Adj rs h u:=by
 unfold nbL Adj;rw[C_];constructor
 ·rintro⟨⟨a,b⟩,hr,e⟩;rw[Tq] at hr;obtain⟨hr,c⟩:=hr;simp only[Bool.or_eq_true,decide_eq_true_eq] at c;simp only at e;by_cases q:a=h
  ·rw[if_pos q] at e;subst q;subst e;exact .inl hr
  ·rw[if_neg q] at e;subst e
   rcases c with c | c
   ·exact absurd c.symm q
   ·subst c;exact .inr hr
 ·rintro(m | m)
  ·exact⟨(h,u),Tq.mpr ⟨m,by simp⟩,if_pos rfl⟩
  ·have:=W.lt _ m;exact⟨(u,h),Tq.mpr ⟨m,by simp⟩,if_neg (show ¬u=h by have:=this.2.1;simp only at this;omega)⟩
theorem Web.nb0_nodup(W:Web n rs rk)(h:Int):(nbL rs h).Nodup:=by
 unfold nbL;refine zy (WO.filter _ W.nd) λx hx y hy e=>?_
 obtain⟨a,b⟩:=x;obtain⟨c,d⟩:=y;rw[Tq] at hx hy;have l1:=W.lt _ hx.1;have l2:=W.lt _ hy.1;have h1:=hx.2;have h2:=hy.2;simp only[Bool.or_eq_true,decide_eq_true_eq] at h1 h2;simp only at e l1 l2;rw[Vd];split at e<;>split at e<;>omega
theorem Web.nb(W:Web n rs rk)(h u:Int):u∈nbs rs h↔Adj rs h u:=by
 unfold nbs;rw[(Nr _).mem_iff];exact W.nb0 h u
theorem Web.in_n(W:Web n rs rk){a b:Int}(h:Adj rs a b):0<=a/\a < n/\0<=b/\b < n:=by
 rcases h with h | h
 ·have:=W.lt _ h;simp only at this;omega
 ·have:=W.lt _ h;simp only at this;omega
theorem FV{l:List Int}(hn:l.Nodup)(h:∀x∈l,0<=x/\x < m):l.length<=m:=by
 have:=zE l ((Ur m).map λk:Nat=>(k:Int)) hn λx hx=>by
  obtain⟨h1,h2⟩:=h x hx;exact C_.mpr ⟨x.toNat,Um.mpr (by omega),by omega⟩
 simpa using this
theorem Web.nb_len(W:Web n rs rk)(h:Int):(nbL rs h).length<=n:=FV (W.nb0_nodup h) λx hx=>by
 have:=W.in_n ((W.nb0 h x).mp hx);omega
theorem Web.rs_len(W:Web n rs rk):rs.length<=64:=by
 have:=zE rs ((Ur 64).map λk:Nat=>(((k / 8:Nat):Int),((k % 8:Nat):Int))) W.nd λr hr=>by
  have:=W.lt r hr;have:=W.n8;refine C_.mpr ⟨r.1.toNat*8+r.2.toNat,Um.mpr (by omega),?_⟩;obtain⟨a,b⟩:=r;simp only at *;rw[Vd];omega
 simpa using this
end
theorem BL{h:Int}(h0:0<=h)(h1:h < n):cvF wj [webD n rs,.int h]=some .non:=by
 refine tY rfl λKE _ k2=>?_
 rw[Bs];simp[h0,h1];exact k2 _ rfl ⟨_,rfl⟩
theorem ub{a b:Int}:deq (.int a) (.int b)=decide (a=b):=by
 rw[deq];by_cases h:a=b<;>simp[h]
theorem zB{a b:Int}:(a == b)=decide (a=b):=by
 by_cases h:a=b<;>simp[h]
theorem Qe{a b:Int}:(a == b)=decide (b=a):=by
 by_cases h:b=a
 ·simp[h]
 ·have:¬a=b:=λz=>h z.symm
  simp[h,this]
theorem Iv{h:Int}{r:Int×Int}:inF false (.int h) (pairD r)=some (.bl (decide (h=r.1)||decide (h=r.2))):=by
 unfold inF;simp[pairD,seqI,deq,dep,depA,Qe]
theorem OH{rk:Int->Nat}(W:Web n rs rk){h:Int}(h0:0<=h)(h1:h < n):coF yy [webD n rs,.int h]=some ((nbs rs h).map D.int):=by
 have e1:=BL (rs:=rs) h0 h1;have l1:=W.rs_len;have l2:=W.nb_len h;have l3:=W.n8;have e2:sortF [.lst ((nbL rs h).map D.int)]=some ((nbs rs h).map D.int):=Nw (by omega);refine Pg rfl λKE k1=>?_
 rw[zY];refine oI ?_;rintro K hK -;simp[e1];refine hK _ ?_;simp;refine ux rs pairD (λr=>decide (h=r.1)||decide (h=r.2)) (λr=>.int (if r.1=h then r.2 else r.1)) ?_;simp[Iv,dep,ub];refine⟨by omega,λa b _ _=>by split<;>intro z<;>first | exact absurd (by assumption) z | exact absurd z (by assumption),?_⟩
 have e3:map (λr=>D.int (if r.1=h then r.2 else r.1)) (Zv (λr=>decide (h=r.1)||decide (h=r.2)) rs)=(nbL rs h).map D.int:=by
  unfold nbL;rw[Zc];rfl
 rw[e3,e2];simp;exact k1 _ ⟨_,rfl⟩
noncomputable def cameD:Option Int->D
 | none=>.non
 | some c=>.int c
@[simp] theorem R0{c:Option Int}:dep (cameD c)=0:=by cases c<;>rfl
theorem GV{u:Int}{c:Option Int}:deq (.int u) (cameD c)=decide (some u=c):=by
 cases c with
 | none=>simp[cameD,deq]
 | some c =>
  simp only[cameD,ub];by_cases h:u=c<;>simp[h]
def SzK:Nat->D->Prop
 | 0,_=>False
 | k+1,.tup ds=>ds.length<=1000000/\∀d∈ds,SzK k d
 | k+1,.lst ds=>ds.length<=1000000/\∀d∈ds,SzK k d
 | _+1,.exc _ _=>False
 | _+1,_=>True
@[simp ↓] theorem QZ{α:Type}{F:D->Option α}{g:M D}{Q:α->Gm->Prop}:wp (un1 F g) Γ Q↔wp g Γ λd ac=>wp (lft (F d)) ac Q:=by simp[un1]
@[simp] theorem R5:isX .non=false:=rfl
@[simp] theorem S9{x:Bool}:isX (.bl x)=false:=rfl
@[simp] theorem SQ{x:Int}:isX (.int x)=false:=rfl
@[simp] theorem SK{x:PySem.Str}:isX (.str x)=false:=rfl
@[simp] theorem RV{x:List D}:isX (.tup x)=false:=rfl
@[simp] theorem Sb{x:List D}:isX (.lst x)=false:=rfl
theorem nX{d:D}(h:dep d < 1000):isX d=false:=by cases d<;>first | rfl | (simp[dep] at h)
@[simp] theorem S0{k:Ki}:isiF k .non=some (.bl (isiB k .non)):=rfl
@[simp] theorem Sx{k:Ki}{x:Bool}:isiF k (.bl x)=some (.bl (isiB k (.bl x))):=rfl
@[simp] theorem Rl{k:Ki}{x:Int}:isiF k (.int x)=some (.bl (isiB k (.int x))):=rfl
@[simp] theorem R7{k:Ki}{x:PySem.Str}:isiF k (.str x)=some (.bl (isiB k (.str x))):=rfl
@[simp] theorem QQ{k:Ki}{x:List D}:isiF k (.tup x)=some (.bl (isiB k (.tup x))):=rfl
@[simp] theorem RD{k:Ki}{x:List D}:isiF k (.lst x)=some (.bl (isiB k (.lst x))):=rfl
theorem xo{k:Ki}{d:D}(h:isX d=false):isiF k d=some (.bl (isiB k d)):=by unfold isiF;rw[h];rfl
@[simp] theorem Th{i:Int}:negI (.int i)=some (.int (-i)):=rfl
@[simp] theorem RB{b:Bool}{d:D}:isNF b d .non=some (.bl (if b then !isN d else isN d)):=rfl
@[simp] theorem SU:isiB .iT .non=false:=rfl
@[simp] theorem SG{x:Bool}:isiB .iT (.bl x)=true:=rfl
@[simp] theorem S5{x:Int}:isiB .iT (.int x)=true:=rfl
@[simp] theorem Q6{x:PySem.Str}:isiB .iT (.str x)=false:=rfl
@[simp] theorem Sy{x:List D}:isiB .iT (.tup x)=false:=rfl
@[simp] theorem Tg{x:List D}:isiB .iT (.lst x)=false:=rfl
@[simp] theorem Te:isiB .sT .non=false:=rfl
@[simp] theorem Ri{x:Bool}:isiB .sT (.bl x)=false:=rfl
@[simp] theorem Q7{x:Int}:isiB .sT (.int x)=false:=rfl
@[simp] theorem Ro{x:PySem.Str}:isiB .sT (.str x)=true:=rfl
@[simp] theorem S4{x:List D}:isiB .sT (.tup x)=false:=rfl
@[simp] theorem RE{x:List D}:isiB .sT (.lst x)=false:=rfl
@[simp] theorem S':isiB .bT .non=false:=rfl
@[simp] theorem S7{x:Bool}:isiB .bT (.bl x)=true:=rfl
@[simp] theorem S6{x:Int}:isiB .bT (.int x)=false:=rfl
@[simp] theorem S1{x:PySem.Str}:isiB .bT (.str x)=false:=rfl
@[simp] theorem Sn{x:List D}:isiB .bT (.tup x)=false:=rfl
@[simp] theorem Sr{x:List D}:isiB .bT (.lst x)=false:=rfl
@[simp] theorem Sf:isiB .tT .non=false:=rfl
@[simp] theorem SM{x:Bool}:isiB .tT (.bl x)=false:=rfl
@[simp] theorem Q5{x:Int}:isiB .tT (.int x)=false:=rfl
@[simp] theorem Rj{x:PySem.Str}:isiB .tT (.str x)=false:=rfl
@[simp] theorem Tb{x:List D}:isiB .tT (.tup x)=true:=rfl
@[simp] theorem RF{x:List D}:isiB .tT (.lst x)=false:=rfl
@[simp] theorem Se:isiB .lT .non=false:=rfl
@[simp] theorem QP{x:Bool}:isiB .lT (.bl x)=false:=rfl
@[simp] theorem RZ{x:Int}:isiB .lT (.int x)=false:=rfl
@[simp] theorem S3{x:PySem.Str}:isiB .lT (.str x)=false:=rfl
@[simp] theorem S8{x:List D}:isiB .lT (.tup x)=false:=rfl
@[simp] theorem Sh{x:List D}:isiB .lT (.lst x)=true:=rfl
theorem EL{xs:List D}:pairsD xs xs=xs.map λx=>.tup [x,x]:=by
 unfold pairsD
 induction xs with
 | nil=>rfl
 | cons x xs ih=>simp only[Yt,O_,ih]
theorem xk:∀{k:Nat}{d:D},SzK k d->cvF (vw k) [d,d]=some (.bl true)
 | 0,_,h=>h.elim
 | k+1,d,h=>by
  rw[vw];cases d with
  | exc _ _=>exact h.elim
  | non=>rfl
  | bl b=>cases b<;>rfl
  | int i =>
   have e:cvF (fnD 2 2 (v5 (vw k))) [.int i,.int i]=some (.bl (i == i)):=rfl;rw[e,beq_self_eq_true]
  | str i =>
   have e:cvF (fnD 2 2 (v5 (vw k))) [.str i,.str i]=some (.bl (i == i)):=rfl;rw[e,beq_self_eq_true]
  | tup ds =>
   obtain⟨h1,h2⟩:=h;refine tY rfl λKE k1 _=>?_
   rw[v5];refine oI ?_;rintro K hK -;refine⟨_,_,rfl,hK _ ?_⟩;refine oI ?_;rintro K hK -;refine⟨_,_,rfl,hK _ ?_⟩;refine oI ?_;rintro K hK -;refine⟨_,_,rfl,hK _ ?_⟩;refine oI ?_;rintro K hK -;refine⟨_,_,rfl,hK _ ?_⟩;simp[dep];refine wJ ds (λx=>.tup [x,x]) (λ_=>true) (λ_=>.bl true) ?_;simp[EL];refine⟨h1,λx hx=>?_,?_⟩
   ·simp[xk (h2 x hx)]
   ·have e:allF [D.lst (map (λ_=>D.bl true) (Zv (λ_=>true) ds))]=some (.bl true):=by
     rw[vX (f:=λ_=>true)];simp
    rw[e];exact⟨_,_,rfl,k1 _ ⟨_,rfl⟩⟩
  | lst ds =>
   obtain⟨h1,h2⟩:=h;refine tY rfl λKE k1 _=>?_
   rw[v5];refine oI ?_;rintro K hK -;refine⟨_,_,rfl,hK _ ?_⟩;refine oI ?_;rintro K hK -;refine⟨_,_,rfl,hK _ ?_⟩;refine oI ?_;rintro K hK -;refine⟨_,_,rfl,hK _ ?_⟩;refine oI ?_;rintro K hK -;refine⟨_,_,rfl,hK _ ?_⟩;simp[dep];refine wJ ds (λx=>.tup [x,x]) (λ_=>true) (λ_=>.bl true) ?_;simp[EL];refine⟨h1,λx hx=>?_,?_⟩
   ·simp[xk (h2 x hx)]
   ·have e:allF [D.lst (map (λ_=>D.bl true) (Zv (λ_=>true) ds))]=some (.bl true):=by
     rw[vX (f:=λ_=>true)];simp
    rw[e];exact⟨_,_,rfl,k1 _ ⟨_,rfl⟩⟩
theorem GQ{α:Type}{a b:M α}{Q:α->Gm->Prop}(h:wp a Γ Q):wp (altM a b) Γ Q:=by
 obtain⟨x,af,e,q⟩:=h;exact⟨x,af,by unfold altM;rw[e],q⟩
theorem DT{α:Type}{a b:M α}{Q:α->Gm->Prop}(e:a Γ=none)(h:wp b Γ Q):wp (altM a b) Γ Q:=by
 obtain⟨x,af,e',q⟩:=h;exact⟨x,af,by unfold altM;rw[e];exact e',q⟩
structure MixN(g:List R->Option (R×List R))(ds:List D):Prop where
 co:coF g ds=none
 cv:cvF g ds=some .non
theorem Bh{g:List R->Option (R×List R)}{o:Option (List D)}(h:wpF g (ds.map .val) λr _=>r=(match o with | some l=>R.own l | none=>R.val .non)):(∀l,o=some l->coF g ds=some l)/\(o=none->MixN g ds):=by
 obtain⟨r,aQ,e,hr⟩:=h;refine⟨λl z=>?_,λz=>⟨?_,?_⟩⟩
 ·subst z;subst hr;unfold coF;rw[e]
 ·subst z;subst hr;unfold coF;rw[e]
 ·subst z;subst hr;unfold cvF;rw[e]
section
variable{g:List R->Option (R×List R)}{t:M (List D)}{l:List D}
theorem xB{α:Type}{F:List D->Option α}(ht:t Γ=some (ds,ac))(e:F ds=none):fn1 F t Γ=none:=by
 unfold fn1 bnd;rw[ht];show lft (F ds) ac=none;rw[e];rfl
theorem yR{α:Type}{F:List D->Option α}{x:α}(ht:t Γ=some (ds,ac))(e:F ds=some x):fn1 F t Γ=some (x,ac):=by
 unfold fn1 bnd;rw[ht];show lft (F ds) ac=_;rw[e];rfl
theorem Hq{α Y:Type}{m:M α}{f:α->M Y}(h:m Γ=none):bnd m f Γ=none:=by unfold bnd;rw[h]
theorem B2{α Y:Type}{m:M α}{f:α->M Y}{x:α}(h:m Γ=some (x,ac)):bnd m f Γ=f x ac:=by unfold bnd;rw[h]
theorem DB{Q:D->Gm->Prop}(ht:t Γ=some (ds,ac))(e:coF g ds=some l)(q:Q (.lst l) ac):wp (altM (frz (fn1 (coF g) t)) (fn1 (cvF g) t)) Γ Q:=
 GQ ⟨_,_,by unfold frz;rw[B2 (yR ht e)];rfl,q⟩
theorem G2{Q:D->Gm->Prop}(ht:t Γ=some (ds,ac))(e:MixN g ds)(q:Q .non ac):wp (altM (frz (fn1 (coF g) t)) (fn1 (cvF g) t)) Γ Q:=
 DT (by unfold frz;exact Hq (xB ht e.co)) ⟨_,_,yR ht e.cv,q⟩
theorem Kg{Q:Fl->Gm->Prop}(ht:t Γ=some (ds,ac))(e:coF g ds=some l)(q:Q (.rt (.own l)) ac):wp (altM (retO (fn1 (coF g) t)) (retS (fn1 (cvF g) t))) Γ Q:=
 GQ ⟨_,_,by unfold retO;rw[B2 (yR ht e)];rfl,q⟩
theorem IW{Q:Fl->Gm->Prop}(ht:t Γ=some (ds,ac))(e:MixN g ds)(q:Q (.rt (.val .non)) ac):wp (altM (retO (fn1 (coF g) t)) (retS (fn1 (cvF g) t))) Γ Q:=
 DT (by unfold retO;exact Hq (xB ht e.co)) ⟨_,_,by unfold retS;rw[B2 (yR ht e.cv)];rfl,q⟩
end
noncomputable def Wy(N:Int->List Int):Nat->Option Int->Int->Int->Option (List Int)
 | 0,_,_,_=>none
 | k+1,c,h,t=>if h=t then some [h] else(((N h).filter λu=>decide (some u≠c)).findSome? λu=>Wy N k (some h) u t).map (h::·)
theorem Ce{α Y:Type}{f:α->Option Y}{r:Y}{x:α}:∀{l:List α},x∈l->f x=some r->(∀y∈l,(f y).isSome=true->y=x)->l.findSome? f=some r
 | [],hx,_,_=>by cases hx
 | y::l,hx,hf,hu=>by
  rw[Yc];cases e:f y with
  | some r' =>
   have:=hu y m_ (by rw[e];rfl);subst this;rw[e] at hf;exact hf
  | none =>
   refine Ce ?_ hf λz hz=>hu z (i_ _ hz)
   rcases w_.mp hx with rfl | hx
   ·rw[e] at hf;cases hf
   ·exact hx
section
variable{rk:Int->Nat}{N:Int->List Int}
theorem xD:∀{k:Nat}{c:Option Int}{h t:Int}{p:List Int},Wy N k c h t=some p->t∈Wl N k c h/\p.length<=k
 | 0,_,_,_,_,e=>by cases e
 | k+1,c,h,t,p,e=>by
  rw[Wy] at e;by_cases ht:h=t
  ·rw[if_pos ht] at e;cases e;subst ht;exact⟨zm,by simp⟩
  ·rw[if_neg ht,TF] at e;obtain⟨q,e,rfl⟩:=e;obtain⟨u,hu,e⟩:=Ts e;rw[Tq,decide_eq_true_eq] at hu;have:=xD e;exact⟨CK.mpr (.inr ⟨u,hu.1,hu.2,this.1⟩),by simp;exact this.2⟩
theorem Web.ext(W:Web n rs rk)(hN:∀v u,u∈N v↔Adj rs v u):∀(k:Nat) (c:Option Int) (h v u:Int) (p:List Int),(∀x,c=some x->Adj rs x h)->mu rk c h < k->Wy N k c h v=some p->u∈N v->some u≠c->u∉p->Wy N k c h u=some (p++[u])
 | 0,_,_,_,_,_,_,_,e,_,_,_=>by cases e
 | k+1,c,h,v,u,p,hc,hm,e,hu,uc,up=>by
  have uni:∀x y,x∈N h->y∈N h->u∈Wl N k (some h) x->u∈Wl N k (some h) y->x=y:=λx y hx hy=>W.apart hN ((hN h x).mp hx) ((hN h y).mp hy)
  rw[Wy] at e;by_cases hv:h=v
  ·rw[if_pos hv] at e;cases e;subst hv;have uh:¬h=u:=λz=>up (by rw[z];simp)
   have au:=(hN h u).mp hu;have lt:=W.mu_lt hc au uc;rw[Wy,if_neg uh]
   have one:Wy N k (some h) u u=some [u]:=by
    cases k with
    | zero=>omega
    | succ k=>rw[Wy,if_pos rfl]
   have:(((N h).filter λu=>decide (some u≠c)).findSome? λx=>Wy N k (some h) x u)=some [u]:=Ce (x:=u) (Tq.mpr ⟨hu,by simpa using uc⟩) one λy hy s=>by
    obtain⟨q,s⟩:=U9.mp s;exact uni y u (Tq.mp hy).1 hu (xD s).1 zm
   rw[this];rfl
  ·rw[if_neg hv,TF] at e;obtain⟨q,e,rfl⟩:=e;obtain⟨x,hx,e⟩:=Ts e;have eM:=hx;rw[Tq,decide_eq_true_eq] at eM;have ax:=(hN h x).mp eM.1;have lt:=W.mu_lt hc ax eM.2;have uh:u≠h:=λz=>up (by rw[z];simp)
   have uq:u∉q:=λz=>up (i_ _ z)
   have ih:=W.ext hN k (some h) x v u q (λy z=>by cases z;exact ax) (by omega) e hu (λz=>uh (by cases z;rfl)) uq;rw[Wy,if_neg (λz=>uh z.symm)]
   have:(((N h).filter λu=>decide (some u≠c)).findSome? λx=>Wy N k (some h) x u)=some (q++[u]):=Ce hx ih λy hy s=>by
    obtain⟨q,s⟩:=U9.mp s;exact uni y x (Tq.mp hy).1 eM.1 (xD s).1 (xD ih).1
   rw[this];rfl
end
def St(S:Int->Int->Prop):List Int->Prop
 | []=>True
 | [_]=>True
 | a::b::r=>S a b/\St S (b::r)
theorem St.snoc{S:Int->Int->Prop}:∀{q:List Int}{v u:Int},St S (q++[v])->S v u->St S (q++[v]++[u])
 | [],v,u,_,h=>⟨h,trivial⟩
 | [a],v,u,h1,h=>⟨h1.1,h,trivial⟩
 | a::b::q,v,u,h1,h=>⟨h1.1,St.snoc (q:=b::q) h1.2 h⟩
theorem St.init{S:Int->Int->Prop}:∀{q:List Int}{v u:Int},St S (q++[v]++[u])->St S (q++[v])/\S v u
 | [],v,u,h=>⟨trivial,h.1⟩
 | [a],v,u,h=>⟨⟨h.1,trivial⟩,h.2.1⟩
 | a::b::q,v,u,h=>by
  have:=St.init (q:=b::q) h.2;exact⟨⟨h.1,this.1⟩,this.2⟩
theorem St.mono{S T:Int->Int->Prop}(i:∀a b,S a b->T a b):∀{q:List Int},St S q->St T q
 | [],_=>trivial
 | [_],_=>trivial
 | a::b::r,h=>⟨i _ _ h.1,St.mono i (q:=b::r) h.2⟩
theorem St.rev{S:Int->Int->Prop}(sy:∀a b,S a b->S b a):∀{q:List Int},St S q->St S q.reverse
 | [],_=>trivial
 | [_],_=>trivial
 | a::b::r,h=>by
  have:=St.rev sy (q:=b::r) h.2;rw[V7] at this;rw[V7,V7];exact St.snoc this (sy _ _ h.1)
section
variable{rk:Int->Nat}{N:Int->List Int}
theorem F7:∀{k:Nat}{c:Option Int}{h t:Int}{p:List Int},Wy N k c h t=some p->∀v∈p,v∈Wl N k c h
 | 0,_,_,_,_,e=>by cases e
 | k+1,c,h,t,p,e=>by
  rw[Wy] at e;intro v hv;by_cases ht:h=t
  ·rw[if_pos ht] at e;cases e;rw[k_.mp hv];exact zm
  ·rw[if_neg ht,TF] at e;obtain⟨q,e,rfl⟩:=e;obtain⟨u,hu,e⟩:=Ts e;rw[Tq,decide_eq_true_eq] at hu
   rcases w_.mp hv with rfl | hv
   ·exact zm
   ·exact CK.mpr (.inr ⟨u,hu.1,hu.2,F7 e v hv⟩)
theorem uT:∀{k:Nat}{c:Option Int}{h t:Int}{p:List Int},Wy N k c h t=some p->∃q,p=h::q/\∃r,p=r++[t]
 | 0,_,_,_,_,e=>by cases e
 | k+1,c,h,t,p,e=>by
  rw[Wy] at e;by_cases ht:h=t
  ·rw[if_pos ht] at e;cases e;exact⟨[],rfl,[],by rw[ht];rfl⟩
  ·rw[if_neg ht,TF] at e;obtain⟨q,e,rfl⟩:=e;obtain⟨u,hu,e⟩:=Ts e;obtain⟨_,_,r,rfl⟩:=uT e;exact⟨_,rfl,h::r,rfl⟩
theorem v4(hN:∀v u,u∈N v↔Adj rs v u):∀{k:Nat}{c:Option Int}{h t:Int}{p:List Int},Wy N k c h t=some p->St (Adj rs) p
 | 0,_,_,_,_,e=>by cases e
 | k+1,c,h,t,p,e=>by
  rw[Wy] at e;by_cases ht:h=t
  ·rw[if_pos ht] at e;cases e;trivial
  ·rw[if_neg ht,TF] at e;obtain⟨q,e,rfl⟩:=e;obtain⟨u,hu,e⟩:=Ts e;rw[Tq,decide_eq_true_eq] at hu;obtain⟨q',rfl,_⟩:=uT e;exact⟨(hN h u).mp hu.1,v4 hN e⟩
theorem Web.wy_nodup(W:Web n rs rk)(hN:∀v u,u∈N v↔Adj rs v u):∀{k:Nat}{c:Option Int}{h t:Int}{p:List Int},Wy N k c h t=some p->p.Nodup
 | 0,_,_,_,_,e=>by cases e
 | k+1,c,h,t,p,e=>by
  rw[Wy] at e;by_cases ht:h=t
  ·rw[if_pos ht] at e;cases e;exact Ue.mpr ⟨by simp,Wb⟩
  ·rw[if_neg ht,TF] at e;obtain⟨q,e,rfl⟩:=e;obtain⟨u,hu,e⟩:=Ts e;rw[Tq,decide_eq_true_eq] at hu;exact Ue.mpr ⟨λm=>W.back hN ((hN h u).mp hu.1) (F7 e h m),W.wy_nodup hN e⟩
theorem Web.uni(W:Web n rs rk)(hN:∀v u,u∈N v↔Adj rs v u)(hk:18 < k){h:Int}:∀(m:Nat) (q:List Int) (v:Int),q.length=m->(∃r,q++[v]=h::r)->St (Adj rs) (q++[v])->(q++[v]).Nodup->Wy N k none h v=some (q++[v]):=by
 intro m
 induction m with
 | zero =>
  intro q v hq ⟨r,e⟩ _ _;have:=TB.mp hq;subst this;cases e;obtain⟨k,rfl⟩:∃j,k=j+1:=⟨k - 1,by omega⟩;rw[Wy,if_pos rfl];rfl
 | succ m ih =>
  intro q u hq ⟨r,e⟩ st nd;obtain⟨q,v,rfl⟩:∃q' v,q=q'++[v]:=⟨_,_,(V2 (by intro z;rw[z] at hq;cases hq)).symm⟩;obtain⟨s1,s2⟩:=st.init;have gC:=Vz.mp nd
  have i:=ih q v (by simpa using hq) (by
   cases q with
   | nil=>cases e;exact⟨[],rfl⟩
   | cons a q=>cases e;exact⟨_,rfl⟩) s1 gC.1
  exact W.ext hN k none h v u _ (λx z=>by cases z) (by simp only[mu];omega) i ((hN v u).mpr s2) (by simp) λm=>gC.2.2 u m u (k_.mpr rfl) rfl
theorem Web.uni'(W:Web n rs rk)(hN:∀v u,u∈N v↔Adj rs v u)(hk:18 < k){h t:Int}{p q r:List Int}(e1:p=h::q)(e2:p=r++[t])(st:St (Adj rs) p)(nd:p.Nodup):Wy N k none h t=some p:=by
 subst e2;exact W.uni hN hk r.length r t rfl ⟨q,e1⟩ st nd
theorem Web.wy_rev(W:Web n rs rk)(hN:∀v u,u∈N v↔Adj rs v u)(hk:18 < k){h t:Int}{p:List Int}(e:Wy N k none h t=some p):Wy N k none t h=some p.reverse:=by
 obtain⟨q,e1,r,e2⟩:=uT e;refine W.uni' hN hk (q:=r.reverse) (r:=q.reverse) (by rw[e2];simp) (by rw[e1];simp) ((v4 hN e).rev λa b h=>h.symm) ?_;exact(List.reverse_perm p).symm.nodup (W.wy_nodup hN e)
theorem Web.sub(W:Web n rs rk)(hs:∀r∈aQ,r∈rs)(nd:aQ.Nodup):Web n aQ rk:=by
 have a:∀a b,Adj aQ a b->Adj rs a b:=λa b h=>h.elim (λh=>.inl (hs _ h)) λh=>.inr (hs _ h)
 exact⟨W.n1,W.n8,λr hr=>W.lt r (hs r hr),nd,λx y h=>W.ne x y (a _ _ h),λx y h=>W.rk8 x y (a _ _ h),λv x y h1 h2=>W.one v x y (a _ _ h1) (a _ _ h2)⟩
theorem Web.only(W:Web n rs rk)(hN:∀v u,u∈N v↔Adj rs v u){N':Int->List Int}(W':Web n aQ rk)(lG:∀v u,u∈N' v↔Adj aQ v u)(hs:∀r∈aQ,r∈rs)(hk:18 < k){a b:Int}(ab:Adj rs a b)(ne:a≠b){p:List Int}(e:Wy N' k none a b=some p):Adj aQ a b:=by
 have sub:∀a b,Adj aQ a b->Adj rs a b:=λa b h=>h.elim (λh=>.inl (hs _ h)) λh=>.inr (hs _ h)
 obtain⟨q,e1,r,e2⟩:=uT e;have h1:=W.uni' hN hk e1 e2 ((v4 lG e).mono sub) (W'.wy_nodup lG e);have h2:=W.uni' hN hk (h:=a) (t:=b) (p:=[a,b]) (q:=[b]) (r:=[a]) rfl rfl ⟨ab,trivial⟩ (by simp[ne]);rw[h1] at h2;cases h2;exact(v4 lG e).1
structure Wb0(n:Nat)(rs:List (Int×Int))(rk:Int->Nat):Prop where
 n1:1<=n
 n8:n<=8
 lt:∀r∈rs,0<=r.1/\r.1 < r.2/\r.2 < n
 nd:rs.Nodup
 ne:∀a b,Adj rs a b->rk a≠rk b
 one:∀v a b,Adj rs v a->Adj rs v b->rk a < rk v->rk b < rk v->a=b
noncomputable def lows(n:Nat)(rk:Int->Nat)(v:Int):Nat:=((Ur n).filter λu:Nat=>decide (rk u < rk v)).length
theorem BW{α:Type}{p q:α->Bool}:∀{l:List α}{x:α},(∀y,p y=true->q y=true)->x∈l->q x=true->p x=false->(l.filter p).length < (l.filter q).length
 | [],_,_,h,_,_=>by cases h
 | y::l,x,i,h,hq,hp=>by
  have le:∀l:List α,(l.filter p).length<=(l.filter q).length:=λl=>by
   induction l with
   | nil=>exact r_ _
   | cons z l ih =>
    by_cases c:p z=true
    ·rw[T9 c,T9 (i z c)];simpa using ih
    ·rw[UO c];by_cases d:q z=true
     ·rw[T9 d,S_];omega
     ·rw[UO d];exact ih
  rcases w_.mp h with rfl | h
  ·rw[UO (by simp[hp]),T9 hq,S_];have:=le l;omega
  ·have:=BW i h hq hp;by_cases c:p y=true
   ·rw[T9 c,T9 (i y c)];simpa using this
   ·rw[UO c];by_cases d:q y=true
    ·rw[T9 d,S_];omega
    ·rw[UO d];exact this
theorem Wb0.web(W:Wb0 n rs rk):Web n rs (lows n rk):=by
 have dS:∀a b,Adj rs a b->∃x:Nat,x < n/\a=(x:Int):=λa b h=>by
  rcases h with h | h
  ·have:=W.lt _ h;simp only at this;exact⟨a.toNat,by omega,by omega⟩
  ·have:=W.lt _ h;simp only at this;exact⟨a.toNat,by omega,by omega⟩
 have up:∀a b,(∃x:Nat,x < n/\a=(x:Int))->rk a < rk b->lows n rk a < lows n rk b:=λa b ⟨x,hx,e⟩ l=>by
  subst e;refine BW (x:=x) (λy hy=>?_) (Um.mpr hx) (by simpa using l) (by simp);simp only[decide_eq_true_eq] at hy ⊢;omega
 have dn:∀a b,(∃x:Nat,x < n/\b=(x:Int))->lows n rk a < lows n rk b->rk a < rk b:=λa b hb l=>by
  rcases Vc (rk a) (rk b) with z | z | z
  ·exact z
  ·unfold lows at l;rw[z] at l;omega
  ·have:=up b a hb z;omega
 refine⟨W.n1,W.n8,W.lt,W.nd,λa b h e=>?_,λa b h=>?_,λv a b h1 h2 l1 l2=>W.one v a b h1 h2 (dn _ _ (dS _ _ h1) l1) (dn _ _ (dS _ _ h1) l2)⟩
 ·have:=W.ne a b h
  rcases Nat.lt_or_gt_of_ne this with z | z
  ·have:=up a b (dS _ _ h) z;omega
  ·have:=up b a (dS _ _ h.symm) z;omega
 ·obtain⟨x,hx,rfl⟩:=dS a b h;have:lows n rk (x:Int) < ((Ur n).filter λ_:Nat=>true).length:=BW (x:=x) (λ_ _=>rfl) (Um.mpr hx) rfl (by simp);rw[V5.mpr (λ_ _=>rfl),Xe] at this;have:=W.n8;omega
noncomputable def far(N:Int->List Int)(b v:Int):Nat:=((Wy N 20 none b v).getD []).length
theorem Web.wy_pre(W:Web n rs rk)(hN:∀v u,u∈N v↔Adj rs v u)(hk:18 < k){h t u:Int}{p:List Int}(e:Wy N k none h t=some p)(hu:u∈p):∃q s,Wy N k none h u=some q/\p=q++s:=by
 obtain⟨a,b,rfl⟩:=Wt hu;obtain⟨q,e1,_⟩:=uT e
 have st:∀(l m:List Int),St (Adj rs) (l++m)->St (Adj rs) l:=by
  intro l
  induction l with
  | nil=>intro _ _;trivial
  | cons x l ih =>
   intro m h;cases l with
   | nil=>trivial
   | cons y l=>exact⟨h.1,ih m h.2⟩
 have e3:a++u::b=(a++[u])++b:=by simp
 have s1:=v4 hN e;have s2:=W.wy_nodup hN e;rw[e3] at s1 s2;refine⟨a++[u],b,W.uni' hN hk (q:=(a++[u]).tail) (r:=a) ?_ rfl (st _ _ s1) (Vz.mp s2).1,e3⟩;cases a with
 | nil=>cases e1;rfl
 | cons x a=>cases e1;rfl
theorem Web.wy_near(W:Web n rs rk)(hN:∀v u,u∈N v↔Adj rs v u)(hk:18 < k){h v u:Int}{p:List Int}(e:Wy N k none h v=some p)(a:Adj rs v u):Wy N k none h u=some (p++[u])\/∃q,Wy N k none h u=some q/\p=q++[v]:=by
 by_cases m:u∈p
 ·obtain⟨q,s,e1,e2⟩:=W.wy_pre hN hk e m;refine .inr ⟨q,e1,?_⟩;by_cases m2:v∈q
  ·obtain⟨q',s',e3,e4⟩:=W.wy_pre hN hk e1 m2;rw[e] at e3;cases e3;have l1:s.length=0:=by have h1:=congrArg length e4;have h2:=congrArg length e2;rw[R_] at h1 h2;omega
   rw[TB.mp l1,Uo] at e2;subst e2;obtain⟨_,_,r,z⟩:=uT e;obtain⟨_,_,r',z'⟩:=uT e1;rw[z] at z';have:=(W7 z' rfl).2;cases this;exact absurd rfl (W.ne _ _ a)
  ·have:=W.ext hN k none h u v q (λx z=>by cases z) (by simp only[mu];omega) e1 ((hN u v).mpr a.symm) (by simp) m2;rw[e] at this;cases this;rfl
 ·exact .inl (W.ext hN k none h v u p (λx z=>by cases z) (by simp only[mu];omega) e ((hN v u).mpr a) (by simp) m)
theorem Web.more(W:Web n rs rk)(hN:∀v u,u∈N v↔Adj rs v u){a b:Int}(h0:0<=a)(h1:a < b)(h2:b < n)(no:Wy N 20 none b a=none)(nd:aQ.Nodup)(hm:∀r,r∈aQ↔r=(a,b)\/r∈rs):∃dY,Web n aQ dY:=by
 obtain⟨C,hC⟩:∃C:Int->Prop,C=λv=>∃p,Wy N 20 none b v=some p:=⟨_,rfl⟩
 have cb:C b:=by rw[hC];exact⟨_,by rw[Wy,if_pos rfl]⟩
 have ca:¬C a:=by rw[hC];rintro⟨p,e⟩;rw[no] at e;cases e
 have cs:∀v u,Adj rs v u->C v->C u:=λv u h c=>by
  rw[hC] at c ⊢;obtain⟨p,e⟩:=c
  rcases W.wy_near hN (by omega) e h with z | ⟨q,z,_⟩
  ·exact⟨_,z⟩
  ·exact⟨_,z⟩
 have cw:∀v u,Adj rs v u->¬C v->¬C u:=λv u h c z=>c (cs u v h.symm z)
 have fb:far N b b=1:=by unfold far;rw[Wy,if_pos rfl];rfl
 have f1:∀v,C v->1<=far N b v:=λv c=>by
  rw[hC] at c;obtain⟨p,e⟩:=c;obtain⟨q,rfl,_⟩:=uT e;unfold far;rw[e];simp
 have fn:∀v u,C v->Adj rs v u->(far N b u=far N b v+1)\/far N b v=far N b u+1:=λv u c h=>by
  rw[hC] at c;obtain⟨p,e⟩:=c
  rcases W.wy_near hN (by omega) e h with z | ⟨q,z,y⟩
  ·left;unfold far;rw[z,e];simp
  ·right;unfold far;rw[z,e,y];simp
 have fu:∀v x y,C v->Adj rs v x->Adj rs v y->far N b x < far N b v->far N b y < far N b v->x=y:=λv x y c hx hy lx ly=>by
  rw[hC] at c;obtain⟨p,e⟩:=c
  rcases W.wy_near hN (by omega) e hx with z | ⟨q,z,e1⟩
  ·unfold far at lx;rw[z,e] at lx;simp at lx;omega
  rcases W.wy_near hN (by omega) e hy with z' | ⟨q',z',e2⟩
  ·unfold far at ly;rw[z',e] at ly;simp at ly;omega
  rw[e1] at e2;have:=(W7 e2 rfl).1;subst this;obtain⟨_,_,r,k1⟩:=uT z;obtain⟨_,_,r',k2⟩:=uT z';rw[k1] at k2;have:=(W7 k2 rfl).2;cases this;rfl
 have bn:∀u,Adj rs b u->far N b b < far N b u:=λu h=>by
  rcases fn b u cb h with z | z
  ·omega
  ·have:=f1 u (cs b u h cb);omega
 have ad:∀x y,Adj aQ x y↔Adj rs x y\/(x=a/\y=b)\/(x=b/\y=a):=λx y=>by
  unfold Adj;rw[hm,hm,Vd,Vd];constructor
  ·rintro((⟨h,h'⟩ | h) | (⟨h,h'⟩ | h))
   ·exact .inr (.inl ⟨h,h'⟩)
   ·exact .inl (.inl h)
   ·exact .inr (.inr ⟨h',h⟩)
   ·exact .inl (.inr h)
  ·rintro((h | h) | ⟨h,h'⟩ | ⟨h,h'⟩)
   ·exact .inl (.inr h)
   ·exact .inr (.inr h)
   ·exact .inl (.inl ⟨h,h'⟩)
   ·exact .inr (.inl ⟨h',h⟩)
 let dY:Int->Nat:=λv=>@ite _ (C v) (Classical.propDecidable _) (rk a+far N b v) (rk v)
 have r1:∀v,C v->dY v=rk a+far N b v:=λv c=>if_pos c
 have r0:∀v,¬C v->dY v=rk v:=λv c=>if_neg c
 refine⟨_,Wb0.web (rk:=dY) ⟨W.n1,W.n8,λr hr=>?_,nd,λx y h=>?_,λv x y hx hy lx ly=>?_⟩⟩
 ·rcases(hm r).mp hr with rfl | hr
  ·exact⟨h0,h1,h2⟩
  ·exact W.lt r hr
 ·rcases(ad x y).mp h with h | ⟨rfl,rfl⟩ | ⟨rfl,rfl⟩
  ·by_cases c:C x
   ·rw[r1 x c,r1 y (cs x y h c)]
    rcases fn x y c h with z | z<;>omega
   ·rw[r0 x c,r0 y (cw x y h c)];exact W.ne x y h
  ·rw[r0 _ ca,r1 _ cb,fb];omega
  ·rw[r0 _ ca,r1 _ cb,fb];omega
 ·rcases(ad v x).mp hx with hx | ⟨rfl,rfl⟩ | ⟨rfl,rfl⟩<;>rcases(ad v y).mp hy with hy | ⟨jD,rfl⟩ | ⟨jD,rfl⟩
  ·by_cases c:C v
   ·rw[r1 v c,r1 x (cs v x hx c)] at lx;rw[r1 v c,r1 y (cs v y hy c)] at ly;exact fu v x y c hx hy (by omega) (by omega)
   ·rw[r0 v c,r0 x (cw v x hx c)] at lx;rw[r0 v c,r0 y (cw v y hy c)] at ly;exact W.one v x y hx hy lx ly
  ·subst jD;rw[r0 _ ca,r1 _ cb,fb] at ly;omega
  ·subst jD;have:=bn x hx;rw[r1 v cb,r1 x (cs v x hx cb)] at lx;omega
  ·rw[r0 _ ca,r1 _ cb,fb] at lx;omega
  ·rfl
  ·rw[r0 _ ca,r1 _ cb,fb] at lx;omega
  ·have:=bn y hy;rw[r1 v cb,r1 y (cs v y hy cb)] at ly;omega
  ·subst jD;exact absurd cb ca
  ·rfl
end
noncomputable def wyR(o:Option (List Int)):R:=match o.map (·.map D.int) with
 | some l=>.own l
 | none=>.val .non
theorem LJ{p:Int->Bool}{f:Int->Option (List Int)}{l:List Int}{u:Int}{q:List Int}(hu:l[i]?=some u)(hp:p u=true)(hf:f u=some q)(hn:∀x∈(l.take i).filter p,f x=none):(l.filter p).findSome? f=some q:=by
 obtain⟨hi,hu⟩:=x_.mp hu
 have e:l=l.take i++u::l.drop (i+1):=by
  rw[←hu,←Tx hi,VG]
 rw[e,Ww,List.findSome?_append,Wx.mpr hn,T9 hp,Yc,hf];rfl
theorem Ld{rk:Int->Nat}(W:Web n rs rk):∀(k:Nat) (c:Option Int) (h t:Int),k<=100->0<=h->h < n->(∀x,c=some x->Adj rs x h)->mu rk c h < k->wpF (vC k) ([webD n rs,cameD c,D.int h,D.int t].map .val) λr _=>r=wyR (Wy (nbs rs) k c h t):=by
 intro k
 induction k with
 | zero=>intro c h t _ _ _ _ hm;omega
 | succ k ih =>
  intro c h t rW h0 h1 hc hm;have e1:=OH W h0 h1;rw[vC];refine vM rfl λKE hE _=>?_
  rw[zp];rw[Wy] at hE;refine oI ?_;rintro K hK hR;by_cases ht:h=t
  ·rw[if_pos ht] at hE;subst ht;simp[dep,ub];exact hR _ _ (hE _ _ ⟨_,rfl,rfl⟩)
  ·rw[if_neg ht] at hE;simp[dep,ub,ht];refine hK _ ?_;refine oI ?_;rintro K hK gD;simp[e1];refine uR (J:=λi Γ=>∃x4 x5,(∀u∈((nbs rs h).take i).filter λu=>decide (some u≠c),Wy (nbs rs) k (some h) u t=none)/\Γ=[some (.val (webD n rs)),some (.val (cameD c)),some (.val (.int h)),some (.val (.int t)),x4,x5]) ⟨none,none,by simp,rfl⟩ ?_ ?_
   ·rintro i d Γ hd ⟨x4,x5,no,rfl⟩ KL bQ - - fJ;rw[Tp,TF] at hd;obtain⟨u,hu,rfl⟩:=hd;have tk:(nbs rs h).take (i+1)=(nbs rs h).take i++[u]:=by rw[X9,hu];rfl
    have au:=(W.nb h u).mp (TC hu);have un:=W.in_n au;refine⟨_,_,rfl,?_⟩;show wp _ [some (.val (webD n rs)),some (.val (cameD c)),some (.val (.int h)),some (.val (.int t)),some (.val (.int u)),x5] _;by_cases uc:some u=c
    ·simp[dep,GV,uc];refine bQ _ ⟨_,_,λx hx=>no x ?_,rfl⟩;rw[tk,Ww] at hx;simpa[uc] using hx
    ·have lt:=W.mu_lt hc au uc;have w1:=ih (some h) u t (by omega) (by omega) (by omega) (λx z=>by cases z;exact au) (by omega);obtain⟨m1,m2⟩:=Bh w1;simp[dep,GV,uc];refine oI ?_;rintro K2 eT -;cases e:Wy (nbs rs) k (some h) u t with
     | some q =>
      have e3:=m1 _ (by rw[e];rfl);have lq:=(xD e).2;simp only[Ar];refine DB rfl e3 ?_;refine⟨by simp,eT _ ?_⟩;clear eT;show wp _ [some (.val (webD n rs)),some (.val (cameD c)),some (.val (.int h)),some (.val (.int t)),some (.val (.int u)),some (.val (.lst (q.map D.int)))] _;simp[isN];refine⟨by omega,fJ _ _ (gD _ _ (hE _ _ ⟨_,rfl,?_⟩))⟩;rw[LJ hu (by simpa using uc) e no];rfl
     | none =>
      have e3:=m2 (by rw[e];rfl);simp only[Ar];refine G2 rfl e3 ?_;refine⟨by simp,eT _ ?_⟩;clear eT;show wp _ [some (.val (webD n rs)),some (.val (cameD c)),some (.val (.int h)),some (.val (.int t)),some (.val (.int u)),some (.val .non)] _;simp[isN];refine bQ _ ⟨_,_,λx hx=>?_,rfl⟩;rw[tk,Ww] at hx
      rcases I_.mp hx with hx | hx
      ·exact no x hx
      ·rw[k_.mp (Tq.mp hx).1];exact e
   ·rintro Γ ⟨x4,x5,no,rfl⟩;rw[y_,WJ] at no;refine hK _ ?_;refine⟨_,_,rfl,?_⟩;refine hE _ _ ⟨_,rfl,?_⟩;rw[Wx.mpr no];rfl
theorem JT{rk:Int->Nat}(W:Web n rs rk){a b:Int}(a0:0<=a)(a1:a < n)(b0:0<=b)(b1:b < n):wpF vI ([webD n rs,D.int a,D.int b].map .val) λr _=>r=wyR (Wy (nbs rs) 21 none a b):=by
 have e1:=BL (rs:=rs) a0 a1;have e2:=BL (rs:=rs) b0 b1;have w:=Ld W 21 none a b (by omega) a0 a1 (λx z=>by cases z) (by simp[mu])
 change wpF (vC 21) ([webD n rs,D.non,D.int a,D.int b].map .val) _ at w
 obtain⟨m1,m2⟩:=Bh w;refine vM rfl λKE hE _=>?_
 rw[BU];refine oI ?_;rintro K hK -;simp[e1];refine hK _ ?_;refine oI ?_;rintro K hK -;simp[e2];refine hK _ ?_;cases e:Wy (nbs rs) 21 none a b with
 | some q =>
  rw[e] at hE;exact Kg rfl (m1 _ (by rw[e];rfl)) (hE _ _ ⟨_,rfl,rfl⟩)
 | none =>
  rw[e] at hE;exact IW rfl (m2 (by rw[e];rfl)) (hE _ _ ⟨_,rfl,rfl⟩)
noncomputable def mkR(a b:Int):Int×Int:=(if b < a then b else a,if b > a then b else a)
theorem yG{a b:Int}(h:a≠b):(mkR a b=(a,b)/\a < b)\/(mkR a b=(b,a)/\b < a):=by
 unfold mkR;by_cases l:b < a
 ·exact .inr ⟨by rw[if_pos l,if_neg (by omega)],l⟩
 ·exact .inl ⟨by rw[if_neg l,if_pos (by omega)],by omega⟩
structure LOk(m:Nat)(L:List (Nat×Nat)):Prop where
 inc:L.Pairwise λp q=>p.1 < q.1
 ok:∀q∈L,1<=q.1/\q.1 < m/\q.2 < q.1
theorem GX{L:List (Nat×Nat)}(h:L.Pairwise λp q=>p.1 < q.1){p q:Nat×Nat}(hp:p∈L)(hq:q∈L)(e:p.1=q.1):p=q:=by
 induction L with
 | nil=>cases hp
 | cons x L ih =>
  rw[VO] at h
  rcases w_.mp hp with ix | ix<;>rcases w_.mp hq with dC | dC
  ·rw[ix,dC]
  ·have:=h.1 q dC;rw[←ix] at this;omega
  ·have:=h.1 p ix;rw[←dC] at this;omega
  ·exact ih h.2 ix dC
noncomputable def atO(os:List Int)(k:Nat):Int:=os.getD k 0
noncomputable def roadsO(os:List Int)(L:List (Nat×Nat)):List (Int×Int):=L.map λq=>mkR (atO os q.1) (atO os q.2)
section
variable{os:List Int}{L:List (Nat×Nat)}
theorem z7(h:k < os.length):atO os k=os[k]:=by
 unfold atO;rw[t_,n_ h];rfl
theorem vq(nd:os.Nodup)(h:k < os.length):os.idxOf (atO os k)=k:=by
 rw[z7 h];exact nd.idxOf_getElem k h
theorem vm(nd:os.Nodup)(hj:j < os.length)(hk:k < os.length)(e:atO os j=atO os k):j=k:=by
 have h1:=vq nd hj;rw[e,vq nd hk] at h1;exact h1.symm
theorem yS(hl:os.length=m)(nd:os.Nodup)(ok:LOk m L)(hp:rs.Perm (roadsO os L)){x y:Int}(h:Adj rs x y):∃q∈L,(x=atO os q.1/\y=atO os q.2)\/(x=atO os q.2/\y=atO os q.1):=by
 have go:∀a b,(a,b)∈rs->∃q∈L,(a=atO os q.1/\b=atO os q.2)\/(a=atO os q.2/\b=atO os q.1):=λa b h=>by
  rw[hp.mem_iff] at h;obtain⟨q,hq,e⟩:=C_.mp h;have o:=ok.ok q hq;have ne:atO os q.1≠atO os q.2:=λz=>by have:=vm nd (by omega) (by omega) z;omega
  refine⟨q,hq,?_⟩
  rcases yG ne with⟨e1,_⟩ | ⟨e1,_⟩<;>rw[e1] at e<;>cases e
  ·exact .inl ⟨rfl,rfl⟩
  ·exact .inr ⟨rfl,rfl⟩
 rcases h with h | h
 ·exact go x y h
 ·obtain⟨q,hq,z⟩:=go y x h;exact⟨q,hq,z.elim (λz=>.inr ⟨z.2,z.1⟩) λz=>.inl ⟨z.2,z.1⟩⟩
theorem NA(hl:os.length=m)(nd:os.Nodup)(rng:∀x∈os,0<=x/\x < m)(ok:LOk m L)(m1:1<=m)(m8:m<=8)(hp:rs.Perm (roadsO os L)):Web m rs λv=>os.idxOf v:=by
 have dS:∀k,k < m->0<=atO os k/\atO os k < m:=λk hk=>by
  rw[z7 (by omega)];exact rng _ (Ua _)
 have nq:∀q∈L,atO os q.1≠atO os q.2:=λq hq z=>by
  have o:=ok.ok q hq;have:=vm nd (by omega) (by omega) z;omega
 refine⟨m1,m8,λr hr=>?_,hp.symm.nodup (zy (ok.inc.imp λh e=>by rw[e] at h;exact absurd h (Ug _)) λp lH q lI e=>?_),λa b h=>?_,λa b h=>?_,λv a b ha hb la lb=>?_⟩
 ·rw[hp.mem_iff] at hr;obtain⟨q,hq,rfl⟩:=C_.mp hr;have o:=ok.ok q hq;have i1:=dS q.1 (by omega);have i2:=dS q.2 (by omega)
  rcases yG (nq q hq) with⟨e,l⟩ | ⟨e,l⟩<;>rw[e]<;>simp only<;>omega
 ·have o:=ok.ok p lH;have o':=ok.ok q lI;refine GX ok.inc lH lI ?_
  rcases yG (nq p lH) with⟨e1,_⟩ | ⟨e1,_⟩<;>rcases yG (nq q lI) with⟨e2,_⟩ | ⟨e2,_⟩<;>rw[e1,e2,Vd] at e
  ·exact vm nd (by omega) (by omega) e.1
  ·have h1:=vm nd (by omega) (by omega) e.1;have h2:=vm nd (by omega) (by omega) e.2;omega
  ·have h1:=vm nd (by omega) (by omega) e.1;have h2:=vm nd (by omega) (by omega) e.2;omega
  ·exact vm nd (by omega) (by omega) e.2
 ·obtain⟨q,hq,z⟩:=yS hl nd ok hp h;have o:=ok.ok q hq
  rcases z with⟨rfl,rfl⟩ | ⟨rfl,rfl⟩<;>rw[vq nd (by omega),vq nd (by omega)]<;>omega
 ·obtain⟨q,hq,z⟩:=yS hl nd ok hp h;have o:=ok.ok q hq
  rcases z with⟨rfl,rfl⟩ | ⟨rfl,rfl⟩<;>rw[vq nd (by omega)]<;>omega
 ·obtain⟨q,hq,z⟩:=yS hl nd ok hp ha;obtain⟨q',dC,z'⟩:=yS hl nd ok hp hb;have o:=ok.ok q hq;have o':=ok.ok q' dC
  have e1:v=atO os q.1/\a=atO os q.2:=by
   rcases z with z | ⟨rfl,rfl⟩
   ·exact z
   ·rw[vq nd (by omega),vq nd (by omega)] at la;omega
  have e2:v=atO os q'.1/\b=atO os q'.2:=by
   rcases z' with z' | ⟨rfl,rfl⟩
   ·exact z'
   ·rw[vq nd (by omega),vq nd (by omega)] at lb;omega
  have:=GX ok.inc hq dC (vm nd (by omega) (by omega) (e1.1.symm.trans e2.1));subst this;rw[e1.2,e2.2]
end
@[simp ↓] theorem R6{t:M (List D)}{Q:Fl->Gm->Prop}:wp (insS i t) Γ Q↔isMut Γ i=true/\wp t Γ λds ac=>wp (wr i (insF ds)) ac λ_ ai=>Q .nx ai:=by
 simp only[insS,wT,t5,wm]
theorem HL{d:D}(h:n<=ds.length)(l:ds.length < 1000):insF [.int n,d] ds=some (ds.take n++d::ds.drop n):=by
 unfold insF;dsimp only;rw[if_pos ⟨by omega,by omega,by unfold lim;omega⟩,VN]
theorem OX{c:List D}{Q:R->List D->Prop}(hc:PotOk c)(hm:m<=8)(k:∀(os:List Int) c',os.length=m->os.Nodup->(∀x∈os,0<=x/\x < m)->PotOk c'->Q (.val (.lst (os.map D.int))) c'):wpB xP c [.int m] Q:=by
 refine vE rfl λKE hE _=>?_
 rw[BC];refine oI ?_;rintro K hK -;refine⟨_,_,rfl,hK _ ?_⟩;show wp _ [some (.bor c),some (.val (.int m)),some (.own []),none] _;refine oI ?_;rintro K hK -;simp;refine⟨by omega,?_⟩;refine uR (J:=λi Γ=>∃(c:List D) (os:List Int) (x:Option R),PotOk c/\os.length=i/\os.Nodup/\(∀x∈os,0<=x/\x < i)/\Γ=[some (.bor c),some (.val (.int m)),some (.own (os.map D.int)),x]) ⟨c,[],none,hc,rfl,Wb,by simp,rfl⟩ ?_ ?_
 ·rintro i d Γ hd ⟨c,os,x,hc,hl,nd,rg,rfl⟩ KL bQ - - -;obtain⟨rfl,hi⟩:=v8 hd;simp[isMut,R.mut];refine uo hc (by omega) (by omega) λn c' oB kF bW=>?_
  obtain⟨n,rfl⟩:=UH oB;have e1:=HL (n:=n) (d:=.int i) (ds:=os.map D.int) (by simp;omega) (by simp;omega);simp[e1];refine bQ _ ⟨c',os.take n++(i:Int)::os.drop n,some (.val (.int i)),bW,?_,?_,?_,by simp⟩
  ·simp;omega
  ·have pm:(os.take n++(i:Int)::os.drop n).Perm ((i:Int)::os):=by
    have:=List.perm_middle (a:=(i:Int)) (l₁:=os.take n) (l₂:=os.drop n)
    rwa [VG] at this
   refine pm.symm.nodup (Ue.mpr ⟨λz=>?_,nd⟩);have:=rg _ z;omega
  ·intro x hx
   have:x=i\/x∈os:=by
    rcases I_.mp hx with z | z
    ·exact .inr (UP z)
    ·rcases w_.mp z with z | z
     ·exact .inl z
     ·exact .inr (X5 z)
   rcases this with rfl | z
   ·omega
   ·have:=rg x z;omega
 ·rintro Γ ⟨c,os,x,hc,hl,nd,rg,rfl⟩;refine hK _ ?_;rw[BD] at hl rg;simp;exact hE _ _ _ ⟨_,rfl⟩ (k os c hl nd rg hc)
theorem vv{p:Int×Int}:dep (pairD p)<=1:=by
 unfold pairD;simp[dep,depA]
noncomputable def sortP(ps:List (Int×Int)):List (Int×Int):=ps.mergeSort λp q=>leD (pairD p) (pairD q)
theorem IJ{ps:List (Int×Int)}(h:ps.length < 64):∃rs:List (Int×Int),sortF [.lst (ps.map pairD)]=some (rs.map pairD)/\rs.Perm ps/\rs=sortP ps:=by
 refine⟨ps.mergeSort λp q=>leD (pairD p) (pairD q),?_,Wq _ _,rfl⟩;rw[E8]
 ·unfold sortD;exact congrArg some (Yw (s:=leD) (f:=pairD) λa _ b _=>rfl).symm
 ·refine⟨by simpa using h,?_,?_,.inr (.inl ?_)⟩
  ·unfold cmAll;rw[j_];intro a ha;rw[j_];intro b hb;obtain⟨i,_,rfl⟩:=C_.mp ha;obtain⟨j,_,rfl⟩:=C_.mp hb;simp[pairD,cmB,cmA]
  ·refine H_ (u4 (n:=1) λd hd=>?_) (by omega);obtain⟨p,_,rfl⟩:=C_.mp hd;exact vv
  ·rw[j_];intro a ha;obtain⟨i,_,rfl⟩:=C_.mp ha;rfl
theorem KC{c:List D}{Q:R->List D->Prop}(hc:PotOk c)(k:∀n rs rk c',Web n rs rk->(∃ps,rs=sortP ps)->PotOk c'->Q (.val (webD n rs)) c'):wpB zf c [.int 8] Q:=by
 refine vE rfl λKE hE _=>?_
 rw[Co];refine oI ?_;rintro K hK -;simp[isMut,R.mut];refine uo hc (by omega) (by omega) λiy c1 iR eJ hc=>?_
 simp;refine hK _ ?_;refine oI ?_;rintro K hK -;simp[isMut,R.mut];refine uo hc (by omega) (by omega) λm0 c2 fY cg hc=>?_
 obtain⟨m,hm⟩:∃m:Nat,1+m0=m:=⟨(1+m0).toNat,by omega⟩;simp[hm];refine hK _ ?_;refine oI ?_;rintro K hK -;simp[isMut,R.mut];refine OX hc (by omega) λos c3 hl nd rg hc=>?_
 simp;refine hK _ ?_;refine oI ?_;rintro K hK -;refine⟨_,_,rfl,hK _ ?_⟩;show wp _ [some (.bor c3),some (.val (.int 8)),some (.val (.int iy)),some (.val (.int m)),some (.val (.lst (os.map D.int))),some (.own []),none,none] _;refine oI ?_;rintro K hK -;simp;refine⟨by omega,?_⟩
 have oD:∀j,j < m->atI (os.map D.int) ((j:Nat):Int)=some (.int (atO os j)):=λj hj=>by
  rw[DL.vD,z7 (by omega)];simp[hl,hj]
 refine uR (J:=λi Γ=>∃(c:List D) (L:List (Nat×Nat)) (x6 x7:Option R),PotOk c/\LOk (i+1) L/\L.length<=i/\Γ=[some (.bor c),some (.val (.int 8)),some (.val (.int iy)),some (.val (.int m)),some (.val (.lst (os.map D.int))),some (.own ((roadsO os L).map pairD)),x6,x7]) ⟨c3,[],none,none,hc,⟨WO.nil,by simp⟩,r_ _,rfl⟩ ?_ ?_
 ·rintro i d Γ hd ⟨c,L,x6,x7,hc,ok,ll,rfl⟩ KL bQ - - -;obtain⟨rfl,hi⟩:=v8 hd;have up:LOk (i+1+1) L:=⟨ok.inc,λq hq=>by have:=ok.ok q hq;omega⟩;obtain⟨kk,rp⟩:∃kk:Nat,(1:Int)+i=kk:=⟨1+i,by omega⟩;rw[rp];simp[isMut,R.mut];refine uo hc (by omega) (by omega) λn1 c4 oB kF hc=>?_
  simp;split
  ·refine oI ?_;rintro K hK -;have a1:=oD kk (by omega);simp[isMut,R.mut,a1];refine uo hc (by omega) (by omega) λj c5 rq sP hc=>?_
   obtain⟨j,rfl⟩:=UH rq;have a2:=oD j (by omega);simp[a2];refine hK _ ?_;simp[isMut,R.mut,minTF,maxTF];have ln:(roadsO os L).length=L.length:=by simp[roadsO]
   refine⟨by omega,bQ _ ⟨c5,L++[(kk,j)],some (.val (.int kk)),some (.val (.tup [.int (atO os kk),.int (atO os j)])),hc,⟨?_,?_⟩,by simp;omega,?_⟩⟩
   ·rw[List.pairwise_append];refine⟨ok.inc,by simp,λp hp q hq=>?_⟩;rw[k_.mp hq];have:=ok.ok p hp;simp only;omega
   ·intro q hq
    rcases I_.mp hq with hq | hq
    ·exact up.ok q hq
    ·rw[k_.mp hq];simp only;omega
   ·simp[roadsO,mkR,pairD]
  ·exact bQ _ ⟨c4,L,_,_,hc,up,by omega,rfl⟩
 ·rintro Γ ⟨c,L,x6,x7,hc,ok,ll,rfl⟩;refine hK _ ?_;rw[BD] at ok ll;have mm:m - 1+1=m:=by omega
  rw[mm] at ok;obtain⟨rs,e1,hp,hs⟩:=IJ (ps:=roadsO os L) (by simp[roadsO];omega);simp[e1];exact hE _ _ _ ⟨_,rfl⟩ (k m rs _ c (NA hl nd rg ok (by omega) (by omega) hp) ⟨_,hs⟩ hc)
noncomputable def wyD:Option (List Int)->D
 | some l=>.lst (l.map D.int)
 | none=>.non
theorem LG{g:List R->Option (R×List R)}{t:M (List D)}{o:Option (List Int)}{Q:D->Gm->Prop}(m:(∀l,o.map (·.map D.int)=some l->coF g ds=some l)/\(o.map (·.map D.int)=none->MixN g ds))(h:wp t Γ λcH ac=>cH=ds/\Q (wyD o) ac):wp (altM (frz (fn1 (coF g) t)) (fn1 (cvF g) t)) Γ Q:=by
 obtain⟨cH,ac,e,rfl,q⟩:=h;cases o with
 | some l=>exact DB e (m.1 _ rfl) q
 | none=>exact G2 e (m.2 rfl) q
theorem btw{rk:Int->Nat}(W:Web n rs rk){a b:Int}(a0:0<=a)(a1:a < n)(b0:0<=b)(b1:b < n):(∀l,(Wy (nbs rs) 21 none a b).map (·.map D.int)=some l->coF vI [webD n rs,D.int a,D.int b]=some l)/\((Wy (nbs rs) 21 none a b).map (·.map D.int)=none->MixN vI [webD n rs,D.int a,D.int b]):=Bh (JT W a0 a1 b0 b1)
theorem PV(h:i < rs.length):slF (.tup (rs.map pairD)) none (some (i:Int))=some (.tup ((rs.take i).map pairD)):=by
 unfold slF;simp only;rw[if_neg]
 ·rw[K7,YU]
 ·rintro⟨_,z⟩;rw[y_,Cj] at z;omega
theorem Gy(n1:1<=n)(n8:n<=8):Web n [] λ_=>0:=by
 refine⟨n1,n8,λr h=>(by cases h),Wb,λa b h=>?_,λa b h=>?_,λv a b h=>?_⟩<;>rcases h with h | h<;>cases h
theorem Mp{d:D}(h:(numD 0 (rs.map pairD))[i]?=some d):∃r,rs[i]?=some r/\d=.tup [.int i,pairD r]:=by
 obtain⟨x,h1,rfl⟩:=DL.wV h;rw[Tp,TF] at h1;obtain⟨r,h1,rfl⟩:=h1;exact⟨r,h1,by rw[Zq]⟩
theorem Ku(lt:∀r∈rs,0<=r.1/\r.1 < r.2/\r.2 < n)(nd:rs.Nodup){a b:Int}(hr:rs[i]?=some (a,b)){rk:Int->Nat}(W:Web n (rs.take i) rk)(no:Wy (nbs (rs.take i)) 21 none a b=none):∃dY,Web n (rs.take (i+1)) dY:=by
 have l:=lt _ (TC hr);have tk:rs.take (i+1)=rs.take i++[(a,b)]:=by rw[X9,hr];rfl
 refine W.more W.nb l.1 l.2.1 l.2.2 ?_ (nd.sublist (Xa _ _)) λr=>?_
 ·cases e:Wy (nbs (rs.take i)) 20 none b a with
  | none=>rfl
  | some p =>
   exfalso
   have e2:=W.wy_rev W.nb (by omega) e;obtain⟨q,e3,r,e4⟩:=uT e2;have:=W.uni' W.nb (k:=21) (by omega) e3 e4 (v4 W.nb e2) (W.wy_nodup W.nb e2);rw[no] at this;cases this
 ·rw[tk,I_,k_];exact or_comm
theorem Pd{rk:Int->Nat}(W:Web n rs rk){a b:Int}(hr:rs[i]?=some (a,b)):Web n (rs.take i) rk/\Wy (nbs (rs.take i)) 21 none a b=none:=by
 have W':Web n (rs.take i) rk:=W.sub (λr h=>UP h) (W.nd.sublist (Xa _ _));have m:=TC hr;have l:=W.lt _ m;refine⟨W',?_⟩;cases e:Wy (nbs (rs.take i)) 21 none a b with
 | none=>rfl
 | some p =>
  exfalso
  have ne:a≠b:=by have:=l.2.1;simp only at this;omega
  have ad:=W.only W.nb W' W'.nb (λr h=>UP h) (by omega) (.inl m) ne e
  rcases ad with h | h
  ·obtain⟨j,hj,e2⟩:=List.mem_take_iff_getElem.mp h;obtain⟨hi,e3⟩:=x_.mp hr;have:=(List.getElem_inj W.nd).mp (e2.trans e3.symm);omega
  ·have l':=W.lt _ (UP h);have h1:=l.2.1;have h2:=l'.2.1;simp only at h1 h2;omega
theorem Ny(n1:1<=n)(n8:n<=8)(lt:∀r∈rs,0<=r.1/\r.1 < r.2/\r.2 < n)(nd:rs.Nodup){v:Bool}(hv:v=false↔∃rk,Web n rs rk)(sQ:rs.length<=64):cvF yq [.int n,.tup (rs.map pairD)]=some (.bl v):=by
 refine tY rfl λKE k1 _=>?_
 rw[Cm];refine oI ?_;rintro K hK hR;simp;refine uR (J:=λi Γ=>∃x2 x3,(∃rk,Web n (rs.take i) rk)/\Γ=[some (.val (.int n)),some (.val (.tup (rs.map pairD))),x2,x3]) ⟨none,none,⟨_,by rw[take_zero];exact Gy n1 n8⟩,rfl⟩ ?_ ?_
 ·rintro i d Γ hd ⟨x2,x3,⟨rk,W⟩,rfl⟩ KL bQ - - fJ;obtain⟨⟨a,b⟩,hr,rfl⟩:=Mp hd;have l:=lt _ (TC hr);have hi:i < rs.length:=(x_.mp hr).1;have e1:=PV hi;have B:=btw W (a:=a) (b:=b) l.1 (by have:=l.2.1;have:=l.2.2;simp only at *;omega) (by have:=l.1;have:=l.2.1;simp only at *;omega) l.2.2;simp;refine LG B ?_;simp[e1];refine⟨by unfold webD;rw[YU],?_⟩;cases e:Wy (nbs (rs.take i)) 21 none a b with
  | some p =>
   simp[isN,wyD];refine fJ _ _ (hR _ _ ?_)
   have:v=true:=by
    cases v with
    | true=>rfl
    | false =>
     obtain⟨dY,W'⟩:=hv.mp rfl;rw[(Pd W' hr).2] at e;cases e
   subst this;exact k1 _ ⟨_,rfl⟩
  | none =>
   simp[isN,wyD];exact bQ _ ⟨_,_,Ku lt nd hr W e,rfl⟩
 ·rintro Γ ⟨x2,x3,W,rfl⟩;refine hK _ ?_;have ln:(numD 0 (rs.map pairD)).length=rs.length:=by rw[DL.zU,y_]
  rw[ln,WJ] at W;have:=hv.mpr W;subst this;exact⟨_,_,rfl,k1 _ ⟨_,rfl⟩⟩
theorem Web.few{rk:Int->Nat}(W:Web n rs rk):rs.length<=n:=by
 have:=FV (m:=n) (l:=rs.map λr=>if rk r.1 < rk r.2 then r.2 else r.1) (zy W.nd λx hx y hy e=>?_) λv hv=>?_
 ·simpa using this
 ·obtain⟨a,b⟩:=x;obtain⟨c,d⟩:=y;have ax:Adj rs a b:=.inl hx;have ay:Adj rs c d:=.inl hy;have n1:=W.ne _ _ ax;have n2:=W.ne _ _ ay;have l1:=(W.lt _ hx).2.1;have l2:=(W.lt _ hy).2.1;simp only at e l1 l2;by_cases p:rk a < rk b<;>by_cases q:rk c < rk d
  ·rw[if_pos p,if_pos q] at e;subst e;rw[W.one b a c ax.symm ay.symm p q]
  ·rw[if_pos p,if_neg q] at e;subst e;have:=W.one b a d ax.symm ay p (by omega);subst this;omega
  ·rw[if_neg p,if_pos q] at e;subst e;have:=W.one a b c ax ay.symm (by omega) q;subst this;omega
  ·rw[if_neg p,if_neg q] at e;subst e;rw[W.one a b d ax ay (by omega) (by omega)]
 ·obtain⟨r,hr,rfl⟩:=C_.mp hv;have:=W.lt r hr;split<;>omega
def Rise(rs:List (Int×Int)):Prop:=(rs.map pairD).Pairwise λa b=>leD a b=true
theorem HZ{p q:Int×Int}(h:pairD p=pairD q):p=q:=by
 unfold pairD at h;injection h with h
 injection h with h1 h2
 injection h1 with h1
 injection h2 with h2 h3
 injection h2 with h2
 exact Zn h1 h2
theorem Gs(ps:List (Int×Int)):cmAll (ps.map pairD)=true:=by
 unfold cmAll;rw[j_];intro a ha;rw[j_];intro b hb;obtain⟨i,_,rfl⟩:=C_.mp ha;obtain⟨j,_,rfl⟩:=C_.mp hb;simp[pairD,cmB,cmA]
theorem EK{p q:Int×Int}:deq (pairD p) (pairD q)=decide (p=q):=by
 obtain⟨a,b⟩:=p;obtain⟨c,d⟩:=q;unfold pairD;simp only[deq,deqA,Vd];by_cases h1:a=c<;>by_cases h2:b=d<;>simp[h1,h2]
theorem yL(nd:rs.Nodup):dd (rs.map pairD)=rs.map pairD:=by
 have bP:∀(rs aj:List (Int×Int)),(aj++rs).Nodup->(rs.map pairD).foldl dstep (aj.map pairD)=(aj++rs).map pairD:=by
  intro rs
  induction rs with
  | nil=>intro aj _;simp
  | cons r rs ih =>
   intro aj h;rw[O_,List.foldl_cons]
   have no:¬(aj.map pairD).any (λe=>deq e (pairD r))=true:=by
    rw[XY];rintro⟨e,he,z⟩;obtain⟨p,hp,rfl⟩:=C_.mp he;rw[EK,decide_eq_true_eq] at z;subst z;exact(Vz.mp h).2.2 p hp p m_ rfl
   have:dstep (aj.map pairD) (pairD r)=(aj++[r]).map pairD:=by
    unfold dstep;rw[if_neg no];simp
   rw[this,ih (aj++[r]) (by simpa using h)];simp
 exact bP rs [] (by simpa using nd)
theorem Fd(h:Rise rs):sortD (rs.map pairD)=rs.map pairD:=List.mergeSort_of_pairwise h
theorem L6(nd:rs.Nodup)(h:Rise rs)(l:rs.length<=28):setTF [.tup (rs.map pairD)]=some (rs.map pairD):=by
 unfold setTF;simp only;rw[if_pos,yL nd,Fd h];refine⟨⟨Gs rs,?_,?_,?_,by rw[yL nd];simpa using l⟩,.inl ?_⟩
 ·rw[j_];intro a ha;obtain⟨i,_,rfl⟩:=C_.mp ha;rfl
 ·rw[j_];intro a ha;obtain⟨i,_,rfl⟩:=C_.mp ha;rfl
 ·refine H_ (u4 (n:=1) λd hd=>?_) (by omega);obtain⟨p,_,rfl⟩:=C_.mp hd;exact vv
 ·rw[j_];intro a ha;obtain⟨i,_,rfl⟩:=C_.mp ha;rfl
@[simp ↓] theorem Q2{gc gd:M D}{Q:D->Gm->Prop}:wp (chn3 F F' fC ga gb gc gd) Γ Q↔wp ga Γ λx ac=>wp gb ac λy ai=>wp (lft (F x y)) ai λz aL=>wp (lft (asB z)) aL λk aN=>if k then wp gc aN λw cx=>wp (lft (F' y w)) cx λz' dU=>wp (lft (asB z')) dU λk' ik=>if k' then wp gd ik λw' nD=>wp (lft (fC w w')) nD Q else Q (.bl false) ik else Q (.bl false) aN:=by
 unfold chn3;simp only[t5];constructor
 ·intro h;refine h.mono λx ac h=>h.mono λy ai h=>h.mono λz aL h=>h.mono λk aN h=>?_
  cases k
  ·simpa using h
  ·simp only[if_true,t5] at h ⊢;refine h.mono λw cx h=>h.mono λz' dU h=>h.mono λk' ik h=>?_
   cases k'
   ·simpa using h
   ·simpa[t5] using h
 ·intro h;refine h.mono λx ac h=>h.mono λy ai h=>h.mono λz aL h=>h.mono λk aN h=>?_
  cases k
  ·simpa using h
  ·simp only[if_true,t5] at h ⊢;refine h.mono λw cx h=>h.mono λz' dU h=>h.mono λk' ik h=>?_
   cases k'
   ·simpa using h
   ·simpa[t5] using h
theorem FJ{i:Int}:cvF uZ [.int i]=some (.bl true):=rfl
theorem Oh{r:Int×Int}(h:0<=r.1/\r.1 < r.2/\r.2 < n):cvF xf [.int n,pairD r]=some (.bl true):=by
 obtain⟨a,b⟩:=r;obtain⟨h0,h1,h2⟩:=h;simp only at h0 h1 h2;refine tY rfl λKE k1 _=>?_
 rw[xK];refine oI ?_;rintro K hK -;simp[pairD,dep,ub];refine hK _ ?_;simp[pairD,FJ,h0,h1,h2];exact k1 _ ⟨_,rfl⟩
theorem vy:∀(xs:List D),deqA xs xs=true
 | []=>rfl
 | x::xs=>by rw[deqA,yh,vy xs];rfl
theorem PC(n1:1<=n)(n8:n<=8)(lt:∀r∈rs,0<=r.1/\r.1 < r.2/\r.2 < n)(nd:rs.Nodup)(ri:Rise rs)(rz:rs.length<=28){v:Bool}(hv:v=true↔∃rk,Web n rs rk):cvF vK [webD n rs]=some (.bl v):=by
 have e1:=Ny n1 n8 lt nd (v:=!v) (by rw[←hv];cases v<;>simp) (by omega);have e2:=L6 nd ri rz;refine tY rfl λKE k1 _=>?_
 rw[zw];refine oI ?_;rintro K hK -;simp[webD,dep,ub];refine hK _ ?_;refine oI ?_;rintro K hK -;simp[webD];refine hK _ ?_;refine oI ?_;rintro K hK -;simp[webD];refine hK _ ?_;refine oI ?_;rintro K hK -;simp[FJ,n1,n8,show(1:Int)<=n by omega,show(n:Int)<=8 by omega];refine hK _ ?_;refine oI ?_;rintro K hK -;simp;refine ux rs pairD (λ_=>true) (λ_=>.bl true) ?_;simp;refine⟨by omega,λa b hr=>?_,?_⟩
 ·have:=Oh (n:=n) (r:=(a,b)) (lt _ hr);simp[this]
 ·rw[vX (f:=λ_:Int×Int=>true)];have al:((Zv (λ_=>true) rs).all λ_:Int×Int=>true)=true:=by simp
  rw[al];simp;refine hK _ ?_;simp[e2]
  have d1:depA (rs.map pairD)<=1:=u4 λd hd=>by
   obtain⟨p,_,rfl⟩:=C_.mp hd;exact vv
  refine⟨by rw[dep];omega,?_⟩;rw[yh];simp[e1];exact k1 _ ⟨_,rfl⟩
theorem GC{QL:List D->Gm->Prop}(J:Nat->List D->Gm->Prop)(h:wp it Γ λds ac=>ds.length<=lim/\J 0 [] ac/\(∀(i:Nat) d aj a ai,ds[i]?=some d->J i aj ai->wp (aE d) (a::ai) λ_ aL=>wp ts aL λb aN=>b=true/\wp el aN λx cx=>∃a' dU,cx=a'::dU/\J (i+1) (aj++[x]) dU)/\∀aj ai,J ds.length aj ai->QL aj ai):wp (compO 1 it aE ts el) Γ QL:=by
 unfold compO;rw[t5];refine h.mono λds ac ⟨hl,h0,hs,hq⟩=>?_
 rw[if_pos hl]
 have bP:∀(es:List D) (i:Nat) (aj:List D) (a:Option R) (ai:Gm),ds.drop i=es->i<=ds.length->J i aj ai->∃r a' cn,compM aE ts el es (a::ai)=some (r,a'::cn)/\J ds.length (aj++r) cn:=by
  intro es
  induction es with
  | nil =>
   intro i aj a ai hd hi hj
   have:i=ds.length:=by
    have:=XS.mp hd;omega
   subst this;exact⟨[],a,ai,rfl,by simpa using hj⟩
  | cons d es ih =>
   intro i aj a ai hd hi hj
   have bD:i < ds.length:=by
    rcases Vt i ds.length with z | z
    ·exact z
    ·rw[Vs z] at hd;cases hd
   have e1:ds[i]?=some d:=by
    have:=Tx bD;rw[hd] at this;cases this;exact n_ bD
   have e2:ds.drop (i+1)=es:=by
    have:=Tx bD;rw[hd] at this;injection this with _ q
    exact q.symm
   obtain⟨_,aL,g1,b,aN,g2,rfl,x,cx,g3,a',dU,rfl,bE⟩:=hs i d aj a ai e1 hj;obtain⟨r,rD,cn,g4,oE⟩:=ih (i+1) (aj++[x]) a' dU e2 bD bE;refine⟨x::r,rD,cn,?_,by simpa using oE⟩;rw[compM];unfold bnd;rw[g1];dsimp only;rw[g2];dsimp only;rw[if_pos rfl];rw[g3];dsimp only;rw[g4];rfl
 obtain⟨r,a',cn,e,hj⟩:=bP ds 0 [] none ac rfl (Tz _) h0;refine⟨r,cn,?_,hq r cn (by simpa using hj)⟩;have e':compM aE ts el ds (P_ 1 none++ac)=some (r,a'::cn):=e;unfold inC;rw[e'];rfl
@[simp] theorem Sq{α:Type}{xs:List α}:Zv (λ_=>true) xs=xs:=by
 induction xs with
 | nil=>rfl
 | cons x xs ih=>simp
noncomputable def roadB(n:Int):D->Bool
 | .tup [.int a,.int b]=>decide (0<=a)&&(decide (a < b)&&decide (b < n))
 | _=>false
theorem Ml{n:Int}{d:D}(h:roadB n d=true):∃r:Int×Int,d=pairD r/\0<=r.1/\r.1 < r.2/\r.2 < n:=by
 unfold roadB at h;split at h
 ·rename_i a b;simp only[u_,decide_eq_true_eq] at h;exact⟨(a,b),rfl,h.1,h.2.1,h.2.2⟩
 ·cases h
theorem IQ{n:Int}{r:Int×Int}(h:0<=r.1/\r.1 < r.2/\r.2 < n):roadB n (pairD r)=true:=by
 unfold pairD roadB;simp only[u_,decide_eq_true_eq];exact h
theorem CW{n:Int}:∀{ds:List D},(∀d∈ds,roadB n d=true)->∃rs:List (Int×Int),ds=rs.map pairD/\∀r∈rs,0<=r.1/\r.1 < r.2/\r.2 < n
 | [],_=>⟨[],rfl,λr h=>by cases h⟩
 | d::ds,h=>by
  obtain⟨r,rfl,h1⟩:=Ml (h d m_);obtain⟨rs,rfl,h2⟩:=CW (ds:=ds) λx hx=>h x (i_ _ hx)
  refine⟨r::rs,rfl,λq hq=>?_⟩
  rcases w_.mp hq with rfl | hq
  ·exact h1
  ·exact h2 q hq
theorem BA(d:D)(hX:isX d=false):cvF uZ [d]=some (.bl (match d with | .int _=>true | _=>false)):=by
 cases d<;>first | rfl | cases hX
theorem Ln(n:Int)(d:D)(hX:dep d < 1000):cvF xf [.int n,d]=some (.bl (roadB n d)):=by
 cases d with
 | tup ds =>
  refine tY rfl λKE k1 _=>?_
  rw[xK];refine oI ?_;rintro K hK hR;by_cases h:ds.length=2
  ·match ds,h with
   | [x,y],_ =>
    simp[dep,ub];refine hK _ ?_;have x1:isX x=false:=nX (by simp[dep,depA] at hX;omega);have x2:isX y=false:=nX (by simp[dep,depA] at hX;omega);have e1:=BA x x1;have e2:=BA y x2;have i0:atI [x,y] 0=some x:=rfl;have i1:atI [x,y] 1=some y:=rfl
    have bz:(∀a b,x=.int a->y=.int b->False)->KE (.rt (.val (.bl false))) [some (.val (.int n)),some (.val (.tup [x,y]))]:=λz=>by
     have:roadB n (.tup [x,y])=false:=by
      unfold roadB;split
      ·rename_i z2;cases z2;exact(z _ _ rfl rfl).elim
      ·rfl
     rw[this] at k1;exact k1 _ ⟨_,rfl⟩
    cases x with
    | int a =>
     cases y with
     | int b =>
      simp[i0,i1,e1,e2];by_cases c1:0<=a
      ·by_cases c2:a < b
       ·have:roadB n (.tup [.int a,.int b])=decide (b < n):=by simp[roadB,c1,c2]
        rw[this] at k1;simp[c1,c2];exact k1 _ ⟨_,rfl⟩
       ·have:roadB n (.tup [.int a,.int b])=false:=by simp[roadB,c2]
        rw[this] at k1;simp[c1,c2];exact k1 _ ⟨_,rfl⟩
      ·have:roadB n (.tup [.int a,.int b])=false:=by simp[roadB,c1]
       rw[this] at k1;simp[c1];exact k1 _ ⟨_,rfl⟩
     | non=>simp[i0,i1,e1,e2];exact bz λa b _ z=>by cases z
     | bl b=>simp[i0,i1,e1,e2];exact bz λa b _ z=>by cases z
     | str b=>simp[i0,i1,e1,e2];exact bz λa b _ z=>by cases z
     | tup b=>simp[i0,i1,e1,e2];exact bz λa b _ z=>by cases z
     | lst b=>simp[i0,i1,e1,e2];exact bz λa b _ z=>by cases z
     | exc _ _=>cases x2
    | non=>simp[i0,i1,e1,e2];exact bz λa b z=>by cases z
    | bl b=>simp[i0,i1,e1,e2];exact bz λa b z=>by cases z
    | str b=>simp[i0,i1,e1,e2];exact bz λa b z=>by cases z
    | tup b=>simp[i0,i1,e1,e2];exact bz λa b z=>by cases z
    | lst b=>simp[i0,i1,e1,e2];exact bz λa b z=>by cases z
    | exc _ _=>cases x1
  ·have h':¬(ds.length:Int)=2:=by omega
   have:roadB n (.tup ds)=false:=by
    unfold roadB;split
    ·rename_i z;cases z;exact absurd rfl h
    ·rfl
   rw[this] at k1;simp[dep,ub,h'];exact hR _ _ (k1 _ ⟨_,rfl⟩)
 | non=>rfl
 | bl b=>rfl
 | str x=>rfl
 | int i=>rfl
 | lst ds=>rfl
 | exc _ _=>simp[dep] at hX
noncomputable def allP:List D:=((Ur 8).flatMap λ(b:Nat)=>(Ur b).map λ(a:Nat)=>pairD ((a:Int),(b:Int)))
theorem Pp:allP.length=28:=rfl
theorem Me(n8:n<=8){r:Int×Int}(h:0<=r.1/\r.1 < r.2/\r.2 < n):pairD r∈allP:=by
 unfold allP;rw[X4];refine⟨r.2.toNat,Um.mpr (by omega),C_.mpr ⟨r.1.toNat,Um.mpr (by omega),?_⟩⟩;have h1:((r.1.toNat:Nat):Int)=r.1:=by omega
 have h2:((r.2.toNat:Nat):Int)=r.2:=by omega
 rw[h1,h2]
section
theorem Ga(n8:n<=8)(lt:∀r∈rs,0<=r.1/\r.1 < r.2/\r.2 < n):(dd (rs.map pairD)).length<=28:=by
 rw[←Pp];refine zE _ _ (yI _) λx hx=>?_
 obtain⟨r,hr,rfl⟩:=C_.mp (uQ hx);exact Me n8 (lt r hr)
theorem Gk(n8:n<=8)(lt:∀r∈rs,0<=r.1/\r.1 < r.2/\r.2 < n):setTF [.tup (rs.map pairD)]=some (sortD (dd (rs.map pairD))):=by
 unfold setTF;simp only;rw[if_pos];refine⟨⟨Gs rs,?_,?_,?_,Ga n8 lt⟩,.inl ?_⟩
 ·rw[j_];intro a ha;obtain⟨i,_,rfl⟩:=C_.mp ha;rfl
 ·rw[j_];intro a ha;obtain⟨i,_,rfl⟩:=C_.mp ha;rfl
 ·refine H_ (u4 (n:=1) λd hd=>?_) (by omega);obtain⟨p,_,rfl⟩:=C_.mp hd;exact vv
 ·rw[j_];intro a ha;obtain⟨i,_,rfl⟩:=C_.mp ha;rfl
theorem He:∀{ds:List D},(∀d∈ds,∃r,d=pairD r)->∃qs:List (Int×Int),ds=qs.map pairD
 | [],_=>⟨[],rfl⟩
 | d::ds,h=>by
  obtain⟨r,rfl⟩:=h d m_;obtain⟨qs,rfl⟩:=He (ds:=ds) λx hx=>h x (i_ _ hx)
  exact⟨r::qs,rfl⟩
theorem Ep:∀(ps qs:List (Int×Int)),deqA (ps.map pairD) (qs.map pairD)=decide (ps=qs)
 | [],[]=>by simp[deqA]
 | [],q::qs=>by simp[deqA]
 | p::ps,[]=>by simp[deqA]
 | p::ps,q::qs=>by
  rw[O_,O_,deqA,EK,Ep ps qs];by_cases h1:p=q<;>by_cases h2:ps=qs<;>simp[h1,h2]
theorem FA(h:deqA (rs.map pairD) (sortD (dd (rs.map pairD)))=true):rs.Nodup/\Rise rs:=by
 have pm:(sortD (dd (rs.map pairD))).Perm (dd (rs.map pairD)):=Wq _ _
 obtain⟨qs,e⟩:=He (ds:=sortD (dd (rs.map pairD))) λd hd=>by
  obtain⟨r,_,rfl⟩:=C_.mp (uQ (pm.mem_iff.mp hd));exact⟨r,rfl⟩
 have up:=zD (dd (rs.map pairD));rw[e] at h pm up;rw[Ep,decide_eq_true_eq] at h;subst h;refine⟨?_,up⟩;have nd:=pm.symm.nodup (yI _);exact of_map pairD (λa b h e=>h (by rw[e])) nd
theorem Mv(nd:rs.Nodup)(ri:Rise rs):sortD (dd (rs.map pairD))=rs.map pairD:=by rw[yL nd,Fd ri]
theorem Ev{xs:List D}:deq (.lst xs) (.lst ys)=deqA xs ys:=by rw[deq]
theorem BQ(n8:n<=8)(lt:∀r∈rs,0<=r.1/\r.1 < r.2/\r.2 < n)(nd:rs.Nodup):rs.length<=28:=by
 have:=Ga n8 lt;rw[yL nd] at this;simpa using this
end
def IsWeb(d:D):Prop:=∃n rs,d=webD n rs/\Rise rs/\∃rk,Web n rs rk
theorem AM(h:webD n rs=webD m qs):n=m/\rs=qs:=by
 unfold webD at h;injection h with h
 injection h with h1 h2
 injection h1 with h1
 injection h2 with h2 _
 injection h2 with h2
 refine⟨by omega,?_⟩;exact(List.map_inj_right λa b=>HZ).mp h2
theorem ID{d:D}(hX:dep d < 1000)(hd:∀m ds,d=.tup [m,.tup ds]->ds.length<=10000){v:Bool}(hv:v=true↔IsWeb d):cvF vK [d]=some (.bl v):=by
 by_cases leg:∃(n:Nat) (rs:List (Int×Int)),d=webD n rs/\1<=n/\n<=8/\(∀r∈rs,0<=r.1/\r.1 < r.2/\r.2 < n)/\rs.Nodup/\Rise rs
 ·obtain⟨n,rs,rfl,n1,n8,lt,nd,ri⟩:=leg;refine PC n1 n8 lt nd ri (BQ n8 lt nd) (hv.trans ⟨?_,λh=>⟨n,rs,rfl,ri,h⟩⟩);rintro⟨m,qs,e,_,rk,W⟩;obtain⟨rfl,rfl⟩:=AM e;exact⟨rk,W⟩
 ·have vf:v=false:=by
   cases v with
   | false=>rfl
   | true =>
    obtain⟨n,rs,e,ri,rk,W⟩:=hv.mp rfl;exact absurd ⟨n,rs,e,W.n1,W.n8,W.lt,W.nd,ri⟩ leg
  subst vf;refine tY rfl λKE k1 _=>?_
  rw[zw];refine oI ?_;rintro K hK hR;have bz:∀Γ,(∃l,fin (map R.val [d]) Γ=some l)->KE (.rt (.val (.bl false))) Γ:=λΓ h=>k1 Γ h
  have de:(∀ds,d≠.tup ds)->wp (ifS (orT (notT (tst (un1 (isiF .tT) (nm 0)))) (tst (op2 (eqF true) (fn1 lenF (consA (nm 0) nilA)) (ret (.int 2))))) (retS (ret (.bl false))) (ret .nx)) [some (.val d),none,none] K:=λnt=>by
   have nt:isiB .tT d=false:=by cases d<;>first | rfl | exact absurd rfl (nt _)
   simp[xo (nX hX),nt];exact hR _ _ (bz _ ⟨_,rfl⟩)
  cases d with
  | tup es =>
   by_cases h:es.length=2
   ·match es,h with
    | [m,r],_ =>
     clear de;simp[dep,ub];refine hK _ ?_;have i0:atI [m,r] 0=some m:=rfl;have i1:atI [m,r] 1=some r:=rfl;refine oI ?_;rintro K hK -;simp[i0];refine hK _ ?_;refine oI ?_;rintro K hK -;simp[i1];refine hK _ ?_;have xm:isX m=false:=nX (by simp[dep,depA] at hX;omega);have xr:isX r=false:=nX (by simp[dep,depA] at hX;omega);have e1:=BA m xm;refine oI ?_;rintro K hK hR
     have df:(∀i,m≠.int i)->wp (ifS (orT (notT (tst (fn1 (cvF uZ) (consA (nm 1) nilA)))) (orT (notT (tst (chn leI leI (ret (.int 1)) (nm 1) (ret (.int 8))))) (notT (tst (un1 (isiF .tT) (nm 2))))))
  (retS (ret (.bl false))) (ret .nx)) [some (.val (.tup [m,r])),some (.val m),some (.val r)] K:=λni=>by
      have ew:cvF uZ [m]=some (.bl false):=by rw[e1];cases m<;>first | rfl | exact absurd rfl (ni _)
      simp[ew];exact hR _ _ (bz _ ⟨_,rfl⟩)
     cases m with
     | int i =>
      clear df;simp[e1];by_cases c1:1<=i
      ·by_cases c2:i<=8
       ·have rE:(∀ds,r≠.tup ds)->isiB .tT r=false:=λnt=>by cases r<;>first | rfl | exact absurd rfl (nt _)
        by_cases rt:∃ds,r=.tup ds
        ·obtain⟨ds,rfl⟩:=rt;simp[c1,c2];refine hK _ ?_;have l:=hd _ _ rfl;refine oI ?_;rintro K hK hR;simp;refine ux ds (λx=>x) (λ_=>true) (λx=>.bl (roadB i x)) ?_;simp
         refine⟨by omega,λx hx=>by
          have rF:dep x < 1000:=by have:=uk hx;simp[dep,depA] at hX;omega
          simp[Ln i x rF],?_⟩
         rw[vX];cases al:ds.all (roadB i) with
         | false =>
          have sR:(Zv (λ_=>true) ds).all (roadB i)=false:=by simpa using al
          simp[al];exact hR _ _ (bz _ ⟨_,rfl⟩)
         | true =>
          obtain⟨rs,rfl,lt⟩:=CW (j_.mp al);obtain⟨n,rfl⟩:∃n:Nat,i=n:=⟨i.toNat,by omega⟩;simp[al];refine hK _ ?_;have e2:=Gk (n:=n) (by omega) lt;simp[e2]
          have d1:depA (rs.map pairD)<=1:=u4 λd hd=>by
           obtain⟨p,_,rfl⟩:=C_.mp hd;exact vv
          have d2:depA (sortD (dd (rs.map pairD)))<=1:=u4 λd hd=>by
           obtain⟨p,_,rfl⟩:=C_.mp (uQ ((vJ _).mem_iff.mp hd));exact vv
          refine⟨⟨by rw[dep];omega,by rw[dep];omega⟩,?_⟩;rw[Ev];cases q:deqA (rs.map pairD) (sortD (dd (rs.map pairD))) with
          | true =>
           obtain⟨nd,ri⟩:=FA q;exact absurd ⟨n,rs,rfl,by omega,by omega,lt,nd,ri⟩ leg
          | false =>
           simp;exact bz _ ⟨_,rfl⟩
        ·simp[c1,c2,xo xr,rE λds z=>rt ⟨ds,z⟩];exact hR _ _ (bz _ ⟨_,rfl⟩)
       ·simp[c1,c2];exact hR _ _ (bz _ ⟨_,rfl⟩)
      ·simp[c1];exact hR _ _ (bz _ ⟨_,rfl⟩)
     | non=>exact df λi z=>by cases z
     | bl b=>exact df λi z=>by cases z
     | str b=>exact df λi z=>by cases z
     | tup b=>exact df λi z=>by cases z
     | lst b=>exact df λi z=>by cases z
     | exc _ _=>cases xm
   ·have h':¬(es.length:Int)=2:=by omega
    simp[dep,ub,h'];exact hR _ _ (bz _ ⟨_,rfl⟩)
  | non=>exact de λi z=>by cases z
  | bl b=>exact de λi z=>by cases z
  | str b=>exact de λi z=>by cases z
  | int b=>exact de λi z=>by cases z
  | lst b=>exact de λi z=>by cases z
  | exc _ _=>simp[dep] at hX
noncomputable def nbX(M:List (Int×Int))(v:Int):List Int:=M.filterMap λr=>if r.1=v then some r.2 else if r.2=v then some r.1 else none
noncomputable def endsL(L:List (Int×Int)):List Int:=L.map (·.1)++L.map (·.2)
noncomputable def dg(L:List (Int×Int))(v:Int):Nat:=(endsL L).count v
noncomputable def prn(L:List (Int×Int)):List (Int×Int):=L.filter λr=>decide (dg L r.1 > 1)&&decide (dg L r.2 > 1)
theorem zW{r:Int×Int}{v:Int}:dg (r::L) v=dg L v+(if r.1=v then 1 else 0)+(if r.2=v then 1 else 0):=by
 unfold dg endsL;simp only[O_,List.count_append,List.count_cons,List.cons_append];by_cases a:r.1=v<;>by_cases b:r.2=v<;>simp[a,b]<;>omega
theorem Hb{v:Int}(h:∀x,¬Adj L v x):dg L v=0:=by
 induction L with
 | nil=>rfl
 | cons r L ih =>
  rw[zW];have h1:¬r.1=v:=λz=>h r.2 (.inl (by rw[←z];exact m_))
  have h2:¬r.2=v:=λz=>h r.1 (.inr (by rw[←z];exact m_))
  rw[if_neg h1,if_neg h2,ih λx z=>h x (z.elim (λz=>.inl (i_ _ z)) λz=>.inr (i_ _ z))]
theorem IA(lt:∀r∈L,r.1 < r.2)(nd:L.Nodup){v w:Int}(h:∀x,Adj L v x->x=w):dg L v<=1:=by
 induction L with
 | nil=>exact Tz _
 | cons r L ih =>
  rw[Ue] at nd;have l:=lt r m_;have lt':∀r∈L,r.1 < r.2:=λr hr=>lt r (i_ _ hr)
  have up:∀x,Adj L v x->Adj (r::L) v x:=λx z=>z.elim (λz=>.inl (i_ _ z)) λz=>.inr (i_ _ z)
  rw[zW];by_cases a:r.1=v
  ·have ne:¬r.2=v:=by omega
   have e:r.2=w:=h r.2 (.inl (by rw[←a];exact m_));rw[if_pos a,if_neg ne,Hb λx z=>?_]
   ·omega
   ·have:=h x (up x z);subst this
    rcases z with z | z
    ·exact nd.1 (by rw[show r=(v,x) from Zn a e];exact z)
    ·have:=lt' _ z;simp only at this;omega
  ·by_cases b:r.2=v
   ·have e:r.1=w:=h r.1 (.inr (by rw[←b];exact m_));rw[if_neg a,if_pos b,Hb λx z=>?_]
    ·omega
    ·have:=h x (up x z);subst this
     rcases z with z | z
     ·have:=lt' _ z;simp only at this;omega
     ·exact nd.1 (by rw[show r=(x,v) from Zn e b];exact z)
   ·rw[if_neg a,if_neg b];have:=ih lt' nd.2 λx z=>h x (up x z)
    omega
theorem GU{v x y:Int}(lt:∀r∈L,r.1 < r.2)(h:dg L v<=1)(hx:Adj L v x)(hy:Adj L v y):x=y:=by
 induction L with
 | nil=>rcases hx with z | z<;>cases z
 | cons r L ih =>
  have l:=lt r m_;have lt':∀r∈L,r.1 < r.2:=λr hr=>lt r (i_ _ hr)
  rw[zW] at h
  have no:∀x,dg L v=0->¬Adj L v x:=λx z a=>by
   have:v∈endsL L:=by
    unfold endsL
    rcases a with a | a
    ·exact T6 _ (C_.mpr ⟨_,a,rfl⟩)
    ·exact L_ _ (C_.mpr ⟨_,a,rfl⟩)
   have:=List.count_pos_iff.mpr this;unfold dg at z;omega
  have cs:∀x,Adj (r::L) v x->(r=(v,x)\/r=(x,v))\/Adj L v x:=λx a=>by
   rcases a with a | a
   ·rcases w_.mp a with z | z
    ·exact .inl (.inl z.symm)
    ·exact .inr (.inl z)
   ·rcases w_.mp a with z | z
    ·exact .inl (.inr z.symm)
    ·exact .inr (.inr z)
  by_cases t:r.1=v\/r.2=v
  ·have z0:dg L v=0:=by
    rcases t with t | t
    ·rw[if_pos t] at h;omega
    ·rw[if_pos t] at h;omega
   have one:∀x,Adj (r::L) v x->r=(v,x)\/r=(x,v):=λx a=>(cs x a).elim id λz=>absurd z (no x z0)
   rcases one x hx with e | e<;>rcases one y hy with e' | e'<;>rw[e] at e'<;>cases e'
   ·rfl
   ·rfl
   ·rfl
   ·rfl
  ·have a:¬r.1=v:=λz=>t (.inl z)
   have b:¬r.2=v:=λz=>t (.inr z)
   rw[if_neg a,if_neg b] at h
   have up:∀x,Adj (r::L) v x->Adj L v x:=λx z=>(cs x z).elim (λz=>by
    rcases z with z | z
    ·exact absurd (by rw[z]) a
    ·exact absurd (by rw[z]) b) id
   exact ih lt' (by omega) (up x hx) (up y hy)
section
variable{rk:Int->Nat}{N:Int->List Int}
theorem Dl:∀(L:List (Int×Int)),L≠[]->∃v,(∃x,Adj L v x)/\∀u,(∃x,Adj L u x)->rk u<=rk v
 | [],h=>absurd rfl h
 | r::L,_=>by
  have two:∃v,(∃x,Adj [r] v x)/\∀u,(∃x,Adj [r] u x)->rk u<=rk v:=by
   have bP:∀u,(∃x,Adj [r] u x)->u=r.1\/u=r.2:=λu ⟨x,a⟩=>by
    rcases a with a | a
    ·rw[←k_.mp a];exact .inl rfl
    ·rw[←k_.mp a];exact .inr rfl
   by_cases l:rk r.1<=rk r.2
   ·exact⟨r.2,⟨r.1,.inr (by simp)⟩,λu hu=>by rcases bP u hu with rfl | rfl<;>omega⟩
   ·exact⟨r.1,⟨r.2,.inl (by simp)⟩,λu hu=>by rcases bP u hu with rfl | rfl<;>omega⟩
  obtain⟨v,⟨x,hv⟩,mv⟩:=two
  have sp:∀u,(∃x,Adj (r::L) u x)->(∃x,Adj [r] u x)\/∃x,Adj L u x:=λu ⟨x,a⟩=>by
   rcases a with a | a<;>rcases w_.mp a with z | z
   ·exact .inl ⟨x,.inl (by rw[z];simp)⟩
   ·exact .inr ⟨x,.inl z⟩
   ·exact .inl ⟨x,.inr (by rw[z];simp)⟩
   ·exact .inr ⟨x,.inr z⟩
  have up1:Adj (r::L) v x:=hv.elim (λz=>.inl (by rw[k_.mp z];exact m_)) λz=>.inr (by rw[k_.mp z];exact m_)
  by_cases e:L=[]
  ·subst e;exact⟨v,⟨x,up1⟩,λu hu=>mv u hu⟩
  ·obtain⟨v',⟨x',dW⟩,oF⟩:=Dl L e;have rG:Adj (r::L) v' x':=dW.elim (λz=>.inl (i_ _ z)) λz=>.inr (i_ _ z)
   by_cases l:rk v<=rk v'
   ·exact⟨v',⟨x',rG⟩,λu hu=>by
     rcases sp u hu with z | z
     ·exact H_ (mv u z) l
     ·exact oF u z⟩
   ·exact⟨v,⟨x,up1⟩,λu hu=>by
     rcases sp u hu with z | z
     ·exact mv u z
     ·exact H_ (oF u z) (by omega)⟩
theorem Web.leaf(W:Web n L rk)(ne:L≠[]):(prn L).length < L.length:=by
 have lt:∀r∈L,r.1 < r.2:=λr hr=>(W.lt r hr).2.1
 obtain⟨v,⟨x,hv⟩,mv⟩:=Dl (rk:=rk) L ne
 have low:∀y,Adj L v y->rk y < rk v:=λy hy=>by
  have:=W.ne v y hy;have:=mv y ⟨v,hy.symm⟩;omega
 have d1:dg L v<=1:=IA lt W.nd (w:=x) λy hy=>W.one v y x hy hv (low y hy) (low x hv)
 have ex:∃r∈L,r.1=v\/r.2=v:=by
  rcases hv with z | z
  ·exact⟨_,z,.inl rfl⟩
  ·exact⟨_,z,.inr rfl⟩
 obtain⟨r,hr,e⟩:=ex;unfold prn
 rcases Vt (L.filter λr=>decide (dg L r.1 > 1)&&decide (dg L r.2 > 1)).length L.length with z | z
 ·exact z
 ·exfalso
  have le:=Xx (λr:Int×Int=>decide (dg L r.1 > 1)&&decide (dg L r.2 > 1)) L;have all:=(VC (p:=λr:Int×Int=>decide (dg L r.1 > 1)&&decide (dg L r.2 > 1)) (l:=L)).mp (by omega) r hr;simp only[u_,decide_eq_true_eq] at all
  rcases e with e | e
  ·rw[e] at all;omega
  ·rw[e] at all;omega
theorem GY(hN:∀M:List (Int×Int),∀v u,u∈nbX M v↔Adj M v u){L:List (Int×Int)}(lt:∀r∈L,0<=r.1/\r.1 < r.2/\r.2 < n)(nd:L.Nodup):∀(R M:List (Int×Int)),(∀r∈R,r∈L/\(dg L r.1<=1\/dg L r.2<=1))->(∀r∈M,r∈L)->(M++R).Nodup->(∃rk,Web n M rk)->∃rk,Web n (M++R) rk
 | [],M,_,_,_,h=>by rw[Uo];exact h
 | r::R,M,hR,hM,gC,⟨rk,W⟩=>by
  obtain⟨a,b⟩:=r;have lt':∀r∈L,r.1 < r.2:=λr hr=>(lt r hr).2.1
  have hr:=hR (a,b) m_;have l:=lt _ hr.1;have nm:(a,b)∉M:=λz=>(Vz.mp gC).2.2 _ z _ m_ rfl
  have up:∀x y,Adj M x y->Adj L x y:=λx y z=>z.elim (λz=>.inl (hM _ z)) λz=>.inr (hM _ z)
  have no:Wy (nbX M) 20 none b a=none:=by
   cases e:Wy (nbX M) 20 none b a with
   | none=>rfl
   | some p =>
    exfalso
    obtain⟨q,e1,q2,e2⟩:=uT e;have st:=v4 (hN M) e;cases q with
    | nil =>
     rw[e1] at e2;cases q2 with
     | nil=>cases e2;have:=l.2.1;simp only at this;omega
     | cons y q2=>cases q2<;>cases e2
    | cons x q =>
     rw[e1] at st;have bx:Adj M b x:=st.1
     rcases hr.2 with d | d
     ·-- the eR step comes to a
      have:∃y,Adj M y a:=by
       rw[e1] at e2;cases q2 with
       | nil=>cases e2
       | cons y q2 =>
        have h2:St (Adj M) ((y::q2)++[a]):=by rw[←e2];exact st
        obtain⟨q3,z,hz⟩:∃q3 z,y::q2=q3++[z]:=⟨_,_,(V2 (by simp)).symm⟩;rw[hz] at h2;exact⟨z,h2.init.2⟩
      obtain⟨y,hy⟩:=this;have yb:=GU lt' d (up a y hy.symm) (.inl hr.1);subst yb
      rcases hy with z | z
      ·have:=(lt _ (hM _ z)).2.1;have:=l.2.1;simp only at *;omega
      ·exact nm z
     ·have xa:=GU lt' d (up b x bx) (.inr hr.1);subst xa
      rcases bx with z | z
      ·have:=(lt _ (hM _ z)).2.1;have:=l.2.1;simp only at *;omega
      ·exact nm z
  have rH:(M++[(a,b)]).Nodup:=by
   have:(M++[(a,b)]).Sublist (M++(a,b)::R):=(List.Sublist.refl M).append (List.singleton_sublist.mpr m_);exact gC.sublist this
  have W2:∃dY,Web n (M++[(a,b)]) dY:=W.more (hN M) l.1 l.2.1 l.2.2 no rH λr=>by rw[I_,k_];exact or_comm
  have:=GY hN lt nd R (M++[(a,b)]) (λr hr=>hR r (i_ _ hr)) (λr kw=>by
   rcases I_.mp kw with z | z
   ·exact hM r z
   ·rw[k_.mp z];exact hr.1) (by simpa using gC) W2
  simpa using this
theorem NG(hN:∀M:List (Int×Int),∀v u,u∈nbX M v↔Adj M v u)(lt:∀r∈L,0<=r.1/\r.1 < r.2/\r.2 < n)(nd:L.Nodup):(∃rk,Web n (prn L) rk)↔∃rk,Web n L rk:=by
 constructor
 ·intro h;have pm:(prn L++L.filter λr=>!(decide (dg L r.1 > 1)&&decide (dg L r.2 > 1))).Perm L:=List.filter_append_perm _ L
  obtain⟨rk,W⟩:=GY hN lt nd (L.filter λr=>!(decide (dg L r.1 > 1)&&decide (dg L r.2 > 1))) (prn L) (λr hr=>by
   rw[Tq] at hr;refine⟨hr.1,?_⟩;have:=hr.2;simp only[Vu,VD,decide_eq_false_iff_not] at this
   omega) (λr hr=>(Tq.mp hr).1) (pm.symm.nodup nd) h
  exact⟨rk,W.sub (λr hr=>pm.symm.mem_iff.mp hr) nd⟩
 ·rintro⟨rk,W⟩;exact⟨rk,W.sub (λr hr=>(Tq.mp hr).1) (nd.filter _)⟩
end
noncomputable def whB(m:Int):D->Bool
 | .int i=>decide (0<=i)&&decide (i < m)
 | _=>false
theorem BY(m:Int)(d:D)(hX:isX d=false):cvF wx [d,.int m]=some (.bl (whB m d)):=by
 cases d with
 | int i =>
  refine tY rfl λKE k1 _=>?_
  rw[Be];simp;by_cases h:0<=i
  ·have q:whB m (.int i)=decide (i < m):=by simp[whB,h]
   rw[q] at k1;simp[h];exact k1 _ ⟨_,rfl⟩
  ·have q:whB m (.int i)=false:=by simp[whB,h]
   rw[q] at k1;simp[h];exact k1 _ ⟨_,rfl⟩
 | non=>rfl
 | bl b=>rfl
 | str x=>rfl
 | tup ds=>rfl
 | lst ds=>rfl
 | exc _ _=>cases hX
theorem Nl{v:Int}(h:L.length<=100):cntF (.lst ((endsL L).map D.int)) [.int v]=some (.int (dg L v:Nat)):=by
 unfold cntF;have e:intsD ((endsL L).map D.int)=some (endsL L):=DZ _;simp only[e];rw[if_pos (by unfold endsL;simp;omega)];rfl
@[simp ↓] theorem RL{t:M (List D)}{Q:D->Gm->Prop}:wp (cntV i t) Γ Q↔wp (nm i) Γ λa ac=>wp t ac λds ai=>wp (lft (cntF a ds)) ai Q:=by simp only[cntV,t5]
theorem JQ(n1:1<=n)(n8:n<=8)(lt:∀r∈rs,0<=r.1/\r.1 < r.2/\r.2 < n)(nd:rs.Nodup){v:Bool}(hv:v=true↔∃rk,Web n rs rk):cvF zI [.int n,.tup (rs.map pairD)]=some (.bl v):=by
 have sS:=BQ n8 lt nd
 have hN:∀M:List (Int×Int),∀v u,u∈nbX M v↔Adj M v u:=λM v u=>by
  unfold nbX Adj;rw[U7];constructor
  ·rintro⟨⟨a,b⟩,hr,e⟩;simp only at e;split at e
   ·rename_i z;cases e;subst z;exact .inl hr
   ·split at e
    ·rename_i z;cases e;subst z;exact .inr hr
    ·cases e
  ·rintro(h | h)
   ·exact⟨_,h,by simp⟩
   ·by_cases z:u=v
    ·subst z;exact⟨_,h,by simp⟩
    ·exact⟨_,h,by simp[z]⟩
 refine tY rfl λKE k1 _=>?_
 rw[A8];refine oI ?_;rintro K hK -;simp;refine hK _ ?_;refine oI ?_;rintro K hK -;simp;refine hK _ ?_;refine oI ?_;rintro K hK -;refine IE (J:=λm Γ=>∃(L:List (Int×Int)) (z:Int) (x4:Option R),(∀r∈L,r∈rs)/\L.Nodup/\((∃rk,Web n L rk)↔∃rk,Web n rs rk)/\(z=L.length->prn L=L)/\(z≠L.length->L.length+1<=m)/\Γ=[some (.val (.int n)),some (.val (.tup (rs.map pairD))),some (.val (.lst (L.map pairD))),some (.val (.int z)),x4]) ?_ 100 40 _ (by omega) ⟨rs,-1,none,λr h=>h,nd,Iff.rfl,λz=>by omega,λ_=>by omega,rfl⟩;rintro m Γ ⟨L,z,x4,sub,lJ,lK,oG,oH,rfl⟩;have rX:L.length<=28:=BQ n8 (λr h=>lt r (sub r h)) lJ;simp[ub,zB];split
 ·rename_i e;have fx:=oG e;refine hK _ ?_
  have:(L.map pairD).isEmpty=v:=by
   cases L with
   | nil =>
    have:=hv.mpr (lK.mp ⟨_,Gy n1 n8⟩);rw[this];rfl
   | cons a L =>
    cases v with
    | false=>rfl
    | true =>
     obtain⟨rk,W⟩:=lK.mpr (hv.mp rfl);have:=W.leaf (by simp);rw[fx] at this;omega
  simp[dep];rw[show L.isEmpty=v by cases L<;>simpa using this];exact⟨⟨H_ (u4 (n:=1) λd hd=>by obtain⟨p,_,rfl⟩:=C_.mp hd;exact vv) (by decide),by simp[depA]⟩,k1 _ ⟨_,rfl⟩⟩
 ·rename_i ne;have ms:=oH ne;refine⟨m - 1,by omega,?_⟩;intro K2 bQ _ _ _;refine oI ?_;rintro K3 iz -;simp;refine iz _ ?_;clear iz;refine oI ?_;rintro K3 iz -;simp;refine wJ L pairD (λ_=>true) (λr=>.int r.1) ?_;simp[pairD];refine⟨by omega,?_⟩;refine wJ L pairD (λ_=>true) (λr=>.int r.2) ?_;simp[pairD];refine⟨by omega,by omega,iz _ ?_⟩;clear iz;have ee:(map (λr:Int×Int=>D.int r.1) L++map (λr=>D.int r.2) L)=(endsL L).map D.int:=by unfold endsL;rw[Xj,Zc,Zc];rfl
  rw[ee];have ct:=λv=>Nl (L:=L) (v:=v) (by omega)
  simp;refine ux L pairD (λr=>decide (dg L r.1 > 1)&&decide (dg L r.2 > 1)) pairD ?_;simp;refine⟨by omega,λa b hr=>?_,?_⟩
  ·simp[ct];have c1:∀v,(decide (1 < (dg L v:Int)))=decide (1 < dg L v):=λv=>by simp only[decide_eq_decide];omega
   split
   ·rename_i q;rw[c1,decide_eq_true (show 1 < dg L a by omega)];rfl
   ·rename_i q;omega
  ·refine bQ _ (prn L) (λa b hr=>sub _ (Tq.mp hr).1) (lJ.filter _) ((NG hN (λr h=>lt r (sub r h)) lJ).trans lK) L.length (λe=>?_) (λne=>?_) _ rfl
   ·have e2:prn L=L:=by
     unfold prn at e ⊢;exact V5.mpr ((VC).mp (by omega))
    rw[e2,e2]
   ·have:(prn L).length<=L.length:=Xx _ _;omega
theorem N5{d:D}(hX:dep d < 1000)(hd:∀m ds,d=.tup [m,.tup ds]->ds.length<=10000){v:Bool}(hv:v=true↔IsWeb d):cvF wU [d]=some (.bl v):=by
 refine tY rfl λKE k1 _=>?_
 rw[BF];refine oI ?_;rintro K hK hR
 have bz:¬IsWeb d->∀Γ,(∃l,fin (map R.val [d]) Γ=some l)->KE (.rt (.val (.bl false))) Γ:=λno Γ h=>by
  have:v=false:=by
   cases v with
   | false=>rfl
   | true=>exact absurd (hv.mp rfl) no
  subst this;exact k1 Γ h
 have de:(∀ds,d≠.tup ds)->wp (ifS (orT (notT (tst (un1 (isiF .tT) (nm 0)))) (orT (tst (op2 (eqF true) (fn1 lenF (consA (nm 0) nilA)) (ret (.int 2)))) (orT (notT (tst (fn1 (cvF wx) (consA (op2 ixF (nm 0) (ret (.int 0))) (consA (ret (.int 9)) nilA))))) (tst (op2 (eqF false) (op2 ixF (nm 0) (ret (.int 0))) (ret (.int 0)))))))
  (retS (ret (.bl false))) (ret .nx)) [some (.val d),none,none,none] K:=λnt=>by
  have rJ:isiB .tT d=false:=by cases d<;>first | rfl | exact absurd rfl (nt _)
  simp[xo (nX hX),rJ];exact hR _ _ (bz (λ⟨n,rs,e,_⟩=>nt _ e) _ ⟨_,rfl⟩)
 cases d with
 | tup es =>
  clear de;by_cases h:es.length=2
  ·match es,h with
   | [m,r],_ =>
    have i0:atI [m,r] 0=some m:=rfl;have xm:isX m=false:=nX (by simp[dep,depA] at hX;omega);have xr:isX r=false:=nX (by simp[dep,depA] at hX;omega);have e1:=BY 9 m xm;simp[dep,ub,i0,e1];cases hw:whB 9 m with
    | false =>
     simp;refine hR _ _ (bz (λ⟨n,rs,e,_,rk,W⟩=>?_) _ ⟨_,rfl⟩);cases e;have:=W.n8;simp only[whB,VD,decide_eq_false_iff_not] at hw;omega
    | true =>
     obtain⟨i,rfl⟩:∃i,m=.int i:=by cases m<;>simp[whB] at hw ⊢
     simp only[whB,u_,decide_eq_true_eq] at hw;simp[ub,zB];split
     ·rename_i z;refine hR _ _ (bz (λ⟨n,rs,e,_,rk,W⟩=>?_) _ ⟨_,rfl⟩);cases e;have:=W.n1;omega
     ·rename_i z;refine hK _ ?_;refine oI ?_;rintro K hK -;simp;refine hK _ ?_;refine oI ?_;rintro K hK hR;by_cases rt:∃ds,r=.tup ds
      ·obtain⟨ds,rfl⟩:=rt;simp;refine hK _ ?_;obtain⟨n,rfl⟩:∃n:Nat,i=n:=⟨i.toNat,by omega⟩;have l:=hd _ _ rfl;refine oI ?_;rintro K hK hR;simp;refine uR (J:=λi Γ=>∃x3,(∀p∈ds.take i,roadB n p=true)/\Γ=[some (.val (.tup [.int n,.tup ds])),some (.val (.int n)),some (.val (.tup ds)),x3]) ⟨none,by simp,rfl⟩ ?_ ?_
       ·rintro i p Γ hp ⟨x3,all,rfl⟩ KL bQ - - fJ;have tk:ds.take (i+1)=ds.take i++[p]:=by rw[X9,hp];rfl
        have pm:=TC hp;have xp:dep p < 1000:=by have:=uk pm;simp[dep,depA] at hX;omega
        have bd:roadB n p=false->∀Γ,(∃l,fin (map R.val [.tup [.int n,.tup ds]]) Γ=some l)->KL (.rt (.val (.bl false))) Γ:=λz Γ hf=>by
         refine fJ _ _ (hR _ _ (bz (λ⟨n',rs,e,_,rk,W⟩=>?_) _ hf));unfold webD at e;injection e with e
         injection e with e1 e2
         injection e1 with e1
         injection e2 with e2 _
         injection e2 with e2
         subst e2;obtain⟨q,hq,rfl⟩:=C_.mp pm;have:=W.lt q hq;rw[IQ (by omega)] at z;cases z
        simp;refine oI ?_;rintro K2 eT gD;by_cases pt:∃qs,p=.tup qs
        ·obtain⟨qs,rfl⟩:=pt;by_cases h2:qs.length=2
         ·match qs,h2 with
          | [x,y],_ =>
           simp[dep,ub];refine ux [x,y] (λx=>x) (λ_=>true) (λx=>.bl (whB n x)) ?_;simp;have x1:isX x=false:=nX (by simp[dep,depA] at xp;omega);have x2:isX y=false:=nX (by simp[dep,depA] at xp;omega);refine⟨⟨by simp[BY _ x x1],by simp[BY _ y x2]⟩,?_⟩;have e3:=vX (f:=whB n) (xs:=[x,y]);simp at e3;simp[e3];split
           ·rename_i ok;refine eT _ ?_;clear eT;obtain⟨a,rfl⟩:∃a,x=.int a:=by cases x<;>simp[whB] at ok ⊢
            obtain⟨b,rfl⟩:∃b,y=.int b:=by cases y<;>simp[whB] at ok ⊢
            simp only[whB,u_,decide_eq_true_eq] at ok;simp;split
            ·rename_i ge;refine bd ?_ _ ⟨_,rfl⟩;simp[roadB];omega
            ·rename_i lt;refine bQ _ ⟨_,λp hp=>?_,rfl⟩;rw[tk] at hp
             rcases I_.mp hp with hp | hp
             ·exact all p hp
             ·rw[k_.mp hp];simp[roadB];omega
           ·rename_i no;refine gD _ _ (bd ?_ _ ⟨_,rfl⟩);unfold roadB;split
            ·rename_i z2;cases z2;simp only[whB,u_,decide_eq_true_eq,not_and] at no;simp;omega
            ·rfl
         ·have h':¬(qs.length:Int)=2:=by omega
          simp[dep,ub,h'];refine gD _ _ (bd ?_ _ ⟨_,rfl⟩);unfold roadB;split
          ·rename_i z;cases z;exact absurd rfl h2
          ·rfl
        ·have nt:isiB .tT p=false:=by cases p<;>first | rfl | exact absurd ⟨_,rfl⟩ pt
         simp[xo (nX xp),nt];refine gD _ _ (bd ?_ _ ⟨_,rfl⟩);unfold roadB;split
         ·exact absurd ⟨_,rfl⟩ pt
         ·rfl
       ·rintro Γ ⟨x3,all,rfl⟩;rw[WJ] at all;refine hK _ ?_;obtain⟨rs,rfl,lt⟩:=CW all;have e2:=Gk (n:=n) (by omega) lt;simp[e2]
        have d1:depA (rs.map pairD)<=1:=u4 λd hd=>by
         obtain⟨p,_,rfl⟩:=C_.mp hd;exact vv
        have d2:depA (sortD (dd (rs.map pairD)))<=1:=u4 λd hd=>by
         obtain⟨p,_,rfl⟩:=C_.mp (uQ ((vJ _).mem_iff.mp hd));exact vv
        refine⟨⟨by rw[dep];omega,by rw[dep];omega⟩,?_⟩;rw[Ev];cases q:deqA (rs.map pairD) (sortD (dd (rs.map pairD))) with
        | true =>
         obtain⟨nd,ri⟩:=FA q
         have e4:=JQ (n:=n) (by omega) (by omega) lt nd (v:=v) (hv.trans ⟨λ⟨m,qs,e,_,rk,W⟩=>by
          obtain⟨rfl,rfl⟩:=AM (n:=n) (rs:=rs) e
          exact⟨rk,W⟩,λh=>⟨n,rs,rfl,ri,h⟩⟩)
         simp[e4];exact k1 _ ⟨_,rfl⟩
        | false =>
         simp;refine bz (λ⟨m,qs,e,ri,rk,W⟩=>?_) _ ⟨_,rfl⟩;obtain⟨rfl,rfl⟩:=AM (n:=n) (rs:=rs) e;rw[Mv W.nd ri,vy] at q;cases q
      ·have nt:isiB .tT r=false:=by cases r<;>first | rfl | exact absurd ⟨_,rfl⟩ rt
       simp[xo xr,nt];exact hR _ _ (bz (λ⟨n,rs,e,_⟩=>by cases e;exact rt ⟨_,rfl⟩) _ ⟨_,rfl⟩)
  ·have h':¬(es.length:Int)=2:=by omega
   simp[dep,ub,h'];exact hR _ _ (bz (λ⟨n,rs,e,_⟩=>by cases e;exact h rfl) _ ⟨_,rfl⟩)
 | non=>exact de λi z=>by cases z
 | bl b=>exact de λi z=>by cases z
 | str b=>exact de λi z=>by cases z
 | int b=>exact de λi z=>by cases z
 | lst b=>exact de λi z=>by cases z
 | exc _ _=>simp[dep] at hX
noncomputable def wishD(w:List (Int×Int)):D:=.tup (w.map pairD)
noncomputable def letD(l:List Int):D:=.tup (l.map .int)
structure PairOk(p:Int×Int):Prop where
 lo:0<=p.1
 le:p.1<=p.2
 hi:p.2<=9
structure Wf(n:Nat)(w:List (Int×Int)):Prop where
 len:w.length=n
 all:∀p∈w,PairOk p
theorem Wf.app{w:List (Int×Int)}(h:Wf n w){p:Int×Int}(hp:PairOk p):Wf (n+1) (w++[p]):=by
 refine⟨by simp[h.len],λq hq=>?_⟩
 rcases I_.mp hq with h1 | h1
 ·exact h.all q h1
 ·rw[k_.mp h1];exact hp
noncomputable def figB:D->Bool
 | .int i=>decide (0<=i)&&decide (i<=9)
 | _=>false
noncomputable def fldB:D->Bool
 | .tup ds=>decide (1<=ds.length)&&decide (ds.length<=3)
 | _=>false
noncomputable def letB:D->Bool
 | .tup ds=>decide (1<=ds.length)&&decide (ds.length<=3)&&ds.all figB
 | _=>false
noncomputable def prB:D->Bool
 | .tup [.int a,.int b]=>figB (.int a)&&(figB (.int b)&&decide (a<=b))
 | _=>false
noncomputable def wiB:D->Bool
 | .tup ds=>decide (1<=ds.length)&&decide (ds.length<=3)&&ds.all prB
 | _=>false
theorem Pj(d:D)(hX:isX d=false):cvF uZ [d]=some (.bl (match d with | .int _=>true | _=>false)):=by
 cases d<;>first | rfl | cases hX
theorem zN(d:D)(hX:isX d=false):cvF we [d]=some (.bl (figB d)):=by
 cases d with
 | int i =>
  have e:=Pj (.int i) rfl;refine tY rfl λKE k1 _=>?_
  rw[Bx];simp[e];by_cases h:0<=i
  ·have q:figB (.int i)=decide (i<=9):=by simp[figB,h]
   rw[q] at k1;simp[h];exact k1 _ ⟨_,rfl⟩
  ·have q:figB (.int i)=false:=by simp[figB,h]
   rw[q] at k1;simp[h];exact k1 _ ⟨_,rfl⟩
 | non=>rfl
 | bl b=>rfl
 | str x=>rfl
 | tup ds=>rfl
 | lst ds=>rfl
 | exc _ _=>cases hX
theorem E2(d:D)(hX:isX d=false):cvF wM [d]=some (.bl (fldB d)):=by
 cases d with
 | tup ds =>
  refine tY rfl λKE k1 _=>?_
  rw[CI];simp;by_cases h:1<=ds.length
  ·have h':(1:Int)<=(ds.length:Int):=by omega
   have e:decide ((ds.length:Int)<=3)=decide (ds.length<=3):=by
    by_cases q:ds.length<=3
    ·rw[decide_eq_true q,decide_eq_true (by omega)]
    ·rw[decide_eq_false q,decide_eq_false (by omega)]
   have q:fldB (.tup ds)=decide ((ds.length:Int)<=3):=by simp[fldB,h,e]
   rw[q] at k1;simp[h'];exact k1 _ ⟨_,rfl⟩
  ·have h':¬(1:Int)<=(ds.length:Int):=by omega
   have q:fldB (.tup ds)=false:=by simp[fldB,h]
   rw[q] at k1;simp[h'];exact k1 _ ⟨_,rfl⟩
 | non=>rfl
 | bl b=>rfl
 | str x=>rfl
 | int i=>rfl
 | lst ds=>rfl
 | exc _ _=>cases hX
theorem Nn(d:D)(hX:dep d < 1000):cvF zK [d]=some (.bl (prB d)):=by
 cases d with
 | tup ds =>
  refine tY rfl λKE k1 _=>?_
  rw[BH];refine oI ?_;rintro K hK hR;by_cases h:ds.length=2
  ·match ds,h with
   | [x,y],_ =>
    simp[dep];refine hK _ ?_;have e1:=zN x (nX (by simp[dep,depA] at hX;omega));have e2:=zN y (nX (by simp[dep,depA] at hX;omega));have i0:atI [x,y] 0=some x:=rfl;have i1:atI [x,y] 1=some y:=rfl;simp[i0,i1,e1,e2];cases hx:figB x with
    | false =>
     simp
     have:prB (.tup [x,y])=false:=by
      unfold prB;split
      ·rename_i z;cases z;rw[hx];rfl
      ·rfl
     rw[this] at k1;exact k1 _ ⟨_,rfl⟩
    | true =>
     cases hy:figB y with
     | false =>
      simp
      have:prB (.tup [x,y])=false:=by
       unfold prB;split
       ·rename_i z;cases z;rw[hx,hy];rfl
       ·rfl
      rw[this] at k1;exact k1 _ ⟨_,rfl⟩
     | true =>
      obtain⟨a,rfl⟩:∃a,x=.int a:=by cases x<;>simp[figB] at hx ⊢
      obtain⟨b,rfl⟩:∃b,y=.int b:=by cases y<;>simp[figB] at hy ⊢
      have q:prB (.tup [.int a,.int b])=decide (a<=b):=by rw[prB,hx,hy];rfl
      rw[q] at k1;simp;exact k1 _ ⟨_,rfl⟩
  ·have h':¬(ds.length:Int)=2:=by omega
   have:prB (.tup ds)=false:=by
    unfold prB;split
    ·rename_i z;cases z;exact absurd rfl h
    ·rfl
   rw[this] at k1;simp[dep,zB,h'];exact hR _ _ (k1 _ ⟨_,rfl⟩)
 | non=>rfl
 | bl b=>rfl
 | str x=>rfl
 | int i=>rfl
 | lst ds=>rfl
 | exc _ _=>simp[dep] at hX
theorem O7{d:D}(hX:dep d < 1000)(hd:∀ds,d=.tup ds->ds.length<=10000):cvF wz [d]=some (.bl (letB d)):=by
 have e:=E2 d (nX hX);refine tY rfl λKE k1 _=>?_
 rw[Cg];simp[e];cases hf:fldB d with
 | false =>
  have:letB d=false:=by
   cases d<;>simp[letB,fldB] at hf ⊢
   intro a b;omega
  rw[this] at k1;simp;exact k1 _ ⟨_,rfl⟩
 | true =>
  obtain⟨ds,rfl⟩:∃ds,d=.tup ds:=by cases d<;>simp[fldB] at hf ⊢
  simp only[fldB,u_,decide_eq_true_eq] at hf;have:letB (.tup ds)=ds.all figB:=by simp[letB,hf]
  rw[this] at k1;simp;refine ux ds (λx=>x) (λ_=>true) (λx=>.bl (figB x)) ?_;have l:=hd ds rfl;simp
  refine⟨by omega,λx hx=>by
   have:=uk hx
   simp[zN x (nX (by simp[dep] at hX;omega))],?_⟩
  rw[vX];exact⟨_,_,rfl,k1 _ ⟨_,rfl⟩⟩
theorem Od{d:D}(hX:dep d < 1000)(hd:∀ds,d=.tup ds->ds.length<=10000):cvF wa [d]=some (.bl (wiB d)):=by
 have e:=E2 d (nX hX);refine tY rfl λKE k1 _=>?_
 rw[zV];simp[e];cases hf:fldB d with
 | false =>
  have:wiB d=false:=by
   cases d<;>simp[wiB,fldB] at hf ⊢
   intro a b;omega
  rw[this] at k1;simp;exact k1 _ ⟨_,rfl⟩
 | true =>
  obtain⟨ds,rfl⟩:∃ds,d=.tup ds:=by cases d<;>simp[fldB] at hf ⊢
  simp only[fldB,u_,decide_eq_true_eq] at hf;have:wiB (.tup ds)=ds.all prB:=by simp[wiB,hf]
  rw[this] at k1;simp;refine ux ds (λx=>x) (λ_=>true) (λx=>.bl (prB x)) ?_;have l:=hd ds rfl;simp
  refine⟨by omega,λx hx=>by
   have:=uk hx
   simp[Nn x (by simp[dep] at hX;omega)],?_⟩
  rw[vX];exact⟨_,_,rfl,k1 _ ⟨_,rfl⟩⟩
open PySem in
theorem xH(a b:Str):(a++b).cps.toList=a.cps.toList++b.cps.toList:=by
 rw[Str.cps_append,Array.toList_append]
open PySem in
theorem Bd{a b:Str}(h:a.cps.toList=b.cps.toList):a=b:=by
 cases a;cases b;simp only at h;congr 1;exact Array.toList_inj.mp h
open PySem in
open PySem in
theorem Ef{i:Int}(h0:0<=i)(h9:i<=9):txt i=⟨#[48+i.toNat]⟩:=by
 have:i=0\/i=1\/i=2\/i=3\/i=4\/i=5\/i=6\/i=7\/i=8\/i=9:=by omega
 rcases this with rfl | rfl | rfl | rfl | rfl | rfl | rfl | rfl | rfl | rfl<;>decide
theorem F1{x:PySem.Str}{Q:D->Gm->Prop}:wp (lft (lenSF [.str x])) Γ Q↔x.length<=100000/\Q (.int x.length) Γ:=by simp only[lenSF,vz]
noncomputable def comma:PySem.Str:=⟨#[44]⟩
noncomputable def dash:PySem.Str:=⟨#[45]⟩
noncomputable def pairT(p:Int×Int):PySem.Str:=txt p.1++dash++txt p.2
theorem MN{i:Int}(h:0<=i/\i<=9):(txt i).length=1:=by rw[Ef h.1 h.2];rfl
theorem vR:((",":String):PySem.Str)=comma:=by decide
theorem wG:(("-":String):PySem.Str)=dash:=by decide
theorem ER{i:Int}(h:0<=i/\i<=9):strIF [.int i]=some (.str (txt i)):=by
 unfold strIF;exact if_pos (by omega)
@[simp ↓] theorem Sl{t:M (List D)}{Q:List D->Gm->Prop}:wp (splS i t) Γ Q↔wp (nm i) Γ λa ac=>wp t ac λds ai=>wp (lft (splitF a ds)) ai Q:=by simp only[splS,t5]
theorem Av{g:List R->Option (R×List R)}{t:M (List D)}{h:M Fl}{c:List D}{QS:Fl->Gm->Prop}(hj:Γ[j]?=some (some (.bor c)))(ht:t Γ=some (ds,Γ))(hi:Nat.blt i Γ.length=true)(k:wpB g c ds λr c'=>∃d,r=.val d/\wp h ((Γ.set j (some (.bor c'))).set i (some (.val d))) QS):wp (seqS (setV i (cbV j g t)) h) Γ QS:=by
 obtain⟨r,c',e1,d,rfl,k⟩:=k;have bq:i < Γ.length:=by rw[←Nat.ble_eq_true_of_le (r_ 0)] at hi;exact Xy hi
 refine oI λK hK _=>⟨.nx,_,?_,hK _ k⟩
 have e2:callB j g t Γ=some (.val d,Γ.set j (some (.bor c'))):=by
  unfold callB mutS;have:isMut Γ j=true:=by unfold isMut;rw[hj];rfl
  rw[this];simp only[bnd,ht,hj,e1,if_true]
 simp[setV,cbV,bnd,lft,asV,e2,putS,ret,bq]
theorem Ly{k x:Int}{A h:M Fl}{QS:Fl->Gm->Prop}(eG:Γ[i]?=some (some (.val (.int x))))(ne:¬x=k)(hh:wp h Γ QS):wp (seqS (ifS (tst (op2 (eqF false) (nm i) (ret (.int k)))) A (ret .nx)) h) Γ QS:=by
 refine oI λK hK _=>?_
 simp[eG,ne,dep];exact hK _ hh
theorem Le{k x:Int}{A h:M Fl}{QS:Fl->Gm->Prop}(eG:Γ[i]?=some (some (.val (.int x))))(e:x=k)(hh:∀K:Fl->Gm->Prop,(∀r ac,QS (.rt r) ac->K (.rt r) ac)->wp A Γ K):wp (seqS (ifS (tst (op2 (eqF false) (nm i) (ret (.int k)))) A (ret .nx)) h) Γ QS:=by
 refine oI λK hK hR=>?_
 simp[eG,e,dep];exact hh K hR
theorem M2{k x:Int}{A h:M Fl}{QS:Fl->Gm->Prop}(eG:Γ[i]?=some (some (.val (.int x))))(ne:¬x < k)(hh:wp h Γ QS):wp (seqS (ifS (tst (op2 ltI (nm i) (ret (.int k)))) A (ret .nx)) h) Γ QS:=by
 refine oI λK hK _=>?_
 simp[eG,ne];exact hK _ hh
theorem Qf{k x:Int}{A h:M Fl}{QS:Fl->Gm->Prop}(eG:Γ[i]?=some (some (.val (.int x))))(e:x < k)(hh:∀K:Fl->Gm->Prop,(∀r ac,QS (.rt r) ac->K (.rt r) ac)->wp A Γ K):wp (seqS (ifS (tst (op2 ltI (nm i) (ret (.int k)))) A (ret .nx)) h) Γ QS:=by
 refine oI λK hK hR=>?_
 simp[eG,e];exact hh K hR
theorem II{c:M Bool}{A B h:M Fl}{QS:Fl->Gm->Prop}(e:c Γ=some (true,Γ))(hh:∀K:Fl->Gm->Prop,(∀r ac,QS (.rt r) ac->K (.rt r) ac)->wp A Γ K):wp (seqS (ifS c A B) h) Γ QS:=by
 refine oI λK hK hR=>?_
 obtain⟨a,af,e1,k⟩:=hh K hR;exact⟨a,af,by simp[ifS,bnd,e,e1],k⟩
theorem A'{c:M Bool}{A h:M Fl}{QS:Fl->Gm->Prop}(e:c Γ=some (false,Γ))(hh:wp h Γ QS):wp (seqS (ifS c A (ret .nx)) h) Γ QS:=
 oI λK hK hR=>⟨.nx,Γ,by simp[ifS,bnd,e,ret],hK _ hh⟩
theorem Ei{g:M D}{d:D}{h:M Fl}{QS:Fl->Gm->Prop}(e:g Γ=some (d,Γ))(hi:Nat.blt i Γ.length=true)(hh:wp h (Γ.set i (some (.val d))) QS):wp (seqS (setV i g) h) Γ QS:=
 oI λK hK hR=>⟨.nx,_,by have bq:i < Γ.length:=Xy hi;simp[setV,bnd,e,putS,ret,bq],hK _ hh⟩
open PySem in
noncomputable def isNum(x:Str):Bool:=decide (1<=x.length/\x.length<=4)&&(x.cps.toList.all λc=>decide (48<=c/\c<=57))&&(decide (x.cps.toList.head?≠some 48)||decide (x=⟨#[48]⟩))
open PySem in
noncomputable def numV(x:Str):Int:=((digitsVal x.cps.toList:Nat):Int)
open PySem in
def Asc(x:Str):Prop:=x.length<=9000/\∀c∈x.cps.toList,c < 128
theorem Asc.le{x:PySem.Str}(h:Asc x):x.length<=100000:=H_ h.1 (by decide)
noncomputable def nfg(c:Nat):Bool:=!(decide (48<=c/\c<=57))
theorem Eh{c:Nat}(h:c < 128):ninSF (.str ⟨#[c]⟩) (.str "0123456789")=some (.bl (nfg c)):=by
 have all:(Ur 128).all (λc=>match ninSF (.str ⟨#[c]⟩) (.str "0123456789") with | some (.bl b)=>b == nfg c | _=>false)=true:=by kernel_rfl
 have:=j_.mp all c (Um.mpr h);split at this
 ·rename_i b e;rw[e];rw[beq_iff_eq.mp this]
 ·cases this
noncomputable def T1:M Bool:=orT (notT (tst (chn leI leI (ret (.int 1)) (fn1 lenSF (consA (nm 0) nilA)) (ret (.int 4))))) (tst (fn1 anyF (consA (frz (compO 1 (itT (nm 0)) (tgN 0) (ret true) (op2 ninSF (nm 0) (ret (.str "0123456789"))))) nilA)))
noncomputable def T2:M Bool:=andT (tst (op2 (eqF false) (op2 ixSF (nm 0) (ret (.int 0))) (ret (.str "0")))) (tst (op2 (eqF true) (nm 0) (ret (.str "0"))))
open PySem in
noncomputable def bad1(x:Str):Bool:=!(decide (1<=x.length/\x.length<=4))||x.cps.toList.any nfg
open PySem in
noncomputable def bad2(x:Str):Bool:=decide (x.cps.toList.head?=some 48)&&!(decide (x=⟨#[48]⟩))
theorem Cy(x:PySem.Str):isNum x=(!(bad1 x)&&!(bad2 x)):=by
 unfold isNum bad1 bad2;rw[Bool.not_or,VA,Bool.not_and,VA]
 congr 1
 ·congr 1
  rw[List.any_eq_not_all_not,VA]
  congr 1
  funext c
  unfold nfg;rw[VA]
 ·congr 1
  rw[decide_not]
theorem DX{x:PySem.Str}(h:Asc x):signsD (.str x)=some (x.cps.toList.map λc=>.str ⟨#[c]⟩):=by
 refine if_pos ?_;rw[←Array.all_toList,j_];exact λc hc=>decide_eq_true (h.2 c hc)
theorem NW{x:PySem.Str}(h:Asc x):wp T1 [some (.val (.str x))] λb af=>b=bad1 x/\af=[some (.val (.str x))]:=by
 have lx:x.cps.toList.length=x.length:=rfl
 have cX:¬(1<=x.length/\x.length<=4)->bad1 x=true:=λn=>by
  unfold bad1;rw[decide_eq_false n];rfl
 unfold T1;simp[F1,h.le];by_cases l1:1<=x.length
 case neg=>rw[if_neg (by omega)];exact cX (by omega)
 by_cases l4:x.length<=4
 case neg=>rw[if_pos (by omega),if_neg (by omega)];exact cX (by omega)
 rw[if_pos (by omega),if_pos (by omega)]
 have b1:bad1 x=x.cps.toList.any nfg:=by
  unfold bad1;rw[decide_eq_true ⟨l1,l4⟩];rfl
 refine ux x.cps.toList (λc=>.str ⟨#[c]⟩) (λ_=>true) (λc=>.bl (nfg c)) ?_;simp only[itT,t5,FB];simp only[W8];rw[u6 (DX h)];refine⟨rfl,by have:=h.1;omega,λc hc a=>?_,?_⟩
 ·have e:=Eh (h.2 c hc);simp;rw[u6 e];exact⟨rfl,_,rfl⟩
 ·rw[V5.mpr (λ_ _=>rfl),u6 MO,b1];simp
theorem Ik{x:PySem.Str}(h:Asc x)(h1:1<=x.length):wp T2 [some (.val (.str x))] λb af=>b=bad2 x/\af=[some (.val (.str x))]:=by
 have z0:(("0":String):PySem.Str)=⟨#[48]⟩:=by decide
 obtain⟨c,cs,ex⟩:∃c cs,x.cps.toList=c::cs:=by
  cases e:x.cps.toList with
  | nil =>
   have:x.length=0:=by show x.cps.size=0;rw[←Tv,e];rfl
   omega
  | cons c cs=>exact⟨c,cs,rfl⟩
 have e0:ixSF (.str x) (.int 0)=some (.str ⟨#[c]⟩):=by
  unfold ixSF;dsimp only;rw[if_pos (by decide)];have:x.cps[(0:Int).toNat]?=some c:=by rw[←VH,ex];rfl
  rw[this]
 have eh:x.cps.toList.head?=some c:=by rw[ex];rfl
 unfold T2;simp;rw[u6 e0,z0];by_cases hc:c=48
 ·subst hc;have:bad2 x=!(decide (x=⟨#[48]⟩)):=by unfold bad2;rw[eh];rfl
  simp[this];by_cases hx:x=⟨#[48]⟩<;>simp[hx]
 ·have:bad2 x=false:=by unfold bad2;rw[eh];simp[hc]
  have ne:¬((⟨#[c]⟩:PySem.Str)=⟨#[48]⟩):=λz=>hc (by injection z with z;injection z with z;injection z)
  simp[this,ne]
theorem Hx{x:PySem.Str}(h:Asc x):T1 [some (.val (.str x))]=some (bad1 x,[some (.val (.str x))]):=by
 obtain⟨b,Γ,e,rfl,rfl⟩:=NW h;exact e
theorem Fa{x:PySem.Str}(h:Asc x)(h1:bad1 x=false):T2 [some (.val (.str x))]=some (bad2 x,[some (.val (.str x))]):=by
 obtain⟨b,Γ,e,rfl,rfl⟩:=Ik h (by
  unfold bad1 at h1;simp at h1
  exact h1.1.1)
 exact e
theorem A0{x:PySem.Str}(h1:bad1 x=false):PySem.NumText.AllDigits x.cps.toList/\x.cps.toList≠[]/\x.length<=4:=by
 unfold bad1 at h1;rw[XT] at h1;have l:=h1.1;simp at l;refine⟨λc hc=>?_,λz=>?_,l.2⟩
 ·have:=List.any_eq_false.mp h1.2 c hc;unfold nfg at this;simpa using this
 ·have:x.length=0:=by show x.cps.size=0;rw[←Tv,z];rfl
  omega
theorem wg{x:PySem.Str}(h:Asc x)(hn:isNum x=true):cvF uC [.str x]=some (.int (numV x)):=by
 rw[Cy] at hn;simp only[u_,Vu] at hn;obtain⟨d1,d2,d3⟩:=A0 hn.1;have e1:=Hx h;rw[hn.1] at e1;have e2:=Fa h hn.1;rw[hn.2] at e2
 have e3:intTF [.str x]=some (.int (numV x)):=by
  unfold intTF;dsimp only;rw[if_pos (by omega),PySem.intText_digits d1 d2 (by omega)];rfl
 refine tY rfl λKE k1 _=>?_
 refine A' (c:=T1) e1 (A' (c:=T2) e2 ?_);simp[e3];exact k1 _ ⟨_,rfl⟩
theorem BE{x:PySem.Str}(h:Asc x):vn [.str x]=if isNum x then none else some 7:=by
 have e1:=Hx h;show((orX (ifX T1 (raX 7 (consA (ret (.str "it is no number of few figures")) nilA)) nvX) (thenX (ifS T1 (λ_=>none) (ret .nx)) (ifX T2 (raX 7 (consA (ret (.str "a 0 stands ahead")) nilA)) nvX))) [some (.val (.str x))]).map (·.1)=_;rw[Cy];cases b1:bad1 x with
 | true=>rw[b1] at e1;simp[orX,ifX,bnd,e1,raX,consA,ret,nilA,lft]
 | false =>
  have e2:=Fa h b1;rw[b1] at e1;cases b2:bad2 x<;>rw[b2] at e2<;>simp[orX,ifX,bnd,e1,e2,raX,consA,ret,nilA,lft,nvX,thenX,ifS]
section
open PySem
theorem Fc{c:Nat}:∀(ts:List Str),(∀t∈ts,∀y∈t.cps.toList,y∈(YV ⟨#[c]⟩ ts).cps.toList)/\(∀t∈ts,t.length<=(YV ⟨#[c]⟩ ts).length)/\ts.length<=(YV ⟨#[c]⟩ ts).length+1
 | []=>⟨λt h=>(nomatch h),λt h=>(nomatch h),Tz _⟩
 | [x]=>⟨λt h y hy=>by rw[k_.mp h] at hy;exact hy,λt h=>by rw[k_.mp h];exact r_ _,by simp⟩
 | x::y::r=>by
  obtain⟨h1,h2,h3⟩:=Fc (c:=c) (y::r);have e:YV ⟨#[c]⟩ (x::y::r)=x++⟨#[c]⟩++YV ⟨#[c]⟩ (y::r):=rfl
  have l:(YV ⟨#[c]⟩ (x::y::r)).length=x.length+1+(YV ⟨#[c]⟩ (y::r)).length:=by
   rw[e,UY,UY];rfl
  refine⟨λt ht z hz=>?_,λt ht=>?_,?_⟩
  ·rw[e,xH,xH]
   rcases w_.mp ht with rfl | ht
   ·exact T6 _ (T6 _ hz)
   ·exact L_ _ (h1 t ht z hz)
  ·rw[l]
   rcases w_.mp ht with rfl | ht
   ·omega
   ·have:=h2 t ht;omega
  ·rw[l];simp only[S_] at h3 ⊢;omega
theorem uw{x:Str}{c:Nat}(h:Asc x):(∀w∈TY x ⟨#[c]⟩,Asc w)/\(TY x ⟨#[c]⟩).length<=9001:=by
 obtain⟨h1,h2,h3⟩:=Fc (c:=c) (TY x ⟨#[c]⟩);rw[join_split] at h1 h2 h3;have:=h.1;exact⟨λw hw=>⟨H_ (h2 w hw) h.1,λy hy=>h.2 y (h1 w hw y hy)⟩,by omega⟩
end
theorem uX{x:PySem.Str}{c:Nat}(h:Asc x):splitF (.str x) [.str ⟨#[c]⟩]=some ((PySem.Txt.split x ⟨#[c]⟩).map D.str):=if_pos ⟨rfl,h.le⟩
section
variable {g:List R->Option (R×List R)}{gx:List D->Option Nat}{v:PySem.Str->D}{ok:PySem.Str->Bool}
theorem DH:∀(xs:List PySem.Str) (a:Option R) (Γ:Gm),(∀x∈xs,ok x=true->cvF g [.str x]=some (v x))->(∀x∈xs,gx [.str x]=if ok x then none else some 7) →
  (xs.all ok=true->compXM (tgN 0) (fn1 (cvF g) (consA (nm 0) nilA)) (fnX gx (consA (nm 0) nilA)) (xs.map D.str) (a::Γ)=none)/\(xs.all ok=false->∃af,compXM (tgN 0) (fn1 (cvF g) (consA (nm 0) nilA)) (fnX gx (consA (nm 0) nilA)) (xs.map D.str) (a::Γ)=some (7,af))
 | [],a,Γ,_,_=>⟨λ_=>rfl,λh=>(nomatch h)⟩
 | x::r,a,Γ,h1,h2=>by
  have e1:tgN 0 (.str x) (a::Γ)=some ((),some (.val (.str x))::Γ):=rfl
  have e2:fnX gx (consA (nm 0) nilA) (some (.val (.str x))::Γ)=(gx [.str x]).map λc=>(c,some (.val (.str x))::Γ):=by
   cases q:gx [.str x]<;>simp[fnX,bnd,consA,nilA,nm,ret,lft,q]
  rw[h2 x m_] at e2;obtain⟨i1,i2⟩:=DH r (some (.val (.str x))) Γ (λy hy=>h1 y (i_ _ hy)) (λy hy=>h2 y (i_ _ hy));rw[O_,compXM];cases ho:ok x with
  | false =>
   rw[ho] at e2;refine⟨λz=>by simp[ho] at z,λ_=>⟨some (.val (.str x))::Γ,?_⟩⟩;simp[bnd,e1,orX,e2]
  | true =>
   rw[ho] at e2
   have e3:fn1 (cvF g) (consA (nm 0) nilA) (some (.val (.str x))::Γ)=some (v x,some (.val (.str x))::Γ):=by
    simp[fn1,bnd,consA,nilA,nm,ret,lft,h1 x m_ ho]
   have e4:(bnd (tgN 0 (.str x)) λ_=>orX (fnX gx (consA (nm 0) nilA)) (bnd (fn1 (cvF g) (consA (nm 0) nilA)) λ_=>compXM (tgN 0) (fn1 (cvF g) (consA (nm 0) nilA)) (fnX gx (consA (nm 0) nilA)) (r.map D.str))) (a::Γ)=compXM (tgN 0) (fn1 (cvF g) (consA (nm 0) nilA)) (fnX gx (consA (nm 0) nilA)) (r.map D.str) (some (.val (.str x))::Γ):=by
    simp only[bnd,e1,orX,e2,e3];rfl
   rw[e4];refine⟨λz=>i1 (by simpa[ho] using z),λz=>i2 (by simpa[ho] using z)⟩
theorem xX{xs:List PySem.Str}(lL:it Γ=some (xs.map D.str,Γ))(hl:xs.length<=9001)(h1:∀x∈xs,ok x=true->cvF g [.str x]=some (v x))(h2:∀x∈xs,gx [.str x]=if ok x then none else some 7):
  (xs.all ok=true->compX 1 it (tgN 0) (fn1 (cvF g) (consA (nm 0) nilA)) (fnX gx (consA (nm 0) nilA)) Γ=none)/\(xs.all ok=false->∃af,compX 1 it (tgN 0) (fn1 (cvF g) (consA (nm 0) nilA)) (fnX gx (consA (nm 0) nilA)) Γ=some (7,af)):=by
 obtain⟨i1,i2⟩:=DH (g:=g) (gx:=gx) (v:=v) (ok:=ok) xs none Γ h1 h2
 have e:compX 1 it (tgN 0) (fn1 (cvF g) (consA (nm 0) nilA)) (fnX gx (consA (nm 0) nilA)) Γ=inC 1 (compXM (tgN 0) (fn1 (cvF g) (consA (nm 0) nilA)) (fnX gx (consA (nm 0) nilA)) (xs.map D.str)) Γ:=by
  unfold compX;simp only[bnd,lL];rw[if_pos (by rw[y_];exact H_ hl (by decide))]
 rw[e];unfold inC;refine⟨λz=>?_,λz=>?_⟩
 ·rw[show P_ 1 (none:Option R)++Γ=none::Γ from rfl,i1 z]
 ·obtain⟨af,q⟩:=i2 z;refine⟨af.drop 1,?_⟩;rw[show P_ 1 (none:Option R)++Γ=none::Γ from rfl,q]
end
section
open PySem
noncomputable def wds(c:Nat)(x:Str):List Str:=TY x ⟨#[c]⟩
noncomputable def pairOk(x:Str):Bool:=(wds 45 x).all isNum
noncomputable def pairV(x:Str):D:=.tup ((wds 45 x).map λy=>.int (numV y))
end
theorem vg{α:Type}{xs:List α}{p:α->Bool}(h:xs.all p=true):∀x∈xs,p x=true:=j_.mp h
theorem Bb{x:PySem.Str}{c:Nat}{s:PySem.Str}(hs:s=⟨#[c]⟩)(h:Asc x)(eG:Γ[0]?=some (some (.val (.str x)))):itS (frz (splS 0 (consA (ret (.str s)) nilA))) Γ=some ((wds c x).map D.str,Γ):=by
 subst hs;have e:=uX (c:=c) h;simp[itS,frz,splS,bnd,nm,eG,consA,nilA,ret,lft,e,seqI,wds]
theorem za{x:PySem.Str}(h:Asc x)(hp:pairOk x=true):cvF uK [.str x]=some (pairV x):=by
 obtain⟨a1,a2⟩:=uw (c:=45) h;refine tY rfl λKE k1 _=>?_
 rw[Ci,wG];simp;refine ux (wds 45 x) (λy=>.str y) (λ_=>true) (λy=>.int (numV y)) ?_;rw[show dash=⟨#[45]⟩ from rfl];simp[uX h];refine⟨rfl,by unfold wds;omega,λy hy=>?_,?_⟩
 ·simp[wg (a1 y hy) (vg hp y hy)]
 ·exact k1 _ ⟨_,rfl⟩
theorem EZ{x:PySem.Str}(h:Asc x):vO [.str x]=if pairOk x then none else some 7:=by
 obtain⟨a1,a2⟩:=uw (c:=45) h;obtain⟨c1,c2⟩:=xX (g:=uC) (gx:=vn) (v:=λy=>.int (numV y)) (ok:=isNum) (Bb (s:= "-") (c:=45) (by decide) h (Γ:=[some (.val (.str x))]) rfl) a2 (λy hy ho=>wg (a1 y hy) ho) (λy hy=>BE (a1 y hy));show((xT [some (.val (.str x))]).map (·.1))=_;rw[xT];unfold pairOk;cases q:(wds 45 x).all isNum with
 | true=>rw[c1 q];rfl
 | false=>obtain⟨af,e⟩:=c2 q;rw[e];rfl
section
open PySem
noncomputable def letV(x:Str):D:=.tup ((wds 44 x).map λy=>.int (numV y))
noncomputable def letOk(x:Str):Bool:=(wds 44 x).all isNum&&letB (letV x)
noncomputable def wishV(x:Str):D:=.tup ((wds 44 x).map pairV)
noncomputable def wishOk(x:Str):Bool:=(wds 44 x).all pairOk&&wiB (wishV x)
end
theorem Fo{x:PySem.Str}(h:Asc x)(hp:(wds 44 x).all isNum=true):setV 1 (fn1 tupF (consA (frz (compO 1 (itS (frz (splS 0 (consA (ret (.str ",")) nilA)))) (tgN 0) (ret true) (fn1 (cvF uC) (consA (nm 0) nilA)))) nilA)) [some (.val (.str x)),none]=some (.nx,[some (.val (.str x)),some (.val (letV x))]):=by
 obtain⟨a1,a2⟩:=uw (c:=44) h
 have w:wp (setV 1 (fn1 tupF (consA (frz (compO 1 (itS (frz (splS 0 (consA (ret (.str ",")) nilA)))) (tgN 0) (ret true) (fn1 (cvF uC) (consA (nm 0) nilA)))) nilA))) [some (.val (.str x)),none] λf af=>f=.nx/\af=[some (.val (.str x)),some (.val (letV x))]:=by
  rw[vR];simp;refine ux (wds 44 x) (λy=>.str y) (λ_=>true) (λy=>.int (numV y)) ?_;rw[show comma=⟨#[44]⟩ from rfl];simp[uX h];refine⟨rfl,by unfold wds;omega,λy hy=>?_,rfl⟩;simp[wg (a1 y hy) (vg hp y hy)]
 obtain⟨f,af,e,rfl,rfl⟩:=w;exact e
theorem uV{α:Type}{f:α->D}{l:List α}(h:∀y,dep (f y)<=n):depA (l.map f)<=n:=u4 λd hd=>by
 obtain⟨y,_,rfl⟩:=C_.mp hd;exact h y
theorem D'(x:PySem.Str):dep (pairV x)<=1:=by
 have:=uV (f:=λy=>D.int (numV y)) (n:=0) (l:=wds 45 x) λy=>r_ _
 unfold pairV;rw[dep];omega
theorem LP(x:PySem.Str):dep (letV x) < 1000:=by
 have:=uV (f:=λy=>D.int (numV y)) (n:=0) (l:=wds 44 x) λy=>r_ _
 unfold letV;rw[dep];omega
theorem KQ(x:PySem.Str):dep (wishV x) < 1000:=by
 have:=uV (f:=pairV) (n:=1) (l:=wds 44 x) D';unfold wishV;rw[dep];omega
theorem DR{x:PySem.Str}(h:Asc x):cvF wz [letV x]=some (.bl (letB (letV x))):=O7 (LP x) λds z=>by
 cases z;rw[y_];exact H_ (uw (c:=44) h).2 (by decide)
theorem QM{x:PySem.Str}(h:Asc x)(hp:letOk x=true):cvF xQ [.str x]=some (letV x):=by
 unfold letOk at hp;rw[u_] at hp;have hl:=DR h;rw[hp.2] at hl;refine tY rfl λKE k1 _=>?_
 rw[AK];refine oI λK hK _=>⟨_,_,Fo h hp.1,hK _ ?_⟩
 refine oI λK hK _=>?_
 simp[hl];refine hK _ ?_;exact⟨_,_,rfl,k1 _ ⟨_,rfl⟩⟩
theorem M5{x:PySem.Str}(h:Asc x):xW [.str x]=if letOk x then none else some 7:=by
 obtain⟨a1,a2⟩:=uw (c:=44) h;obtain⟨c1,c2⟩:=xX (g:=uC) (gx:=vn) (v:=λy=>.int (numV y)) (ok:=isNum) (Bb (s:= ",") (c:=44) (by decide) h (Γ:=[some (.val (.str x)),none]) rfl) a2 (λy hy ho=>wg (a1 y hy) ho) (λy hy=>BE (a1 y hy));show((zA [some (.val (.str x)),none]).map (·.1))=_;rw[zA];unfold letOk;cases q:(wds 44 x).all isNum with
 | false =>
  obtain⟨af,e⟩:=c2 q;simp only[orX,e];rfl
 | true =>
  have e1:=Fo h q;have hl:=DR h;simp only[orX,c1 q,thenX,bnd,e1,ifX];cases b:letB (letV x)<;>rw[b] at hl<;>simp[notT,tst,bnd,fn1,consA,nilA,nm,ret,lft,hl,asB,raX,nvX]
theorem GR{x:PySem.Str}(h:Asc x)(hp:(wds 44 x).all pairOk=true):setV 1 (fn1 tupF (consA (frz (compO 1 (itS (frz (splS 0 (consA (ret (.str ",")) nilA)))) (tgN 0) (ret true) (fn1 (cvF uK) (consA (nm 0) nilA)))) nilA)) [some (.val (.str x)),none]=some (.nx,[some (.val (.str x)),some (.val (wishV x))]):=by
 obtain⟨a1,a2⟩:=uw (c:=44) h
 have w:wp (setV 1 (fn1 tupF (consA (frz (compO 1 (itS (frz (splS 0 (consA (ret (.str ",")) nilA)))) (tgN 0) (ret true) (fn1 (cvF uK) (consA (nm 0) nilA)))) nilA))) [some (.val (.str x)),none] λf af=>f=.nx/\af=[some (.val (.str x)),some (.val (wishV x))]:=by
  rw[vR];simp;refine ux (wds 44 x) (λy=>.str y) (λ_=>true) pairV ?_;rw[show comma=⟨#[44]⟩ from rfl];simp[uX h];refine⟨rfl,by unfold wds;omega,λy hy=>?_,rfl⟩;simp[za (a1 y hy) (vg hp y hy)]
 obtain⟨f,af,e,rfl,rfl⟩:=w;exact e
theorem Hw{x:PySem.Str}(h:Asc x):cvF wa [wishV x]=some (.bl (wiB (wishV x))):=Od (KQ x) λds z=>by
 cases z;rw[y_];exact H_ (uw (c:=44) h).2 (by decide)
theorem Mm{x:PySem.Str}(h:Asc x)(hp:wishOk x=true):cvF zd [.str x]=some (wishV x):=by
 unfold wishOk at hp;rw[u_] at hp;have hl:=Hw h;rw[hp.2] at hl;refine tY rfl λKE k1 _=>?_
 rw[zT];refine oI λK hK _=>⟨_,_,GR h hp.1,hK _ ?_⟩
 refine oI λK hK _=>?_
 simp[hl];refine hK _ ?_;exact⟨_,_,rfl,k1 _ ⟨_,rfl⟩⟩
theorem IU{x:PySem.Str}(h:Asc x):xR [.str x]=if wishOk x then none else some 7:=by
 obtain⟨a1,a2⟩:=uw (c:=44) h;obtain⟨c1,c2⟩:=xX (g:=uK) (gx:=vO) (v:=pairV) (ok:=pairOk) (Bb (s:= ",") (c:=44) (by decide) h (Γ:=[some (.val (.str x)),none]) rfl) a2 (λy hy ho=>za (a1 y hy) ho) (λy hy=>EZ (a1 y hy));show((y3 [some (.val (.str x)),none]).map (·.1))=_;rw[y3];unfold wishOk;cases q:(wds 44 x).all pairOk with
 | false =>
  obtain⟨af,e⟩:=c2 q;simp only[orX,e];rfl
 | true =>
  have e1:=GR h q;have hl:=Hw h;simp only[orX,c1 q,thenX,bnd,e1,ifX];cases b:wiB (wishV x)<;>rw[b] at hl<;>simp[notT,tst,bnd,fn1,consA,nilA,nm,ret,lft,hl,asB,raX,nvX]
noncomputable def blank:PySem.Str:=⟨#[32]⟩
theorem yQ:((" ":String):PySem.Str)=blank:=by decide
section
open PySem
theorem zl(c:Nat)(x:Str):∃w ws,wds c x=w::ws:=by
 have p:=split_pos x ⟨#[c]⟩;unfold wds;cases e:TY x ⟨#[c]⟩ with
 | nil=>rw[e] at p;cases p
 | cons w ws=>exact⟨w,ws,rfl⟩
noncomputable def webV(x:Str):D:=.tup [.int (numV ((wds 32 x).headD ⟨#[]⟩)),.tup ((wds 32 x).tail.map pairV)]
noncomputable def wordsOk(x:Str):Bool:=isNum ((wds 32 x).headD ⟨#[]⟩)&&(wds 32 x).tail.all pairOk
open Classical in
noncomputable def webOk(x:Str):Bool:=wordsOk x&&decide (IsWeb (webV x))
end
theorem MS(x:PySem.Str):dep (webV x) < 1000:=by
 have:=uV (f:=pairV) (n:=1) (l:=(wds 32 x).tail) D';unfold webV;simp[dep,depA,-map_tail];omega
theorem GS{x:PySem.Str}(h:Asc x){v:Bool}(hv:v=true↔IsWeb (webV x)):cvF vK [webV x]=some (.bl v):=ID (MS x) (λm ds z=>by
 unfold webV at z;injection z with z
 injection z with _ z
 injection z with z _
 injection z with z
 rw[←z,y_,W9];have:(wds 32 x).length<=9001:=(uw (c:=32) h).2
 omega) hv
theorem EF{x:PySem.Str}(h:Asc x):setV 1 (frz (splS 0 (consA (ret (.str " ")) nilA))) [some (.val (.str x)),none,none]=some (.nx,[some (.val (.str x)),some (.val (.lst ((wds 32 x).map D.str))),none]):=by
 have w:wp (setV 1 (frz (splS 0 (consA (ret (.str " ")) nilA)))) [some (.val (.str x)),none,none] λf af=>f=.nx/\af=[some (.val (.str x)),some (.val (.lst ((wds 32 x).map D.str))),none]:=by
  rw[yQ,show blank=⟨#[32]⟩ from rfl];simp[uX h];rfl
 obtain⟨f,af,e,rfl,rfl⟩:=w;exact e
section
variable {x w:PySem.Str}{ws:List PySem.Str}(h:Asc x)(ew:wds 32 x=w::ws)
include h ew
theorem CD:Asc w/\(∀y∈ws,Asc y)/\ws.length<=9000:=by
 obtain⟨a1,a2⟩:=uw (c:=32) h;have e:PySem.Txt.split x ⟨#[32]⟩=w::ws:=ew;rw[e] at a1 a2;exact⟨a1 w m_,λy hy=>a1 y (i_ _ hy),by simp only[S_] at a2;omega⟩
theorem CV:ixF (.lst ((wds 32 x).map D.str)) (.int 0)=some (.str w):=by
 rw[ew];show atI _ ((0:Nat):Int)=_;rw[DL.vD];rfl
theorem Bt:cutD ((wds 32 x).map D.str) (some 1) none=ws.map D.str:=by
 have:=Of (ds:=(wds 32 x).map D.str) (n:=1);rw[show((1:Nat):Int)=1 from rfl] at this;rw[this,ew];rfl
theorem FP(hn:isNum w=true)(hp:ws.all pairOk=true){o:Option R}:setV 2 (tupA (consA (fn1 (cvF uC) (consA (op2 ixF (nm 1) (ret (.int 0))) nilA)) (consA (fn1 tupF (consA (frz (compO 1 (itS (sl3 slF (nm 1) (prt (ret (.int 1))) (ret none))) (tgN 0) (ret true) (fn1 (cvF uK) (consA (nm 0) nilA)))) nilA)) nilA))) [some (.val (.str x)),some (.val (.lst ((wds 32 x).map D.str))),o]=some (.nx,[some (.val (.str x)),some (.val (.lst ((wds 32 x).map D.str))),some (.val (webV x))]):=by
 obtain⟨a1,a2,a3⟩:=CD h ew;have ev:webV x=.tup [.int (numV w),.tup (ws.map pairV)]:=by unfold webV;rw[ew];rfl
 have q:wp (setV 2 (tupA (consA (fn1 (cvF uC) (consA (op2 ixF (nm 1) (ret (.int 0))) nilA)) (consA (fn1 tupF (consA (frz (compO 1 (itS (sl3 slF (nm 1) (prt (ret (.int 1))) (ret none))) (tgN 0) (ret true) (fn1 (cvF uK) (consA (nm 0) nilA)))) nilA)) nilA)))) [some (.val (.str x)),some (.val (.lst ((wds 32 x).map D.str))),o] λf af=>f=.nx/\af=[some (.val (.str x)),some (.val (.lst ((wds 32 x).map D.str))),some (.val (webV x))]:=by
  rw[ev];simp[CV h ew,wg a1 hn];refine ux ws (λy=>.str y) (λ_=>true) pairV ?_;simp[Bt h ew];refine⟨by omega,λy hy=>?_⟩;simp[za (a2 y hy) (vg hp y hy)]
 obtain⟨f,af,e,rfl,rfl⟩:=q;exact e
end
theorem Qj{x:PySem.Str}(h:Asc x)(hp:webOk x=true):cvF yu [.str x]=some (webV x):=by
 obtain⟨w,ws,ew⟩:=zl 32 x;unfold webOk wordsOk at hp;simp only[u_,decide_eq_true_eq] at hp;rw[ew] at hp;have hl:=GS h (v:=true) ⟨λ_=>hp.2,λ_=>rfl⟩;refine tY rfl λKE k1 _=>?_
 rw[AZ];refine oI λK hK _=>⟨_,_,EF h,hK _ ?_⟩
 refine oI λK hK _=>⟨_,_,FP h ew hp.1.1 hp.1.2,hK _ ?_⟩
 refine oI λK hK _=>?_
 simp[hl];refine hK _ ?_;exact⟨_,_,rfl,k1 _ ⟨_,rfl⟩⟩
theorem IZ{x:PySem.Str}(h:Asc x):zq [.str x]=if webOk x then none else some 7:=by
 obtain⟨w,ws,ew⟩:=zl 32 x;obtain⟨a1,a2,a3⟩:=CD h ew
 have lL:itS (sl3 slF (nm 1) (prt (ret (.int 1))) (ret none)) [some (.val (.str x)),some (.val (.lst ((wds 32 x).map D.str))),none]=some (ws.map D.str,[some (.val (.str x)),some (.val (.lst ((wds 32 x).map D.str))),none]):=by
  have q:wp (itS (sl3 slF (nm 1) (prt (ret (.int 1))) (ret none))) [some (.val (.str x)),some (.val (.lst ((wds 32 x).map D.str))),none] λds af=>ds=ws.map D.str/\af=[some (.val (.str x)),some (.val (.lst ((wds 32 x).map D.str))),none]:=by
   simp[Bt h ew]
  obtain⟨f,af,e,rfl,rfl⟩:=q;exact e
 obtain⟨c1,c2⟩:=xX (g:=uK) (gx:=vO) (v:=pairV) (ok:=pairOk) lL (by omega) (λy hy ho=>za (a2 y hy) ho) (λy hy=>EZ (a2 y hy));have e1:=EF h;have i0:=CV h ew
 have n1:fnX vn (consA (op2 ixF (nm 1) (ret (.int 0))) nilA) [some (.val (.str x)),some (.val (.lst ((wds 32 x).map D.str))),none]=(if isNum w then none else some (7,[some (.val (.str x)),some (.val (.lst ((wds 32 x).map D.str))),none])):=by
  have:=BE a1;cases b:isNum w<;>rw[b] at this<;>simp[fnX,bnd,consA,nilA,op2,nm,ret,lft,i0,this]
 show((xL [some (.val (.str x)),none,none]).map (·.1))=_;rw[xL];unfold webOk wordsOk;rw[ew];simp only[thenX,bnd,e1,orX,n1];cases b:isNum w with
 | false=>simp[b]
 | true =>
  have n2:fn1 (cvF uC) (consA (op2 ixF (nm 1) (ret (.int 0))) nilA) [some (.val (.str x)),some (.val (.lst ((wds 32 x).map D.str))),none]=some (.int (numV w),[some (.val (.str x)),some (.val (.lst ((wds 32 x).map D.str))),none]):=by
   simp[fn1,bnd,consA,nilA,op2,nm,ret,lft,i0,wg a1 b]
  simp only[n2];cases q:ws.all pairOk with
  | false =>
   obtain⟨af,e⟩:=c2 q;simp[e,b,q]
  | true =>
   have e2:=FP h ew b q (o:=none);have hl:=λv hv=>GS h (v:=v) hv
   simp[c1 q,b,q,e2,ifX];by_cases iw:IsWeb (webV x)
   ·have hl:=hl true ⟨λ_=>iw,λ_=>rfl⟩;simp[iw,notT,tst,bnd,fn1,consA,nilA,nm,ret,lft,hl,asB,raX,nvX];exact⟨b,vg q⟩
   ·have hl:=hl false ⟨λz=>(nomatch z),λz=>absurd z iw⟩;simp[iw,notT,tst,bnd,fn1,consA,nilA,nm,ret,lft,hl,asB,raX,nvX]
section
open PySem
noncomputable def lnV(x:Str):Int:=if isNum x then numV x else -1
theorem No(h:YW cs)(h4:cs.length<=4):digitsVal cs < 10000:=by
 match cs,h4 with
 | [],_=>decide
 | [a],_ =>
  have:=h a (by simp);show 0*10+(a - 48) < _;omega
 | [a,b],_ =>
  have:=h a (by simp);have:=h b (by simp);show(0*10+(a - 48))*10+(b - 48) < _;omega
 | [a,b,c],_ =>
  have:=h a (by simp);have:=h b (by simp);have:=h c (by simp);show((0*10+(a - 48))*10+(b - 48))*10+(c - 48) < _;omega
 | [a,b,c,d],_ =>
  have:=h a (by simp);have:=h b (by simp);have:=h c (by simp);have:=h d (by simp);show(((0*10+(a - 48))*10+(b - 48))*10+(c - 48))*10+(d - 48) < _;omega
theorem JK{c:Nat}(h:48<=c/\c<=57):(ofNat c).toNat=c:=by
 have:c=48\/c=49\/c=50\/c=51\/c=52\/c=53\/c=54\/c=55\/c=56\/c=57:=by omega
 rcases this with rfl | rfl | rfl | rfl | rfl | rfl | rfl | rfl | rfl | rfl<;>decide
theorem Ge:∀{cs:List Nat},YW cs->(cs.map ofNat).map toNat=cs
 | [],_=>rfl
 | c::cs,h=>by
  rw[O_,O_,JK (h c m_),Ge (λy hy=>h y (i_ _ hy))]
theorem Eg{p:Nat->Bool}:∀(cs:List Nat),(cs.dropWhile p).length<=cs.length
 | []=>r_ _
 | c::cs=>by
  rw[V6];split
  ·exact Nat.le_succ_of_le (Eg cs)
  ·exact r_ _
theorem JW{x:Str}(h1:bad1 x=false):decide (txt (numV x)=x)=!(bad2 x):=by
 obtain⟨d1,d2,d3⟩:=A0 h1;have s:(txt (numV x)).cps.toList=(Nat.toDigits 10 (digitsVal x.cps.toList)).map toNat:=PySem.W.KIN.signs_num _;have t:=NumText.toDigits_all _ d1;unfold bad2
 obtain⟨c,cs,ex⟩:∃c cs,x.cps.toList=c::cs:=by
  cases e:x.cps.toList with
  | nil=>exact absurd e d2
  | cons c cs=>exact⟨c,cs,rfl⟩
 rw[ex] at s t d1;by_cases e:c=48
 ·subst e;cases cs with
  | nil =>
   have x0:x=⟨#[48]⟩:=Bd ex;subst x0;decide
  | cons b r =>
   have n1:txt (numV x)≠x:=λz=>by
    rw[z,ex,t,V6,if_pos (by decide)] at s;have l:=congrArg length s;have m:=Eg (p:=(· == 48)) (b::r);split at l<;>rename_i q
    ·simp at l
    ·rw[q] at m;simp at l m;omega
   have n2:x≠⟨#[48]⟩:=λz=>by rw[z] at ex;simp at ex
   rw[decide_eq_false n1,ex,decide_eq_false n2];rfl
 ·have y:txt (numV x)=x:=Bd (by
   rw[s,ex,t,V6,if_neg (by rw[beq_iff_eq];exact e)]
   exact Ge d1)
  rw[decide_eq_true y,ex];simp[e]
end
theorem OC{l:List Nat}:dep (.lst (l.map λc=>D.str ⟨#[c]⟩))<=100:=by
 have:=uV (f:=λc=>D.str ⟨#[c]⟩) (n:=0) (l:=l) (λy=>r_ _);rw[dep];omega
theorem DG{α:Type}{p:α->Bool}:∀{l:List α},(l.filter p).isEmpty=!(l.any p)
 | []=>rfl
 | a::l=>by
  rw[W6,YF];cases p a with
  | true=>rfl
  | false=>exact DG
noncomputable def T0:M Bool:=orT (tst (op2 (eqF false) (nm 0) (ret (.str "")))) (orT (tst (op2 gtI (fn1 lenSF (consA (nm 0) nilA)) (ret (.int 4)))) (tst (op2 (eqF true) (frz (compO 1 (itT (nm 0)) (tgN 0) (tst (op2 ninSF (nm 0) (ret (.str "0123456789")))) (nm 0))) (frz (lstA nilA)))))
theorem Kc{x:PySem.Str}(h:Asc x):wp T0 [some (.val (.str x))] λb af=>b=bad1 x/\af=[some (.val (.str x))]:=by
 have lx:x.cps.toList.length=x.length:=rfl;have e0:(("":String):PySem.Str)=⟨#[]⟩:=by decide
 have cX:¬(1<=x.length/\x.length<=4)->bad1 x=true:=λn=>by
  unfold bad1;rw[decide_eq_false n];rfl
 unfold T0;by_cases l1:x=⟨#[]⟩
 case pos=>subst l1;simp[e0];exact cX (by decide)
 simp[F1,h.le,e0,l1]
 have l0:1<=x.length:=by
  rcases Yv x.length with z | z
  ·exact absurd (Bd (TB.mp (lx.trans z))) l1
  ·exact z
 by_cases l4:x.length<=4
 case neg=>rw[if_pos (by omega)];exact cX (by omega)
 rw[if_neg (by omega)]
 have b1:bad1 x=x.cps.toList.any nfg:=by
  unfold bad1;rw[decide_eq_true ⟨l0,l4⟩];rfl
 refine ux x.cps.toList (λc=>.str ⟨#[c]⟩) nfg (λc=>.str ⟨#[c]⟩) ?_;simp only[itT,t5,FB];simp only[W8];rw[u6 (DX h)];refine⟨rfl,by have:=h.1;omega,λc hc a=>?_,?_⟩
 ·have e:=Eh (h.2 c hc);simp;rw[u6 e];cases nfg c<;>simp
 ·simp;refine⟨OC,?_⟩;rw[b1,DG]
theorem HR{x:PySem.Str}(h:Asc x):T0 [some (.val (.str x))]=some (bad1 x,[some (.val (.str x))]):=by
 obtain⟨b,Γ,e,rfl,rfl⟩:=Kc h;exact e
theorem yt{x:PySem.Str}(h:Asc x):cvF u5 [.str x]=some (.int (lnV x)):=by
 have e1:=HR h;have e2:=Cy x;refine tY rfl λKE k1 _=>?_
 unfold lnV at k1;rw[e2] at k1;cases b1:bad1 x with
 | true =>
  rw[b1] at e1 k1;refine II (c:=T0) e1 λK hR=>?_
  simp;exact hR _ _ (k1 _ ⟨_,rfl⟩)
 | false =>
  rw[b1] at e1 k1;refine A' (c:=T0) e1 ?_;obtain⟨d1,d2,d3⟩:=A0 b1
  have e3:intTF [.str x]=some (.int (numV x)):=by
   unfold intTF;dsimp only;rw[if_pos (by omega),PySem.intText_digits d1 d2 (by omega)];rfl
  have lt:=No d1 d3
  have e4:strIF [.int (numV x)]=some (.str (txt (numV x))):=by
   unfold strIF;refine if_pos ?_;show(((PySem.NumText.digitsVal x.cps.toList:Nat):Int)).natAbs < _;omega
  have e5:=JW b1;cases b2:bad2 x with
  | false =>
   rw[b2] at e5 k1;simp[e3,e4,of_decide_eq_true e5];exact k1 _ ⟨_,rfl⟩
  | true =>
   rw[b2] at e5 k1;simp[e3,e4,of_decide_eq_false e5];exact k1 _ ⟨_,rfl⟩
theorem BR{w:PySem.Str}(h:0<=lnV w):isNum w=true/\lnV w=numV w:=by
 unfold lnV at h ⊢;cases b:isNum w with
 | true=>exact⟨rfl,rfl⟩
 | false=>rw[b] at h;simp at h
theorem GZ(w:PySem.Str):0<=numV w:=Int.natCast_nonneg _
theorem Pq(w:PySem.Str):(isNum w&&figB (.int (numV w)))=(decide (0<=lnV w)&&decide (lnV w < 10)):=by
 unfold lnV figB;cases b:isNum w with
 | true =>
  simp only[WS,if_true]
  congr 1
  rw[decide_eq_decide];omega
 | false=>rfl
theorem Bf{α:Type}{p q:α->Bool}:∀{l:List α},(l.all p&&l.all q)=l.all λx=>p x&&q x
 | []=>rfl
 | a::l=>by
  rw[Vp,Vp,Vp,←Bf];cases p a<;>cases q a<;>simp
noncomputable def lnT(c:Nat)(x:PySem.Str):D:=.tup ((wds c x).map λy=>.int (lnV y))
noncomputable def fig10(w:PySem.Str):Bool:=decide (0<=lnV w)&&decide (lnV w < 10)
theorem GI(c:Nat)(x:PySem.Str):1<=(wds c x).length:=by
 obtain⟨w,ws,e⟩:=zl c x;rw[e];simp
theorem LN(x:PySem.Str):letOk x=(decide ((wds 44 x).length < 4)&&(wds 44 x).all fig10):=by
 have p:=GI 44 x;unfold letOk letV letB;simp only[y_];rw[decide_eq_true p,WS,ZC];rw[←Vq,Bool.and_comm ((wds 44 x).all isNum),Vq,Bf]
 congr 1
 ·rw[decide_eq_decide];omega
 ·congr 1
  funext w
  exact Pq w
theorem Ap{c:Nat}{x:PySem.Str}(h:(wds c x).all isNum=true):lnT c x=.tup ((wds c x).map λy=>.int (numV y)):=by
 unfold lnT
 congr 1
 refine Yd λw hw=>?_
 unfold lnV;rw[vg h w hw];rfl
theorem Li{x:PySem.Str}(h:Asc x):setV 1 (fn1 tupF (consA (frz (compO 1 (itS (frz (splS 0 (consA (ret (.str ",")) nilA)))) (tgN 0) (ret true) (fn1 (cvF u5) (consA (nm 0) nilA)))) nilA)) [some (.val (.str x)),none]=some (.nx,[some (.val (.str x)),some (.val (lnT 44 x))]):=by
 obtain⟨a1,a2⟩:=uw (c:=44) h
 have w:wp (setV 1 (fn1 tupF (consA (frz (compO 1 (itS (frz (splS 0 (consA (ret (.str ",")) nilA)))) (tgN 0) (ret true) (fn1 (cvF u5) (consA (nm 0) nilA)))) nilA))) [some (.val (.str x)),none] λf af=>f=.nx/\af=[some (.val (.str x)),some (.val (lnT 44 x))]:=by
  rw[vR];simp;refine ux (wds 44 x) (λy=>.str y) (λ_=>true) (λy=>.int (lnV y)) ?_;rw[show comma=⟨#[44]⟩ from rfl];simp[uX h];refine⟨rfl,by unfold wds;omega,λy hy=>?_,rfl⟩;simp[yt (a1 y hy)]
 obtain⟨f,af,e,rfl,rfl⟩:=w;exact e
theorem Nv{α:Type}{f:α->Int}{l:List α}:dep (.lst (l.map λc=>D.int (f c)))<=100:=by
 have:=uV (f:=λc=>D.int (f c)) (n:=0) (l:=l) (λy=>r_ _);rw[dep];omega
theorem P8{x:PySem.Str}(h:Asc x):cvF zC [.str x]=some (if letOk x then letV x else .non):=by
 obtain⟨a1,a2⟩:=uw (c:=44) h;have a2:(wds 44 x).length<=9001:=a2;refine tY rfl λKE k1 k2=>?_
 rw[AY];refine oI λK hK _=>⟨_,_,Li h,hK _ ?_⟩
 have e:=LN x;have k3:∀af,(∃l,fin (map R.val [.str x]) af=some l)->KE (.rt (.val (if letOk x then letV x else .non))) af:=k1;by_cases l4:(wds 44 x).length < 4
 case neg =>
  rw[decide_eq_false l4,Wj] at e;rw[e] at k3;unfold lnT;simp;rw[if_neg (by omega)];exact k3 _ ⟨_,rfl⟩
 rw[decide_eq_true l4,WS] at e
 have k4:(wds 44 x).all fig10=true->letV x=.tup ((wds 44 x).map λy=>.int (lnV y)):=λa=>by
  have:(wds 44 x).all isNum=true:=j_.mpr λw hw=>by
   have:=vg a w hw;unfold fig10 at this;simp only[u_,decide_eq_true_eq] at this;exact(BR this.1).1
  exact(Ap this).symm
 unfold lnT;simp;rw[if_pos (by omega)];refine ux (wds 44 x) (λy=>.int (lnV y)) (λw=>!(fig10 w)) (λy=>.int (lnV y)) ?_;simp;refine⟨by omega,λw hw=>?_,Nv,?_⟩
 ·unfold fig10;by_cases z:0<=lnV w<;>by_cases z':lnV w < 10<;>simp[z,z']
 ·cases a:(wds 44 x).all fig10 with
  | true =>
   rw[if_pos (vg a)];rw[e,a,k4 a] at k3;exact k3 _ ⟨_,rfl⟩
  | false =>
   rw[if_neg (λz=>by rw[j_.mpr z] at a;cases a)];rw[e,a] at k3;exact k3 _ ⟨_,rfl⟩
noncomputable def prL(p:PySem.Str):Bool:=match wds 45 p with
 | [a,b]=>decide (0<=lnV a)&&(decide (lnV a<=lnV b)&&decide (lnV b < 10))
 | _=>false
theorem G3(p:PySem.Str):(pairOk p&&prB (pairV p))=prL p:=by
 unfold pairOk pairV prL
 match wds 45 p with
 | []=>rfl
 | [a]=>simp[prB]
 | [a,b] =>
  have ha:=GZ a;have hb:=GZ b;simp only[Vp,List.all_nil,O_,List.map_nil,prB,figB,Yl];unfold lnV;cases isNum a with
  | false=>rfl
  | true =>
   cases isNum b with
   | false =>
    have:¬(numV a<=-1):=by omega
    simp[this]
   | true =>
    rw[Bool.eq_iff_iff];simp;omega
 | a::b::c::r=>simp[prB]
theorem PP(x:PySem.Str):wishOk x=(decide ((wds 44 x).length < 4)&&(wds 44 x).all prL):=by
 have p:=GI 44 x;unfold wishOk wishV wiB;simp only[y_];rw[decide_eq_true p,WS,ZC];rw[←Vq,Bool.and_comm ((wds 44 x).all pairOk),Vq,Bf]
 congr 1
 ·rw[decide_eq_decide];omega
 ·congr 1
  funext w
  exact G3 w
theorem JX{p:PySem.Str}(h:prL p=true):lnT 45 p=pairV p:=by
 rw[←G3,u_] at h;exact Ap h.1
theorem JJ(h:Asc y){x1 x3:Option R}:setV 3 (fn1 tupF (consA (frz (compO 1 (itS (frz (splS 2 (consA (ret (.str "-")) nilA)))) (tgN 0) (ret true) (fn1 (cvF u5) (consA (nm 0) nilA)))) nilA)) [x0,x1,some (.val (.str y)),x3]=some (.nx,[x0,x1,some (.val (.str y)),some (.val (lnT 45 y))]):=by
 obtain⟨a1,a2⟩:=uw (c:=45) h
 have w:wp (setV 3 (fn1 tupF (consA (frz (compO 1 (itS (frz (splS 2 (consA (ret (.str "-")) nilA)))) (tgN 0) (ret true) (fn1 (cvF u5) (consA (nm 0) nilA)))) nilA))) [x0,x1,some (.val (.str y)),x3] λf af=>f=.nx/\af=[x0,x1,some (.val (.str y)),some (.val (lnT 45 y))]:=by
  rw[wG];simp;refine ux (wds 45 y) (λy=>.str y) (λ_=>true) (λy=>.int (lnV y)) ?_;rw[show dash=⟨#[45]⟩ from rfl];simp[uX h];refine⟨rfl,by unfold wds;omega,λy hy=>?_,rfl⟩;simp[yt (a1 y hy)]
 obtain⟨f,af,e,rfl,rfl⟩:=w;exact e
theorem Aj{α:Type}{m:M α}{v:α}(h:wp m Γ λx af=>x=v/\af=ai):m Γ=some (v,ai):=by
 obtain⟨_,_,e,rfl,rfl⟩:=h;exact e
theorem Nx{x1 x2:Option R}:orT (tst (op2 (eqF true) (fn1 lenF (consA (nm 3) nilA)) (ret (D.int 2)))) (notT (tst (chn3 leI leI ltI (ret (D.int 0)) (op2 ixF (nm 3) (ret (D.int 0))) (op2 ixF (nm 3) (ret (D.int 1))) (ret (D.int 10))))) [x0,x1,x2,some (.val (lnT 45 y))]=some (!(prL y),[x0,x1,x2,some (.val (lnT 45 y))]):=by
 refine Aj ?_;unfold lnT prL
 match wds 45 y with
 | []=>simp[ub]
 | [a]=>simp[ub]
 | [a,b] =>
  have i0:atI [D.int (lnV a),.int (lnV b)] 0=some (.int (lnV a)):=rfl;have i1:atI [D.int (lnV a),.int (lnV b)] 1=some (.int (lnV b)):=rfl;simp[ub,i0,i1];by_cases h0:0<=lnV a<;>by_cases h1:lnV a<=lnV b<;>by_cases h2:lnV b < 10<;>simp[h0,h1,h2]
 | a::b::c::r =>
  have:¬((r.length:Int)+1+1+1=2):=by omega
  simp[ub,this]
theorem IP{x:PySem.Str}(h:Asc x):cvF xS [.str x]=some (if wishOk x then wishV x else .non):=by
 obtain⟨a1,a2⟩:=uw (c:=44) h;have a1:∀w∈wds 44 x,Asc w:=a1;have a2:(wds 44 x).length<=9001:=a2;refine tY rfl λKE k1 k2=>?_
 rw[A3];have e:=PP x;have k3:∀af,(∃l,fin (map R.val [.str x]) af=some l)->KE (.rt (.val (if wishOk x then wishV x else .non))) af:=k1;refine oI ?_;rintro K hK -;simp;refine hK _ ?_;refine oI ?_;rintro K hK hR;rw[vR,show comma=⟨#[44]⟩ from rfl];simp[uX h];refine uR (J:=λi Γ=>∃x2 x3,((wds 44 x).take i).all prL=true/\Γ=[some (.val (.str x)),some (.own (((wds 44 x).take i).map pairV)),x2,x3]) ⟨none,none,by simp,rfl⟩ ?_ ?_
 ·rintro i p Γ hp ⟨x2,x3,all,rfl⟩ KL bQ - - fJ
  obtain⟨y,hy,rfl⟩:∃y,(wds 44 x)[i]?=some y/\p=.str y:=by
   rw[Tp,TF] at hp;obtain⟨y,hy,rfl⟩:=hp;exact⟨y,hy,rfl⟩
  have tk:(wds 44 x).take (i+1)=(wds 44 x).take i++[y]:=by rw[X9,hy];rfl
  have pm:=TC hy;simp;refine oI ?_;rintro K hK -;refine⟨_,_,JJ (a1 y pm),hK _ ?_⟩;refine oI ?_;rintro K hK rK;have te:=Nx (y:=y) (x0:=some (.val (.str x))) (x1:=some (R.own (List.take i (map pairV (wds 44 x))))) (x2:=some (.val (.str y)));cases q:prL y with
  | false =>
   rw[q] at te;refine EN.mpr ⟨_,_,te,?_⟩;simp;refine rK _ _ (fJ _ _ (hR _ _ ?_))
   have:(wds 44 x).all prL=false:=by
    cases z:(wds 44 x).all prL with
    | false=>rfl
    | true=>rw[vg z y pm] at q;cases q
   rw[e,this,XM] at k3;exact k3 _ ⟨_,rfl⟩
  | true =>
   rw[q] at te;refine EN.mpr ⟨_,_,te,?_⟩;simp;refine hK _ ?_;simp;refine⟨by omega,bQ _ ⟨some (.val (.str y)),some (.val (lnT 45 y)),?_,?_⟩⟩
   ·rw[tk,List.all_append,all];simp[q]
   ·rw[tk,JX q,Xj,YU];rfl
 ·rintro Γ ⟨x2,x3,all,rfl⟩
  have tl:List.take (map D.str (PySem.Txt.split x { cps:=#[44] })).length (wds 44 x)=wds 44 x:=by
   rw[y_];exact WJ
  rw[tl] at all ⊢;rw[all,Yl] at e;refine hK _ ?_;simp;by_cases l4:(wds 44 x).length < 4
  ·rw[if_pos (by omega)];rw[e,decide_eq_true l4] at k3;exact k3 _ ⟨_,rfl⟩
  ·rw[if_neg (by omega)];rw[e,decide_eq_false l4] at k3;exact k3 _ ⟨_,rfl⟩
noncomputable def wlV(x:PySem.Str):D:=.tup [.int (lnV ((wds 32 x).headD ⟨#[]⟩)),.tup ((wds 32 x).tail.map (lnT 45))]
theorem BP{x:PySem.Str}(h:wordsOk x=true):wlV x=webV x:=by
 unfold wordsOk at h;rw[u_] at h;unfold wlV webV;have e1:lnV ((wds 32 x).headD ⟨#[]⟩)=numV ((wds 32 x).headD ⟨#[]⟩):=by unfold lnV;rw[h.1];rfl
 have e2:(wds 32 x).tail.map (lnT 45)=(wds 32 x).tail.map pairV:=Yd λp hp=>Ap (vg h.2 p hp)
 rw[e1,e2]
theorem CH{x:PySem.Str}(h:IsWeb (wlV x)):wordsOk x=true:=by
 obtain⟨n,rs,e,_,rk,W⟩:=h;unfold wlV webD at e;injection e with e
 injection e with e1 e2
 injection e1 with e1
 injection e2 with e2 _
 injection e2 with e2
 unfold wordsOk;rw[u_];refine⟨(BR (by omega)).1,j_.mpr λp hp=>j_.mpr λw hw=>?_⟩;have m:lnT 45 p∈(wds 32 x).tail.map (lnT 45):=Ye hp;rw[e2] at m;obtain⟨r,hr,er⟩:=C_.mp m;have l:=W.lt r hr;unfold lnT at er;have q:D.int (lnV w)∈(wds 45 p).map λy=>D.int (lnV y):=Ye hw
 injection er with er
 rw[←er] at q;refine(BR ?_).1;simp at q;omega
theorem Go(x:PySem.Str):webOk x=true↔IsWeb (wlV x):=by
 unfold webOk;rw[u_,@decide_eq_true_eq _ (_)];exact⟨λh=>by rw[BP h.1];exact h.2,λh=>⟨CH h,by rw[←BP (CH h)];exact h⟩⟩
theorem Kq(x:PySem.Str):dep (lnT 45 x)<=1:=by
 have:=uV (f:=λy=>D.int (lnV y)) (n:=0) (l:=wds 45 x) (λy=>r_ _);unfold lnT;rw[dep];omega
theorem OV(x:PySem.Str):dep (wlV x) < 1000:=by
 have:=uV (f:=lnT 45) (n:=1) (l:=(wds 32 x).tail) Kq;unfold wlV;simp[dep,depA,-map_tail];omega
theorem KI{x:PySem.Str}(h:Asc x):cvF wU [wlV x]=some (.bl (webOk x)):=N5 (OV x) (λm ds z=>by
 unfold wlV at z;injection z with z
 injection z with _ z
 injection z with z _
 injection z with z
 rw[←z,y_,W9];have:(wds 32 x).length<=9001:=(uw (c:=32) h).2
 omega) (Go x)
theorem Qc{x:PySem.Str}(h:Asc x):cvF zG [.str x]=some (if webOk x then webV x else .non):=by
 obtain⟨w,ws,ew⟩:=zl 32 x;obtain⟨a1,a2,a3⟩:=CD h ew;have hl:=KI h;have ev:wlV x=.tup [.int (lnV w),.tup (ws.map (lnT 45))]:=by unfold wlV;rw[ew];rfl
 refine tY rfl λKE k1 _=>?_
 rw[Bn];refine oI λK hK _=>?_
 rw[yQ,show blank=⟨#[32]⟩ from rfl];simp[uX h];refine hK _ ?_;refine oI λK hK _=>?_
 simp;refine ux ws (λy=>.str y) (λ_=>true) (lnT 45) ?_;have cd:cutD ((PySem.Txt.split x ⟨#[32]⟩).map D.str) (some 1) none=ws.map D.str:=Bt h ew;simp[cd];refine⟨by omega,λy hy=>?_,?_⟩
 ·obtain⟨b1,b2⟩:=uw (c:=45) (a2 y hy);rw[wG];refine ux (wds 45 y) (λy=>.str y) (λ_=>true) (λy=>.int (lnV y)) ?_;rw[show dash=⟨#[45]⟩ from rfl];simp[uX (a2 y hy)];refine⟨rfl,by unfold wds;omega,λz hz=>?_,rfl⟩;simp[yt (b1 z hz)]
 ·refine hK _ ?_;refine oI λK hK _=>?_
  have i0:ixF (.lst ((PySem.Txt.split x ⟨#[32]⟩).map D.str)) (.int 0)=some (.str w):=CV h ew;simp[i0,yt a1];refine hK _ ?_;rw[ev] at hl;simp[hl];cases q:webOk x with
  | true =>
   have s:=BP (CH ((Go x).mp q));rw[q,if_pos rfl,←s,ev] at k1;exact k1 _ ⟨_,rfl⟩
  | false =>
   rw[q] at k1;exact k1 _ ⟨_,rfl⟩
theorem AF{g:M Fl}{m:M Nat}{Q:Fl->Gm->Prop}(h:m Γ=none)(k:wp g Γ Q):wp (tryE g m j i) Γ Q:=by
 unfold wp tryE;rw[h];exact k
theorem CG{g:M Fl}{m:M Nat}{c:Nat}{Q:Fl->Gm->Prop}(h:m Γ=some (c,ac))(e:(bnd (putS j (.val (.exc (xNm c) none))) λ_=>bnd (setV i (nm j)) λ_=>bnd (clr j) λ_=>ret Fl.nx) ac=some (Fl.nx,ai))(k:Q Fl.nx ai):wp (tryE g m j i) Γ Q:=by
 unfold wp tryE;rw[h];exact⟨_,_,e,k⟩
theorem wD{gx:List D->Option Nat}{t:M (List D)}(ht:t Γ=some (ds,Γ)):fnX gx t Γ=(gx ds).map λc=>(c,Γ):=by
 unfold fnX bnd;rw[ht];dsimp only;unfold lft;cases gx ds<;>rfl
theorem ve{c:M Bool}{m m':M Nat}{k:Bool}(h:c Γ=some (k,ac)):ifX c m m' Γ=(if k then m else m') ac:=by unfold ifX bnd;rw[h]
theorem J9{n:Option Int}:cvF xE [.exc "NoText" n]=some (.str "text"):=by kernel_rfl
section
variable {x:PySem.Str}{v:D}{ok:Bool}
noncomputable def dueD(ok:Bool)(v:D):D:=.tup [.str (if ok then "told" else "text"),if ok then v else .non]
noncomputable def yo:M Fl:=retS (ifV (tst (op2 (isNF false) (nm 3) (ret .non))) (tupA (consA (ret (.str "told")) (consA (nm 2) nilA))) (tupA (consA (fn1 (cvF xE) (consA (nm 3) nilA)) (consA (ret .non) nilA))))
theorem wC{w:D}{K:Fl->Gm->Prop}(k:K (.rt (.val (.tup [.str "told", v]))) [some (.val w),some (.val (.str x)),some (.val v),some (.val .non),none]):wp yo [some (.val w),some (.val (.str x)),some (.val v),some (.val .non),none] K:=by
 unfold yo;simp[isNF,isN];exact k
theorem A1{w:D}{K:Fl->Gm->Prop}(k:K (.rt (.val (.tup [.str "text", .non]))) [some (.val w),some (.val (.str x)),some (.val .non),some (.val (.exc "NoText" none)),none]):wp yo [some (.val w),some (.val (.str x)),some (.val .non),some (.val (.exc "NoText" none)),none] K:=by
 unfold yo;simp[isNF,isN,J9];exact k
theorem told0(h:Asc x):cvF vV [.int 0,.str x]=some (dueD (letOk x) (letV x)):=by
 refine tY rfl λKE k1 _=>?_
 rw[xt];refine oI λK hK _=>?_
 refine⟨_,_,rfl,hK _ ?_⟩;refine oI λK hK _=>?_
 refine⟨_,_,rfl,hK _ ?_⟩;refine oI λK hK _=>?_
 show wp _ [some (.val (.int 0)),some (.val (.str x)),some (.val .non),some (.val .non),none] _;have e:=M5 h;cases q:letOk x with
 | true =>
  rw[q] at e k1;refine AF (by rw[ve (k:=true) rfl,if_pos rfl,wD rfl,e];rfl) ?_;simp[ub,QM h q];exact hK _ (wC (k1 _ ⟨_,rfl⟩))
 | false =>
  rw[q] at e k1;refine CG (c:=7) (by rw[ve (k:=true) rfl,if_pos rfl,wD rfl,e];rfl) rfl (hK _ ?_);exact A1 (k1 _ ⟨_,rfl⟩)
theorem due0(h:Asc x):cvF vU [.int 0,.str x]=some (dueD (letOk x) (letV x)):=by
 refine tY rfl λKE k1 _=>?_
 rw[xh];refine oI λK hK _=>?_
 refine⟨_,_,rfl,hK _ ?_⟩;show wp _ [some (.val (.int 0)),some (.val (.str x)),some (.val .non)] _;refine oI λK hK _=>?_
 have e:=P8 h;simp[ub,e];refine hK _ ?_;cases q:letOk x with
 | true =>
  rw[q] at k1;have:isN (letV x)=false:=rfl;simp[isNF,this];exact k1 _ ⟨_,rfl⟩
 | false =>
  rw[q] at k1;simp[isNF,isN];exact k1 _ ⟨_,rfl⟩
theorem told1(h:Asc x):cvF vV [.int 1,.str x]=some (dueD (wishOk x) (wishV x)):=by
 refine tY rfl λKE k1 _=>?_
 rw[xt];refine oI λK hK _=>?_
 refine⟨_,_,rfl,hK _ ?_⟩;refine oI λK hK _=>?_
 refine⟨_,_,rfl,hK _ ?_⟩;refine oI λK hK _=>?_
 show wp _ [some (.val (.int 1)),some (.val (.str x)),some (.val .non),some (.val .non),none] _;have e:=IU h;cases q:wishOk x with
 | true =>
  rw[q] at e k1;refine AF (by rw[ve (k:=false) rfl,if_neg h_,ve (k:=true) rfl,if_pos rfl,wD rfl,e];rfl) ?_;simp[ub,Mm h q];exact hK _ (wC (k1 _ ⟨_,rfl⟩))
 | false =>
  rw[q] at e k1;refine CG (c:=7) (by rw[ve (k:=false) rfl,if_neg h_,ve (k:=true) rfl,if_pos rfl,wD rfl,e];rfl) rfl (hK _ ?_);exact A1 (k1 _ ⟨_,rfl⟩)
theorem due1(h:Asc x):cvF vU [.int 1,.str x]=some (dueD (wishOk x) (wishV x)):=by
 refine tY rfl λKE k1 _=>?_
 rw[xh];refine oI λK hK _=>?_
 refine⟨_,_,rfl,hK _ ?_⟩;show wp _ [some (.val (.int 1)),some (.val (.str x)),some (.val .non)] _;refine oI λK hK _=>?_
 have e:=IP h;simp[ub,e];refine hK _ ?_;cases q:wishOk x with
 | true =>
  rw[q] at k1;have:isN (wishV x)=false:=rfl;simp[isNF,this];exact k1 _ ⟨_,rfl⟩
 | false =>
  rw[q] at k1;simp[isNF,isN];exact k1 _ ⟨_,rfl⟩
theorem told2(h:Asc x):cvF vV [.int 2,.str x]=some (dueD (webOk x) (webV x)):=by
 refine tY rfl λKE k1 _=>?_
 rw[xt];refine oI λK hK _=>?_
 refine⟨_,_,rfl,hK _ ?_⟩;refine oI λK hK _=>?_
 refine⟨_,_,rfl,hK _ ?_⟩;refine oI λK hK _=>?_
 show wp _ [some (.val (.int 2)),some (.val (.str x)),some (.val .non),some (.val .non),none] _;have e:=IZ h;cases q:webOk x with
 | true =>
  rw[q] at e k1;refine AF (by rw[ve (k:=false) rfl,if_neg h_,ve (k:=false) rfl,if_neg h_,wD rfl,e];rfl) ?_;simp[ub,Qj h q];exact hK _ (wC (k1 _ ⟨_,rfl⟩))
 | false =>
  rw[q] at e k1;refine CG (c:=7) (by rw[ve (k:=false) rfl,if_neg h_,ve (k:=false) rfl,if_neg h_,wD rfl,e];rfl) rfl (hK _ ?_);exact A1 (k1 _ ⟨_,rfl⟩)
theorem due2(h:Asc x):cvF vU [.int 2,.str x]=some (dueD (webOk x) (webV x)):=by
 refine tY rfl λKE k1 _=>?_
 rw[xh];refine oI λK hK _=>?_
 refine⟨_,_,rfl,hK _ ?_⟩;show wp _ [some (.val (.int 2)),some (.val (.str x)),some (.val .non)] _;refine oI λK hK _=>?_
 have e:=Qc h;simp[ub,e];refine hK _ ?_;cases q:webOk x with
 | true =>
  rw[q] at k1;have:isN (webV x)=false:=rfl;simp[isNF,this];exact k1 _ ⟨_,rfl⟩
 | false =>
  rw[q] at k1;simp[isNF,isN];exact k1 _ ⟨_,rfl⟩
end
theorem Ft{c:Nat}{x:PySem.Str}{f:PySem.Str->Int}(h:(wds c x).length<=9001):SzK (k+2) (.tup ((wds c x).map λy=>.int (f y))):=by
 refine⟨by rw[y_];omega,λd hd=>?_⟩;obtain⟨y,_,rfl⟩:=C_.mp hd;exact trivial
theorem y4{x:PySem.Str}(h:Asc x)(c:Nat):(wds c x).length<=9001:=(uw h).2
theorem DF{x:PySem.Str}(h:Asc x)(c:Nat):∀w∈wds c x,Asc w:=(uw h).1
theorem Ew{l:List PySem.Str}(h:∀w∈l,Asc w)(hl:l.length<=9001):SzK (k+3) (.tup (l.map pairV)):=by
 refine⟨by rw[y_];omega,λd hd=>?_⟩;obtain⟨y,hy,rfl⟩:=C_.mp hd;exact Ft (y4 (h y hy) 45)
theorem Cw{ok:Bool}{v:D}(h:SzK 7 v):SzK 8 (dueD ok v):=by
 refine⟨(by simp:(2:Nat)<=1000000),λd hd=>?_⟩;simp at hd
 rcases hd with rfl | rfl
 ·exact trivial
 ·cases ok
  ·exact trivial
  ·exact h
theorem NM{x:PySem.Str}(h:Asc x)(hw:0<=way/\way < 3):∃d,cvF vV [.int way,.str x]=some d/\cvF vU [.int way,.str x]=some d/\cvF (vw 8) [d,d]=some (.bl true):=by
 have:way=0\/way=1\/way=2:=by omega
 rcases this with rfl | rfl | rfl
 ·exact⟨_,told0 h,due0 h,xk (Cw (Ft (y4 h 44)))⟩
 ·exact⟨_,told1 h,due1 h,xk (Cw (Ew (DF h 44) (y4 h 44)))⟩
 ·refine⟨_,told2 h,due2 h,xk (Cw ⟨(by simp:(2:Nat)<=1000000),λd hd=>?_⟩)⟩;simp at hd
  rcases hd with rfl | rfl
  ·exact trivial
  ·rw[←map_tail];refine Ew (λw hw=>DF h 32 w (List.mem_of_mem_tail hw)) ?_;have:=y4 h 32;rw[W9];omega
section
open PySem
def As(n:Nat)(x:Str):Prop:=x.length<=n/\∀c∈x.cps.toList,c < 128
theorem As.asc{x:Str}(h:As n x)(hn:n<=9000):Asc x:=⟨H_ h.1 hn,h.2⟩
theorem As.mono{x:Str}(h:As n x)(hn:n<=m):As m x:=⟨H_ h.1 hn,h.2⟩
theorem As.app{x:Str}(h:As n x)(h':As m y):As (n+m) (x++y):=by
 refine⟨by rw[UY];have:=h.1;have:=h'.1;omega,λc hc=>?_⟩;rw[xH] at hc
 rcases I_.mp hc with hc | hc
 ·exact h.2 c hc
 ·exact h'.2 c hc
theorem As.cut{x:Str}(h:As n x)(lo hi:Option Int):As n (cutT x lo hi):=by
 unfold cutT;split
 ·exact h
 ·refine⟨?_,λc hc=>?_⟩
  ·refine H_ ?_ h.1;show(List.filterMap _ (UJ x (tok0 lo) (tok0 hi) none)).toArray.size<=x.length;rw[p_];exact H_ (List.length_filterMap_le _ _) (sliceIndices_le _ _ _)
  ·obtain⟨i,_,hi⟩:=U7.mp (show c∈List.filterMap _ (UJ x (tok0 lo) (tok0 hi) none) from hc);refine h.2 c ?_;rw[←VH] at hi;exact TC hi
theorem As.sl{x:Str}(h:As n x)(hn:n<=1000000)(lo hi:Option Int):slSF (.str x) lo hi=some (.str (cutT x lo hi)):=if_pos (H_ (h.cut lo hi).1 hn)
noncomputable def tot(ts:List Str):Nat:=(ts.map λt=>t.length+1).sum
theorem xU{a b:List Str}:tot (a++b)=tot a+tot b:=by unfold tot;rw[Xj,List.sum_append]
theorem v9:∀{a b:List Str},a.Sublist b->tot a<=tot b
 | _,_,.slnil=>r_ _
 | _,_,.cons x h=>by
  have:=v9 h;unfold tot at this ⊢;rw[O_,X6];omega
 | _,_,.cons_cons x h=>by
  have:=v9 h;unfold tot at this ⊢;rw[O_,O_,X6,X6];omega
theorem Jn{a:List Str}:tot a.reverse=tot a:=by unfold tot;rw[List.map_reverse,List.sum_reverse]
theorem Ck:∀(ts:List Str),ts.length<=tot ts/\∀t∈ts,t.length<=tot ts
 | []=>⟨r_ _,λ_ h=>(nomatch h)⟩
 | t::ts=>by
  obtain⟨h1,h2⟩:=Ck ts;have e:tot (t::ts)=t.length+1+tot ts:=by unfold tot;rw[O_,X6]
  rw[e];refine⟨by rw[S_];omega,λs hs=>?_⟩
  rcases w_.mp hs with rfl | hs
  ·omega
  ·have:=h2 s hs;omega
theorem CO{c:Nat}(hc:c < 128):∀{ts:List Str},(∀t∈ts,∀y∈t.cps.toList,y < 128)->As (tot ts) (YV ⟨#[c]⟩ ts)/\(ts≠[]->(YV ⟨#[c]⟩ ts).length+1=tot ts)
 | [],_=>⟨⟨r_ _,λy hy=>(nomatch hy)⟩,λh=>absurd rfl h⟩
 | [x],h=>by
  have e:YV ⟨#[c]⟩ [x]=x:=rfl;have t:tot [x]=x.length+1:=rfl;rw[e,t];exact⟨⟨by omega,h x m_⟩,λ_=>rfl⟩
 | x::y::r,h=>by
  obtain⟨h1,h2⟩:=CO hc (ts:=y::r) λt ht=>h t (i_ _ ht)
  have e:YV ⟨#[c]⟩ (x::y::r)=x++⟨#[c]⟩++YV ⟨#[c]⟩ (y::r):=rfl;have t:tot (x::y::r)=x.length+1+tot (y::r):=rfl;have h2:=h2 (by simp)
  have l:(YV ⟨#[c]⟩ (x::y::r)).length=x.length+1+(YV ⟨#[c]⟩ (y::r)).length:=by
   rw[e,UY,UY];rfl
  refine⟨⟨by omega,λz hz=>?_⟩,λ_=>by omega⟩;rw[e,xH,xH] at hz
  rcases I_.mp hz with hz | hz
  ·rcases I_.mp hz with hz | hz
   ·exact h x m_ z hz
   ·rw[k_.mp hz];exact hc
  ·exact h1.2 z hz
theorem Px{x:Str}{c:Nat}(hc:c < 128)(h:As n x)(hn:n<=9000):tot (TY x ⟨#[c]⟩)<=n+1/\∀t∈TY x ⟨#[c]⟩,∀y∈t.cps.toList,y < 128:=by
 have p:=split_pos x ⟨#[c]⟩;have a:=(uw (c:=c) (h.asc hn)).1;have q:=(CO hc (ts:=TY x ⟨#[c]⟩) λt ht=>(a t ht).2).2 (λz=>by rw[z] at p;cases p);rw[join_split] at q;have:=h.1;exact⟨by omega,λt ht=>(a t ht).2⟩
theorem joinT{c:Nat}(hc:c < 128){ts:List Str}(ht:tot ts<=n)(hn:n<=4000)(ha:∀t∈ts,∀y∈t.cps.toList,y < 128):∃z,joinF ⟨#[c]⟩ [.lst (ts.map D.str)]=some (.str z)/\As n z:=by
 obtain⟨h1,h2⟩:=Ck ts
 have ok:JoinOk ⟨#[c]⟩ ts=true:=by
  have m1:ts.length*4000<=4000*4000:=Nat.mul_le_mul_right _ (by omega);have m2:ts.length*(⟨#[c]⟩:Str).length<=4000:=by show ts.length*1<=4000;omega
  have:=StrLaws.joinFits (sep:=⟨#[c]⟩) (texts:=ts) (B:=4000) (λy hy=>by have:=h2 y hy;omega) (by omega);unfold JoinOk;rw[this];rfl
 refine⟨Zt ⟨#[c]⟩ ts,?_,?_⟩
 ·unfold joinF;simp only[GP];exact if_pos ok
 ·rw[show Zt ⟨#[c]⟩ ts=YV ⟨#[c]⟩ ts from StrLaws.glued_eq_join _ _];exact(CO hc ha).1.mono ht
end
structure Lt(n:Nat)(l:List Int):Prop where
 len:l.length=n
 all:∀i∈l,0<=i/\i<=9
theorem Fb{p:Int×Int}(h:PairOk p):fsF dash (.int p.1) (.int p.2)=some (.str (pairT p)):=by
 have:=h.lo;have:=h.le;have:=h.hi;unfold fsF;exact if_pos ⟨by omega,by omega,by decide⟩
@[simp ↓] theorem SZ{x:PySem.Str}{Q:D->Gm->Prop}:wp (fs3 x ga gb) Γ Q↔wp ga Γ λa ac=>wp gb ac λb ai=>wp (lft (fsF x a b)) ai Q:=by simp only[fs3,t5]
theorem yl{b:Nat}:∀{ts:List PySem.Str},(∀t∈ts,t.length<=b)->tot ts<=ts.length*(b+1)
 | [],_=>by simp[tot]
 | t::ts,h=>by
  have h1:=yl λs hs=>h s (i_ _ hs)
  have h2:=h t m_;have e:tot (t::ts)=t.length+1+tot ts:=by unfold tot;rw[O_,X6]
  rw[e,S_,Nat.add_mul];omega
theorem wc{i:Int}(h:0<=i/\i<=9):As 1 (txt i):=by
 refine⟨by rw[MN h];exact r_ _,λc hc=>?_⟩;rw[Ef h.1 h.2] at hc;have:=k_.mp hc;omega
theorem yX{p:Int×Int}(h:PairOk p):As 3 (pairT p):=by
 have:=h.lo;have:=h.le;have:=h.hi;exact((wc ⟨by omega,by omega⟩).app (n:=1) (m:=1) (y:=dash) ⟨by decide,by decide⟩).app (n:=2) (m:=1) (wc ⟨by omega,by omega⟩)
theorem MP{l:List Int}{f:Nat}(h:Lt f l)(hf:f<=3):∃z,cvF yK [letD l]=some (.str z)/\As 30 z:=by
 have len:=h.len
 obtain⟨z,e,a⟩:=joinT (c:=44) (n:=30) (by omega) (ts:=l.map txt) (by
  have:=yl (b:=1) (ts:=l.map txt) (λt ht=>by obtain⟨i,hi,rfl⟩:=C_.mp ht;exact(wc (h.all i hi)).1);rw[y_] at this
  omega) (by omega) (λt ht=>by obtain⟨i,hi,rfl⟩:=C_.mp ht;exact(wc (h.all i hi)).2)
 refine⟨z,?_,a⟩;refine tY rfl λKE k1 _=>?_
 rw[AO,vR];simp[letD];refine ux l D.int (λ_=>true) (λi=>.str (txt i)) ?_;simp;refine⟨by omega,λi hi=>?_,?_⟩
 ·simp[ER (h.all i hi)]
 ·have e':joinF comma [.lst (l.map λi=>D.str (txt i))]=some (.str z):=by
   rw[Zc] at e;exact e
  rw[e'];simp;exact k1 _ ⟨_,rfl⟩
theorem OO{w:List (Int×Int)}{f:Nat}(h:Wf f w)(hf:f<=3):∃z,cvF yZ [wishD w]=some (.str z)/\As 30 z:=by
 have len:=h.len
 obtain⟨z,e,a⟩:=joinT (c:=44) (n:=30) (by omega) (ts:=w.map pairT) (by
  have:=yl (b:=3) (ts:=w.map pairT) (λt ht=>by obtain⟨i,hi,rfl⟩:=C_.mp ht;exact(yX (h.all i hi)).1);rw[y_] at this
  omega) (by omega) (λt ht=>by obtain⟨i,hi,rfl⟩:=C_.mp ht;exact(yX (h.all i hi)).2)
 refine⟨z,?_,a⟩;refine tY rfl λKE k1 _=>?_
 rw[BS,vR,wG];simp[wishD];refine wJ w pairD (λ_=>true) (λp=>.str (pairT p)) ?_;simp[pairD];refine⟨by omega,λa b hi=>?_,?_⟩
 ·simp[Fb (h.all (a,b) hi)]
 ·have e':joinF comma [.lst (w.map λi=>D.str (pairT i))]=some (.str z):=by
   rw[Zc] at e;exact e
  rw[e'];simp;exact k1 _ ⟨_,rfl⟩
theorem FW(hn:n<=9)(h:∀p∈rs,PairOk p)(hl:4*rs.length+2<=m)(hm:m<=4000):∃z,cvF w4 [webD n rs]=some (.str z)/\As m z:=by
 have fg:(0:Int)<=n/\(n:Int)<=9:=by omega
 obtain⟨z,e,a⟩:=joinT (c:=32) (n:=m) (by omega) (ts:=txt n::rs.map pairT) (by
  have:=yl (b:=3) (ts:=rs.map pairT) (λt ht=>by obtain⟨i,hi,rfl⟩:=C_.mp ht;exact(yX (h i hi)).1);rw[y_] at this;have q:=(wc fg).1;have e:tot (txt n::rs.map pairT)=(txt n).length+1+tot (rs.map pairT):=by unfold tot;rw[O_,X6]
  omega) hm (λt ht=>by
   rcases w_.mp ht with rfl | ht
   ·exact(wc fg).2
   ·obtain⟨i,hi,rfl⟩:=C_.mp ht;exact(yX (h i hi)).2)
 refine⟨z,?_,a⟩;refine tY rfl λKE k1 _=>?_
 rw[zS,yQ,wG];simp[ER fg];refine wJ rs pairD (λ_=>true) (λp=>.str (pairT p)) ?_;simp[pairD];refine⟨by omega,λa b hi=>?_,?_⟩
 ·simp[Fb (h (a,b) hi)]
 ·refine⟨by omega,?_⟩;have e2:D.str (txt n)::rs.map (λp=>D.str (pairT p))=(txt n::rs.map pairT).map D.str:=by simp
  rw[e2,show joinF blank _=_ from e];simp;exact k1 _ ⟨_,rfl⟩
theorem JD{c:List D}{f:Nat}{Q:R->List D->Prop}(hc:PotOk c)(hf:f<=3)(k:∀l c',Lt f l->PotOk c'->Q (.val (letD l)) c'):wpB zv c [.int f] Q:=by
 refine vE rfl λKE hE _=>?_
 rw[An];simp;refine GC (λi aj Γ=>∃(c:List D) (l:List Int),PotOk c/\aj=l.map D.int/\l.length=i/\(∀x∈l,0<=x/\x<=9)/\Γ=[some (.bor c),some (.val (.int f))]) ?_;simp;refine⟨by omega,by omega,hc,?_,?_⟩
 ·rintro i dd aj ai - c1 lM l rfl hl hb rfl;simp[isMut,R.mut];refine uo lM (by omega) (by omega) λx c2 rL sU cT=>?_
  refine⟨_,_,rfl,_,_,rfl,c2,cT,l++[x],by simp,by simp[hl],λy hy=>?_,rfl⟩
  rcases I_.mp hy with hy | hy
  ·exact hb y hy
  ·rw[k_.mp hy];exact⟨rL,by omega⟩
 ·rintro aj ai c hc l rfl hl hb rfl;exact hE _ _ _ ⟨_,rfl⟩ (k l c ⟨by simpa using hl,hb⟩ hc)
theorem M'{c:List D}{Q:R->List D->Prop}(hc:PotOk c)(k:∀p c',PairOk p->PotOk c'->Q (.val (pairD p)) c'):wpB zc c [.int 10] Q:=by
 refine vE rfl λKE hE _=>?_
 rw[A2];refine oI ?_;rintro K hK -;simp[isMut,R.mut];refine uo hc (by omega) (by omega) λway c1 rM rN hc=>?_
 simp;refine hK _ ?_;refine oI ?_;rintro K hK -;simp[isMut,R.mut];refine uo hc (by omega) (by omega) λlow c2 cp eO hc=>?_
 simp;refine hK _ ?_;refine oI ?_;rintro K hK -;simp[isMut,R.mut];refine uo hc (by omega) (by omega) λmore c3 fY cg hc=>?_
 simp;refine hK _ ?_;have wy:way=0\/way=1\/way=2\/way=3:=by omega
 rcases wy with rfl | rfl | rfl | rfl
 ·exact⟨_,_,rfl,hE _ _ _ ⟨_,rfl⟩ (k (0,9) c3 ⟨by simp,by simp,by simp⟩ hc)⟩
 ·exact⟨_,_,rfl,hE _ _ _ ⟨_,rfl⟩ (k (low,low) c3 ⟨cp,Int.le_refl _,by simp only;omega⟩ hc)⟩
 ·exact⟨_,_,rfl,hE _ _ _ ⟨_,rfl⟩ (k (low,low+more) c3 ⟨cp,by simp only;omega,by simp only;omega⟩ hc)⟩
 ·refine⟨_,_,rfl,hE _ _ _ ⟨_,rfl⟩ (k (low,if low+2 < 9 then low+2 else 9) c3 ⟨cp,?_,?_⟩ hc)⟩
  ·simp only;split<;>omega
  ·simp only;split<;>omega
theorem Pr{c:List D}{f:Nat}{Q:R->List D->Prop}(hc:PotOk c)(hf:f<=3)(k:∀w c',Wf f w->PotOk c'->Q (.val (wishD w)) c'):wpB yi c [.int f,.int 10] Q:=by
 refine vE rfl λKE hE _=>?_
 rw[Ah];simp;refine GC (λi aj Γ=>∃(c:List D) (w:List (Int×Int)),PotOk c/\aj=w.map pairD/\Wf i w/\Γ=[some (.bor c),some (.val (.int f)),some (.val (.int 10))]) ?_;simp;refine⟨by omega,by omega,⟨hc,rfl,by simp⟩,?_,?_⟩
 ·rintro i dd aj ai - c1 lM w rfl hw rfl;simp[isMut,R.mut];refine M' lM λp c2 hp cT=>?_
  exact⟨_,_,rfl,_,_,rfl,c2,cT,w++[p],by simp,hw.app hp,rfl⟩
 ·rintro aj ai c hc w rfl hw rfl;exact hE _ _ _ ⟨_,rfl⟩ (k w c (by simpa using hw) hc)
theorem Ke{c:List D}{Q:R->List D->Prop}(hc:PotOk c)(k:∀(n:Nat) rs c',n<=8->(∀p∈rs,PairOk p)->rs.length<=64->PotOk c'->Q (.val (webD n rs)) c'):wpB yH c [] Q:=by
 refine vE rfl λKE hE _=>?_
 rw[zX];refine oI ?_;rintro K hK -;simp[isMut,R.mut];refine uo hc (by omega) (by omega) λiA c sV dN hc=>?_
 simp;refine hK _ ?_;refine oI ?_;rintro K hK -;simp[isMut,R.mut];refine uo hc (by omega) (by omega) λjS c fY cg hc=>?_
 obtain⟨n,hn⟩:∃n:Nat,1+jS=n:=⟨(1+jS).toNat,by omega⟩;have n8:n<=8:=by omega
 simp[hn];refine hK _ ?_;refine oI ?_;rintro K hK -;simp;refine hK _ ?_;refine oI ?_;rintro K hK -;simp;refine⟨by omega,?_⟩;refine uR (J:=λi Γ=>∃(c:List D) (rs:List (Int×Int)) (x4 x5:Option R),PotOk c/\(∀p∈rs,PairOk p)/\rs.length<=8*i/\Γ=[some (.bor c),some (.val (.int (1+iA))),some (.val (.int n)),some (.own (rs.map pairD)),x4,x5]) ⟨c,[],none,none,hc,λ_ h=>(nomatch h),r_ _,rfl⟩ ?_ ?_
 ·rintro i d Γ hd ⟨c,rs,x4,x5,hc,ok,len,rfl⟩ KL bQ - - -;obtain⟨rfl,hi⟩:=v8 hd;simp;refine⟨by omega,?_⟩;refine uR (J:=λj Γ=>∃(c:List D) (rs:List (Int×Int)) (x5:Option R),PotOk c/\(∀p∈rs,PairOk p)/\rs.length<=8*i+j/\Γ=[some (.bor c),some (.val (.int (1+iA))),some (.val (.int n)),some (.own (rs.map pairD)),some (.val (.int i)),x5]) ⟨c,rs,x5,hc,ok,len,rfl⟩ ?_ ?_
  ·rintro j e Γ he ⟨c,rs,x5,hc,ok,len,rfl⟩ KM fK - - -;obtain⟨rfl,hj⟩:=v8 he;simp[isMut,R.mut];refine uo hc (by omega) (by omega) λz c _ _ hc=>?_
   simp;split
   ·refine⟨by omega,fK _ ⟨c,rs++[((i:Int),(i:Int)+1+j)],some (.val (.int ((i:Int)+1+j))),hc,λp hp=>?_,by rw[R_];simp;omega,by simp[pairD]⟩⟩
    rcases I_.mp hp with hp | hp
    ·exact ok p hp
    ·rw[k_.mp hp];exact⟨by simp only;omega,by simp only;omega,by simp only;omega⟩
   ·exact fK _ ⟨c,rs,_,hc,ok,by omega,rfl⟩
  ·rintro Γ ⟨c,rs,x5,hc,ok,len,rfl⟩;rw[BD] at len;exact bQ _ ⟨c,rs,_,_,hc,ok,by omega,rfl⟩
 ·rintro Γ ⟨c,rs,x4,x5,hc,ok,len,rfl⟩;refine hK _ ?_;simp at len ⊢;exact hE _ _ _ ⟨_,rfl⟩ (k n rs c n8 ok (by omega) hc)
section
open PySem
noncomputable def signsT:Str:= " !\"#$&'()*+,-./0123456789:;<=>?@ABCDEFGHIJKLMNOPQRSTUVWXYZ[\\]^_`abcdefghijklmnopqrstuvwxyz{|}~\n"
theorem PL:cvF yT []=some (.str signsT):=rfl
theorem QC{i:Int}(h0:0<=i)(h1:i < 95):∃c,ixSF (.str signsT) (.int i)=some (.str ⟨#[c]⟩)/\c < 128:=by
 have all:(Ur 95).all (λk=>match signsT.cps[k]? with | some c=>decide (c < 128) | none=>false)=true:=by kernel_rfl
 have q:=j_.mp all i.toNat (Um.mpr (by omega));unfold ixSF;dsimp only;rw[if_pos ⟨h0,by omega⟩];split at q
 ·rename_i c e
  try rw[e]
  exact⟨_,rfl,of_decide_eq_true q⟩
 ·cases q
theorem yz{c:Nat}(h:c < 128){n:Int}(h0:0<=n)(hm:n<=m)(hn:m<=5000):∃y,mulSF (.str ⟨#[c]⟩) (.int n)=some (.str y)/\As m y:=by
 refine⟨ZJ ⟨#[c]⟩ n,if_pos ⟨h0,by omega,by show 1<=100;omega⟩,?_,λy hy=>?_⟩
 ·show(ZJ ⟨#[c]⟩ n).cps.size<=m;rw[←Tv,mul_one_list,M_];omega
 ·rw[mul_one_list] at hy;rw[List.eq_of_mem_replicate hy];exact h
theorem As.add{a b:Str}(h:As n a)(h':As m b)(hl:n+m<=100000):addF (.str a) (.str b)=some (.str (a++b)):=by
 have:=h.1;have:=h'.1;exact if_pos (by show _<=1000000;omega)
theorem xZ{ts:List Str}{lo:Option Int}:∃ys:List Str,cutD (ts.map D.str) lo hi=ys.map D.str/\ys.Sublist ts:=by
 refine⟨(ts.drop (HT.sIx ts.length 0 lo)).take (HT.sIx ts.length ts.length hi - HT.sIx ts.length 0 lo),?_,?_⟩
 ·unfold cutD;simp[List.map_drop,YU]
 ·exact(Xa _ _).trans (List.drop_sublist _ _)
end
theorem wpE{α:Type}{g:M α}{d:α}{Q:α->Gm->Prop}(e:g Γ=some (d,Γ))(h:Q d Γ):wp g Γ Q:=⟨_,_,e,h⟩
theorem OS{g:List R->Option (R×List R)}{t:M (List D)}{c:List D}{QD:D->Gm->Prop}(hj:Γ[j]?=some (some (.bor c)))(ht:t Γ=some (ds,Γ))(k:wpB g c ds λr c'=>∃d,r=.val d/\QD d (Γ.set j (some (.bor c')))):wp (cbV j g t) Γ QD:=by
 obtain⟨r,c',e1,d,rfl,k⟩:=k
 have e2:callB j g t Γ=some (.val d,Γ.set j (some (.bor c'))):=by
  unfold callB mutS;have:isMut Γ j=true:=by unfold isMut;rw[hj];rfl
  rw[this];simp only[bnd,ht,hj,e1,if_true]
 exact⟨d,_,by simp[cbV,bnd,lft,asV,e2],k⟩
theorem consE{g:M D}{t:M (List D)}{d:D}(e1:g Γ=some (d,Γ))(e2:t Γ=some (ds,Γ)):consA g t Γ=some (d::ds,Γ):=by simp only[consA,bnd,e1,e2,ret]
theorem lstE{t:M (List D)}(e:t Γ=some (ds,Γ))(h:ds.length<=lim):lstA t Γ=some (ds,Γ):=by simp only[lstA,bnd,e,lft,if_pos h]
theorem frzE{t:M (List D)}(e:t Γ=some (ds,Γ)):frz t Γ=some (.lst ds,Γ):=by simp only[frz,bnd,e,ret]
theorem catD{A C:M D}{xs zs:List D}(e1:A Γ=some (.lst xs,Γ))(e2:C Γ=some (.lst ys,Γ))(h:catF (.lst xs) (.lst ys)=some zs):frz (op2 catF A C) Γ=some (.lst zs,Γ):=by
 simp only[frz,op2,bnd,e1,e2,lft,h,ret]
theorem Et{c:List D}{x:PySem.Str}{Q:R->List D->Prop}(hc:PotOk c)(h:As n x)(hn:n<=1000)(k:∀z c',As (2*n+40) z->PotOk c'->Q (.val (.str z)) c'):wpB wL c [.str x] Q:=by
 refine vE rfl λKE hE _=>?_
 have l:=h.1;have lS:lenSF [.str x]=some (.int x.length):=if_pos (by omega);rw[Cz];refine Av rfl rfl rfl ?_;refine uo hc (by omega) (by omega) λway c rM rN hc=>⟨_,rfl,?_⟩
 refine Av (ds:=[.int (x.length+1)]) rfl ?_ rfl ?_
 ·refine Aj ?_;simp[lS]
 refine uo hc (by omega) (by omega) λplace c sW dh hc=>⟨_,rfl,?_⟩
 have fQ:∀(z:PySem.Str) (m:Nat) (c':List D) (af:Gm),As m z->m<=2*n+40->PotOk c'->(∃t,fin (map R.val [D.str x]) af=some t)->KE (.rt (.val (.str z))) (some (.bor c')::af):=λz m c' af a b d e=>hE _ _ _ e (k z c' (a.mono b) d)
 by_cases w5:way < 5
 ·refine Qf rfl w5 λK hR=>?_
  refine oI ?_;rintro K oJ -;simp[PL,isMut,R.mut];refine uo hc (by omega) (by omega) λi c lN cG hc=>?_
  obtain⟨s,e1,a1⟩:=QC lN cG;simp[e1];refine oJ _ ?_;clear oJ;have ib:∀b,intBF [.bl b]=some (.int (if b then 1 else 0)):=λ_=>rfl
  obtain⟨y,e2,a2⟩:=yz a1 (n:=if way < 4 then 1 else 0) (m:=1) (by split<;>omega) (by split<;>omega) (by omega);have b1:=(h.cut none (some place)).app a2;have e3:=(h.cut none (some place)).add a2 (by omega);simp[h.sl (by omega),ib,e2,e3];rw[u6 (b1.add (h.cut _ _) (by omega))];exact hR _ _ (fQ _ _ _ _ (b1.app (h.cut _ _)) (by omega) hc ⟨_,rfl⟩)
 refine M2 rfl w5 ?_;by_cases w6:way=5
 ·refine Le rfl w6 λK hR=>?_
  refine PR.mpr ?_;simp[h.sl (by omega)];refine hR _ _ (fQ _ n _ _ (h.cut _ _) (by omega) hc ⟨_,rfl⟩)
 refine Ly rfl w6 ?_;refine oI ?_;rintro K hK -;refine Ar.mpr (JC.mpr (wpE (d:=.lst [.str ",", .str "-", .str " "]) rfl (OS rfl rfl (uo hc (by omega) (by omega) λmk c iQ sX hc=>⟨_,rfl,?_⟩))))
 obtain⟨m,em,m1⟩:∃m,atI [D.str ",", .str "-", .str " "] mk=some (.str ⟨#[m]⟩)/\m < 128:=by
  have:mk=0\/mk=1\/mk=2:=by omega
  rcases this with rfl | rfl | rfl
  ·exact⟨44,by rw[vR];rfl,by omega⟩
  ·exact⟨45,by rw[wG];rfl,by omega⟩
  ·exact⟨32,by rw[yQ];rfl,by omega⟩
 refine wpE (d:=.str ⟨#[m]⟩) (by show lft (atI [D.str ",", .str "-", .str " "] mk) _=_;rw[em];rfl) ⟨by show 5 < 10;decide,hK _ ?_⟩;show wp _ [some (.bor c),some (.val (.str x)),some (.val (.int way)),some (.val (.int place)),none,some (.val (.str ⟨#[m]⟩)),none,none,none,none] _;refine oI ?_;rintro K hK -;obtain⟨t1,t2⟩:=Px (c:=m) m1 h (by omega);have es:=uX (c:=m) (h.asc (by omega));have sp:=split_pos x ⟨#[m]⟩;generalize PySem.Txt.split x ⟨#[m]⟩=ts at t1 t2 es sp;obtain⟨sY,sZ⟩:=Ck ts;simp[es];refine hK _ ?_;refine Av (ds:=[.int ts.length]) rfl ?_ rfl ?_
 ·refine Aj ?_;simp
 refine uo hc (by omega) (by omega) λbg c tf tm hc=>⟨_,rfl,?_⟩
 obtain⟨y9,e9,a9⟩:=yz (c:=57) (by omega) (n:=30) (m:=30) (by omega) (by omega) (by omega);have nine:(("9":String):PySem.Str)=⟨#[57]⟩:=by decide
 have od:∀i:Int,0<=i->i < 16->∃o,atI [D.str "", .str "0", .str "00", .str "9", .str "10", .str "01", .str "-1", .str "3-3", .str "5-4", .str "0-9", .str "0-7", .str "7-0", .str "8", .str "1", .str "10000", .str y9] i=some (.str o)/\As 30 o:=λi i0 i1=>by
  obtain⟨j,rfl⟩:∃j:Nat,i=j:=⟨i.toNat,by omega⟩;rw[vD];by_cases hj:j < 15
  ·have all:((Ur 15).all λj=>match ([D.str "", .str "0", .str "00", .str "9", .str "10", .str "01", .str "-1", .str "3-3", .str "5-4", .str "0-9", .str "0-7", .str "7-0", .str "8", .str "1", .str "10000"]:List D)[j]? with
    | some (.str o)=>decide (o.length<=30)&&o.cps.toList.all λy=>decide (y < 128)
    | _=>false)=true:=by kernel_rfl
   have q:=j_.mp all j (Um.mpr hj)
   have ea:([D.str "", .str "0", .str "00", .str "9", .str "10", .str "01", .str "-1", .str "3-3", .str "5-4", .str "0-9", .str "0-7", .str "7-0", .str "8", .str "1", .str "10000", .str y9]:List D)[j]?=([D.str "", .str "0", .str "00", .str "9", .str "10", .str "01", .str "-1", .str "3-3", .str "5-4", .str "0-9", .str "0-7", .str "7-0", .str "8", .str "1", .str "10000"]:List D)[j]? :=
    T_ (l₁:=[D.str "", .str "0", .str "00", .str "9", .str "10", .str "01", .str "-1", .str "3-3", .str "5-4", .str "0-9", .str "0-7", .str "7-0", .str "8", .str "1", .str "10000"]) (l₂:=[.str y9]) hj
   rw[ea];generalize ([D.str "", .str "0", .str "00", .str "9", .str "10", .str "01", .str "-1", .str "3-3", .str "5-4", .str "0-9", .str "0-7", .str "7-0", .str "8", .str "1", .str "10000"]:List D)[j]?=o at q ⊢
   match o,q with
   | some (.str o),q =>
    rw[u_,decide_eq_true_eq,j_] at q;exact⟨o,rfl,q.1,λy hy=>of_decide_eq_true (q.2 y hy)⟩
  ·have:j=15:=by omega
   subst this;exact⟨_,rfl,a9⟩
 rw[←nine] at e9
 have rO:op2 mulSF (ret (.str "9")) (ret (.int 30)) [some (.bor c),some (.val (.str x)),some (.val (.int way)),some (.val (.int place)),none,some (.val (.str ⟨#[m]⟩)),some (.val (.lst (ts.map D.str))),some (.val (.int bg)),none,none]=some (.str y9,[some (.bor c),some (.val (.str x)),some (.val (.int way)),some (.val (.int place)),none,some (.val (.str ⟨#[m]⟩)),some (.val (.lst (ts.map D.str))),some (.val (.int bg)),none,none]):=by
  show lft (mulSF (.str "9") (.int 30)) _=_;rw[e9];rfl
 refine Ei (d:=.lst [D.str "", .str "0", .str "00", .str "9", .str "10", .str "01", .str "-1", .str "3-3", .str "5-4", .str "0-9", .str "0-7", .str "7-0", .str "8", .str "1", .str "10000", .str y9]) (frzE (lstE (consE rfl (consE rfl (consE rfl (consE rfl (consE rfl (consE rfl (consE rfl (consE rfl (consE rfl (consE rfl (consE rfl (consE rfl (consE rfl (consE rfl (consE rfl (consE rO rfl)))))))))))))))) (by show 16<=lim;decide))) rfl ?_;show wp _ [some (.bor c),some (.val (.str x)),some (.val (.int way)),some (.val (.int place)),none,some (.val (.str ⟨#[m]⟩)),some (.val (.lst (ts.map D.str))),some (.val (.int bg)),some (.val (.lst [D.str "", .str "0", .str "00", .str "9", .str "10", .str "01", .str "-1", .str "3-3", .str "5-4", .str "0-9", .str "0-7", .str "7-0", .str "8", .str "1", .str "10000", .str y9])),none] _;generalize fi:[D.str "", .str "0", .str "00", .str "9", .str "10", .str "01", .str "-1", .str "3-3", .str "5-4", .str "0-9", .str "0-7", .str "7-0", .str "8", .str "1", .str "10000", .str y9]=os at od ⊢;clear fi;obtain⟨yA,cA,sA⟩:=xZ (ts:=ts) (lo:=none) (hi:=some bg);obtain⟨yB,cB,sB⟩:=xZ (ts:=ts) (lo:=some (bg+1)) (hi:=none);obtain⟨yC,cC,sC⟩:=xZ (ts:=ts) (lo:=none) (hi:=some (bg+1));obtain⟨yD,cD,sD⟩:=xZ (ts:=ts) (lo:=some bg) (hi:=none);have lA:=sA.length_le;have lB:=sB.length_le;have lC:=sC.length_le;have lD:=sD.length_le;have tA:=v9 sA;have tB:=v9 sB;have tC:=v9 sC;have tD:=v9 sD;have l7:lim=1000000:=rfl
 have cF:∀(a b:List PySem.Str),a.length+b.length<=1000000->catF (.lst (a.map D.str)) (.lst (b.map D.str))=some (a.map D.str++b.map D.str):=λa b h=>by
  unfold catF;dsimp only;rw[if_pos (by rw[y_,y_];exact h)]
 refine Ei (d:=.lst [D.lst (map D.str yA++map D.str yB),D.lst (map D.str yC++map D.str yD),D.lst (map D.str ts).reverse,D.lst []]) (frzE (lstE (consE (catD (by rw[←cA];rfl) (by rw[←cB];rfl) (cF yA yB (by omega))) (consE (catD (by rw[←cC];rfl) (by rw[←cD];rfl) (cF yC yD (by omega))) (consE rfl (consE rfl rfl)))) (by show 4<=lim;decide))) rfl ?_;show wp _ [some (.bor c),some (.val (.str x)),some (.val (.int way)),some (.val (.int place)),none,some (.val (.str ⟨#[m]⟩)),some (.val (.lst (ts.map D.str))),some (.val (.int bg)),some (.val (.lst os)),some (.val (.lst [D.lst (map D.str yA++map D.str yB),D.lst (map D.str yC++map D.str yD),D.lst (map D.str ts).reverse,D.lst []]))] _;refine oI ?_;rintro K hK hR;have jG:∀ds,joinG (.str ⟨#[m]⟩) ds=joinF ⟨#[m]⟩ ds:=λ_=>rfl
 have mA:∀t∈yA,∀y∈t.cps.toList,y < 128:=λt ht=>t2 t (sA.subset ht)
 have mB:∀t∈yB,∀y∈t.cps.toList,y < 128:=λt ht=>t2 t (sB.subset ht)
 have mC:∀t∈yC,∀y∈t.cps.toList,y < 128:=λt ht=>t2 t (sC.subset ht)
 have mD:∀t∈yD,∀y∈t.cps.toList,y < 128:=λt ht=>t2 t (sD.subset ht)
 by_cases w9:way < 9
 ·obtain⟨L,eL,tL,mL⟩:∃L:List PySem.Str,atI [D.lst (map D.str yA++map D.str yB),D.lst (map D.str yC++map D.str yD),D.lst (map D.str ts).reverse,D.lst []] (way - 6)=some (.lst (L.map D.str))/\tot L<=2*n+40/\∀t∈L,∀y∈t.cps.toList,y < 128:=by
   have:way=6\/way=7\/way=8:=by omega
   rcases this with rfl | rfl | rfl
   ·refine⟨yA++yB,by rw[Xj];rfl,by rw[xU];omega,λt ht=>?_⟩
    rcases I_.mp ht with ht | ht
    ·exact mA t ht
    ·exact mB t ht
   ·refine⟨yC++yD,by rw[Xj];rfl,by rw[xU];omega,λt ht=>?_⟩
    rcases I_.mp ht with ht | ht
    ·exact mC t ht
    ·exact mD t ht
   ·exact⟨ts.reverse,by rw[List.map_reverse];rfl,by rw[Jn];omega,λt ht=>t2 t (List.mem_reverse.mp ht)⟩
  obtain⟨z,ez,az⟩:=joinT m1 tL (by omega) mL;simp[w9,jnS,eL,jG,ez];exact hR _ _ (fQ _ _ _ _ az (by omega) hc ⟨_,rfl⟩)
 simp[w9];refine hK _ ?_;simp[jnS,cA,cB,isMut,R.mut];refine uo hc (by omega) (by omega) λi c lN cG hc=>?_
 obtain⟨o,eo,ao⟩:=od i lN cG
 obtain⟨z,ez,az⟩:=joinT (n:=2*n+40) (ts:=yA++[o]++yB) m1 (by
  have:=ao.1;have:tot [o]=o.length+1:=rfl;rw[xU,xU]
  omega) (by omega) (λt ht=>by
  rcases I_.mp ht with ht | ht
  ·rcases I_.mp ht with ht | ht
   ·exact mA t ht
   ·rw[k_.mp ht];exact ao.2
  ·exact mB t ht)
 simp[eo,jG];rw[cB];have rP:joinF ⟨#[m]⟩ [.lst (map D.str yA++D.str o::map D.str yB)]=some (.str z):=by simpa using ez
 refine⟨by omega,by rw[y_];omega,?_⟩;rw[u6 rP];exact fQ _ _ _ _ az (by omega) hc ⟨_,rfl⟩
def GoodT(ds:List D):Prop:=∀d∈ds,∃s,d=.str s/\Asc s
theorem GoodT.snoc{s:PySem.Str}(h:GoodT ds)(hs:Asc s):GoodT (ds++[.str s]):=λd hd=>by
 rcases I_.mp hd with hd | hd
 ·exact h d hd
 ·exact⟨s,k_.mp hd,hs⟩
theorem GoodT.app{es:List D}(h:GoodT ds)(h':GoodT es):GoodT (ds++es):=λd hd=>by
 rcases I_.mp hd with hd | hd
 ·exact h d hd
 ·exact h' d hd
noncomputable def goodB(ds:List D):Bool:=ds.all λd=>match d with
 | .str s=>decide (s.length<=9000)&&s.cps.toList.all λc=>decide (c < 128)
 | _=>false
theorem PZ(h:goodB ds=true):GoodT ds:=λd hd=>by
 have:=j_.mp h d hd;split at this
 ·rename_i s;simp only[u_,decide_eq_true_eq,j_] at this;exact⟨s,rfl,this⟩
 ·cases this
theorem law_true(ns:List Int)(gS:ns.length<=63):∃rs,vT [.val (.lst (ns.map D.int))]=some (.val (.bl true),rs):=by
 have bP:wpF vT [.val (.lst (ns.map D.int))] λr _=>r=.val (.bl true):=by
  refine vM rfl λKE hE _=>?_
  rw[CL];refine oI ?_;rintro K hK -;obtain⟨c,hc,hp⟩:=On ns;simp[hc];refine hK _ ?_;refine oI ?_;rintro K hK -;refine⟨_,_,rfl,hK _ ?_⟩;refine oI ?_;rintro K hK -;have nine:(("9":String):PySem.Str)=⟨#[57]⟩:=by decide
  have zero:(("0":String):PySem.Str)=⟨#[48]⟩:=by decide
  obtain⟨y9,e9,a9⟩:=yz (c:=57) (by omega) (n:=5000) (m:=5000) (by omega) (by omega) (by omega);obtain⟨y0,e0,a0⟩:=yz (c:=48) (by omega) (n:=5000) (m:=5000) (by omega) (by omega) (by omega);rw[←nine] at e9;rw[←zero] at e0;have b1:As 10 ("0-":String):=⟨by decide,by decide⟩;have b2:As 10 ("2 0-":String):=⟨by decide,by decide⟩;have b3:As 10 ("1,":String):=⟨by decide,by decide⟩;simp[e9,e0,b1.add a9 (by omega),b2.add a9 (by omega),b3.add a9 (by omega)];refine hK _ ?_;refine oI ?_;rintro K hK -;simp;refine uR (J:=λi Γ=>∃(c ds:List D) (x3 x4 x5 x6 x7 x8:Option R),PotOk c/\GoodT ds/\ds.length<=20+21*i/\Γ=[some (.val (.lst (ns.map .int))),some (.own c),some (.own ds),x3,x4,x5,x6,x7,x8]) ⟨c,_,_,_,_,_,_,_,hp,?_,?_,rfl⟩ ?_ ?_
  ·refine GoodT.app (es:=[_,_,_,_,_]) (ds:=[_,_,_,_,_,_,_,_,_,_,_,_,_,_,_]) (PZ (by kernel_rfl)) λd hd=>?_
   simp at hd
   rcases hd with rfl | rfl | rfl | rfl | rfl
   ·exact⟨_,rfl,a9.asc (by omega)⟩
   ·exact⟨_,rfl,a0.asc (by omega)⟩
   ·exact⟨_,rfl,(b1.app a9).asc (by omega)⟩
   ·exact⟨_,rfl,(b2.app a9).asc (by omega)⟩
   ·exact⟨_,rfl,(b3.app a9).asc (by omega)⟩
  ·simp
  ·rintro i d Γ hd ⟨c,ds,x3,x4,x5,x6,x7,x8,hc,gd,len,rfl⟩ KL bQ - - -;clear hK hE hp;have i4:=(v8 hd).2;clear hd;simp;refine oI ?_;rintro K hK -;simp[isMut,R.mut];refine uo hc (by omega) (by omega) λf0 c rQ rR hc=>?_
   obtain⟨f,hf⟩:∃f:Nat,1+f0=f:=⟨(1+f0).toNat,by omega⟩;have f3:f<=3:=by omega
   simp[hf];refine JD hc f3 λl c hl hc=>?_
   obtain⟨z0,l0,h0⟩:=MP hl f3;simp[l0,isMut,R.mut];refine KC hc λn rs rk c W _ hc=>?_
   obtain⟨z1,l1,h1⟩:=FW (n:=n) (rs:=rs) (m:=100) (by have:=W.n8;omega) (λp hp=>by
    have:=W.lt p hp;have:=W.n8
    exact⟨by omega,by omega,by omega⟩) (by have:=W.few;have:=W.n8;omega) (by omega)
   simp[l1];refine hK _ ?_;refine oI ?_;rintro K hK -;simp[isMut,R.mut];refine Ke hc λn rs c n8 ok lr hc=>?_
   obtain⟨z2,l2,h2⟩:=FW (n:=n) (rs:=rs) (m:=300) (by omega) ok (by omega) (by omega);simp[l2];refine⟨by omega,hK _ ?_⟩;replace gd:=gd.snoc (h2.asc (by omega));refine oI ?_;rintro K hK -;simp[isMut,R.mut];refine uo hc (by omega) (by omega) λf0 c rQ rR hc=>?_
   obtain⟨f,hf⟩:∃f:Nat,1+f0=f:=⟨(1+f0).toNat,by omega⟩;have f3:f<=3:=by omega
   simp[hf];refine Pr hc f3 λw c hw hc=>?_
   obtain⟨z3,l3,h3⟩:=OO hw f3;simp[l3];refine hK _ ?_;have cd:cutD [D.str z0,D.str z1,D.str z3] (some 1) none=[D.str z1,D.str z3]:=rfl
   have oK:∀e∈[D.str z0,D.str z1,D.str z3,D.str z1,D.str z3],∃z,e=.str z/\As 100 z:=λe he=>by
    simp at he
    rcases he with rfl | rfl | rfl | rfl | rfl
    ·exact⟨_,rfl,h0.mono (by omega)⟩
    ·exact⟨_,rfl,h1⟩
    ·exact⟨_,rfl,h3.mono (by omega)⟩
    ·exact⟨_,rfl,h1⟩
    ·exact⟨_,rfl,h3.mono (by omega)⟩
   have len:(ds++[D.str z2]).length<=21+21*i:=by rw[R_];simp;omega
   generalize ds++[D.str z2]=ds at gd len ⊢;simp[cd];refine uR (J:=λj Γ=>∃(c ds:List D) (x4 x5 x6 x7:Option R),PotOk c/\GoodT ds/\ds.length<=21+21*i+4*j/\Γ=[some (.val (.lst (ns.map .int))),some (.own c),some (.own ds),some (.val d),x4,x5,x6,x7,x8]) ⟨c,ds,_,_,_,_,hc,gd,len,rfl⟩ ?_ ?_
   ·rintro j e Γ he ⟨c,ds,x4,x5,x6,x7,hc,gd,len,rfl⟩ KM fK - - -;have j5:j < 5:=(x_.mp he).1;obtain⟨z,rfl,az⟩:=oK e (TC he);clear he bQ;simp;refine uR (J:=λk Γ=>∃(c ds:List D) (x6 x7:Option R),PotOk c/\GoodT ds/\ds.length<=21+21*i+4*j+k/\Γ=[some (.val (.lst (ns.map .int))),some (.own c),some (.own ds),some (.val d),x4,some (.val (.str z)),x6,x7,x8]) ⟨c,ds,_,_,hc,gd,len,rfl⟩ ?_ ?_
    ·rintro k e Γ he ⟨c,ds,x6,x7,hc,gd,len,rfl⟩ KN oM - - -;have k4:=(v8 he).2;clear he fK;simp;refine oI ?_;rintro K hK -;simp[isMut,R.mut];refine Et hc az (by omega) λb c ab hc=>?_
     simp;refine hK _ ?_;simp[isMut,R.mut];refine uo hc (by omega) (by omega) λq c tq tu hc=>?_
     simp[ub,zB];split
     ·refine Et hc ab (by omega) λb' c rS hc=>?_
      simp;exact⟨by omega,oM _ ⟨c,_,_,_,hc,gd.snoc (rS.asc (by omega)),by rw[R_];simp;omega,rfl⟩⟩
     ·exact⟨by omega,oM _ ⟨c,_,_,_,hc,gd.snoc (ab.asc (by omega)),by rw[R_];simp;omega,rfl⟩⟩
    ·rintro Γ ⟨c,ds,x6,x7,hc,gd,len,rfl⟩;simp at len;exact fK _ ⟨c,ds,_,_,_,_,hc,gd,by omega,rfl⟩
   ·rintro Γ ⟨c,ds,x4,x5,x6,x7,hc,gd,len,rfl⟩;simp at len;exact bQ _ ⟨c,ds,_,_,_,_,_,_,hc,gd,by omega,rfl⟩
  ·rintro Γ ⟨c,ds,x3,x4,x5,x6,x7,x8,hc,gd,len,rfl⟩;refine hK _ ?_;simp at len;refine oI ?_;rintro K hK hR;simp;refine uR (J:=λi Γ=>∃(x1 x2 x3 x4 x5 x6 x7 x8:Option R),Γ=[some (.val (.lst (ns.map .int))),x1,x2,x3,x4,x5,x6,x7,x8]) ⟨_,_,_,_,_,_,_,_,rfl⟩ ?_ ?_
   ·rintro i d Γ hd ⟨x1,x2,x3,x4,x5,x6,x7,x8,rfl⟩ KL bQ - - gD;obtain⟨s,rfl,as⟩:=gd d (TC hd);simp;refine uR (J:=λi Γ=>∃(x6 x7 x8:Option R),Γ=[some (.val (.lst (ns.map .int))),x1,x2,x3,x4,some (.val (.str s)),x6,x7,x8]) ⟨_,_,_,rfl⟩ ?_ ?_
    ·rintro j e Γ he ⟨x6,x7,x8,rfl⟩ KM fK - - -;obtain⟨rfl,hj⟩:=v8 he;obtain⟨v,t1,t2,t3⟩:=NM as (way:=0+(j:Int)) (by omega);simp[t1,t2,t3] at t1 t2 ⊢;simp[t1,t2,t3];exact fK _ ⟨_,_,_,rfl⟩
    ·rintro Γ ⟨x6,x7,x8,rfl⟩;exact bQ _ ⟨_,_,_,_,_,_,_,_,rfl⟩
   ·rintro Γ ⟨x1,x2,x3,x4,x5,x6,x7,x8,rfl⟩;refine hK _ ?_;simp;exact hE _ _ ⟨_,rfl,rfl⟩
 obtain⟨r,rs,e,rfl⟩:=bP;exact⟨rs,e⟩
end Own
namespace PySem.W.Fast
theorem tw7820084584434472325:True:=⟨⟩
theorem tw17617833931774919473:True:=⟨⟩
theorem tw11891184342196843385:True:=⟨⟩
theorem tw8210974084702801847:True:=⟨⟩
theorem tw5982388036408731058:True:=⟨⟩
theorem tw17746571342596058359:True:=⟨⟩
theorem tw6993863504913633945:True:=⟨⟩
theorem tw5323147273078111502:True:=⟨⟩
theorem tw12076922883852764555:True:=⟨⟩
theorem tw12530827954903851749:True:=⟨⟩
theorem tw18322201940230026911:True:=⟨⟩
theorem tw10474925911050701547:True:=⟨⟩
theorem tw6912298194674207150:True:=⟨⟩
theorem tw11860103509132262248:True:=⟨⟩
theorem tw15622656420491649524:True:=⟨⟩
theorem tw9978804714842344271:True:=⟨⟩
theorem tw6687302981396039079:True:=⟨⟩
theorem tw14550247908963379613:True:=⟨⟩
theorem tw6558361995118792778:True:=⟨⟩
theorem tw15549016584136535573:True:=⟨⟩
theorem tw5339454285205159745:True:=⟨⟩
theorem tw13528400149038890141:True:=⟨⟩
theorem tw13655098511185212700:True:=⟨⟩
theorem tw1423614904753021396:True:=⟨⟩
theorem tw10879553353513368361:True:=⟨⟩
theorem tw12213569709823418544:True:=⟨⟩
theorem tw5698300645495234286:True:=⟨⟩
theorem tw10033949658224455663:True:=⟨⟩
theorem tw53429008478605720:True:=⟨⟩
theorem tw11238377424485135464:True:=⟨⟩
theorem tw16659699346451817552:True:=⟨⟩
theorem tw2437728518411666827:True:=⟨⟩
theorem tw8011540628930894915:True:=⟨⟩
theorem tw15195126447065595740:True:=⟨⟩
theorem tw2787838827813640268:True:=⟨⟩
theorem tw14251104774897600905:True:=⟨⟩
theorem tw324300911325703083:True:=⟨⟩
theorem tw16117005968657536212:True:=⟨⟩
theorem tw3112650300312452893:True:=⟨⟩
theorem tw1739815359301429152:True:=⟨⟩
theorem tw12053423965550315293:True:=⟨⟩
theorem tw17920164550960877058:True:=⟨⟩
theorem tw13257056816963466444:True:=⟨⟩
theorem tw4637363573037606680:True:=⟨⟩
theorem tw663264885883387375:True:=⟨⟩
theorem tw17160824965065501433:True:=⟨⟩
theorem tw7931064046267443772:True:=⟨⟩
theorem tw18104236698444018501:True:=⟨⟩
theorem tw10414358043717103770:True:=⟨⟩
theorem tw8911123951031354857:True:=⟨⟩
theorem tw17200694053586018243:True:=⟨⟩
theorem tw7155030183454953905:True:=⟨⟩
theorem tw12969884180417465841:True:=⟨⟩
theorem tw16390122724367461308:True:=⟨⟩
theorem tw11794224683996644556:True:=⟨⟩
theorem tw7506165020082382700:True:=⟨⟩
theorem tw8324461631670612823:True:=⟨⟩
theorem tw14051129756653997728:True:=⟨⟩
theorem tw12566540617698638330:True:=⟨⟩
theorem tw1373599986299862061:True:=⟨⟩
theorem tw16361847267996350969:True:=⟨⟩
theorem tw587919497345276151:True:=⟨⟩
theorem tw13925411275204563537:True:=⟨⟩
theorem tw6527258681841705662:True:=⟨⟩
theorem tw11488066195519576915:True:=⟨⟩
theorem tw3591787095630111878:True:=⟨⟩
theorem tw4565572832969109372:True:=⟨⟩
theorem tw312814014660012497:True:=⟨⟩
theorem tw7708258139651465970:True:=⟨⟩
theorem tw7272583392522460925:True:=⟨⟩
theorem tw14286764000446121069:True:=⟨⟩
theorem tw9518023542846077616:True:=⟨⟩
theorem tw6923943267084998937:True:=⟨⟩
theorem tw4595925923674608138:True:=⟨⟩
theorem tw7256922830957116973:True:=⟨⟩
theorem tw18383325145396483901:True:=⟨⟩
theorem tw15320350940893653715:True:=⟨⟩
theorem tw2878072931662626617:True:=⟨⟩
theorem tw7586531858864879120:True:=⟨⟩
theorem tw1441452993513125832:True:=⟨⟩
theorem tw17795978296121387862:True:=⟨⟩
theorem tw12612374466902111600:True:=⟨⟩
theorem tw13466669113388272703:True:=⟨⟩
theorem tw1558443606334605693:True:=⟨⟩
theorem tw12078253081484650088:True:=⟨⟩
theorem tw6003261091696763382:True:=⟨⟩
theorem tw1667062061168674100:True:=⟨⟩
theorem tw3781136104361799067:True:=⟨⟩
theorem tw2914998268661970930:True:=⟨⟩
theorem tw12611771139738276132:True:=⟨⟩
theorem tw13535328522496434458:True:=⟨⟩
theorem tw2638343129743592776:True:=⟨⟩
theorem tw15047038499435985725:True:=⟨⟩
theorem tw1437443773036904627:True:=⟨⟩
theorem tw1457261899581740222:True:=⟨⟩
theorem tw8057810059502581355:True:=⟨⟩
theorem tw4386557613804564005:True:=⟨⟩
theorem tw2943820037606606812:True:=⟨⟩
theorem tw17655019981712139143:True:=⟨⟩
theorem tw18071032635820747376:True:=⟨⟩
theorem tw8416103560452950478:True:=⟨⟩
theorem tw1063017298034991670:True:=⟨⟩
theorem tw14565602297219478394:True:=⟨⟩
theorem tw17801458829530186370:True:=⟨⟩
theorem tw13722272093548643477:True:=⟨⟩
theorem tw16147298687972801488:True:=⟨⟩
theorem tw5867836045848014769:True:=⟨⟩
theorem tw11782513159911903990:True:=⟨⟩
theorem tw176208079778417158:True:=⟨⟩
theorem tw2081853791944019277:True:=⟨⟩
theorem tw11249643784068457490:True:=⟨⟩
theorem tw16361617006767230560:True:=⟨⟩
theorem tw6307301054358732029:True:=⟨⟩
theorem tw11832527519192558654:True:=⟨⟩
theorem tw9929298424499901095:True:=⟨⟩
theorem tw16746007701677336171:True:=⟨⟩
theorem tw199337547554876472:True:=⟨⟩
theorem tw17961849432668846820:True:=⟨⟩
theorem tw9578341810437401085:True:=⟨⟩
theorem tw6212052275491883167:True:=⟨⟩
theorem tw4286447709118234583:True:=⟨⟩
theorem tw9287662344932569880:True:=⟨⟩
theorem tw3539374977008351996:True:=⟨⟩
theorem tw9040697350334284858:True:=⟨⟩
theorem tw2434258958135290194:True:=⟨⟩
theorem tw17723836010851767342:True:=⟨⟩
theorem tw18187540483357238414:True:=⟨⟩
theorem tw12367239262701318795:True:=⟨⟩
theorem tw2677603280499203072:True:=⟨⟩
theorem tw9832451098478640688:True:=⟨⟩
theorem tw14733541787529387888:True:=⟨⟩
theorem tw1823279654376867718:True:=⟨⟩
theorem tw4544246785525054495:True:=⟨⟩
theorem tw3054616619614960783:True:=⟨⟩
theorem tw18078809924320281168:True:=⟨⟩
theorem tw16810481870846776346:True:=⟨⟩
theorem tw4422746441595924570:True:=⟨⟩
theorem tw4318526173892701046:True:=⟨⟩
theorem tw8616760605224202521:True:=⟨⟩
theorem tw9929556366689080117:True:=⟨⟩
theorem tw3443754517047508225:True:=⟨⟩
theorem tw7034755986415313319:True:=⟨⟩
theorem tw3892372881839042323:True:=⟨⟩
theorem tw12992673953018495191:True:=⟨⟩
theorem tw15607401985722987614:True:=⟨⟩
theorem tw9298531271074803188:True:=⟨⟩
theorem tw7150138804180295997:True:=⟨⟩
theorem tw3810611949722007143:True:=⟨⟩
theorem tw14386095045156360905:True:=⟨⟩
theorem tw14039797312738454376:True:=⟨⟩
theorem tw548771823839039982:True:=⟨⟩
theorem tw7659256507581627537:True:=⟨⟩
theorem tw16194908902490174138:True:=⟨⟩
theorem tw18335138124840686356:True:=⟨⟩
theorem tw10404043675759018080:True:=⟨⟩
theorem tw6864534706981537233:True:=⟨⟩
theorem tw4120013967972371015:True:=⟨⟩
theorem tw6628535748680592611:True:=⟨⟩
theorem tw5243509876852497815:True:=⟨⟩
theorem tw14914453321788635980:True:=⟨⟩
theorem tw14556350549693428000:True:=⟨⟩
theorem tw1324411359579768149:True:=⟨⟩
theorem tw16365833229423915865:True:=⟨⟩
theorem tw13330182130363301775:True:=⟨⟩
theorem tw3208986312653988600:True:=⟨⟩
theorem tw4519583492832273025:True:=⟨⟩
theorem tw4197776387693472949:True:=⟨⟩
theorem tw11616446809307906642:True:=⟨⟩
theorem tw16805535807524001491:True:=⟨⟩
theorem tw8639059005911050730:True:=⟨⟩
theorem tw10197576238857753187:True:=⟨⟩
theorem tw7907166575207009260:True:=⟨⟩
theorem tw17182790281901143211:True:=⟨⟩
theorem tw3414022604443021175:True:=⟨⟩
theorem tw4530848884755146817:True:=⟨⟩
theorem tw17320617876402903069:True:=⟨⟩
theorem tw7566826152177033616:True:=⟨⟩
theorem tw4166874325150148565:True:=⟨⟩
theorem tw8257423179701063865:True:=⟨⟩
theorem tw10460553729765150840:True:=⟨⟩
theorem tw4901044151041930368:True:=⟨⟩
theorem tw9092650691028851303:True:=⟨⟩
theorem tw3022570923936922148:True:=⟨⟩
theorem tw2927254110298795417:True:=⟨⟩
theorem tw1184335855672535857:True:=⟨⟩
theorem tw7114507962497522128:True:=⟨⟩
theorem tw9338872633577757497:True:=⟨⟩
end PySem.W.Fast
open PySem PySem.W PyProof.Rows
set_option maxRecDepth 100000 in
set_option maxHeartbeats 0 in
theorem PySem.Challenge.cw_roofpost_k72_texts_bent_holds : PySem.Challenge.rw_roofpost_k72_texts_bent.Holds := by
 w_on;(refine holds_law wSaid λrY=>?_);k_head;(case hw=>w_witness2)
 k_fill
 refine Own.walk (l:=rw_roofpost_k72_texts_bent) Own.law_true rfl rfl (λw h tz=>PySem.W.kIn_of tz) ?F
 case F =>
  intro w mg fa h KX G gP;refine' Own.all_mk gP (Own.dn KX G ?_ ?_ ?_ ?_) (Own.dn KX G ?_ ?_ ?_ ?_) (Own.dn KX G ?_ ?_ ?_ ?_) (Own.dn KX G ?_ ?_ ?_ ?_) (Own.dn KX G ?_ ?_ ?_ ?_) (Own.dn KX G ?_ ?_ ?_ ?_) (Own.dn KX G ?_ ?_ ?_ ?_) (Own.dn KX G ?_ ?_ ?_ ?_) (Own.dn KX G ?_ ?_ ?_ ?_) (Own.dn KX G ?_ ?_ ?_ ?_) (Own.dn KX G ?_ ?_ ?_ ?_) (Own.dn KX G ?_ ?_ ?_ ?_) (Own.dn KX G ?_ ?_ ?_ ?_) (Own.dn KX G ?_ ?_ ?_ ?_) (Own.dn KX G ?_ ?_ ?_ ?_) (Own.dn KX G ?_ ?_ ?_ ?_) (Own.dn KX G ?_ ?_ ?_ ?_) (Own.dn KX G ?_ ?_ ?_ ?_) (Own.dn KX G ?_ ?_ ?_ ?_) (Own.dn KX G ?_ ?_ ?_ ?_) (Own.dn KX G ?_ ?_ ?_ ?_) (Own.dn KX G ?_ ?_ ?_ ?_) (Own.dn KX G ?_ ?_ ?_ ?_) (Own.dn KX G ?_ ?_ ?_ ?_) (Own.dn KX G ?_ ?_ ?_ ?_) (Own.dn KX G ?_ ?_ ?_ ?_) (Own.dn KX G ?_ ?_ ?_ ?_) (Own.dn KX G ?_ ?_ ?_ ?_) (Own.dn KX G ?_ ?_ ?_ ?_) (Own.dn KX G ?_ ?_ ?_ ?_) (Own.dn KX G ?_ ?_ ?_ ?_) (Own.dn KX G ?_ ?_ ?_ ?_) (Own.dn KX G ?_ ?_ ?_ ?_) (Own.dn KX G ?_ ?_ ?_ ?_) (Own.dn KX G ?_ ?_ ?_ ?_) (Own.dn KX G ?_ ?_ ?_ ?_) (Own.dn KX G ?_ ?_ ?_ ?_) (Own.dn KX G ?_ ?_ ?_ ?_) (Own.dn KX G ?_ ?_ ?_ ?_) (Own.dn KX G ?_ ?_ ?_ ?_) (Own.dn KX G ?_ ?_ ?_ ?_) (Own.dn KX G ?_ ?_ ?_ ?_) (Own.dn KX G ?_ ?_ ?_ ?_) (Own.dn KX G ?_ ?_ ?_ ?_) (Own.dn KX G ?_ ?_ ?_ ?_) (TR KX G ?_) (TR KX G ?_) (TR KX G ?_) (TR KX G ?_) (TR KX G ?_) (TR KX G ?_) (TR KX G ?_) (TR KX G ?_) (TR KX G ?_) (TR KX G ?_) (TR KX G ?_) (TR KX G ?_) (TR KX G ?_) (TR KX G ?_) (TR KX G ?_) (TR KX G ?_) (TR KX G ?_) (Zx KX G ?_) (Zx KX G ?_) (Zx KX G ?_) (Zx KX G ?_) (Zx KX G ?_) (Zx KX G ?_) (DL.Qa KX G ?X1)
  any_goals k_is
  all_goals kernel_rfl
