import PyProof.Rows.All
import Wide.All
import OpenK.AllK
import Wide.FinOn
import Lean
import PyProof.EqAt
import PyProof.EqKinds
import PyProof.TupleCall
import PyProof.NeKinds
import PyProof.IsiSeqPairs
import PyProof.IsiNone
import KE.KSortTup
import KE.KRevSl
import PySem.Challenge.RW_roofpost_k30_chains_to_holds
set_option Elab.async false
set_option linter.all false
open Array (toList)
open Array.Perm (trans)
open Int (not_lt)
open List (length map map_nil sum_cons)
open List.Pairwise (imp_of_mem)
open List.Perm (swap)
open Option (getD_none map_some)
open PUnit (unit)
open PySem.Builtin.Frozenset (newClass slot0 updateFrom)
open PySem.Builtin.List (listExtendWith listLengthHint)
open PySem.Builtin.Range (rangeSize)
open PySem.Builtin.Slice (sliceApplied)
open PySem.Builtin.SmallTypes (stopIteration)
open PySem.Builtin.Tuple (tupleHashOf tupleItemsOf)
open PySem.Data (fields seq)
open PySem.IsiPair (bool_bool bool_int bool_list bool_str int_bool int_list int_str int_tuple str_bool str_int str_list str_str str_tuple)
open PySem.Obj (putSet)
open PySem.Paired (snoc)
open PySem.SeqAt (ne_of_list_tuple)
open PySem.Value (type)
open PySem.W (codeIn methodObj nsIn)
set_option maxRecDepth 100000
open PySem renaming wpAny_bind→a_,Value→b_,Shared→c_,wpAny_pure→d_,starEach→e_,Addr→l_,wpAny→q_,model→r_,sizeLine→x_,Program→A_,World→I_,Heap→L_,Expr→Qe,eval→Qf,wpAny_newObj_type→Qh,backTo→Qk,Stmt→Qo,compareOp→Qq,wpAny_callSpecial?_slot→Qr,wpAny_mono→Qs,wpAny_holding→Qv,wpAny_call_entry→Qy,wpAny_truthy_bool→Qz,wpAny_setState_of→QA,NameKind→QE,SetTable→QI,foldedSetIterable→QP,wpAny_seqItems→QT,mainGlobals→QV,swapsWith→QZ,bootBuiltins→Q2,Around→Q6,sizeLine_eq→Q7,cLine→Q8,codeAny_builtin→Rb,behindInMarks→Rf,plainId_quiet→Rg,assignEach→Ri,wpAny_passesOwn→Rn,FuncData→Rp,Builtin→Rr,wpAny_field→Rs,wpAny_pyIter_list→Rt,binaryOp→Ry,bindArgs→Rz,wpAny_of_eq→RD,wpAny_Call_Name_kw→RG,sysModules→RR,codeAny_mono→RV,wpAny_isInstance→RX,argBest→R9,wpAny_updateSeq→R_,IsPair→Sd,wpAny_setField_rec→Se,sliceBounds→Sg,codeAny→Sk,wpAny_setField→Sl,ofAClassStatement→Ss,searchCouldBeSeen→Su,pyNext→Sz,wpAny_attempt→SG,wpAny_letGo→SO,wpAny_execs_nil→SV,letOwnedTupleGo→SW,wpAny_specialOf→SX,wpAny_setEntries_of→S2,holding→S4,Scope→S_,assign→Td,hashByValue→Tx,attributeBase→TC,wpAny_comprehension_free→TJ,PassesOwn→TQ,lastMarks→TR,noFill_tuple_add→TU,pickOrder→T4,wpAny_askSetting→T5,rawInt→T_,getItem→Uc,Keyword→Uf,builtinLookup_eq_fast→Ut,subscripted→Ux,keywordEach→Uy,firstArgMember→Uz,wpAny_updateSeq_pair→UA,isSubtype_stop→UB,wpAny_tryCatch→UD,tupleKind→UL,callerA→UN,valueAt→UO,wpAny_standAt→UW,swapsWithSole→UX,swappedStores→UY,seq_tuple_add→UZ,IsZip→U2,pyIter→U4,IsPart→U5,tupleKind_room_in1→U8,wpAny_pyIter_tuple→U9,wpAny_rule→Va,wpAny_assign_Name→Ve,BindsTo→Vf,concat_meets→Vh,wpAny_typeOf→Vi,slot_list_getitem→Vj,wpAny_pyIter_enum→Vn,wpAny_storeSet_of→Vs,wpAny_pyIter_slot→Vt,again→Vz,seqIndex_of→VB,atKey→VD,builtinsNs→VJ,isTrue→VL,wpAny_Name→VM,bindL→VO,bindC→VP,backToKw→VS,call_meets→VT,standAt→V7,setItem→V9,typeOf→V',collect→Wb,setNext→We
open PySem.Heap renaming get?_push_of_some→f_,get?_push_size→z_,lt_size→H_,get?_update_other→Qc,get?_update_self→QH,size_push→RJ
open List renaming getElem?_eq_getElem→g_,getD_eq_getElem?_getD→h_,mem_cons_of_mem→i_,mem_cons_self→k_,getElem?_eq_some_iff→m_,size_toArray→o_,length_append→p_,length_map→s_,mem_singleton→t_,getElem?_map→u_,all_eq_true→v_,mem_of_getElem?→B_,map_cons→D_,mem_cons→E_,mem_map→F_,mem_filter→G_,mem_append→K_,mem_append_right→M_,exists_cons_of_length_eq_add_one→N_,drop_eq_getElem_cons→P_,length_replicate→Qa,length_cons→Qi,flatMap_cons→Qj,replicate→Ql,filter_append→Qm,getElem_mem→Qt,take_length→Qu,range→Qw,flatMap_append→QF,take_succ→QK,mem_flatMap→QM,zip_cons_cons→QN,nodup_cons→QQ,any_eq_true→QW,getElem?_append_right→QX,all_cons→QY,append_nil→Q0,length_eq_zero_iff→Q1,mem_append_left→Q_,getElem?_set_ne→Ra,take_append_drop→Rh,findSome?_eq_none_iff→Rj,mem_range→Rm,mem_of_mem_take→Ro,getElem?_append_left→Rq,append_assoc→Ru,exists_of_findSome?_eq_some→Rv,map_append→Rw,getElem?_replicate→RA,getElem?_set_self→RF,drop_of_length_le→RH,singleton_append→RM,range_succ_eq_map→RN,length_drop→RS,filter_sublist→RU,getElem?_eq_none→RW,length_filter_le→R0,getElem?_zip_eq_some→R4,any_cons→R6,length_set→Sa,find?_cons→Sb,forIn_cons→Sc,eraseIdx_cons_succ→Sh,filter_cons→Si,filter_cons_of_pos→Sj,drop_eq_nil_of_le→So,getElem_of_mem→Sq,length_singleton→Sv,nodup_nil→SB,foldl_cons→SE,getElem?_drop→SF,pairwise_cons→SH,length_take→SN,not_mem_nil→SQ,getElem_toArray→SS,mem_of_mem_drop→S0,length_range→S5,foldl_append→S8,nodup_append→S9,forIn_nil→S',filterMap_cons→Tb,mem_filterMap→Tf,drop_succ_cons→Th,length_pos_iff→Tj,mergeSort_perm→Tl,flatMap_assoc→Tp,pairwise_iff_getElem→Tq,getElem_map→Tv,getElem?_take_of_lt→TB,Pairwise→TF,getElem_range→TH,length_erase_of_mem→TM,find?_eq_none→TN,zipIdx_cons→TZ,map_drop→T6,filter_cons_of_neg→T7,getElem_cons_succ→Uj,take_of_length_le→Uk,filter_eq_nil_iff→Ul,drop_eq_nil_iff→UC,map_flatMap→UK,map_map→UP,take_succ_cons→UQ,filter_eq_self→UT,findSome?_cons→UU,nil_append→U_,append_of_mem→Vc,map_mergeSort→Vd,take_sublist→Vg,pairwise_map→Vq,find?_append→Vx,set_set→VG,of_mem_zip→VQ,length_zip→VX,Nodup→V1,map_take→V4,filter→V5
open Bool renaming false_ne_true→j_,and_eq_true→Qn,false_eq_true→R8,not_true→SL,eq_iff_iff→S1,eq_false_iff→Tz,not_eq_true'→Ug,and_eq_false_iff→Us,false_and→Uu,or_eq_false_iff→UE,false_or→UV
open Array renaming getElem?_eq_getElem→n_,getElem?_eq_some_iff→Qd,length_toList→QC,getD_eq_getD_getElem?→Rk,getElem?_eq_none→RI,getElem_mem→RP,perm_iff_toList_perm→RT,mem_iff_getElem?→RZ,mem_of_getElem?→Sy,getElem_of_mem→SR,size_extract→S7,getElem?_extract→Uh,forIn_toList→Ui,getElem?_toList→Uq,getElem_toList→UF,mem_toList_iff→UH,getElem?_push→US,getD→Wh
open Nat renaming le_refl→w_,le_trans→y_,lt_of_lt_of_le→J_,ne_of_lt→Qg,zero_le→Qp,le_add_right→Q5,lt_irrefl→Rl,lt_succ_of_lt→Sn,lt_trichotomy→SJ,le_of_lt→SM,lt_succ_self→S6,ne_of_gt→Te,lt_or_ge→Tk,le_of_not_lt→TY,not_lt_zero→UG,le_of_eq→Vk,le_of_lt_succ→Vp,succ_mul→Vw,le_succ→VE,zero_add→VY,succ_pos→V0,mod_lt→Wd
open Option renaming map_eq_some_iff→C_,isSome_iff_exists→R5
open PyProof.Rows renaming callWith_type1→O_,slot_tuple_getitem→Rx,callWith_builtin1→SA,seqObj→SC,AllBare→Ts,envOfC→Ua,subscriptTail_builtinR→Ud,subscriptTail→U0,IntsAre→VF,IsTup→VI,boot_range→VN,Subscript_→VR,Call_→Wg
open Option.some renaming inj→Qb
open Ne renaming symm→Qx
open PySem.W renaming mg_none_of→QG,keepIn→Re,fnOf→Ub,kas_rev→Vo,less→VV,Looks→VZ,OpenLaw→V_,WShape→Wa
open PySem.SetTable renaming insertAt→QJ,runEnd→RL,below→Sx,bits→UR,turns→V2,leap→Wc
open Int renaming eq_ofNat_of_zero_le→Q9,toNat_natCast→R7,emod_lt_of_pos→Sr,emod_nonneg→Tw,le_of_lt→Vl,le_trans→Vv
open PySem.F renaming plain_min_loop→RB,called_set→Sf,slot_zip_next→SY,slot_tuple_iterator_next→Ti,args_tuple_add_2→TV,entry_tuple_add→Um,plainAttrs_list→Uo,slot_enumerate_next→Ur,slot_tuple_add→Uv,args_zip_next_1→Vm,slot_tuple_hash→Vr,plain_list_iadd→Vu
open PyProof.Rows.F renaming plain_set_update_loop→RC,entry_set_update_loop→T3
open PySem.PassesOwn renaming never→RE
open PySem.Around renaming under_plainId→RK
open List.Sublist renaming refl→RQ
open Nat.succ renaming inj→RY
open PySem.Obj renaming data_mapFields→Sm,isFreed_of_fields→Sw,cls_mapFields→Tu,mapSeq→Ue
open PySem.SetTable.layClean renaming free→SK
open Function renaming comp_def→SU
open Classical renaming byContradiction→SZ
open Sum renaming inl→S3,inr→T9
open PySem.Calls renaming Name_function_global→Tc,spliced_cons→Tg,spliced_nil→Tt
open PySem.SetTable.probe renaming go→Tn
open PySem.AutoSeq1 renaming wpAny_loadPart'→TK
open PySem.Str renaming ofString→TX
open PySem.Builtin.Slice renaming slicePlaces→Uw,sliceAdjust→VA
open ForInStep renaming done→UI,yield→VU
open List.Perm renaming refl→UJ
open PySem.Data renaming cell→UM
open Prod.mk renaming injEq→U3
open PySem.Builtin.Tuple renaming tupleExact→U6
open True renaming intro→U7
open PySem.Walks renaming list→Vb
open PySem.SeqAt renaming RcNeAt→Vy,EqAt→V6
open PySem.Builtin.List renaming listTooLong→VC
open Iff renaming rfl→VH
open PySem.Builtin.SmallTypes renaming nextOf→VW
open False renaming elim→V8
theorem wSaid:PySem.Challenge.rw_roofpost_k30_chains_to_holds.wellSaid=true:=by decide +kernel
local macro_rules|`(tactic|omega)=>`(tactic|first|with_reducible decide|with_reducible assumption|with_reducible (refine Nat.le_trans (m:=?x) ?p ?q;(case p=>assumption);(case q=>decide))|with_reducible (refine Int.le_trans (b:=?x) ?p ?q;(case p=>assumption);(case q=>decide))|with_reducible (refine Int.lt_of_lt_of_le (b:=?x) ?p ?q;(case p=>assumption);(case q=>decide))|with_reducible (refine Nat.lt_of_le_of_lt (m:=?x) ?p ?q;(case p=>assumption);(case q=>decide))|lia|omega (config:={}))
noncomputable section
variable{us vs ae its' fY:List PySem.Value}{a b f z l1 l2 fa S:PySem.Addr}{u cd pm ct oc vl vu:PySem.Value}{h low most:Int}{x y qual:PySem.Str}{g':Array PySem.GenState}{t' i j k n tk m x1 ep kn ar kk:Nat}{d':PySem.Drawn}{ch fp:List PySem.Addr}{e tg iter ie:PySem.Expr}{fR aa:List (PySem.Addr×PySem.Obj)}{N:Int->List Int}{A:PySem.Around}{s' s2 aB:PySem.Shared}{pos aH p1 bp aN p2 py cG tp cH p':PySem.Pos}{c hi:Option Int}{es:Array (Int×PySem.Value)}{p rs L:List (Int×Int)}{op bX:PySem.CmpOp}{fd:PySem.FuncData}{ps cw:List PySem.Str}{mg:PySem.Str->Option PySem.Value}{base h':PySem.Heap}{scope:PySem.Scope}{params:PySem.Arguments}{an od:Option PySem.Addr}{dW:Array (Option PySem.Value)}{sp neg:Bool}{ws T as ss:List (List (Int×Int))}{aj cells:Array PySem.Value}{l ns:List Int}{args:List PySem.W.WData}{env:PySem.Env}{iz aY bA aE:List PySem.Expr}{C:Int->Int->Bool}{bt:Nat->Nat->Bool}{eqf:Nat->Bool}{ag:List (List Int)}{pr:Int×Int}
namespace L2
open PySem PySem.Spec PyProof.Rows
abbrev Key:=Sum Int Str
noncomputable def keyIs:Key->b_->Bool
 | .inl k,v=>b_.isInt k v
 | .inr x,v=>b_.isStrOf x v
noncomputable def keyH(w:I_):Key->Int
 | .inl k=>hashInt k
 | .inr x=>hashStr w x
theorem tL:∀{k:Key}{v:b_},keyIs k v=true->(∃i t,k=S3 i/\v=b_.int i t)\/(∃x t,k=T9 x/\v=b_.str x t)
 | .inl i,v,h=>by
  obtain⟨t,e⟩:=b_.isInt_shape (k:=i) (v:=v) h;exact .inl ⟨i,t,rfl,e⟩
 | .inr x,v,h=>by
  obtain⟨t,e⟩:=b_.isStrOf_shape (x:=x) (v:=v) h;exact .inr ⟨x,t,rfl,e⟩
theorem L4(i:Int)(t:Tok):keyIs (.inl i) (.int i t)=true:=by simp[keyIs,b_.isInt]
theorem LQ(x:Str)(t:Tok):keyIs (.inr x) (.str x t)=true:=by simp[keyIs,b_.isStrOf]
theorem Md(a b:Int):decide ((S3 a:Key)=S3 b)=(a == b):=by
 by_cases e:a=b
 ·subst e;simp
 ·have h:¬(S3 a:Key)=S3 b:=λq=>e (S3.inj q)
  rw[decide_eq_false h];exact(beq_eq_false_iff_ne.mpr e).symm
theorem FN(a b:Str):decide ((T9 a:Key)=T9 b)=decide (a=b):=by
 by_cases e:a=b
 ·subst e;simp
 ·have h:¬(T9 a:Key)=T9 b:=λq=>e (T9.inj q)
  rw[decide_eq_false h,decide_eq_false e]
theorem JD(a:Int)(b:Str):decide ((S3 a:Key)=T9 b)=false:=decide_eq_false (λq=>nomatch q)
theorem GA(a:Str)(b:Int):decide ((T9 a:Key)=S3 b)=false:=decide_eq_false (λq=>nomatch q)
noncomputable def mixKind(prog:A_)(w:I_):PySem.KeyKind prog w Key where
 is:=keyIs
 hash:=keyH w
 inj:=λv a b ha hb=>by
  rcases tL ha with⟨i,t,rfl,rfl⟩ | ⟨x,t,rfl,rfl⟩
  ·rcases tL hb with⟨j,u,rfl,e⟩ | ⟨y,u,rfl,e⟩
   ·injection e with e1 _;rw[e1]
   ·exact nomatch e
  ·rcases tL hb with⟨j,u,rfl,e⟩ | ⟨y,u,rfl,e⟩
   ·exact nomatch e
   ·injection e with e1 _;rw[e1]
 byValue:=λk v h=>by
  rcases tL h with⟨i,t,rfl,rfl⟩ | ⟨x,t,rfl,rfl⟩<;>rfl
 pyHash:=λhv h=>by
  rcases tL hv with⟨i,t,rfl,rfl⟩ | ⟨x,t,rfl,rfl⟩
  ·exact wpAny_pyHash_int h
  ·exact wpAny_pyHash_str h
 eqBool:=λhu hv h=>by
  rcases tL hu with⟨i,t,rfl,rfl⟩ | ⟨x,t,rfl,rfl⟩
  ·rcases tL hv with⟨j,u,rfl,rfl⟩ | ⟨y,u,rfl,rfl⟩
   ·rw[Md] at h;exact wpAny_eqBool_int h
   ·rw[JD] at h;exact SeqAt.EqAt.int_str i t y u _ _ _ _ h
  ·rcases tL hv with⟨j,u,rfl,rfl⟩ | ⟨y,u,rfl,rfl⟩
   ·rw[GA] at h;exact SeqAt.EqAt.str_int x t j u _ _ _ _ h
   ·rw[FN] at h;exact wpAny_eqBool_str h
 «strs»:=λk x t v h=>by
  rcases tL h with⟨i,u,rfl,e⟩ | ⟨y,u,rfl,e⟩
  ·exact nomatch e
  ·injection e with e1 _
   subst e1;cases v<;>rfl
theorem Ml(prog:A_)(w:I_)(i:Int)(t:Tok):(mixKind prog w).is (.inl i) (.int i t)=true:=L4 i t
theorem NO(prog:A_)(w:I_)(x:Str)(t:Tok):(mixKind prog w).is (.inr x) (.str x t)=true:=LQ x t
inductive V where
 | non | bl (b:Bool) | int (i:Int) | str (x:Str) | byt (b:Array UInt8) | flt (b:UInt64) | ref (a:l_) | ty (n:String)
 deriving DecidableEq
def RelV:V->b_->Prop
 | .non,u=>u=b_.none
 | .bl b,u=>u=b_.bool b
 | .int i,u=>∃t,u=b_.int i t
 | .str x,u=>∃t,u=b_.str x t
 | .byt b,u=>∃t,u=b_.bytes b t
 | .flt b,u=>∃t,u=b_.float b t
 | .ref a,u=>u=b_.ref a
 | .ty n,u=>u=type n
abbrev Vals:List V->List b_->Prop:=Paired RelV
theorem Vals.length{xs:List V}(r:Vals xs us):xs.length=us.length:=Paired.length r
theorem Vals.get:∀{xs:List V}{us:List b_}{i:Nat}{x:V},Vals xs us->xs[i]?=some x->∃u,us[i]?=some u/\RelV x u
 | _,_,_,_,.nil,e=>by simp at e
 | _,_,0,_,.cons r _,e=>by simp at e;subst e;exact⟨_,rfl,r⟩
 | _,_,i+1,x,.cons _ t,e=>by
  obtain⟨u,h1,h2⟩:=Vals.get (i:=i) (x:=x) t (by simpa using e);exact⟨u,by simpa using h1,h2⟩
theorem Vals.set{x:V}{u:b_}(r:RelV x u):∀{xs:List V}{us:List b_} (i:Nat),Vals xs us->Vals (xs.set i x) (us.set i u)
 | _,_,_,.nil=>.nil
 | _,_,0,.cons _ t=>.cons r t
 | _,_,i+1,.cons q t=>.cons q (Vals.set r i t)
theorem Vals.append:∀{xs ys:List V}{us ws:List b_},Vals xs us->Vals ys ws->Vals (xs++ys) (us++ws)
 | _,_,_,_,.nil,s=>s
 | _,_,_,_,.cons r t,s=>.cons r (Vals.append t s)
theorem Vals.take:∀{xs:List V}{us:List b_} (n:Nat),Vals xs us->Vals (xs.take n) (us.take n)
 | _,_,0,_=>.nil
 | _,_,_+1,.nil=>.nil
 | _,_,n+1,.cons r t=>.cons r (Vals.take n t)
theorem Vals.drop:∀{xs:List V}{us:List b_} (n:Nat),Vals xs us->Vals (xs.drop n) (us.drop n)
 | _,_,0,r=>r
 | _,_,_+1,.nil=>.nil
 | _,_,n+1,.cons _ t=>Vals.drop n t
def RelO:Option V->Option b_->Prop
 | some v,some u=>RelV v u
 | none,none=>True
 | _,_=>False
def KV{κ:Type}:List (κ×V)->List (κ×b_)->Prop:=Paired λ(p:κ×V) (q:κ×b_)=>p.1=q.1/\RelV p.2 q.2
noncomputable def kV:Key->V
 | .inl i=>.int i
 | .inr x=>.str x
inductive HO where
 | lst (xs:List V)
 | tup (xs:List V)
 | dK (kvs:List (Key×V)) | dT (kvs:List (List Key×V))
 | set (S:Int->Bool) (n:Nat)
 | ins (C dx:l_) (fs:List (Str×V))
 | own (x:l_)
 | xd (fs:List (Str×V))
 | met (f x:l_)
 | rng (lo hi:Int)
 | frz (o:Obj) (u:HO)
 | tbl (ps:Array b_)
 | ext (φ:L_->Prop)
abbrev Hp:=l_->Option HO
noncomputable def upd(H:Hp)(a:l_)(o:HO):Hp:=λb=>if b=a then some o else H b
theorem r9{H:Hp}{o:HO}:upd H a o a=some o:=by unfold upd;rw[if_pos rfl]
theorem rJ{H:Hp}{o:HO}(h:b≠a):upd H a o b=H b:=by unfold upd;rw[if_neg h]
theorem KW{H:Hp}{o u:HO}(h:H a=some o)(h':H b=some u)(d:o≠u):a≠b:=by
 intro e;subst e;rw[h] at h';exact d (Qb h')
theorem sZ{H:Hp}{o:HO}(h:H a=some o)(h':H b=none):a≠b:=by
 intro e;subst e;rw[h] at h';cases h'
section
variable (P:A_)(w:I_)
def ObjOk(H:Hp)(h:L_)(a:l_):HO->Prop
 | .lst xs=>xs.length<=x_/\∃(ae:List b_) (n:Nat),Vals xs ae/\h.get? a=some { cls:=.type "list", data:=.seq ae.toArray n }
 | .tup xs=>xs.length<=x_/\∃ae:List b_,Vals xs ae/\VI h a ae.toArray
 | .dK kvs=>kvs.length<=x_/\(a == RR)=false/\∃vs,KV kvs vs/\h.DictOf (mixKind P w) a vs
 | .dT kvs=>kvs.length<=x_/\(a == RR)=false/\∃xs:List (List Key×l_×b_),
   Paired (λ(p:List Key×V) (q:List Key×l_×b_)=>p.1=q.1/\H q.2.1=some (.tup (p.1.map kV))/\RelV p.2 q.2.2) kvs xs ∧
   ∃o es ep,h.get? a=some o/\o.ExactDict/\o.data=.dict es ep/\es.toList=xs.map (entryOfKey (UL (mixKind P w)))/\(xs.map (·.1)).Nodup
 | .set S n=>h.SetOf (intKind P w) a S n
 | .ins C dx fs=>H dx=some (.own a)/\fs.length<=1000/\dx≠a/\h.get? a=some (PySem.W.instObj C dx) ∧
   ∃mA,h.Ns1 dx mA/\(∀f,RelO (fs.lookup f) (mA f))/\PySem.Within mA (fs.map (·.1))
 | .own _=>∃o,h.get? a=some o
 | .xd fs=>∃mA,h.Ns1 a mA/\∀f,RelO (fs.lookup f) (mA f)
 | .rng lo hi=>∃t u v,h.get? a=some { cls:=.type "range", data:=.fields #[.int lo t,.int hi u,.int 1 v] }
 | .frz o u=>h.get? a=some o/\ObjOk H h a u
 | .tbl ps=>h.get? a=some { cls:=.none,data:=.fields ps }
 | .met f x=>h.get? a=some (methodObj (.ref f) (.ref x))
 | .ext φ=>φ h/\(∃o,h.get? a=some o)/\∀h1 h2:L_,φ h1->(∀o,h1.get? a=some o->h2.get? a=some o)->φ h2
def HOk(H:Hp)(h:L_):Prop:=∀a o,H a=some o->ObjOk P w H h a o
end
section
variable{P:A_}{w:I_}{H H':Hp}{h:L_}{o:HO}
theorem ObjOk.lt(x:ObjOk P w H h a o):a < h.objs.size:=by
 cases o with
 | lst xs=>obtain⟨_,_,_,_,e⟩:=x;exact H_ e
 | tup xs=>obtain⟨_,_,_,p⟩:=x;exact p.lt
 | dK kvs=>obtain⟨_,_,_,_,o,_,_,e,_⟩:=x;exact H_ e
 | dT kvs=>obtain⟨_,_,_,_,o,_,_,e,_⟩:=x;exact H_ e
 | set S n=>obtain⟨o,_,_,_,e,_⟩:=x;exact H_ e
 | ins C dx fs=>obtain⟨_,_,_,e,_⟩:=x;exact H_ e
 | own y=>obtain⟨_,e⟩:=x;exact H_ e
 | xd fs=>obtain⟨_,⟨_,_,_,e,_⟩,_⟩:=x;exact H_ e
 | rng lo hi=>obtain⟨_,_,_,e⟩:=x;exact H_ e
 | frz ob u=>obtain⟨e,_⟩:=x;exact H_ e
 | tbl ps=>exact H_ (show h.get? a=some _ from x)
 | met f y=>exact H_ (show h.get? a=some _ from x)
 | ext φ=>obtain⟨_,⟨_,e⟩,_⟩:=x;exact H_ e
theorem Paired.mapP{α Z:Type}{F G:α->Z->Prop}:∀{jv:List α}{jw:List Z},Paired F jv jw->(∀a b,F a b->G a b)->Paired G jv jw
 | _,_,.nil,_=>.nil
 | _,_,.cons r t,f=>.cons (f _ _ r) (Paired.mapP t f)
theorem ObjOk.stay(x:ObjOk P w H h a o)(k:∀b u,(b=a\/H b=some (.own a))->h.get? b=some u->h'.get? b=some u)(ho:∀b,H b=some (.own a)->H' b=some (.own a))(ht:∀b xs,H b=some (.tup xs)->H' b=some (.tup xs)):ObjOk P w H' h' a o:=by
 induction o with
 | lst xs=>obtain⟨z,ae,n,r,e⟩:=x;exact⟨z,ae,n,r,k _ _ (.inl rfl) e⟩
 | tup xs=>obtain⟨z,ae,r,ob,e,c⟩:=x;exact⟨z,ae,r,ob,k _ _ (.inl rfl) e,c⟩
 | dK kvs=>obtain⟨z,y,vs,r,ob,es,ep,e,c⟩:=x;exact⟨z,y,vs,r,ob,es,ep,k _ _ (.inl rfl) e,c⟩
 | dT kvs =>
  obtain⟨z,y,xs,r,ob,es,ep,e,c⟩:=x;exact⟨z,y,xs,Paired.mapP r λp q z=>⟨z.1,ht _ _ z.2.1,z.2.2⟩,ob,es,ep,k _ _ (.inl rfl) e,c⟩
 | set S n=>obtain⟨ob,es,ep,t,e,c⟩:=x;exact⟨ob,es,ep,t,k _ _ (.inl rfl) e,c⟩
 | ins C dx fs =>
  obtain⟨d,z,ne,e,mA,⟨od,es,ep,e2,c⟩,r⟩:=x;exact⟨ho _ d,z,ne,k _ _ (.inl rfl) e,mA,⟨od,es,ep,k _ _ (.inr d) e2,c⟩,r⟩
 | own y=>obtain⟨ob,e⟩:=x;exact⟨ob,k _ _ (.inl rfl) e⟩
 | xd fs=>obtain⟨mA,⟨od,es,ep,e,c⟩,r⟩:=x;exact⟨mA,⟨od,es,ep,k _ _ (.inl rfl) e,c⟩,r⟩
 | rng lo hi=>obtain⟨t,u,v,e⟩:=x;exact⟨t,u,v,k _ _ (.inl rfl) e⟩
 | frz ob u ih=>obtain⟨e,q⟩:=x;exact⟨k _ _ (.inl rfl) e,ih q⟩
 | tbl ps =>
  have e:h.get? a=some { cls:=.none,data:=.fields ps }:=x;show h'.get? a=some { cls:=.none,data:=.fields ps };exact k a _ (.inl rfl) e
 | met f y =>
  have e:h.get? a=some (methodObj (.ref f) (.ref y)):=x;show h'.get? a=some (methodObj (.ref f) (.ref y));exact k a _ (.inl rfl) e
 | ext φ=>obtain⟨p,⟨o,e⟩,st⟩:=x;exact⟨st _ _ p λo q=>k _ _ (.inl rfl) q,⟨o,k _ _ (.inl rfl) e⟩,st⟩
theorem HOk.lt(x:HOk P w H h)(e:H a=some o):a < h.objs.size:=(x a o e).lt
theorem HOk.fresh(x:HOk P w H h)(e:h.objs.size<=a):H a=none:=by
 cases q:H a with
 | none=>rfl
 | some u=>exact absurd (J_ (x.lt q) e) (Rl _)
theorem HOk.kept(x:HOk P w H h)(k:∀b u,h.get? b=some u->h'.get? b=some u):HOk P w H h':=λa o e =>
 (x a o e).stay (λb u _ q=>k b u q) (λ_ q=>q) λ_ _ q=>q
theorem HOk.laid(x:HOk P w H h)(k:∀b u,h.get? b=some u->h'.get? b=some u)(hp:h.objs.size<=a)(new:ObjOk P w (upd H a o) h' a o):HOk P w (upd H a o) h':=λb u e=>by
 have hn:=x.fresh hp;by_cases hb:b=a
 ·subst hb;rw[r9] at e;cases e;exact new
 ·rw[rJ hb] at e;exact(x b u e).stay (λc v _ q=>k c v q) (λc q=>by rw[rJ (sZ q hn)];exact q) λc xs q=>by rw[rJ (sZ q hn)];exact q
end
def Rd(H:Hp)(a:l_)(u:HO):Prop:=H a=some u\/∃o,H a=some (.frz o u)
theorem Rd.ok{P:A_}{w:I_}{H:Hp}{h:L_}{u:HO}(r:Rd H a u)(x:HOk P w H h):ObjOk P w H h a u:=by
 rcases r with r | ⟨o,r⟩
 ·exact x a u r
 ·obtain⟨_,q⟩:=x a _ r;exact q
def Mut:Option HO->Prop
 | some (.lst _)=>True
 | some (.dK _)=>True
 | some (.dT _)=>True
 | some (.set _ _)=>True
 | some (.ins _ _ _)=>True
 | some (.ext _)=>True
 | _=>False
section
variable{P:A_}{w:I_}{H:Hp}{h:L_}{x e:l_}{o':HO}
theorem HOk.write(ok:HOk P w H h)(mu:Mut (H x))(he:e=x\/H e=some (.own x))(k:∀b u,b≠e->h.get? b=some u->h'.get? b=some u)(fz:∃u,h'.get? e=some u)(new:ObjOk P w (upd H x o') h' x o'):HOk P w (upd H x o') h':=λb u q=>by
 have jx:∀c y,H c=some (.own y)->c≠x:=λc y r z=>by subst z;rw[r] at mu;exact mu
 have k6:∀c xs,H c=some (.tup xs)->c≠x:=λc xs r z=>by subst z;rw[r] at mu;exact mu
 by_cases hb:b=x
 ·subst hb;rw[r9] at q;cases q;exact new
 ·rw[rJ hb] at q;by_cases hbe:b=e
  ·have q':H b=some (.own x):=by
    rcases he with z | z
    ·exact absurd (hbe.trans z) hb
    ·rw[hbe];exact z
   rw[q] at q';cases q';obtain⟨v,hv⟩:=fz;exact⟨v,by rw[hbe];exact hv⟩
  ·refine(ok b u q).stay (λc v hc r=>k c v ?_ r) (λc r=>by rw[rJ (jx c b r)];exact r) λc xs r=>by rw[rJ (k6 c xs r)];exact r
   rcases hc with rfl | hc
   ·exact hbe
   ·rintro rfl
    rcases he with z | z
    ·exact jx c b hc z
    ·rw[hc] at z;cases z;exact hb rfl
end
structure Un(fs ex:List l_)(H H':Hp)(h h':L_):Prop where
 keep:∀b o,h.get? b=some o->H b=none->b∉fs->b∉ex->h'.get? b=some o
 slot:∀b o,h.get? b=some o->H b=none->b∈fs->b∉ex->∃sl,h'.get? b=some { o with slots:=sl }
 free:∀b o,h.get? b=some o->H b=none->b∉ex->H' b=none
 there:∀b o,h.get? b=some o->b∉ex->∃o',h'.get? b=some o'
 tups:∀b xs,H b=some (.tup xs)->H' b=some (.tup xs)
 frzs:∀b o u,H b=some (.frz o u)->H' b=some (.frz o u)
 tbls:∀b ps,H b=some (.tbl ps)->∃more,H' b=some (.tbl (ps++more))
section
variable{fs n5 ex qK:List l_}{H H1 H2:Hp}{h h1 h2:L_}{x e:l_}{o:HO}
theorem Un.any(u:Un fs ex H H1 h h1){ob:Obj}(q:h.get? b=some ob)(n:H b=none)(hx:b∉ex):∃sl,h1.get? b=some { ob with slots:=sl }:=by
 by_cases hb:b∈fs
 ·exact u.slot b ob q n hb hx
 ·exact⟨ob.slots,u.keep b ob q n hb hx⟩
theorem Un.kept(k:∀b u,h.get? b=some u->h'.get? b=some u):Un fs ex H H h h':=
 ⟨λb ob q _ _ _=>k b ob q,λb ob q _ _ _=>⟨ob.slots,k b ob q⟩,λ_ _ _ n _=>n,λb ob q _=>⟨ob,k b ob q⟩,λ_ _ q=>q,λ_ _ _ q=>q,λ_ ps q=>⟨#[],by rw[q];simp⟩⟩
theorem Un.refl:Un fs ex H H h h:=Un.kept λ_ _ q=>q
theorem Un.laid(k:∀b u,h.get? b=some u->h'.get? b=some u)(hp:h.objs.size<=a)(hn:H a=none):Un fs ex H (upd H a o) h h' where
 keep:=λb u q _ _ _=>k b u q
 slot:=λb u q _ _ _=>⟨u.slots,k b u q⟩
 free:=λb u q n _=>by rw[rJ (Qg (J_ (H_ q) hp))];exact n
 there:=λb u q _=>⟨u,k b u q⟩
 tups:=λb xs q=>by rw[rJ (sZ q hn)];exact q
 frzs:=λb u xs q=>by rw[rJ (sZ q hn)];exact q
 tbls:=λb ps q=>⟨#[],by rw[rJ (sZ q hn),q];simp⟩
theorem Un.write(mu:Mut (H x))(he:e=x\/H e=some (.own x))(k:∀b u,b≠e->h.get? b=some u->h'.get? b=some u)(fz:∃u,h'.get? e=some u):Un fs ex H (upd H x o) h h':=by
 have hx:∀b,H b=none->b≠x:=λb n z=>by subst z;rw[n] at mu;exact mu
 have hb:∀b,H b=none->b≠e:=λb n z=>by
  subst z
  rcases he with r | r
  ·exact hx b n r
  ·rw[n] at r;cases r
 have hm:∀b u,H b=some u->¬Mut (some u)->b≠x:=λb u q nm z=>by subst z;rw[q] at mu;exact nm mu
 refine⟨λb u q n _ _=>k b u (hb b n) q,λb u q n _ _=>⟨u.slots,k b u (hb b n) q⟩,λb u q n _=>by rw[rJ (hx b n)];exact n,λb u q _=>?_,
  λb xs q=>by rw[rJ (hm b _ q λz=>z)];exact q,λb u xs q=>by rw[rJ (hm b _ q λz=>z)];exact q,λb ps q=>⟨#[],by rw[rJ (hm b _ q λz=>z),q];simp⟩⟩
 by_cases hbe:b=e
 ·subst hbe;exact fz
 ·exact⟨u,k b u hbe q⟩
end
noncomputable def trk(h:L_)(H:Hp):List l_:=(Qw h.objs.size).filter λa=>(H a).isSome
noncomputable def hidT(h:L_)(H:Hp):L_:=PySem.W.hideAll h (trk h H)
theorem FF(h:L_)(H:Hp):(hidT h H).objs.size=h.objs.size:=PySem.W.hideAll_size _ _
theorem Ll{h:L_}{H:Hp}{o:Obj}(e:h.get? b=some o)(n:H b=none):(hidT h H).get? b=some o:=
 PySem.W.hideAll_get _ e λhm=>by
  have q:(H b).isSome=true:=(G_.mp hm).2;rw[n] at q;simp at q
theorem Gx{h:L_}{H:Hp}{o:Obj}(e:(hidT h H).get? b=some o):h.get? b=some o/\H b=none:=by
 have e':h.get? b=some o:=PySem.W.of_hideAll (trk h H) e;refine⟨e',?_⟩;cases q:H b with
 | none=>rfl
 | some x =>
  have hm:b∈trk h H:=G_.mpr ⟨Rm.mpr (H_ e'),by simp[q]⟩;have z:(hidT h H).get? b=none:=PySem.W.hideAll_none (trk h H) hm;rw[z] at e;cases e
structure Mod(K:PySem.W.Frag)(mg:Str->Option b_)(base:L_):Prop where
 kin:K.In base
 glob:base.Ns QV mg
 blt:∃mb,base.Ns VJ mb/\∀x:Str,x ≠ "__name__"->mb x=Q2 x
 nolimit:base.NoLimit
structure Cx where
 prog:A_
 w:I_
 K:PySem.W.Frag
 mg:Str->Option b_
 base:L_
 A:Q6
 N:List Str
 s₀:c_
 H₀:Hp
 env:Env
 outer:List Env
 stack:List Env
 ex:List l_
 fn:Str->Bool
 calm:Bool
 pn:List (l_×Obj)
 xe:b_->c_->Prop
noncomputable def frs(l:List Env):List l_:=l.filterMap (·.frame)
noncomputable abbrev Cx.fs(X:Cx):List l_:=frs X.outer
def Vis(sc:S_)(x:Str):Prop:=sc.names.lookup x=some .local\/sc.names.lookup x=some .cell\/sc.names.lookup x=some .free
def Loc(sc:S_)(x:Str):Prop:=sc.names.lookup x=some .local\/sc.names.lookup x=some .cell
noncomputable def visB(s:S_)(x:Str):Bool:=match s.names.lookup x with|some .local=>true|some .cell=>true|some .free=>true|_=>false
noncomputable def locB(s:S_)(x:Str):Bool:=match s.names.lookup x with|some .local=>true|some .cell=>true|_=>false
noncomputable def fnB(X:Cx)(x:Str):Bool:=X.fn x||match X.env.scope.names.lookup x with|some .local=>true|_=>false
theorem visI{s:S_}(h:visB s x=true):Vis s x:=by
 unfold visB at h;unfold Vis;split at h<;>simp_all
theorem locI{s:S_}(h:locB s x=true):Loc s x:=by
 unfold locB at h;unfold Loc;split at h<;>simp_all
theorem fnI{X:Cx}(h:fnB X x=true):X.fn x=true\/X.env.scope.names.lookup x=some .local:=by
 unfold fnB at h;cases e:X.fn x with
 | true=>exact .inl rfl
 | false=>rw[e,UV] at h;split at h<;>simp_all
def Look(env:Env)(h:L_)(m:Str->Option b_)(x:Str)(u:b_):Prop:=
 (env.kindOf x=some .local/\m x=some u)\/((env.kindOf x=some .cell\/env.kindOf x=some .free)/\∃c,env.cells.lookup x=some c/\h.IsCell c (some u))
structure Cx.Ok(X:Cx):Prop where
 mod:Mod X.K X.mg X.base
 kind:X.env.scope.kind=.function
 glob:X.env.globals=QV
 blt:X.env.builtins=VJ
 above:X.s₀.heap.objs.size<=X.env.locals
 inj:∀x y c,X.env.cells.lookup x=some c->X.env.cells.lookup y=some c->x=y
 has:∀x,(X.env.kindOf x=some .cell\/X.env.kindOf x=some .free)->∃c,X.env.cells.lookup x=some c
 cab:∀x c,X.fn x=true->X.env.cells.lookup x=some c->X.s₀.heap.objs.size<=c
 hd:X.calm=true->X.A.handled=none
 frames:X.A.frames=some X.stack
 stk:X.stack=X.outer\/(X.stack=X.env::X.outer/\X.env.frame=some X.env.locals)
 exf:∀b∈X.ex,b≠X.env.locals/\∀x c,X.env.cells.lookup x=some c->c≠b
 bs:∀b o,X.base.get? b=some o->X.s₀.heap.get? b=some o/\X.H₀ b=none
 bsz:X.base.objs.size<=X.s₀.heap.objs.size
 noex:∀b o,X.base.get? b=some o->b∉X.ex
 exfs:∀b∈X.ex,b∉X.fs
 funs:X.s₀.heap.FunFrames X.base X.outer
 frf:∀b∈X.fs,X.H₀ b=none
structure Inv(X:Cx)(aa:List (l_×Obj))(U:List (Option V))(H:Hp)(s:c_):Prop where
 ok:X.Ok
 os:s.os=X.s₀.os
 bare:Ts s.gens
 base:Un X.fs X.ex X.H₀ H X.s₀.heap s.heap
 loc:∃m,s.heap.Ns X.env.locals m/\∀(i:Nat) (x:Str) (v:V),X.N[i]?=some x->U[i]?=some (some v)->Vis X.env.scope x->∃u,RelV v u/\Look X.env s.heap m x u
 cell:∀x c,X.env.cells.lookup x=some c->∃v,s.heap.IsCell c v
 free:H X.env.locals=none
 freeC:∀x c,X.env.cells.lookup x=some c->H c=none
 pin:∀p∈X.pn++aa,s.heap.get? p.1=some p.2/\H p.1=none/\p.1≠X.env.locals/\p.1∉X.fs/\∀v,p.2.data≠.cell v
 hok:HOk X.prog X.w H s.heap
 len:U.length=X.N.length
section
variable{X:Cx}{U:List (Option V)}{H H':Hp}{s:c_}
theorem Cx.Ok.nofr(ok:X.Ok){o:Obj}(e:X.base.get? b=some o):b∉X.fs:=λhb=>by
 have:=(ok.funs.mem hb).1;rw[e] at this;cases this
theorem Inv.bs(I:Inv X aa U H s):∀b o,X.base.get? b=some o->s.heap.get? b=some o/\H b=none:=λb o e =>
 ⟨I.base.keep b o (I.ok.bs b o e).1 (I.ok.bs b o e).2 (I.ok.nofr e) (I.ok.noex b o e),I.base.free b o (I.ok.bs b o e).1 (I.ok.bs b o e).2 (I.ok.noex b o e)⟩
theorem Inv.bk(I:Inv X aa U H s):∀b o,X.base.get? b=some o->s.heap.get? b=some o:=λb o e=>(I.bs b o e).1
theorem Inv.mod(I:Inv X aa U H s):Mod X.K X.mg X.base:=I.ok.mod
theorem Inv.kIn(I:Inv X aa U H s):X.K.In s.heap:=I.ok.mod.kin.keeps I.bk
theorem Inv.lt(I:Inv X aa U H s):X.env.locals < s.heap.objs.size:=let ⟨_,hn,_⟩:=I.loc;hn.lt
theorem Inv.sz(I:Inv X aa U H s):X.s₀.heap.objs.size<=s.heap.objs.size:=y_ I.ok.above (SM I.lt)
theorem Inv.nofs(I:Inv X aa U H s)(h:s.heap.objs.size<=a):a∉X.fs:=λhb=>by
 obtain⟨_,o,ho,_⟩:=I.ok.funs.mem hb;exact absurd (J_ (H_ ho) (y_ I.sz h)) (Rl _)
theorem Inv.cne(I:Inv X aa U H s):∀x c,X.env.cells.lookup x=some c->c≠X.env.locals:=λx c e z=>by
 obtain⟨v,o,ho,hd⟩:=I.cell x c e;obtain⟨m,⟨o',es,ep,bV,cr,_⟩,_⟩:=I.loc;rw[z,bV] at ho;cases ho;rw[cr] at hd;cases hd
theorem Inv.funs(I:Inv X aa U H s):s.heap.FunFrames X.base X.outer:=by
 have all:∀(l:List Env),(∀b∈frs l,b∈X.fs)->X.s₀.heap.FunFrames X.base l->s.heap.FunFrames X.base l:=by
  intro l
  induction l with
  | nil=>intro _ _;trivial
  | cons env r ih =>
   intro hs hl;obtain⟨hk,⟨L,o,hf,hn,ho,hd⟩,hr⟩:=hl;have hL:L∈X.fs:=hs L (by unfold frs;rw[Tb,hf];exact k_);obtain⟨sl,e⟩:=I.base.slot L o ho (I.ok.frf L hL) hL λz=>I.ok.exfs L z hL
   exact⟨hk,⟨L,_,hf,hn,e,hd⟩,ih (λb hb=>hs b (by unfold frs;rw[Tb,hf];exact i_ _ hb)) hr⟩
 exact all X.outer (λ_ hb=>hb) I.ok.funs
theorem Inv.stack(I:Inv X aa U H s):s.heap.FunFrames X.base X.stack:=by
 rcases I.ok.stk with e | ⟨e,hf⟩
 ·rw[e];exact I.funs
 ·rw[e];obtain⟨m,hn,_⟩:=I.loc;refine .cons (by rw[I.ok.kind];decide) hf hn ?_ I.funs;exact L_.get?_none_of_le (y_ I.ok.bsz I.ok.above)
theorem Inv.stkSub(I:Inv X aa U H s):∀b∈frs X.stack,b∈X.env.locals::X.fs:=λb hb=>by
 rcases I.ok.stk with e | ⟨e,hf⟩
 ·rw[e] at hb;exact i_ _ hb
 ·rw[e] at hb;unfold frs at hb;rw[Tb,hf] at hb;exact hb
theorem Inv.stkFree(I:Inv X aa U H s):∀b∈frs X.stack,H b=none:=λb hb=>by
 rcases E_.mp (I.stkSub b hb) with e | hb
 ·rw[e];exact I.free
 ·obtain⟨_,o,ho,_⟩:=I.ok.funs.mem hb;exact I.base.free b o ho (I.ok.frf b hb) λz=>I.ok.exfs b z hb
theorem Inv.step(I:Inv X aa U H s)(bq:∀b∈ch,(b∈X.ex\/X.s₀.heap.objs.size<=b)/\b≠X.env.locals/\(∀x c,X.env.cells.lookup x=some c->c≠b)/\∀p∈X.pn++aa,p.1≠b)(keep:∀b o,b≠X.env.locals->b∉X.fs->b∉ch->s.heap.get? b=some o->H b=none->h'.get? b=some o)(slot:∀b o,b≠X.env.locals->b∈X.fs->b∉ch->s.heap.get? b=some o->H b=none->∃sl,h'.get? b=some { o with slots:=sl })(free:∀b o,b∉ch->s.heap.get? b=some o->H b=none->H' b=none)(there:∀b o,b∉ch->s.heap.get? b=some o->∃o',h'.get? b=some o')(tups:∀b xs,H b=some (.tup xs)->H' b=some (.tup xs))(frzs:∀b o u,H b=some (.frz o u)->H' b=some (.frz o u))(tbls:∀b ps,H b=some (.tbl ps)->∃more,H' b=some (.tbl (ps++more)))(ns:∀m,s.heap.Ns X.env.locals m->h'.Ns X.env.locals m)(hok:HOk X.prog X.w H' h')(hg:Ts g'):
  Inv X aa U H' { s with heap:=h',gens:=g',drawn:=d',toks:=t' }:=by
 have fA:∀b o,X.s₀.heap.get? b=some o->b≠X.env.locals:=λb o e=>Qg (J_ (H_ e) I.ok.above)
 have fB:∀b o,X.s₀.heap.get? b=some o->b∉X.ex->b∉ch:=λb o e hx hb=>by
  rcases(bq b hb).1 with z | z
  ·exact hx z
  ·exact absurd (J_ (H_ e) z) (Rl _)
 have fQ:∀x c,X.env.cells.lookup x=some c->∀v,s.heap.IsCell c v->h'.IsCell c v:=λx c e v ⟨o,ho,hd⟩=>by
  have cS:c∉ch:=λz=>(bq c z).2.2.1 x c e rfl
  by_cases hc:c∈X.fs
  ·obtain⟨sl,q⟩:=slot c o (I.cne x c e) hc cS ho (I.freeC x c e);exact⟨_,q,hd⟩
  ·exact⟨o,keep c o (I.cne x c e) hc cS ho (I.freeC x c e),hd⟩
 refine⟨I.ok,I.os,hg,⟨λb o e n hb hx=>?_,λb o e n hb hx=>?_,λb o e n hx=>?_,λb o e hx=>?_,λb xs e=>tups b xs (I.base.tups b xs e),λb o xs e=>frzs b o xs (I.base.frzs b o xs e),λb ps e=>?_⟩,?_,λx c e=>?_,?_,λx c e=>?_,λp hp=>?_,hok,I.len⟩
 ·exact keep b o (fA b o e) hb (fB b o e hx) (I.base.keep b o e n hb hx) (I.base.free b o e n hx)
 ·obtain⟨sl,e1⟩:=I.base.slot b o e n hb hx;obtain⟨n6,e2⟩:=slot b _ (fA b o e) hb (fB b o e hx) e1 (I.base.free b o e n hx);exact⟨n6,e2⟩
 ·obtain⟨o',e1⟩:=I.base.there b o e hx;exact free b o' (fB b o e hx) e1 (I.base.free b o e n hx)
 ·obtain⟨o',e1⟩:=I.base.there b o e hx;exact there b o' (fB b o e hx) e1
 ·obtain⟨m1,e1⟩:=I.base.tbls b ps e;obtain⟨m2,e2⟩:=tbls b _ e1;exact⟨m1++m2,by rw[e2,Array.append_assoc]⟩
 ·obtain⟨m,hn,hl⟩:=I.loc;refine⟨m,ns m hn,λi x v e1 e2 e3=>?_⟩;obtain⟨u,r,l⟩:=hl i x v e1 e2 e3;refine⟨u,r,?_⟩
  rcases l with l | ⟨k,c,e,z⟩
  ·exact .inl l
  ·exact .inr ⟨k,c,e,fQ x c e _ z⟩
 ·obtain⟨v,z⟩:=I.cell x c e;exact⟨v,fQ x c e v z⟩
 ·obtain⟨m,⟨o,_,_,ho,_⟩,_⟩:=I.loc;exact free _ o (λz=>(bq _ z).2.1 rfl) ho I.free
 ·obtain⟨v,o,ho,hd⟩:=I.cell x c e;exact free c o (λz=>(bq c z).2.2.1 x c e rfl) ho (I.freeC x c e)
 ·obtain⟨e,n,ne,nf,d⟩:=I.pin p hp;have cS:p.1∉ch:=λz=>(bq p.1 z).2.2.2 p hp rfl
  exact⟨keep p.1 p.2 ne nf cS e n,free p.1 p.2 cS e n,ne,nf,d⟩
theorem Inv.un(I:Inv X aa U H s)(u:Un X.fs [] H H' s.heap h')(hok:HOk X.prog X.w H' h'):Inv X aa U H' { s with heap:=h',toks:=t' }:=by
 obtain⟨m,⟨o,es,ep,ho,r⟩,_⟩:=id I.loc;obtain⟨sl,hL⟩:=u.any ho I.free (by simp)
 exact I.step (g':=s.gens) (d':=s.drawn) (ch:=[]) (λ_ z=>nomatch z) (λb o _ hb _ e n=>u.keep b o e n hb (by simp)) (λb o _ hb _ e n=>u.slot b o e n hb (by simp)) (λb o _ e n=>u.free b o e n (by simp)) (λb o _ e=>u.there b o e (by simp)) u.tups u.frzs u.tbls (λm' hm=>by
  obtain⟨o',es',jQ,bV,r'⟩:=hm;rw[ho] at bV;cases bV
  exact⟨_,es',jQ,hL,r'⟩) hok I.bare
theorem Inv.call(I:Inv X aa U H s)(u:Un (frs X.stack) ch H H' s.heap h')(hok:HOk X.prog X.w H' h')(hg:Ts g')(bq:∀b∈ch,(b∈X.ex\/X.s₀.heap.objs.size<=b)/\b≠X.env.locals/\(∀x c,X.env.cells.lookup x=some c->c≠b)/\∀p∈X.pn++aa,p.1≠b):
  Inv X aa U H' { s with heap:=h',gens:=g',drawn:=d',toks:=t' }:=by
 obtain⟨m,⟨o,es,ep,ho,r⟩,_⟩:=id I.loc;obtain⟨sl,hL⟩:=u.any ho I.free λz=>(bq _ z).2.1 rfl
 exact I.step (ch:=ch) bq (λb o hL hb hc e n=>u.keep b o e n (λz=>(E_.mp (I.stkSub b z)).elim hL hb) hc) (λb o _ _ hc e n=>u.any e n hc) (λb o hc e n=>u.free b o e n hc) (λb o hc e=>u.there b o e hc) u.tups u.frzs u.tbls (λm' hm=>by
  obtain⟨o',es',jQ,bV,r'⟩:=hm;rw[ho] at bV;cases bV
  exact⟨_,es',jQ,hL,r'⟩) hok hg
theorem Inv.turned{it:l_}(I:Inv X aa U H s)(k:∀b o,b≠it->s.heap.get? b=some o->h'.get? b=some o)(hn:H it=none)(hL:it≠X.env.locals)(h1:it∈X.ex\/X.s₀.heap.objs.size<=it)(h2:∀x c,X.env.cells.lookup x=some c->c≠it)(h3:∀p∈X.pn++aa,p.1≠it):Inv X aa U H { s with heap:=h',toks:=t' }:=by
 have k7:∀b u,H b=some u->b≠it:=λb u e z=>by rw[z,hn] at e;cases e
 refine I.step (g':=s.gens) (d':=s.drawn) (ch:=[it]) (λb hb=>?_) (λb o _ _ hc e _=>k b o (λz=>hc (by simp[z])) e) (λb o _ _ hc e _=>⟨o.slots,k b o (λz=>hc (by simp[z])) e⟩) (λ_ _ _ _ n=>n)
  (λb o hc e=>⟨o,k b o (λz=>hc (by simp[z])) e⟩) (λ_ _ e=>e) (λ_ _ _ e=>e) (λb ps e=>⟨#[],by rw[e];simp⟩) (λm hm=>?_) (λb u e=>?_) I.bare
 ·have e:b=it:=by simpa using hb
  subst e;exact⟨h1,hL,h2,h3⟩
 ·obtain⟨o,es,ep,ho,r⟩:=hm;exact⟨o,es,ep,k _ o (Qx hL) ho,r⟩
 ·refine(I.hok b u e).stay (λc v hc q=>k c v ?_ q) (λ_ q=>q) λ_ _ q=>q
  rcases hc with z | z
  ·rw[z];exact k7 b u e
  ·exact k7 c _ z
theorem Inv.tok(I:Inv X aa U H s)(t:Nat):Inv X aa U H { s with toks:=t }:=I.un (h':=s.heap) (t':=t) Un.refl I.hok
theorem Inv.kept(I:Inv X aa U H s)(k:∀b u,s.heap.get? b=some u->h'.get? b=some u):Inv X aa U H { s with heap:=h',toks:=t' }:=I.un (Un.kept k) (I.hok.kept k)
theorem Inv.laid{o:HO}(I:Inv X aa U H s)(k:∀b u,s.heap.get? b=some u->h'.get? b=some u)(hp:s.heap.objs.size<=a)(new:ObjOk X.prog X.w (upd H a o) h' a o):
  Inv X aa U (upd H a o) { s with heap:=h',toks:=t' }:=I.un (Un.laid k hp (I.hok.fresh hp)) (I.hok.laid k hp new)
theorem Inv.write{x e:l_}{o:HO}(I:Inv X aa U H s)(mu:Mut (H x))(he:e=x\/H e=some (.own x))(k:∀b u,b≠e->s.heap.get? b=some u->h'.get? b=some u)(fz:∃u,h'.get? e=some u)(new:ObjOk X.prog X.w (upd H x o) h' x o):Inv X aa U (upd H x o) { s with heap:=h',toks:=t' }:=I.un (Un.write mu he k fz) (I.hok.write mu he k fz new)
theorem Inv.pins_of(I:Inv X aa U H s)(h:∀p∈fR,s.heap.get? p.1=some p.2/\H p.1=none/\p.1≠X.env.locals/\p.1∉X.fs/\∀v,p.2.data≠.cell v):Inv X fR U H s:=
 ⟨I.ok,I.os,I.bare,I.base,I.loc,I.cell,I.free,I.freeC,λp hp=>(K_.mp hp).elim (λz=>I.pin p (Q_ _ z)) (h p),I.hok,I.len⟩
theorem Dr{N:List Str}(hN:N.Nodup)(a:N[i]?=some x)(b:N[j]?=some x):i=j:=by
 obtain⟨h1,e1⟩:=m_.mp a;obtain⟨h2,e2⟩:=m_.mp b;exact(List.getElem_inj hN).mp (e1.trans e2.symm)
theorem BA{M:Model}{E:b_->c_->Prop}{v:V}{Q:Unit->c_->Prop}(I:Inv X aa U H s)(hN:X.N.Nodup)(hi:X.N[i]?=some x)(hx:Loc X.env.scope x)(r:RelV v u)(h:∀s',Inv X aa (U.set i (some v)) H s'->(∃a,L_.SameBut a s.heap s'.heap/\(a=X.env.locals\/X.env.cells.lookup x=some a))->Q () s')(hf:X.fn x=true\/X.env.scope.names.lookup x=some .local):q_ M A (storeName X.env x u) Q E s:=by
 obtain⟨m,hn,hl⟩:=id I.loc;have k8:(X.env.scope.kind == .class||(X.env.scope.kind == .module&&X.env.locals != X.env.globals))=false:=by rw[I.ok.kind];rfl
 have jy:i < U.length:=by rw[I.len];exact(m_.mp hi).1
 have cne:=I.cne
 have cT:∀{a:l_}{h':L_},(∃o,s.heap.get? a=some o/\H a=none)->L_.SameBut a s.heap h'->HOk X.prog X.w H h':=λ{a h'} ha hs b ob e=>by
  obtain⟨_,_,fS⟩:=ha;refine(I.hok b ob e).stay (λc w' hc q=>(hs.2 c ?_).trans q) (λ_ q=>q) λ_ _ q=>q
  rintro rfl
  rcases hc with rfl | hc
  ·rw[fS] at e;cases e
  ·rw[fS] at hc;cases hc
 rcases hx with hk | hk
 ·refine wpAny_storeName_local hk hn (λh' fT hs=>?_) k8;obtain⟨oL,_,_,n9,_⟩:=id hn;refine h _ ⟨I.ok,I.os,I.bare,⟨λb o e n hb hx=>?_,λb o e n hb hx=>?_,I.base.free,λb o e hx=>?_,I.base.tups,I.base.frzs,I.base.tbls⟩,⟨_,fT,λj y v' e1 e2 e3=>?_⟩,λy c e=>?_,I.free,I.freeC,λp hp=>?_,cT ⟨oL,n9,I.free⟩ hs,by simpa using I.len⟩ ⟨_,hs,.inl rfl⟩
  ·exact(hs.2 b (Qg (J_ (H_ e) I.ok.above))).trans (I.base.keep b o e n hb hx)
  ·obtain⟨sl,e1⟩:=I.base.slot b o e n hb hx;exact⟨sl,(hs.2 b (Qg (J_ (H_ e) I.ok.above))).trans e1⟩
  ·obtain⟨o',e1⟩:=I.base.there b o e hx;exact⟨o',(hs.2 b (Qg (J_ (H_ e) I.ok.above))).trans e1⟩
  ·by_cases hj:j=i
   ·subst hj;rw[hi] at e1;cases e1;rw[RF jy] at e2;cases e2;exact⟨u,r,.inl ⟨hk,by simp⟩⟩
   ·rw[Ra (Qx hj)] at e2;obtain⟨u',r',q⟩:=hl j y v' e1 e2 e3;refine⟨u',r',?_⟩
    rcases q with⟨k,e⟩ | ⟨k,c,e,z⟩
    ·refine .inl ⟨k,?_⟩;have:y≠x:=λe=>hj (Dr hN e1 (e▸hi))
     simp[this,e]
    ·exact .inr ⟨k,c,e,z.sameBut hs (cne y c e)⟩
  ·obtain⟨w',z⟩:=I.cell y c e;exact⟨w',z.sameBut hs (cne y c e)⟩
  ·obtain⟨e,n,ne,nf,d⟩:=I.pin p hp;exact⟨(hs.2 p.1 ne).trans e,n,ne,nf,d⟩
 ·have jR:X.fn x=true:=by
   rcases hf with z | z
   ·exact z
   ·rw[z] at hk;cases hk
  obtain⟨c,hc⟩:=I.ok.has x (.inl hk);obtain⟨w',z⟩:=I.cell x c hc;refine wpAny_storeName_cell I.ok.kind hk hc z (λh' aM hs=>?_);obtain⟨oc,k9,lc⟩:=id z;refine h { s with heap:=h' } ⟨I.ok,I.os,I.bare,⟨λb o e n hb hx=>?_,λb o e n hb hx=>?_,I.base.free,λb o e hx=>?_,I.base.tups,I.base.frzs,I.base.tbls⟩,⟨m,hn.sameBut hs (Qx (cne x c hc)),λj y v' e1 e2 e3=>?_⟩,λy c' e=>?_,I.free,I.freeC,λp hp=>?_,cT ⟨oc,k9,I.freeC x c hc⟩ hs,by simpa using I.len⟩ ⟨c,hs,.inr hc⟩
  ·exact(hs.2 b (Qg (J_ (H_ e) (I.ok.cab x c jR hc)))).trans (I.base.keep b o e n hb hx)
  ·obtain⟨sl,e1⟩:=I.base.slot b o e n hb hx;exact⟨sl,(hs.2 b (Qg (J_ (H_ e) (I.ok.cab x c jR hc)))).trans e1⟩
  ·obtain⟨o',e1⟩:=I.base.there b o e hx;exact⟨o',(hs.2 b (Qg (J_ (H_ e) (I.ok.cab x c jR hc)))).trans e1⟩
  ·by_cases hj:j=i
   ·subst hj;rw[hi] at e1;cases e1;rw[RF jy] at e2;cases e2;exact⟨u,r,.inr ⟨.inl hk,c,hc,aM⟩⟩
   ·rw[Ra (Qx hj)] at e2;obtain⟨u',r',q⟩:=hl j y v' e1 e2 e3;refine⟨u',r',?_⟩
    rcases q with q | ⟨k,c',e,z'⟩
    ·exact .inl q
    ·refine .inr ⟨k,c',e,z'.sameBut hs ?_⟩;rintro rfl;exact hj (Dr hN e1 (I.ok.inj _ _ _ e hc▸hi))
  ·by_cases jS:c'=c
   ·subst jS;exact⟨_,aM⟩
   ·obtain⟨w2,z2⟩:=I.cell y c' e;exact⟨w2,z2.sameBut hs jS⟩
  ·obtain⟨e,n,ne,nf,d⟩:=I.pin p hp;refine⟨(hs.2 p.1 ?_).trans e,n,ne,nf,d⟩;intro q;rw[q,k9] at e;have q':oc=p.2:=Qb e;exact d w' (by rw[←q'];exact lc)
theorem Cf{M:Model}{E:b_->c_->Prop}{v:V}{Q:Unit->c_->Prop}(I:Inv X aa U H s)(hN:X.N.Nodup)(hi:X.N[i]?=some x)(hx:Loc X.env.scope x)(r:RelV v u)(h:∀s',Inv X aa (U.set i (some v)) H s'->Q () s')(hf:X.fn x=true\/X.env.scope.names.lookup x=some .local):q_ M A (storeName X.env x u) Q E s:=
 BA I hN hi hx r (λs' I' _=>h s' I') hf
theorem Inv.call'(I:Inv X aa U H s)(ho:s'.os=s.os)(u:Un (frs X.stack) ch H H' s.heap s'.heap)(hok:HOk X.prog X.w H' s'.heap)(hg:Ts s'.gens)(bq:∀b∈ch,(b∈X.ex\/X.s₀.heap.objs.size<=b)/\b≠X.env.locals/\(∀x c,X.env.cells.lookup x=some c->c≠b)/\∀p∈X.pn++aa,p.1≠b):Inv X aa U H' s':=by
 obtain⟨h',g',d',t',o'⟩:=s';have e:o'=s.os:=ho;subst e;exact I.call (g':=g') (t':=t') (d':=d') u hok hg bq
end
abbrev XK:=b_->Option l_->Hp->Prop
abbrev St:=List (Option V)
abbrev VK:=V->Hp->Prop
abbrev TE:=St->Hp->VK->Prop
abbrev TT:=St->Hp->(Bool->Hp->Prop)->Prop
abbrev TA:=St->Hp->(List V->Hp->Prop)->Prop
structure Ends where
 nx:St->Hp->Prop
 rt:VK
 bk:St->Hp->Prop:=λ_ _=>False
 ct:St->Hp->Prop:=λ_ _=>False
abbrev TS:=Ends->St->Hp->Prop
def EP(X:Cx)(aa:List (l_×Obj))(U:St)(Q:VK)(u:b_)(s':c_):Prop:=∃v H',Inv X aa U H' s'/\RelV v u/\Q v H'
def TP(X:Cx)(aa:List (l_×Obj))(U:St)(Q:Bool->Hp->Prop)(b:Bool)(s':c_):Prop:=∃H',Inv X aa U H' s'/\Q b H'
def AP(X:Cx)(aa:List (l_×Obj))(U:St)(Q:List V->Hp->Prop)(us:List b_)(s':c_):Prop:=∃vs H',Inv X aa U H' s'/\Vals vs us/\Q vs H'
def SP(X:Cx)(aa:List (l_×Obj))(D:Ends)(f:Flow)(s':c_):Prop:=
 match f with
 | .next=>∃ao H',Inv X aa ao H' s'/\D.nx ao H'
 | .brk=>∃ao H',Inv X aa ao H' s'/\D.bk ao H'
 | .cont=>∃ao H',Inv X aa ao H' s'/\D.ct ao H'
 | .ret u=>∃v ao H',Inv X aa ao H' s'/\RelV v u/\D.rt v H'
def PE(X:Cx)(e:Qe)(t:TE):Prop:=
 ∀(aa:List (l_×Obj)) (s:c_) (U:St) (H:Hp) (Q:VK),Inv X aa U H s->t U H Q->q_ (r_ X.prog X.w) X.A (Qf e X.env) (EP X aa U Q) X.xe s
def PT(X:Cx)(e:Qe)(t:TT):Prop:=
 ∀(aa:List (l_×Obj)) (s:c_) (U:St) (H:Hp) (Q:Bool->Hp->Prop),Inv X aa U H s->t U H Q->q_ (r_ X.prog X.w) X.A (VL e X.env (Qf e X.env)) (TP X aa U Q) X.xe s
def PW(X:Cx)(e:Qe)(t:TT):Prop:=
 ∀(bI:Sem b_) (aa:List (l_×Obj)) (s:c_) (U:St) (H:Hp) (Q:Bool->Hp->Prop),Inv X aa U H s->t U H Q->q_ (r_ X.prog X.w) X.A (VL e X.env bI) (TP X aa U Q) X.xe s
def PA(X:Cx)(es:List Qe)(t:TA):Prop:=
 ∀(pos:Pos) (aa:List (l_×Obj)) (s:c_) (U:St) (H:Hp) (Q:List V->Hp->Prop),Inv X aa U H s->t U H Q->q_ (r_ X.prog X.w) X.A (spliced (Qk pos (e_ es X.env))) (AP X aa U Q) X.xe s
def PS(X:Cx)(st:Qo)(t:TS):Prop:=
 ∀(aa:List (l_×Obj)) (s:c_) (U:St) (H:Hp) (D:Ends),Inv X aa U H s->t D U H->q_ (r_ X.prog X.w) X.A (exec st X.env) (SP X aa D) X.xe s
def PSs(X:Cx)(st:List Qo)(t:TS):Prop:=
 ∀(aa:List (l_×Obj)) (s:c_) (U:St) (H:Hp) (D:Ends),Inv X aa U H s->t D U H->q_ (r_ X.prog X.w) X.A (execs st X.env) (SP X aa D) X.xe s
theorem thn{α:Type}{t:Sem α}{Q Q':α->c_->Prop}{M:Model}{E:b_->c_->Prop}{s:c_}(h:q_ M A t Q E s)(hQ:∀a s,Q a s->Q' a s):q_ M A t Q' E s:=Qs h hQ λ_ _ x=>x
section
variable {X:Cx}
noncomputable def tVar(i:Nat):TE:=λU H Q=>∃v,U[i]?=some (some v)/\Q v H
noncomputable def tC(v:V):TE:=λ_ H Q=>Q v H
theorem GU(hN:X.N[i]?=some x)(hv:Vis X.env.scope x)(hd:(x == ("__debug__":Str))=false:=by decide)(cu:(x == ("__classdict__":Str))=false:=by decide):PE X (.Name x pos) (tVar i):=by
 intro aa s U H Q I h;obtain⟨v,e,h⟩:=h;obtain⟨m,hn,hl⟩:=I.loc;obtain⟨u,r,l⟩:=hl i x v hN e hv;have fin:EP X aa U Q u s:=⟨v,H,I,r,h⟩
 rcases l with⟨hk,hm⟩ | ⟨hk,c,hc,fU⟩
 ·exact VM (wpAny_loadName_local I.ok.kind hk hn hm fin) hd
 ·rcases hk with hk | hk
  ·exact VM (wpAny_loadName_cell I.ok.kind hk hc fU fin) hd
  ·exact VM (wpAny_loadName_free I.ok.kind hk hc fU fin cu) hd
theorem Gu{i j pos}:PE X (.Constant (.int i) j pos) (tC (.int i)):=λ_ _ _ H _ I h=>wpAny_Constant_int ⟨.int i,H,I.tok _,⟨_,rfl⟩,h⟩
theorem Lh{b j pos}:PE X (.Constant (.bool b) j pos) (tC (.bl b)):=λ_ _ _ H _ I h=>Constant_bool ⟨.bl b,H,I,rfl,h⟩
theorem FL{j pos}:PE X (.Constant .none j pos) (tC .non):=λ_ _ _ H _ I h=>Constant_none ⟨.non,H,I,rfl,h⟩
theorem Jf{x j pos}:PE X (.Constant (.str x) j pos) (tC (.str x)):=λ_ _ _ H _ I h=>Calls.Constant_str ⟨.str x,H,I.tok _,⟨_,rfl⟩,h⟩
def Gl(X:Cx)(x:Str):Prop:=X.env.kindOf x=some .globalImplicit
theorem MW{E:b_->c_->Prop}{s:c_}{U:St}{H:Hp}{Q:b_->c_->Prop}(I:Inv X aa U H s)(hg:Gl X x)(hm:X.mg x=some u)(h:Q u s)(hd:(x == ("__debug__":Str))=false:=by decide):q_ (r_ X.prog X.w) X.A (Qf (.Name x pos) X.env) Q E s:=
 Tc I.ok.kind hg (Calls.loadGlobal_global (by rw[I.ok.glob];exact I.mod.glob.keeps I.bk) hm h) hd
theorem tf{E:b_->c_->Prop}{s:c_}{U:St}{H:Hp}{Q:b_->c_->Prop}(I:Inv X aa U H s)(hg:Gl X x)(hm:X.mg x=none)(hv:Q2 x=some u)(h:Q u s)(hn:x ≠ "__name__":=by decide)(hd:(x == ("__debug__":Str))=false:=by decide):q_ (r_ X.prog X.w) X.A (Qf (.Name x pos) X.env) Q E s:=by
 obtain⟨mb,h1,h2⟩:=I.mod.blt;exact Tc I.ok.kind hg (Calls.loadGlobal_builtin (by rw[I.ok.glob];exact I.mod.glob.keeps I.bk) hm (by rw[I.ok.blt];exact h1.keeps I.bk) ((h2 x hn).trans hv) h) hd
theorem GK{v:V}(hg:Gl X x)(hm:X.mg x=none)(hv:Q2 x=some u)(r:RelV v u)(hn:x ≠ "__name__":=by decide)(hd:(x == ("__debug__":Str))=false:=by decide):PE X (.Name x pos) (tC v):=
 λ_ _ _ H _ I h=>tf I hg hm hv ⟨v,H,I,r,h⟩ hn hd
variable{a b:Qe}{ta tb:TE}
noncomputable def tB(t:TE):TT:=λU H Q=>t U H λx H1=>∃c,x=.bl c/\Q c H1
theorem LV{t:TE}(h:PE X e t)(he:∀bI,VL e X.env bI=(do let v ←bI;V7 e.pos;S4 [v] (truthy v)):=by intros;rfl):PT X e (tB t):=by
 intro aa s U H Q I hw;refine isTrue_plain (thn (h aa s U H _ I hw) λv s1 ⟨x,H1,I1,r1,q1⟩=>?_) (he _);obtain⟨d,rfl,q⟩:=q1;cases r1;exact Qz ⟨H1,I1,q⟩
variable{tA ik:TT}
noncomputable def tAnd(t u:TT):TT:=λU H Q=>t U H λc H1=>if c=true then u U H1 Q else Q false H1
noncomputable def tOr(t u:TT):TT:=λU H Q=>t U H λc H1=>if c=true then Q true H1 else u U H1 Q
noncomputable def tNot(t:TT):TT:=λU H Q=>t U H λc H1=>Q (!c) H1
theorem FV(ha:PT X a tA):PW X (.BoolOp .And [a] pos) tA:=by
 intro wh aa s U H Q I h;refine isTrue_and (thn (ha aa s U H Q I h) λc s1 e=>?_);cases c with
 | true=>exact isTrue_and_nil e
 | false=>exact e
theorem Na(ha:PT X a tA):PW X (.BoolOp .Or [a] pos) tA:=by
 intro wh aa s U H Q I h;refine isTrue_or (thn (ha aa s U H Q I h) λc s1 e=>?_);cases c with
 | false=>exact isTrue_or_nil e
 | true=>exact e
theorem LX(ha:PT X a tA)(hb:PW X (.BoolOp .And (b::aE) pos) ik):PW X (.BoolOp .And (a::b::aE) pos) (tAnd tA ik):=by
 intro wh aa s U H Q I h;refine isTrue_and (thn (ha aa s U H _ I h) λc s1 ⟨H1,I1,q1⟩=>?_);cases c with
 | true=>exact hb wh aa s1 U H1 Q I1 q1
 | false=>exact⟨H1,I1,q1⟩
theorem IZ(ha:PT X a tA)(hb:PW X (.BoolOp .Or (b::aE) pos) ik):PW X (.BoolOp .Or (a::b::aE) pos) (tOr tA ik):=by
 intro wh aa s U H Q I h;refine isTrue_or (thn (ha aa s U H _ I h) λc s1 ⟨H1,I1,q1⟩=>?_);cases c with
 | true=>exact⟨H1,I1,q1⟩
 | false=>exact hb wh aa s1 U H1 Q I1 q1
theorem Fs(ha:PT X a tA):PT X (.UnaryOp .Not a pos) (tNot tA):=by
 intro aa s U H Q I h;exact isTrue_not (ha aa s U H (λc H1=>Q (!c) H1) I h)
noncomputable def tAndV(ta tb:TE):TE:=λU H Q=>ta U H λx H1=>∃c,x=.bl c/\if c=true then tb U H1 Q else Q (.bl false) H1
theorem JJ{op}{t:TE}(h:PE X a t):PE X (.BoolOp op [a] pos) t:=λaa s U H Q I hw=>BoolOp_one (h aa s U H Q I hw)
theorem Jh(ha:PE X a ta)(hb:PE X (.BoolOp .And (b::aE) pos) tb):PE X (.BoolOp .And (a::b::aE) pos) (tAndV ta tb):=by
 intro aa s U H Q I h;refine BoolOp_and (thn (ha aa s U H _ I h) λv s1 ⟨x,H1,I1,r1,q1⟩=>?_);obtain⟨c,rfl,q1⟩:=q1;cases r1;refine Qz ?_;cases c with
 | true=>exact hb aa s1 U H1 Q I1 q1
 | false=>exact⟨.bl false,H1,I1,rfl,q1⟩
noncomputable def tIf(t:TT)(ta tb:TE):TE:=λU H Q=>t U H λc H1=>if c=true then ta U H1 Q else tb U H1 Q
theorem LO{c:Qe}(hc:PT X c tA)(ha:PE X a ta)(hb:PE X b tb):PE X (.IfExp c a b pos) (tIf tA ta tb):=by
 intro aa s U H Q I h;refine wpAny_IfExp (thn (hc aa s U H _ I h) λd s1 ⟨H1,I1,q1⟩=>?_);cases d with
 | true=>exact ha aa s1 U H1 Q I1 q1
 | false=>exact hb aa s1 U H1 Q I1 q1
end
def SqL(K:PySem.W.Frag)(H:Hp)(a:l_)(xs:List V):Prop:=
 Rd H a (.lst xs) ∨
  ∃(o:Obj) (ae:Array b_) (n:Nat),K.lookup a=some o/\o.cls=.type "list"/\o.dict=none/\o.data=.seq ae n/\ae.size<=x_/\Vals xs ae.toList
def SqT(K:PySem.W.Frag)(H:Hp)(a:l_)(xs:List V):Prop:=
 Rd H a (.tup xs) ∨
  ∃(o:Obj) (ae:Array b_) (n:Nat),K.lookup a=some o/\o.cls=.type "tuple"/\o.data=.seq ae n/\ae.size<=x_/\Vals xs ae.toList
noncomputable def absV:b_->Option V
 | .none=>some .non
 | .bool b=>some (.bl b)
 | .int i _=>some (.int i)
 | .str x _=>some (.str x)
 | .bytes b _=>some (.byt b)
 | .float b _=>some (.flt b)
 | .ref a=>some (.ref a)
 | .type n=>some (.ty n)
 | _=>none
theorem RelV.abs{x:V}(r:RelV x u):absV u=some x:=by
 cases x with
 | non=>cases r;rfl
 | bl _=>cases r;rfl
 | int _=>obtain⟨t,rfl⟩:=r;rfl
 | str _=>obtain⟨t,rfl⟩:=r;rfl
 | byt _=>obtain⟨t,rfl⟩:=r;rfl
 | flt _=>obtain⟨t,rfl⟩:=r;rfl
 | ref _=>cases r;rfl
 | ty _=>cases r;rfl
theorem RelV.inj{x y:V}(r:RelV x u)(q:RelV y u):x=y:=Qb (r.abs.symm.trans q.abs)
theorem Vals.inj:∀{xs ys:List V}{us:List b_},Vals xs us->Vals ys us->xs=ys
 | _,_,_,.nil,.nil=>rfl
 | _,_,_,.cons r t,.cons r' t'=>by rw[r.inj r',Vals.inj t t']
section
variable{X:Cx}{U:St}{H:Hp}{s:c_}{xs ys:List V}
theorem SqL.of{K:PySem.W.Frag}(h:H a=some (.lst xs)):SqL K H a xs:=.inl (.inl h)
theorem SqT.of{K:PySem.W.Frag}(h:H a=some (.tup xs)):SqT K H a xs:=.inl (.inl h)
theorem Inv.list(I:Inv X aa U H s)(h:SqL X.K H a xs):∃ae:List b_,Vals xs ae/\PlainL s.heap a ae.toArray/\xs.length<=x_:=by
 rcases h with h | ⟨o,ae,n,hk,hc,hd,hs,hz,r⟩
 ·obtain⟨z,ae,n,r,e⟩:=h.ok I.hok;exact⟨ae,r,⟨_,n,e,rfl,rfl,rfl⟩,z⟩
 ·refine⟨ae.toList,r,⟨o,n,I.kIn a o hk,hc,hd,by simpa using hs⟩,?_⟩;have e:=r.length;simp only[QC] at e;omega
theorem Inv.tuple(I:Inv X aa U H s)(h:SqT X.K H a xs):∃ae:List b_,Vals xs ae/\VI s.heap a ae.toArray/\xs.length<=x_:=by
 rcases h with h | ⟨o,ae,n,hk,hc,hs,hz,r⟩
 ·obtain⟨z,ae,r,p⟩:=h.ok I.hok;exact⟨ae,r,p,z⟩
 ·refine⟨ae.toList,r,⟨o,I.kIn a o hk,hc,n,by simpa using hs⟩,?_⟩;have e:=r.length;simp only[QC] at e;omega
theorem Inv.list_inj(I:Inv X aa U H s)(h:SqL X.K H a xs)(h':SqL X.K H a ys):xs=ys:=by
 obtain⟨ae,r,⟨o,n,e,_,_,d⟩,_⟩:=I.list h;obtain⟨its',r',⟨o',n',e',_,_,d'⟩,_⟩:=I.list h';rw[e] at e';cases e';rw[d] at d';injection d' with d1 _
 have:ae=its':=by simpa using congrArg toList d1
 subst this;exact r.inj r'
theorem Inv.tuple_inj(I:Inv X aa U H s)(h:SqT X.K H a xs)(h':SqT X.K H a ys):xs=ys:=by
 obtain⟨ae,r,⟨o,e,_,n,d⟩,_⟩:=I.tuple h;obtain⟨its',r',⟨o',e',_,n',d'⟩,_⟩:=I.tuple h';rw[e] at e';cases e';rw[d] at d';injection d' with d1 _
 have:ae=its':=by simpa using congrArg toList d1
 subst this;exact r.inj r'
end
noncomputable abbrev Cx.wish(X:Cx)(E:b_->c_->Prop):Cx:={ X with xe:=E }
noncomputable abbrev Cx.nox(X:Cx):Cx:=X.wish λ_ _=>False
theorem Cx.Ok.wish{X:Cx}(ok:X.Ok)(E:b_->c_->Prop):(X.wish E).Ok:=
 ⟨ok.mod,ok.kind,ok.glob,ok.blt,ok.above,ok.inj,ok.has,ok.cab,ok.hd,ok.frames,ok.stk,ok.exf,ok.bs,ok.bsz,ok.noex,ok.exfs,ok.funs,ok.frf⟩
theorem Cx.Ok.unwish{X:Cx}{E:b_->c_->Prop}(ok:(X.wish E).Ok):X.Ok:=
 ⟨ok.mod,ok.kind,ok.glob,ok.blt,ok.above,ok.inj,ok.has,ok.cab,ok.hd,ok.frames,ok.stk,ok.exf,ok.bs,ok.bsz,ok.noex,ok.exfs,ok.funs,ok.frf⟩
section
variable{X:Cx}{U:St}{H:Hp}{s:c_}{E:b_->c_->Prop}
theorem Inv.wish(I:Inv X aa U H s)(E:b_->c_->Prop):Inv (X.wish E) aa U H s:=⟨I.ok.wish E,I.os,I.bare,I.base,I.loc,I.cell,I.free,I.freeC,I.pin,I.hok,I.len⟩
theorem Inv.unwish(I:Inv (X.wish E) aa U H s):Inv X aa U H s:=⟨I.ok.unwish,I.os,I.bare,I.base,I.loc,I.cell,I.free,I.freeC,I.pin,I.hok,I.len⟩
theorem SP.unwish{D:Ends}{f:Flow}(h:SP (X.wish E) aa D f s'):SP X aa D f s':=by
 cases f with
 | next=>obtain⟨ao,H',I,q⟩:=h;exact⟨ao,H',I.unwish,q⟩
 | brk=>obtain⟨ao,H',I,q⟩:=h;exact⟨ao,H',I.unwish,q⟩
 | cont=>obtain⟨ao,H',I,q⟩:=h;exact⟨ao,H',I.unwish,q⟩
 | ret u=>obtain⟨v,ao,H',I,r,q⟩:=h;exact⟨v,ao,H',I.unwish,r,q⟩
theorem PSs.nox{st:List Qo}{t:TS}(h:PSs X.nox st t):PSs X st t:=λaa s U H D I hw =>
 Qs (h aa s U H D (I.wish _) hw) (λ_ _ q=>q.unwish) λ_ _ z=>V8 z
end
section
variable{X:Cx}{st:Qo}{aE:List Qo}{t u:TS}{te:TE}
noncomputable def tNext:TS:=λD U H=>D.nx U H
noncomputable def tSeq(t u:TS):TS:=λD U H=>t { D with nx:=u D } U H
theorem He:PSs X [] tNext:=λ_ _ U H _ I h=>SV ⟨U,H,I,h⟩
theorem GT(h1:PS X st t)(h2:PSs X aE u):PSs X (st::aE) (tSeq t u):=by
 intro aa s U H D I h;refine wpAny_execs_cons (thn (h1 aa s U H { D with nx:=u D } I h) λf s1 q=>?_);cases f with
 | next =>
  obtain⟨ao,H',I',q⟩:=q;exact h2 aa s1 ao H' D I' q
 | ret v=>exact q
 | brk=>exact q
 | cont=>exact q
theorem Ic(h1:PS X st t):PSs X [st] t:=by
 intro aa s U H D I h;refine wpAny_execs_cons (thn (h1 aa s U H D I h) λf s1 q=>?_);cases f with
 | next=>exact SV q
 | ret v=>exact q
 | brk=>exact q
 | cont=>exact q
theorem Inv.quiet{U:St}{H:Hp}{s:c_}(I:Inv X aa U H s):interactive X.env=false:=by simp[interactive,I.ok.kind]
noncomputable def tDrop(te:TE):TS:=λD U H=>te U H λ_ H1=>D.nx U H1
theorem yI(he:PE X e te)(hs:QZ e none pos.line X.env=pure false:=by rfl):PS X (.Expr e pos) (tDrop te):=by
 intro aa s U H D I h;exact wpAny_Expr_any (thn (he aa s U H _ I h) λv s1 ⟨x,H1,I1,r1,q1⟩=>⟨U,H1,I1,q1⟩) I.quiet hs
noncomputable def tRet(te:TE):TS:=λD U H=>te U H D.rt
theorem xI(he:PE X e te):PS X (.Return (some e) pos) (tRet te):=by
 intro aa s U H D I h;exact wpAny_Return_some (thn (he aa s U H _ I h) λv s1 ⟨x,H1,I1,r1,q1⟩=>⟨x,U,H1,I1,r1,q1⟩)
noncomputable def tIfS(c:TT)(t u:TS):TS:=λD U H=>c U H λb H1=>if b=true then t D U H1 else u D U H1
theorem FX{c:Qe}{a b:List Qo}{tc:TT}(hc:PT X c tc)(ha:PSs X a t)(hb:PSs X b u):PS X (.If c a b pos) (tIfS tc t u):=by
 intro aa s U H D I h;refine wpAny_If (thn (hc aa s U H _ I h) λd s1 ⟨H1,I1,q1⟩=>?_);cases d with
 | true=>exact ha aa s1 U H1 D I1 q1
 | false=>exact hb aa s1 U H1 D I1 q1
noncomputable def tNever:TS:=λ_ _ _=>False
theorem MI:PS X st tNever:=λ_ _ _ _ _ _ h=>h.elim
end
abbrev TG:=V->St->Hp->(St->Hp->Prop)->Prop
abbrev TGs:=List V->St->Hp->(St->Hp->Prop)->Prop
def PG(X:Cx)(il:Qe)(t:TG):Prop:=
 ∀(aa:List (l_×Obj)) (s:c_) (U:St) (H:Hp) (v:V) (u:b_) (Q:St->Hp->Prop),Inv X aa U H s->RelV v u->t v U H Q →
  q_ (r_ X.prog X.w) X.A (Td il X.env u) (λ_ s'=>∃ao H',Inv X aa ao H' s'/\Q ao H') X.xe s
def PGs(X:Cx)(ts:List Qe)(t:TGs):Prop:=
 ∀(aa:List (l_×Obj)) (s:c_) (U:St) (H:Hp) (vs:List V) (us:List b_) (Q:St->Hp->Prop),Inv X aa U H s->Vals vs us->t vs U H Q →
  q_ (r_ X.prog X.w) X.A (assignInOrder ((Ri ts X.env).map (·.2)) us) (λ_ s'=>∃ao H',Inv X aa ao H' s'/\Q ao H') X.xe s
abbrev TSet:=V->V->V->Hp->(Hp->Prop)->Prop
def PSet(X:Cx)(t:TSet):Prop:=
 ∀(aa:List (l_×Obj)) (s:c_) (U:St) (H:Hp) (o i v:V) (ov iv u:b_) (Q:Hp->Prop),Inv X aa U H s->RelV o ov->RelV i iv->RelV v u->t o i v H Q →
  q_ (r_ X.prog X.w) X.A (V9 ov iv u) (λ_ s'=>∃H',Inv X aa U H' s'/\Q H') X.xe s
section
variable{X:Cx}
noncomputable def gName(i:Nat):TG:=λv U H Q=>Q (U.set i (some v)) H
theorem Fn(hN:X.N.Nodup)(hi:X.N[i]?=some x)(hx:Loc X.env.scope x)(hf:X.fn x=true\/X.env.scope.names.lookup x=some .local):PG X (.Name x pos) (gName i):=by
 intro aa s U H v u Q I r h;exact Ve (Cf I hN hi hx r (λs' I'=>⟨_,H,I',h⟩) hf)
noncomputable def gNil:TGs:=λvs U H Q=>vs=[]/\Q U H
noncomputable def gCons(t:TG)(u:TGs):TGs:=λvs U H Q=>∃v r,vs=v::r/\t v U H λao H'=>u r ao H' Q
theorem HL:PGs X [] gNil:=by
 intro aa s U H vs us Q I r h;obtain⟨e,h⟩:=h;subst e;cases r;exact assignInOrder_nil ⟨U,H,I,h⟩
theorem JP{es:List Qe}{t:TG}{u:TGs}(h1:PG X e t)(h2:PGs X es u)(hs:(Ri (e::es) X.env).map (·.2)=Td e X.env::(Ri es X.env).map (·.2):=by rfl):PGs X (e::es) (gCons t u):=by
 intro aa s U H vs us Q I r h;obtain⟨v,vr,e1,h⟩:=h;subst e1;cases r with
 | cons r rr =>
  rw[hs];refine assignInOrder_cons (thn (h1 aa s U H _ _ _ I r h) λ_ s1 ⟨cj,H1,I1,q1⟩=>?_);exact h2 aa s1 cj H1 _ _ Q I1 rr q1
noncomputable def gTup(K:PySem.W.Frag)(n:Nat)(t:TGs):TG:=λv U H Q=>∃a xs,v=.ref a/\SqT K H a xs/\xs.length=n/\t xs U H Q
theorem NC{es:List Qe}{t:TGs}(hc:X.calm=true)(h:PGs X es t)(hn:(Ri es X.env).length=n:=by rfl)(fV:(Ri es X.env).findIdx? (·.1)=none:=by rfl):PG X (.Tuple es k pos) (gTup X.K n t):=by
 intro aa s U H v u Q I r hw;obtain⟨a,xs,e1,hq,hl,hw⟩:=hw;subst e1;cases r;obtain⟨ae,rv,ht,hz⟩:=I.tuple hq;refine assign_Tuple_tuple (I.ok.hd hc) ht (by simp[hn,←hl,rv.length]) fV λh' hx=>?_
 have I1:Inv X aa U H { s with heap:=h' }:=I.kept (t':=s.toks) λb o e=>hx b o (Qg (H_ e)) e
 exact h aa _ U H xs _ Q I1 (by simpa using rv) hw
noncomputable def gSub(to ti:TE)(t:TSet):TG:=λv U H Q=>to U H λo H1=>ti U H1 λi H2=>t o i v H2 λH3=>Q U H3
theorem KJ{o i:Qe}{to ti:TE}{t:TSet}(ho:PE X o to)(hi:PE X i ti)(hs:PSet X t)(ha:∀v,Td (.Subscript o i pos) X.env v=(do
   let ov ←S4 [v] (Qf o X.env)
   let iv ←S4 [v,ov] (Qf i X.env)
   V7 pos
   S4 [v,ov,iv] (V9 ov iv v)
   release [v,ov,iv] []):=by intros;rfl):PG X (.Subscript o i pos) (gSub to ti t):=by
 intro aa s U H v u Q I r h;rw[ha];refine a_ (Qv (thn (ho aa s U H _ I h) λov s1 ⟨x,H1,I1,r1,q1⟩=>?_));refine a_ (Qv (thn (hi aa s1 U H1 _ I1 q1) λiv s2 ⟨y,H2,I2,r2,q2⟩=>?_));refine a_ (UW (a_ (Qv (thn (hs aa s2 U H2 x y v ov iv u _ I2 r1 r2 r q2) λ_ s3 ⟨H3,I3,q3⟩=>?_))));exact wpAny_release ⟨U,H3,I3,q3⟩
noncomputable def tAsg(te:TE)(g:TG):TS:=λD U H=>te U H λx H1=>g x U H1 D.nx
theorem Cq{te:TE}{g:TG}(he:PE X e te)(hg:PG X tg g)(hs:UX [tg] e pos.line X.env=pure false:=by rfl)(hw:UY [tg] e X.env=pure none:=by rfl)(h1:(Ri [tg] X.env).map (·.2)=[Td tg X.env]:=by rfl):PS X (.Assign [tg] e pos) (tAsg te g):=by
 intro aa s U H D I h;refine wpAny_Assign_stores (thn (he aa s U H _ I h) λv s1 ⟨x,H1,I1,r1,q1⟩=>?_) hs hw;rw[h1];exact thn (hg aa s1 U H1 x v _ I1 r1 q1) λ_ s2 q=>q
theorem v5{te:TE}(hN:X.N.Nodup)(hi:X.N[i]?=some x)(hx:Loc X.env.scope x)(he:PE X e te)(hs:QZ e (some (.Name x aH)) pos.line X.env=pure false:=by rfl)(hf:X.fn x=true\/X.env.scope.names.lookup x=some .local):
  PS X (.Assign [.Name x aH] e pos) (tAsg te (gName i)):=by
 intro aa s U H D I h;refine wpAny_Assign_Name (thn (he aa s U H _ I h) λv s1 ⟨y,H1,I1,r1,q1⟩=>?_) hs;exact Cf I1 hN hi hx r1 (λs2 I2=>⟨_,H1,I2,q1⟩) hf
end
section
variable{X:Cx}
noncomputable def tWhile(c:TT)(tb:TS):TS:=λD U H=>∃W:Nat->St->Hp->Prop,(∃m,W m U H)/\∀m U H,W m U H →
 c U H λb H1=>if b=true then ∃N:St->Hp->Prop,(∀ao H',N ao H'->∃m',m' < m/\W m' ao H')/\tb { D with nx:=N,ct:=N,bk:=D.nx } U H1 else D.nx U H1
theorem Hk{c:Qe}{body:List Qo}{tc:TT}{tb:TS}(hp:TQ (r_ X.prog X.w) X.A X.env X.xe)(hc:PT X c tc)(hb:PSs X body tb):PS X (.While c body [] pos) (tWhile tc tb):=by
 intro aa s U H D I h;obtain⟨W,⟨m0,w0⟩,turn⟩:=h;refine wpAny_While (codeAny_whileLoop (λn s'=>∃ao H',Inv X aa ao H' s'/\W n ao H') ?_ m0 ⟨U,H,I,w0⟩);rintro n s1 ⟨cj,H1,I1,w1⟩;refine Rn hp (thn (hc aa s1 cj H1 _ I1 (turn n cj H1 w1)) λb s2 ⟨H2,I2,q2⟩=>?_);cases b with
 | true =>
  obtain⟨N,hN,q2⟩:=q2;rw[if_pos rfl];refine Rn hp (thn (hb aa s2 cj H2 _ I2 q2) λf s3 q3=>?_);cases f with
  | next =>
   obtain⟨cU,H3,I3,n3⟩:=q3;obtain⟨m',hm,w3⟩:=hN cU H3 n3;exact⟨m',hm,cU,H3,I3,w3⟩
  | cont =>
   obtain⟨cU,H3,I3,n3⟩:=q3;obtain⟨m',hm,w3⟩:=hN cU H3 n3;exact⟨m',hm,cU,H3,I3,w3⟩
  | brk=>exact q3
  | ret v=>exact q3
 | false =>
  rw[if_neg j_];exact SV ⟨cj,H2,I2,q2⟩
end
structure It where
 go:Nat->Hp->Prop
 yld:Nat->Hp->V->Hp->Prop
 stop:Nat->Hp->Prop
def FpOk(X:Cx)(aa:List (l_×Obj))(H:Hp)(b:l_):Prop:=
 H b=none/\b≠X.env.locals/\b∉X.fs/\(b∈X.ex\/X.s₀.heap.objs.size<=b)/\(∀x c,X.env.cells.lookup x=some c->c≠b)/\∀p∈X.pn++aa,p.1≠b
theorem Inv.fpOk{X:Cx}{U:St}{H H':Hp}{s:c_}(I:Inv X aa U H s)(hb:s.heap.objs.size<=b)(hn:H' b=none):FpOk X aa H' b:=by
 refine⟨hn,Te (J_ I.lt hb),I.nofs hb,.inr (y_ I.sz hb),λx c e z=>?_,λp hp z=>?_⟩
 ·obtain⟨v,q⟩:=I.cell x c e;exact absurd (J_ q.lt (by rw[z];exact hb)) (Rl _)
 ·exact absurd (J_ (H_ (I.pin p hp).1) (by rw[z];exact hb)) (Rl _)
structure Turn(P:A_)(w:I_)(K:PySem.W.Frag)(tg:Qe)(J:It)(fp:List l_)(it:l_)(tn:Nat->L_->Prop):Prop where
 mem:it∈fp
 obj:∀i h,tn i h->∀b∈fp,∃o,h.get? b=some o/\∀v,o.data≠.cell v
 keep:∀i h h',tn i h->(∀b∈fp,∀o,h.get? b=some o->h'.get? b=some o)->tn i h'
 item:∀(X:Cx),X.prog=P->X.w=w->X.K=K->X.calm=true->∀(i:Nat) (aa:List (l_×Obj)) (s:c_) (U:St) (H:Hp) (E:b_->c_->Prop),Inv X aa U H s->(∀b∈fp,FpOk X aa H b)->tn i s.heap->J.go i H →
  q_ (r_ P w) X.A (Sz (.ref it)) (λr s1=>∃u,r=some u ∧
   q_ (r_ P w) X.A (SW tg (.ref it) u) (λ_ s2=>∃x H',Inv X aa U H' s2/\RelV x u/\J.yld i H x H'/\tn (i+1) s2.heap/\∀b∈fp,H' b=none) E s1) E s
 done:∀(X:Cx),X.prog=P->X.w=w->X.K=K->X.calm=true->∀(i:Nat) (aa:List (l_×Obj)) (s:c_) (U:St) (H:Hp) (E:b_->c_->Prop),Inv X aa U H s->(∀b∈fp,FpOk X aa H b)->tn i s.heap->J.stop i H →
  q_ (r_ P w) X.A (Sz (.ref it)) (λr s1=>r=none/\Inv X aa U H s1) E s
 self:∀(A:Q6) (i:Nat) (s:c_) (Q:b_->c_->Prop) (E:b_->c_->Prop),tn i s.heap->Q (.ref it) s->q_ (r_ P w) A (U4 (.ref it)) Q E s
abbrev TI:=St->Hp->(It->Hp->Prop)->Prop
def PIE(X:Cx)(aa:List (l_×Obj))(U:St)(tg:Qe)(R:It->Hp->Prop)(im:b_)(s2:c_):Prop:=
 ∃(it:l_) (fp:List l_) (tn:Nat->L_->Prop) (J:It) (H':Hp),im=.ref it/\Inv X aa U H' s2/\Turn X.prog X.w X.K tg J fp it tn/\tn 0 s2.heap/\(∀b∈fp,FpOk X aa H' b)/\R J H'
def PI(X:Cx)(tg iter:Qe)(wi:TI):Prop:=
 ∀(aa:List (l_×Obj)) (s:c_) (U:St) (H:Hp) (R:It->Hp->Prop),Inv X aa U H s->wi U H R →
  q_ (r_ X.prog X.w) X.A (Qf iter X.env) (λv s1=>q_ (r_ X.prog X.w) X.A (U4 v) (PIE X aa U tg R) X.xe s1) X.xe s
theorem zP{M:Model}{E:b_->c_->Prop}{s:c_}{it:l_}{o:Obj}{n:String}{vs:Array b_}{Q:Unit->c_->Prop}(ho:s.heap.get? it=some o)(hc:o.cls=.type n)(hd:o.data=.fields vs)(hn:["enumerate", "zip", "dict_itemiterator", "dict_reverseitemiterator", "odict_iterator", "itertools.zip_longest", "itertools.pairwise"].contains n=false)(hQ:Q () s):q_ M A (SW tg (.ref it) u) Q E s:=by
 unfold SW
 cases tg<;>first
  | exact d_ hQ
  | (cases u<;>first
    | exact d_ hQ
    | (refine a_ (wpAny_load ho ?_)
       rw[hc,hd];show q_ M A (if(["enumerate", "zip", "dict_itemiterator", "dict_reverseitemiterator", "odict_iterator", "itertools.zip_longest", "itertools.pairwise"].contains n&&vs[0]? == some (T_ _))=true then _ else _) Q E s;rw[if_neg (by intro h;rw[hn,Uu] at h;cases h)]
       exact d_ hQ))
noncomputable def Itl(K:PySem.W.Frag)(a:l_):It:=
 ⟨λi H=>∃xs x,SqL K H a xs/\xs[i]?=some x,λi H x H'=>H'=H/\∀xs,SqL K H a xs->xs[i]?=some x,λi H=>∃xs,SqL K H a xs/\xs.length<=i⟩
noncomputable def Itt(K:PySem.W.Frag)(a:l_):It:=
 ⟨λi H=>∃xs x,SqT K H a xs/\xs[i]?=some x,λi H x H'=>H'=H/\∀xs,SqT K H a xs->xs[i]?=some x,λi H=>∃xs,SqT K H a xs/\xs.length<=i⟩
noncomputable def Itr(lo:Int)(n:Nat):It:=⟨λi _=>i < n,λi H x H'=>H'=H/\x=.int (lo+i),λi _=>n<=i⟩
theorem Jn{P:A_}{w:I_}{K:PySem.W.Frag}(a it:l_):Turn P w K tg (Itl K a) [it] it (λi h=>h.IsListIter it a i) where
 mem:=by simp
 obj:=λi h st b hb=>by
  have e:b=it:=by simpa using hb
  subst e;obtain⟨o,e,c,d⟩:=st;exact⟨o,e,λv z=>by rw[d] at z;cases z⟩
 keep:=λi h h' st k=>st.at λo e=>k it (by simp) o e
 item:=by
  intro X hP hw hK hc i aa s U H E I hf st hg;subst hP hw hK;obtain⟨xs,x,hq,hx⟩:=hg;obtain⟨ae,rv,p,hz⟩:=I.list hq;obtain⟨u,hu,ru⟩:=rv.get hx;obtain⟨f0,f1,f2,f3,f4,f5⟩:=hf it (by simp);refine wpAny_pyNext_list_item st p.isList (x:=u) (by simpa using hu) λh' dR sb=>?_
  have I1:Inv X aa U H { s with heap:=h' }:=I.turned (t':=s.toks) (λb o hb e=>(sb.2 b hb).trans e) f0 f1 f3 f4 f5;obtain⟨o,e,c,d⟩:=id dR;exact⟨u,rfl,zP (s:={ s with heap:=h' }) e c d (by decide) ⟨x,H,I1,ru,⟨rfl,λys hy=>by rw[I.list_inj hy hq];exact hx⟩,dR,λb hb=>(hf b hb).1⟩⟩
 done:=by
  intro X hP hw hK hc i aa s U H E I hf st hg;subst hP hw hK;obtain⟨xs,hq,hx⟩:=hg;obtain⟨ae,rv,p,hz⟩:=I.list hq;obtain⟨f0,f1,f2,f3,f4,f5⟩:=hf it (by simp);have hl:=rv.length;exact wpAny_pyNext_list_end (I.ok.hd hc) st p.isList (by simp;omega) λh' eb=>⟨rfl,I.turned (t':=s.toks) (λb o hb e=>eb b o hb e) f0 f1 f3 f4 f5⟩
 self:=λ_ _ _ _ _ st h=>wpAny_pyIter_listiter st h
theorem Mp{P:A_}{w:I_}{K:PySem.W.Frag}(a it:l_):Turn P w K tg (Itt K a) [it] it (λi h=>h.IsTupleIter it a i) where
 mem:=by simp
 obj:=λi h st b hb=>by
  have e:b=it:=by simpa using hb
  subst e;obtain⟨o,e,c,d⟩:=st;exact⟨o,e,λv z=>by rw[d] at z;cases z⟩
 keep:=λi h h' st k=>st.at λo e=>k it (by simp) o e
 item:=by
  intro X hP hw hK hc i aa s U H E I hf st hg;subst hP hw hK;obtain⟨xs,x,hq,hx⟩:=hg;obtain⟨ae,rv,p,hz⟩:=I.tuple hq;obtain⟨u,hu,ru⟩:=rv.get hx;obtain⟨f0,f1,f2,f3,f4,f5⟩:=hf it (by simp);refine wpAny_pyNext_tuple_item st (show s.heap.IsTuple a ae.toArray from p) (x:=u) (by simpa using hu) λh' dR sb=>?_
  have I1:Inv X aa U H { s with heap:=h' }:=I.turned (t':=s.toks) (λb o hb e=>(sb.2 b hb).trans e) f0 f1 f3 f4 f5;obtain⟨o,e,c,d⟩:=id dR;exact⟨u,rfl,zP (s:={ s with heap:=h' }) e c d (by decide) ⟨x,H,I1,ru,⟨rfl,λys hy=>by rw[I.tuple_inj hy hq];exact hx⟩,dR,λb hb=>(hf b hb).1⟩⟩
 done:=by
  intro X hP hw hK hc i aa s U H E I hf st hg;subst hP hw hK;obtain⟨xs,hq,hx⟩:=hg;obtain⟨ae,rv,p,hz⟩:=I.tuple hq;obtain⟨f0,f1,f2,f3,f4,f5⟩:=hf it (by simp);have hl:=rv.length;exact wpAny_pyNext_tuple_end (I.ok.hd hc) st (show s.heap.IsTuple a ae.toArray from p) (by simp;omega) λh' eb=>⟨rfl,I.turned (t':=s.toks) (λb o hb e=>eb b o hb e) f0 f1 f3 f4 f5⟩
 self:=λ_ _ _ _ _ st h=>wpAny_pyIter_tupleiter st h
theorem HN{P:A_}{w:I_}{K:PySem.W.Frag}(it:l_)(lo:Int)(n:Nat):Turn P w K tg (Itr lo n) [it] it (λi h=>IsRangeIter h it (lo+(i:Nat)*1) ((n:Int) - (i:Nat)) 1) where
 mem:=by simp
 obj:=λi h st b hb=>by
  have e:b=it:=by simpa using hb
  subst e
  exact⟨_,st,λv z=>by
   have z':fields _=UM v:=z
   cases z'⟩
 keep:=λi h h' st k=>k it (by simp) _ st
 item:=by
  intro X hP hw hK hc i aa s U H E I hf st hg;subst hP hw hK;obtain⟨f0,f1,f2,f3,f4,f5⟩:=hf it (by simp);have W:=Walks.range (prog:=X.prog) (w:=X.w) (I.ok.hd hc) it lo 1 n;refine W.item i s _ _ hg st λv h' tk hv dR kk=>?_
  obtain⟨t,rfl⟩:=hv;have I1:Inv X aa U H { s with heap:=h',toks:=tk }:=I.turned (λb o hb e=>kk b o (by simpa using hb) e) f0 f1 f3 f4 f5;refine⟨_,rfl,zP (s:={ s with heap:=h',toks:=tk }) (n:= "range_iterator") dR rfl rfl (by decide) ⟨.int (lo+i),H,I1,⟨t,?_⟩,⟨rfl,rfl⟩,dR,λb hb=>(hf b hb).1⟩⟩;rw[Int.mul_one]
 done:=by
  intro X hP hw hK hc i aa s U H E I hf st hg;subst hP hw hK;obtain⟨f0,f1,f2,f3,f4,f5⟩:=hf it (by simp);exact wpAny_pyNext_range_end (I.ok.hd hc) st (by have:n<=i:=hg;omega) λh' eb=>⟨rfl,I.turned (t':=s.toks) (λb o hb e=>eb b o hb e) f0 f1 f3 f4 f5⟩
 self:=λ_ _ _ _ _ st h=>wpAny_pyIter_rangeiter st h
section
variable{X:Cx}
theorem Bz{U:St}{H:Hp}{s:c_}{R:It->Hp->Prop}{E:b_->c_->Prop}{lo hi:Int}{t u v:Tok}(I:Inv X aa U H s)(h1:-(2 ^ 62)<=lo)(h2:lo < 2 ^ 62)(h3:-(2 ^ 62)<=hi)(h4:hi < 2 ^ 62)(q:R (Itr lo (hi - lo).toNat) H):q_ (r_ X.prog X.w) X.A (U4 (.ref s.heap.objs.size)) (PIE X aa U tg R) E { s with heap:=s.heap.push { cls:=.type "range", data:=.fields #[.int lo t,.int hi u,.int 1 v] },toks:=tk }:=by
 refine wpAny_pyIter_range (IsRange.new ..) (small_one h1 h2 h3 h4) ?_;have I1:Inv X aa U H { s with heap:=s.heap.push { cls:=.type "range", data:=.fields #[.int lo t,.int hi u,.int 1 v] },toks:=tk }:=I.kept λb o e=>f_ _ e
 refine⟨(s.heap.push { cls:=.type "range", data:=.fields #[.int lo t,.int hi u,.int 1 v] }).objs.size,[(s.heap.push { cls:=.type "range", data:=.fields #[.int lo t,.int hi u,.int 1 v] }).objs.size],_,_,H,rfl,
  I1.kept (t':=tk) λb o e=>f_ _ e,HN _ lo (hi - lo).toNat,?_,λb hb=>?_,q⟩
 ·have e1:lo+((0:Nat):Int)*1=lo:=by simp
  have e2:(((hi - lo).toNat:Nat):Int) - ((0:Nat):Int)=rangeSize lo hi 1:=by rw[rangeSize_one];split<;>omega
  show IsRangeIter _ _ (lo+((0:Nat):Int)*1) ((((hi - lo).toNat:Nat):Int) - ((0:Nat):Int)) 1;rw[e1,e2];exact z_ _ rfl
 ·have e:b=(s.heap.push { cls:=.type "range", data:=.fields #[.int lo t,.int hi u,.int 1 v] }).objs.size:=by simpa using hb
  subst e;exact I1.fpOk (w_ _) (I1.hok.fresh (w_ _))
noncomputable def iRng1(ta:TA):TI:=λU H R=>ta U H λvs H1=>∃j:Int,vs=[.int j]/\-(2 ^ 62)<=j/\j < 2 ^ 62/\R (Itr 0 j.toNat) H1
noncomputable def iRng2(ta:TA):TI:=λU H R=>ta U H λvs H1=>∃i j:Int,vs=[.int i,.int j]/\(-(2 ^ 62)<=i/\i < 2 ^ 62/\-(2 ^ 62)<=j/\j < 2 ^ 62)/\R (Itr i (j - i).toNat) H1
theorem Mk{a:Qe}{ta:TA}{p:Pos}(hg:Gl X "range")(hm:X.mg "range"=none)(ha:PA X [a] ta)(hs:e_ [a] X.env=[(false,Qf a X.env)]:=by rfl):PI X tg (.Call (.Name "range" p) [a] [] pos) (iRng1 ta):=by
 intro aa s U H R I h;refine Wg (tf I hg hm VN (O_ (thn (ha pos aa s U H _ I h) λus s1 ⟨vs,H1,I1,r1,q1⟩=>?_) hs rfl));obtain⟨j,e,q1,q2,q⟩:=q1;subst e;cases r1 with
 | cons r rr =>
  cases rr;obtain⟨t,rfl⟩:=r;exact call_range_1 (Bz I1 (by omega) (by omega) q1 q2 (by simpa using q))
theorem M'{a b:Qe}{ta:TA}{p:Pos}(hg:Gl X "range")(hm:X.mg "range"=none)(ha:PA X [a,b] ta)(hs:e_ [a,b] X.env=[(false,Qf a X.env),(false,Qf b X.env)]:=by rfl)(ck:e_ [b] X.env=[(false,Qf b X.env)]:=by rfl):
  PI X tg (.Call (.Name "range" p) [a,b] [] pos) (iRng2 ta):=by
 intro aa s U H R I h;refine Wg (tf I hg hm VN (O_ (thn (ha pos aa s U H _ I h) λus s1 ⟨vs,H1,I1,r1,q1⟩=>?_) (by rw[hs,ck]) (by rw[ck];rfl)));obtain⟨i,j,e,⟨q1,q2,q3,q4⟩,q⟩:=q1;subst e;cases r1 with
 | cons r rr =>
  cases rr with
  | cons r' rr =>
   cases rr;obtain⟨t,rfl⟩:=r;obtain⟨t',rfl⟩:=r';exact call_range_2 (Bz I1 q1 q2 q3 q4 q)
noncomputable def tFor(wi:TI)(g:TG)(tb:TS):TS:=λD U H=>wi U H λJ H1=>∃W:Nat->Nat->St->Hp->Prop,(∃m,W 0 m U H1)/\∀i m U H,W i m U H →
 (J.stop i H/\D.nx U H)\/(J.go i H/\∃N:St->Hp->Prop,(∀ao H',N ao H'->∃m',m' < m/\W (i+1) m' ao H')/\∀x H',J.yld i H x H'->g x U H' λaX H2=>tb { D with nx:=N,ct:=N,bk:=D.nx } aX H2)
noncomputable def pinsAt(fp:List l_)(h:L_):List (l_×Obj):=fp.filterMap λb=>(h.get? b).map λo=>(b,o)
theorem wS{h:L_}{o:Obj}(hb:b∈fp)(e:h.get? b=some o):(b,o)∈pinsAt fp h:=Tf.mpr ⟨b,hb,by rw[e];rfl⟩
theorem LY{h:L_}{p:l_×Obj}(hp:p∈pinsAt fp h):p.1∈fp/\h.get? p.1=some p.2:=by
 obtain⟨b,hb,e⟩:=Tf.mp hp;cases q:h.get? b with
 | none=>rw[q] at e;cases e
 | some o =>
  rw[q] at e;have e':(b,o)=p:=Qb e;subst e';exact⟨hb,q⟩
theorem Inv.pinned{U:St}{H:Hp}{s:c_}(I:Inv X aa U H s)(hf:∀b∈fp,FpOk X aa H b)(ho:∀b∈fp,∃o,s.heap.get? b=some o/\∀v,o.data≠.cell v):Inv X (aa++pinsAt fp s.heap) U H s:=
 I.pins_of λp hp=>(K_.mp hp).elim (λz=>I.pin p (M_ _ z)) λz=>by
  obtain⟨hb,e⟩:=LY z;obtain⟨f0,f1,f2,_⟩:=hf p.1 hb;obtain⟨o,e',d⟩:=ho p.1 hb;rw[e] at e';cases e';exact⟨e,f0,f1,f2,d⟩
theorem Inv.unpinned{pl:List (l_×Obj)}{U:St}{H:Hp}{s:c_}(I:Inv X (aa++pl) U H s):Inv X aa U H s:=I.pins_of λp hp=>I.pin p (M_ _ (Q_ _ hp))
theorem G'{body:List Qo}{wi:TI}{g:TG}{tb:TS}(hp:TQ (r_ X.prog X.w) X.A X.env X.xe)(hc:X.calm=true)(hi:PI X tg iter wi)(hg:PG X tg g)(hb:PSs X body tb)(hs:∀x,QP iter X.env x=pure x:=by intros;rfl):PS X (.For tg iter body [] pos) (tFor wi g tb):=by
 intro aa s U H D I h;refine wpAny_For (thn (hi aa s U H _ I h) λv s1 h1=>thn h1 λim s2 h2=>?_) hs;obtain⟨it,fp,tn,J,H2,e,I2,T,dS,f2,W,⟨m0,w0⟩,turn⟩:=h2;subst e
 -- what stays true of the iterator's objects through the cn
 have cV:∀{H':Hp},(∀b∈fp,H' b=none)->∀b∈fp,FpOk X aa H' b:=λhn b hb=>⟨hn b hb,(f2 b hb).2⟩
 refine codeAny_forLoop_any (λn s'=>∃i ao H',Inv X aa ao H' s'/\tn i s'.heap/\(∀b∈fp,H' b=none)/\W i n ao H') ?_ m0 ⟨0,U,H2,I2,dS,λb hb=>(f2 b hb).1,w0⟩;rintro n s3 ⟨i,cU,H3,I3,fC,lf,w3⟩
 rcases turn i n cU H3 w3 with⟨stop,qn⟩ | ⟨go,N,hN,step⟩
 ·refine Rn hp (thn (T.done X rfl rfl rfl hc i aa s3 cU H3 X.xe I3 (cV lf) fC stop) λr s4 ⟨hr,I4⟩=>?_);subst hr;exact SV ⟨cU,H3,I4,qn⟩
 ·refine Rn hp (thn (T.item X rfl rfl rfl hc i aa s3 cU H3 X.xe I3 (cV lf) fC go) λr s4 ⟨u,hr,h4⟩=>?_);subst hr;refine Rn hp (thn h4 λ_ s5 ⟨x,H5,I5,r5,y5,fD,io⟩=>?_);have oe:=I5.pinned (cV io) (T.obj _ _ fD);refine Rn hp (thn (hg _ s5 cU H5 x u _ oe r5 (step x H5 y5)) λ_ s6 ⟨og,H6,I6,q6⟩=>?_);refine Rn hp (thn (hb _ s6 og H6 _ I6 q6) λf s7 q7=>?_)
  have Vz:∀{cW:St}{H7:Hp},Inv X (aa++pinsAt fp s5.heap) cW H7 s7->N cW H7->∃m,m < n/\∃i ao H',Inv X aa ao H' s7/\tn i s7.heap/\(∀b∈fp,H' b=none)/\W i m ao H':=λ{cW H7} I7 n7=>by
   obtain⟨m',hm,w7⟩:=hN cW H7 n7;refine⟨m',hm,i+1,cW,H7,I7.unpinned,T.keep _ _ _ fD λb hb o e=>(I7.pin (b,o) (M_ _ (M_ _ (wS hb e)))).1,λb hb=>?_,w7⟩;obtain⟨o,e,d⟩:=T.obj _ _ fD b hb;exact(I7.pin (b,o) (M_ _ (M_ _ (wS hb e)))).2.1
  cases f with
  | next=>obtain⟨cW,H7,I7,n7⟩:=q7;exact Vz I7 n7
  | cont=>obtain⟨cW,H7,I7,n7⟩:=q7;exact Vz I7 n7
  | brk=>obtain⟨cW,H7,I7,q7⟩:=q7;exact⟨cW,H7,I7.unpinned,q7⟩
  | ret v=>obtain⟨x7,cW,H7,I7,r7,q7⟩:=q7;exact⟨x7,cW,H7,I7.unpinned,r7,q7⟩
end
abbrev R2:=V->V->Hp->VK->Prop
def OpR(X:Cx)(f:b_->b_->Sem b_)(r:R2):Prop:=
 ∀(aa:List (l_×Obj)) (s:c_) (U:St) (H:Hp) (x y:V) (v u:b_) (Q:VK),Inv X aa U H s->RelV x v->RelV y u->r x y H Q →
  q_ (r_ X.prog X.w) X.A (f v u) (EP X aa U Q) X.xe s
def UnR(X:Cx)(f:b_->Sem b_)(r:V->Hp->VK->Prop):Prop:=
 ∀(aa:List (l_×Obj)) (s:c_) (U:St) (H:Hp) (x:V) (v:b_) (Q:VK),Inv X aa U H s->RelV x v->r x H Q →
  q_ (r_ X.prog X.w) X.A (f v) (EP X aa U Q) X.xe s
def CallR(X:Cx)(f:b_)(r:List V->Hp->VK->Prop):Prop:=
 ∀(aa:List (l_×Obj)) (s:c_) (U:St) (H:Hp) (xs:List V) (us:List b_) (Q:VK),Inv X aa U H s->Vals xs us->r xs H Q →
  q_ (r_ X.prog X.w) X.A (call f us) (EP X aa U Q) X.xe s
noncomputable def tOp(r:R2)(ta tb:TE):TE:=λU H Q=>ta U H λx H1=>tb U H1 λy H2=>r x y H2 Q
noncomputable def tUn(r:V->Hp->VK->Prop)(ta:TE):TE:=λU H Q=>ta U H λx H1=>r x H1 Q
noncomputable def rI(C:Int->Int->Prop)(g:Int->Int->V):R2:=λx y H Q=>∃i j,x=.int i/\y=.int j/\C i j/\Q (g i j) H
noncomputable def rI0(g:Int->Int->V):R2:=λx y H Q=>∃i j,x=.int i/\y=.int j/\Q (g i j) H
def rU(g:Int->V):V->Hp->VK->Prop:=λx H Q=>∃i,x=.int i/\Q (g i) H
section
variable{X:Cx}{a b c:Qe}{ta tb tc:TE}
theorem binT(ha:PE X a ta)(hb:PE X b tb){s:c_}{U:St}{H:Hp}{R:V->V->Hp->Prop}(I:Inv X aa U H s)(h:ta U H λx H1=>tb U H1 λy H2=>R x y H2){Q:b_->c_->Prop}{f:b_->b_->Sem b_}(hf:∀v u s2 x y H2,Inv X aa U H2 s2->RelV x v->RelV y u->R x y H2->q_ (r_ X.prog X.w) X.A (f v u) Q X.xe s2):
  q_ (r_ X.prog X.w) X.A (Qf a X.env) (λv aB=>q_ (r_ X.prog X.w) X.A (Qf b X.env) (λu bS=>q_ (r_ X.prog X.w) X.A (f v u) Q X.xe bS) X.xe aB) X.xe s:=by
 refine thn (ha aa s U H _ I h) λv s1 ⟨x,H1,I1,r1,q1⟩=>?_
 refine thn (hb aa s1 U H1 _ I1 q1) λu s2 ⟨y,H2,I2,r2,q2⟩=>?_
 exact hf v u s2 x y H2 I2 r1 r2 q2
theorem CU{op:Operator}{r:R2}(ho:OpR X (Ry op) r)(ha:PE X a ta)(hb:PE X b tb):PE X (.BinOp a op b pos) (tOp r ta tb):=by
 intro aa s U H Q I h;exact wpAny_BinOp (binT ha hb I h λv u s2 x y H2 I2 rx ry q=>ho aa s2 U H2 x y v u Q I2 rx ry q)
theorem Hn{op:UnaryOp}{r:V->Hp->VK->Prop}(ho:UnR X (unaryOp op) r)(ha:PE X a ta):PE X (.UnaryOp op a pos) (tUn r ta):=by
 intro aa s U H Q I h;exact UnaryOp_ (thn (ha aa s U H _ I h) λv s1 ⟨x,H1,I1,r1,q1⟩=>ho aa s1 U H1 x v Q I1 r1 q1)
theorem opI{f:b_->b_->Sem b_}{C:Int->Int->Prop}{g:Int->Int->Int}(rule:∀(i j:Int) (t u:Tok) (s:c_) (Q:b_->c_->Prop) (E:b_->c_->Prop),C i j->Q (.int (g i j) s.toks) { s with toks:=s.toks+1 }->q_ (r_ X.prog X.w) X.A (f (.int i t) (.int j u)) Q E s):
  OpR X f (rI C λi j=>.int (g i j)):=by
 intro aa s U H x y v u Q I rx ry h;obtain⟨i,j,rfl,rfl,hc,q⟩:=h;obtain⟨t,rfl⟩:=rx;obtain⟨t',rfl⟩:=ry;exact rule i j t t' s _ _ hc ⟨.int (g i j),H,I.tok _,⟨_,rfl⟩,q⟩
theorem opI0{f:b_->b_->Sem b_}{g:Int->Int->Int}(rule:∀(i j:Int) (t u:Tok) (s:c_) (Q:b_->c_->Prop) (E:b_->c_->Prop),Q (.int (g i j) s.toks) { s with toks:=s.toks+1 }->q_ (r_ X.prog X.w) X.A (f (.int i t) (.int j u)) Q E s):
  OpR X f (rI0 λi j=>.int (g i j)):=by
 intro aa s U H x y v u Q I rx ry h;obtain⟨i,j,rfl,rfl,q⟩:=h;obtain⟨t,rfl⟩:=rx;obtain⟨t',rfl⟩:=ry;exact rule i j t t' s _ _ ⟨.int (g i j),H,I.tok _,⟨_,rfl⟩,q⟩
theorem opB0{f:b_->b_->Sem b_}{g:Int->Int->Bool}(rule:∀(i j:Int) (t u:Tok) (s:c_) (Q:b_->c_->Prop) (E:b_->c_->Prop),Q (.bool (g i j)) s->q_ (r_ X.prog X.w) X.A (f (.int i t) (.int j u)) Q E s):
  OpR X f (rI0 λi j=>.bl (g i j)):=by
 intro aa s U H x y v u Q I rx ry h;obtain⟨i,j,rfl,rfl,q⟩:=h;obtain⟨t,rfl⟩:=rx;obtain⟨t',rfl⟩:=ry;exact rule i j t t' s _ _ ⟨.bl (g i j),H,I,rfl,q⟩
def CPow(i j:Int):Prop:=0<=j/\j<=1000000/\i.natAbs < 2 ^ 64
def CMul(i j:Int):Prop:=(-(2 ^ 64) < i/\i < 2 ^ 64)\/(-(2 ^ 64) < j/\j < 2 ^ 64)
theorem CMul.ok{i j:Int}(h:CMul i j):IntMulOk i j:=by
 rcases h with⟨h1,h2⟩ | ⟨h1,h2⟩
 ·exact .of_left (intBits_le_64 h1 h2)
 ·exact .of_right (intBits_le_64 h1 h2)
theorem G9:OpR X (Ry .Add) (rI0 λi j=>.int (i+j)):=opI0 λ_ _ _ _ _ _ _ q=>add_int q
theorem MO:OpR X (Ry .Sub) (rI0 λi j=>.int (i - j)):=opI0 λ_ _ _ _ _ _ _ q=>sub_int q
theorem GO:OpR X (Ry .Mult) (rI CMul λi j=>.int (i*j)):=opI λ_ _ _ _ _ _ _ hc q=>mul_int q hc.ok
theorem KZ:OpR X (Ry .Mod) (rI (λ_ j=>0 < j) λi j=>.int (i % j)):=opI λi j _ _ _ _ _ hc q=>by
 have h1:(0:Int) < j:=hc;exact mod_int' (by omega) (by rw[Int.fmod_eq_emod_of_nonneg i (by omega)];exact q)
theorem Hv:OpR X (Ry .Pow) (rI CPow λi j=>.int (i ^ j.toNat)):=opI λ_ _ _ _ _ _ _ hc q=>pow_int_small hc.1 hc.2.1 hc.2.2 q
theorem unI{f:b_->Sem b_}{g:Int->Int}(rule:∀(i:Int) (t:Tok) (s:c_) (Q:b_->c_->Prop) (E:b_->c_->Prop),Q (.int (g i) s.toks) { s with toks:=s.toks+1 }->q_ (r_ X.prog X.w) X.A (f (.int i t)) Q E s):
  UnR X f (rU λi=>.int (g i)):=by
 intro aa s U H x v Q I rx h;obtain⟨i,rfl,q⟩:=h;obtain⟨t,rfl⟩:=rx;exact rule i t s _ _ ⟨.int (g i),H,I.tok _,⟨_,rfl⟩,q⟩
theorem MR:UnR X (unaryOp .USub) (rU λi=>.int (-i)):=unI λ_ _ _ _ _ q=>neg_int q
end
section
variable{X:Cx}{a b c:Qe}{ta tb tc:TE}
theorem DV{U:St}{H:Hp}{s:c_}{Q:VK}{k k':Bool}(I:Inv X aa U H s)(q:Q (.bl k) H)(e:k=k'):EP X aa U Q (.bool k') s:=by
 subst e;exact⟨.bl k,H,I,rfl,q⟩
theorem D':OpR X (Qq .Lt) (rI0 λi j=>.bl (decide (i < j))):=opB0 λ_ _ _ _ _ _ _ q=>lt_int q
theorem wH:OpR X (Qq .LtE) (rI0 λi j=>.bl (decide (i<=j))):=opB0 λ_ _ _ _ _ _ _ q=>le_int q
theorem E9:OpR X (Qq .Gt) (rI0 λi j=>.bl (decide (j < i))):=opB0 λ_ _ _ _ _ _ _ q=>gt_int q
theorem G7:OpR X (Qq .GtE) (rI0 λi j=>.bl (decide (j<=i))):=opB0 λ_ _ _ _ _ _ _ q=>ge_int q
theorem Cs:OpR X (Qq .Is) (λx y H Q=>y=.non/\Q (.bl (decide (x=.non))) H):=by
 intro aa s U H x y v u Q I rx ry h;obtain⟨rfl,q⟩:=h;cases ry;refine is_none_gen (DV I q ?_)
 cases x<;>first
  | (cases rx;rfl)
  | (obtain⟨t,rfl⟩:=rx;rfl)
theorem Fu:OpR X (Qq .IsNot) (λx y H Q=>y=.non/\Q (.bl (!decide (x=.non))) H):=by
 intro aa s U H x y v u Q I rx ry h;obtain⟨rfl,q⟩:=h;cases ry;refine isnot_none_gen (DV I q ?_)
 cases x<;>first
  | (cases rx;rfl)
  | (obtain⟨t,rfl⟩:=rx;rfl)
theorem OpR.or{f:b_->b_->Sem b_}{r r':R2}(h:OpR X f r)(h':OpR X f r'):OpR X f (λx y H Q=>r x y H Q\/r' x y H Q):=by
 intro aa s U H x y v u Q I rx ry q
 rcases q with q | q
 ·exact h aa s U H x y v u Q I rx ry q
 ·exact h' aa s U H x y v u Q I rx ry q
theorem nomark(b:Qe)(h:op≠.In:=by decide)(h2:op≠.NotIn:=by decide):Rf op b=false:=by
 have e1:(op == CmpOp.In)=false:=by cases op<;>first | rfl | exact absurd rfl h
 have e2:(op == CmpOp.NotIn)=false:=by cases op<;>first | rfl | exact absurd rfl h2
 cases b<;>simp[Rf,e1,e2]
theorem Gk{r:R2}(ho:OpR X (Qq op) r)(ha:PE X a ta)(hb:PE X b tb)(hm:Rf op b=false):PE X (.Compare a [op] [b] pos) (tOp r ta tb):=by
 intro aa s U H Q I h;exact wpAny_Compare1 (binT ha hb I h λv u s2 x y H2 I2 rx ry q=>ho aa s2 U H2 x y v u Q I2 rx ry q) hm
noncomputable def tTest(t:TE):TT:=λU H Q=>t U H λx H'=>∃k,x=.bl k/\Q k H'
theorem y8{r:R2}(ho:OpR X (Qq op) r)(ha:PE X a ta)(hb:PE X b tb)(hm:Rf op b=false):PT X (.Compare a [op] [b] pos) (tTest (tOp r ta tb)):=by
 intro aa s U H Q I h
 refine wpAny_isTrue_Compare1 (thn (ha aa s U H _ I h) λv s1 ⟨x,H1,I1,r1,q1⟩=>thn (hb aa s1 U H1 _ I1 q1) λu s2 ⟨y,H2,I2,r2,q2⟩ =>
  thn (ho aa s2 U H2 x y v u _ I2 r1 r2 q2) λc s3 ⟨z,H3,I3,r3,k,e,q3⟩=>?_) hm
 subst e;cases r3;exact Qz ⟨H3,I3,q3⟩
noncomputable def tChain(r r':R2)(ta tb tc:TE):TE:=λU H Q=>ta U H λx H1=>tb U H1 λy H2=>r x y H2 λz H3=>∃k,z=.bl k ∧
 (if k=true then tc U H3 λw' H4=>r' y w' H4 Q else Q (.bl false) H3)
theorem Jw{r r':R2}(ho:OpR X (Qq op) r)(bV:OpR X (Qq bX) r')(ha:PE X a ta)(hb:PE X b tb)(hc:PE X c tc)(hm:TR [op,bX] [b,c]=false:=by with_unfolding_all rfl):PE X (.Compare a [op,bX] [b,c] pos) (tChain r r' ta tb tc):=by
 intro aa s U H Q I h
 refine Compare_chain (thn (ha aa s U H _ I h) λv s1 ⟨x,H1,I1,r1,q1⟩=>chain_link (thn (hb aa s1 U H1 _ I1 q1) λu s2 ⟨y,H2,I2,r2,q2⟩ =>
  thn (ho aa s2 U H2 x y v u _ I2 r1 r2 q2) λd s3 ⟨z,H3,I3,r3,k,e,q3⟩=>?_)) hm
 subst e;cases r3;refine Qz ?_;cases k with
 | false=>exact ite_ff ⟨.bl false,H3,I3,rfl,q3⟩
 | true=>exact ite_tt (chain_last (thn (hc aa s3 U H3 _ I3 q3) λw' s4 ⟨z',H4,I4,r4,q4⟩=>bV aa s4 U H4 y z' u w' Q I4 r2 r4 q4))
theorem NL{r r':R2}(ho:OpR X (Qq op) r)(bV:OpR X (Qq bX) r')(ha:PE X a ta)(hb:PE X b tb)(hc:PE X c tc)(hm:TR [op,bX] [b,c]=false:=by with_unfolding_all rfl):PT X (.Compare a [op,bX] [b,c] pos) (tTest (tChain r r' ta tb tc)):=by
 intro aa s U H Q I h
 refine isTrue_chain (thn (ha aa s U H _ I h) λv s1 ⟨x,H1,I1,r1,q1⟩=>test_link (thn (hb aa s1 U H1 _ I1 q1) λu s2 ⟨y,H2,I2,r2,q2⟩ =>
  thn (ho aa s2 U H2 x y v u _ I2 r1 r2 q2) λd s3 ⟨z,H3,I3,r3,k,e,q3⟩=>?_)) hm
 subst e;cases r3;refine Qz ?_;cases k with
 | false =>
  obtain⟨k',e',q'⟩:=q3;cases e';exact ite_ff ⟨H3,I3,q'⟩
 | true =>
  refine ite_tt (test_last (thn (hc aa s3 U H3 _ I3 q3) λw' s4 ⟨z',H4,I4,r4,q4⟩=>thn (bV aa s4 U H4 y z' u w' _ I4 r2 r4 q4) λd' s5 ⟨z2,H5,I5,r5,k2,e2,q5⟩=>?_));subst e2;cases r5;exact Qz ⟨H5,I5,q5⟩
theorem line63:(x_:Nat) < 2 ^ 63:=by rw[Q7];decide
theorem Jy:OpR X (Ry .Add) (λx y H Q=>∃i j,x=.str i/\y=.str j/\i.length+j.length<=x_/\Q (.str (i++j)) H):=by
 intro aa s U H x y v u Q I rx ry h;obtain⟨i,j,rfl,rfl,hz,q⟩:=h;obtain⟨t,rfl⟩:=rx;obtain⟨t',rfl⟩:=ry;exact add_str (λt' tk=>⟨.str (i++j),H,I.tok _,⟨_,rfl⟩,q⟩) hz
theorem vals1{x:V}(r:Vals [x] us):∃u,us=[u]/\RelV x u:=by
 cases r with
 | cons r1 r2=>cases r2;exact⟨_,rfl,r1⟩
theorem vals2{x y:V}(r:Vals [x,y] us):∃u w',us=[u,w']/\RelV x u/\RelV y w':=by
 cases r with
 | cons r1 r2 =>
  cases r2 with
  | cons r3 r4=>cases r4;exact⟨_,_,rfl,r1,r3⟩
theorem Ik(hc:X.calm=true):CallR X (.builtin "max") (λxs H Q=>∃i j,xs=[.int i,.int j]/\Q (.int (if j > i then j else i)) H):=by
 intro aa s U H xs us Q I r h;obtain⟨i,j,rfl,q⟩:=h;obtain⟨u,w',rfl,⟨t,rfl⟩,⟨t',rfl⟩⟩:=vals2 r;refine max_two_ints (I.ok.hd hc) λh' tk k=>⟨_,H,I.kept k,?_,q⟩
 by_cases hj:j > i
 ·rw[if_pos hj,if_pos hj];exact⟨_,rfl⟩
 ·rw[if_neg hj,if_neg hj];exact⟨_,rfl⟩
theorem JS(hc:X.calm=true):CallR X (.builtin "min") (λxs H Q=>∃i j,xs=[.int i,.int j]/\Q (.int (if j < i then j else i)) H):=by
 intro aa s U H xs us Q I r h;obtain⟨i,j,rfl,q⟩:=h;obtain⟨u,w',rfl,⟨t,rfl⟩,⟨t',rfl⟩⟩:=vals2 r;refine min_two_ints (I.ok.hd hc) λh' tk k=>⟨_,H,I.kept k,?_,q⟩
 by_cases hj:j < i
 ·rw[if_pos hj,if_pos hj];exact⟨_,rfl⟩
 ·rw[if_neg hj,if_neg hj];exact⟨_,rfl⟩
end
theorem RelO.some_of{v:V}{o:Option b_}(r:RelO (some v) o):∃u,o=some u/\RelV v u:=by
 cases o with
 | none=>exact(show False from r).elim
 | some u=>exact⟨u,rfl,r⟩
structure Room(k:Nat)(A:Q6):Prop where
 hd:A.handled=none
 dp:A.depth+3*k+5 < recursionLimit
 un:A.units+16*k+200 < Q8
 gd:A.guards=some []
theorem Room.mono(r:Room k A)(h:j<=k):Room j A:=⟨r.hd,by have:=r.dp;omega,by have:=r.un;omega,r.gd⟩
theorem Room.deeper(r:Room (k+1) A)(env:Env):Room k (A.deeper env):=
 ⟨r.hd,by have:=r.dp;show A.depth+1+3*k+5 < _;omega,by have:=r.un;show A.units+3+16*k+200 < _;omega,r.gd⟩
theorem Room.depth(r:Room k A):A.depth < recursionLimit:=by have:=r.dp;omega
theorem Room.units(r:Room k A):A.units+64 < Q8:=by have:=r.un;omega
noncomputable def tNil:TA:=λ_ H Q=>Q [] H
noncomputable def tCons(ta:TE)(tr:TA):TA:=λU H Q=>ta U H λx H1=>tr U H1 λxs H2=>Q (x::xs) H2
section
variable{X:Cx}{es:List Qe}{te:TE}{t:TA}
theorem vP:PA X [] tNil:=λ_ _ _ _ H Q I h=>Tt ⟨[],H,I,.nil,h⟩
theorem sY(ha:PE X e te)(hr:PA X es t)(hs:e_ (e::es) X.env=(false,Qf e X.env)::e_ es X.env:=by rfl):PA X (e::es) (tCons te t):=by
 intro pos aa s U H Q I h;rw[hs];show q_ _ _ (spliced ((false,Qf e X.env)::Qk pos (e_ es X.env))) _ _ s;refine Tg (thn (ha aa s U H _ I h) λu s1 ⟨x,H1,I1,r1,q1⟩=>?_);exact thn (hr pos aa s1 U H1 _ I1 q1) λus s2 ⟨xs,H2,I2,r2,q2⟩=>⟨x::xs,H2,I2,.cons r1 r2,q2⟩
noncomputable def tTup(t:TA):TE:=λU H Q=>t U H λxs H1=>xs.length<=x_/\∀p,H1 p=none->Q (.ref p) (upd H1 p (.tup xs))
noncomputable def tLst(t:TA):TE:=λU H Q=>t U H λxs H1=>xs.length<=x_/\∀p,H1 p=none->Q (.ref p) (upd H1 p (.lst xs))
theorem MH{x1}(h:PA X es t):PE X (.Tuple es x1 pos) (tTup t):=by
 intro aa s U H Q I hq;refine wpAny_Tuple_spliced (thn (h pos aa s U H _ I hq) λus s1 ⟨xs,H1,I1,r,z,q⟩=>⟨by rw[←r.length];exact z,?_⟩);have hf:H1 s1.heap.objs.size=none:=I1.hok.fresh (w_ _);refine⟨.ref s1.heap.objs.size,upd H1 s1.heap.objs.size (.tup xs),I1.laid (t':=s1.toks) (λb u e=>f_ _ e) (w_ _) ?_,rfl,q _ hf⟩;exact⟨z,us,r,⟨_,z_ _ rfl,rfl,_,rfl⟩⟩
theorem K4(h:PA X es t):PE X (.List es pos) (tLst t):=by
 intro aa s U H Q I hq;refine wpAny_List_spliced (thn (h pos aa s U H _ I hq) λus s1 ⟨xs,H1,I1,r,z,q⟩=>⟨by rw[←r.length];exact z,?_⟩);have hf:H1 s1.heap.objs.size=none:=I1.hok.fresh (w_ _);refine⟨.ref s1.heap.objs.size,upd H1 s1.heap.objs.size (.lst xs),I1.laid (t':=s1.toks) (λb u e=>f_ _ e) (w_ _) ?_,rfl,q _ hf⟩;exact⟨z,us,0,r,z_ _ rfl⟩
end
abbrev Sp:=List V->Hp->VK->XK->Prop
abbrev CXT:=List Env->Hp->c_->XK->b_->c_->Prop
structure Env0(P:A_)(w:I_)(K:PySem.W.Frag)(mg:Str->Option b_)(base:L_)(A:Q6)(outer:List Env)(s:c_)(H:Hp):Prop where
 frames:A.frames=some outer
 mod:Mod K mg base
 bs:∀b o,base.get? b=some o->s.heap.get? b=some o/\H b=none
 bsz:base.objs.size<=s.heap.objs.size
 funs:s.heap.FunFrames base outer
 frf:∀b∈frs outer,H b=none
 hok:HOk P w H s.heap
 bare:Ts s.gens
def CE(outer:List Env)(P:A_)(w:I_)(H:Hp)(s:c_)(Q:VK)(u:b_)(s':c_):Prop:=
 ∃v H',s'.os=s.os/\Ts s'.gens/\Un (frs outer) [] H H' s.heap s'.heap/\HOk P w H' s'.heap/\RelV v u/\Q v H'
def CR(CX:CXT)(outer:List Env)(P:A_)(w:I_)(H:Hp)(s:c_)(Q:VK)(E:XK)(r:Result)(s':c_):Prop:=
 match r with
 | .ok (.ret u)=>CE outer P w H s Q u s'
 | .ok _=>False
 | .error e=>CX outer H s E e s'
structure FnOk(P:A_)(w:I_)(K:PySem.W.Frag)(mg:Str->Option b_)(base:L_)(CX:CXT)(k:Nat)(f:l_)(fd:Rp)(ps:List Str)(sp:Sp):Prop where
 len:∀vs H Q E,sp vs H Q E->vs.length=ps.length
 run:∀(A:Q6) (outer:List Env) (s:c_) (H:Hp) (args:Args) (us:List b_) (vs:List V) (Q:VK) (E:XK),Room k A->Env0 P w K mg base A outer s H->Vf s fd args (ps.zip us)->Vals vs us->sp vs H Q E →
  Sk (r_ P w) A (.call (.ref f) args) (CR CX outer P w H s Q E) s
section
variable{X:Cx}{U:St}{H:Hp}{s:c_}
theorem Inv.env0(I:Inv X aa U H s):Env0 X.prog X.w X.K X.mg X.base X.A X.stack s H:=
 ⟨I.ok.frames,I.ok.mod,I.bs,y_ I.ok.bsz I.sz,I.stack,I.stkFree,I.hok,I.bare⟩
theorem Inv.after{Q:VK}(I:Inv X aa U H s)(h:CE X.stack X.prog X.w H s Q u s'):EP X aa U Q u s':=by
 obtain⟨v,H',os,bare,un,hok,r,q⟩:=h;obtain⟨hh,g,d,t,jT⟩:=s';obtain rfl:jT=s.os:=os;exact⟨v,H',I.call (h':=hh) (g':=g) (d':=d) (t':=t) (ch:=[]) un hok bare (λb z=>absurd z (by simp)),r,q⟩
end
noncomputable def tCall(sp:Sp)(dU:List V)(E:XK)(t:TA):TE:=λU H Q=>t U H λvs H1=>sp (vs++dU) H1 Q E
def Binds(K:PySem.W.Frag)(fd:Rp)(ps:List Str)(ds:List b_):Prop:=
 ∀(s:c_) (us:List b_),K.In s.heap->(us++ds).length=ps.length->Vf s fd ⟨us,[]⟩ (ps.zip (us++ds))
theorem Binds.all{K:PySem.W.Frag}(h:∀us:List b_,us.length=ps.length->Rz fd ⟨us,[]⟩=pure (ps.zip us)):Binds K fd ps []:=λs us _ hl=>by
 rw[Q0] at hl ⊢;exact .of_eq (h us hl)
def Passes(CX:CXT)(X:Cx)(E:XK):Prop:=∀(aa:List (l_×Obj)) (U:St) (H:Hp) (s:c_) (e:b_) (s':c_),Inv X aa U H s->CX X.stack H s E e s'->X.xe e s'
section
variable{X:Cx}{CX:CXT}{C:l_}{sp:Sp}{dU:List V}{ds:List b_}{E:XK}{m:Str}{p:Pos}{o:Qe}{es:List Qe}{ta:TE}{t:TA}
theorem KN{U:St}{H:Hp}{s:c_}{Q:VK}{vs:List V}(F:FnOk X.prog X.w X.K X.mg X.base CX k f fd ps sp)(hr:Room k X.A)(hb:Binds X.K fd ps ds)(hd:Vals dU ds)(hx:Passes CX X E)(I:Inv X aa U H s)(r:Vals vs us)(h:sp (vs++dU) H Q E):q_ (r_ X.prog X.w) X.A (call (.ref f) us) (EP X aa U Q) X.xe s:=by
 have r2:Vals (vs++dU) (us++ds):=r.append hd;have hl:(us++ds).length=ps.length:=by rw[←r2.length];exact F.len _ _ _ _ h
 refine wpAny_call (RV (F.run X.A X.stack s H ⟨us,[]⟩ (us++ds) (vs++dU) Q E hr I.env0 (hb s us I.kIn hl) r2 h) λr s' hq=>?_);cases r with
 | error e=>exact hx aa U H s e s' I hq
 | ok fl =>
  cases fl with
  | ret u=>exact I.after hq
  | next=>exact V8 hq
  | brk=>exact V8 hq
  | cont=>exact V8 hq
theorem u6(F:FnOk X.prog X.w X.K X.mg X.base CX k f fd ps sp)(hr:Room k X.A)(hg:Gl X x)(hm:X.mg x=some (.ref f))(hk:Re X.K (.ref f)=true)(hb:Binds X.K fd ps ds)(hd:Vals dU ds)(hx:Passes CX X E)(ha:PA X (e::es) t)(bf:(x == ("__debug__":Str))=false:=by decide)(he:e_ (e::es) X.env=(false,Qf e X.env)::e_ es X.env:=by rfl)(aF:(Qk pos (e_ es X.env)).any (·.1)=false:=by rfl):
  PE X (.Call (.Name x p) (e::es) [] pos) (tCall sp dU E t):=by
 intro aa s U H Q I h;refine RG (MW I hg hm ?_ bf);refine PySem.W.callWith_K (h₀:=X.base) I.ok.mod.kin hk (thn (ha pos aa s U H _ I h) λus s1 ⟨vs,H1,I1,r,q⟩=>⟨I1.kIn,?_⟩) he aF;exact KN F hr hb hd hx I1 r q
end
structure FnScope(N P:List Str)(sc:S_):Prop where
 kind:sc.kind=.function
 co:sc.isCoroutine=false
 gen:sc.isGenerator=false
 nd:N.Nodup
 pre:N.take P.length=P
 par:∀x∈P,sc.names.lookup x=some .local\/sc.names.lookup x=some .cell
 nofree:∀y∈sc.names,y.2≠.free
theorem EJ{kindOf:Str->Option QE}{x:Str}:∀{binds:List (Str×b_)}{m:Str->Option b_},(∀v,(x,v)∉binds)->VO kindOf binds m x=m x
 | [],_,_=>rfl
 | (n,v)::r,m,h=>by
  unfold VO;rw[EJ λw hw=>h w (i_ _ hw)];split
  ·have:x≠n:=by rintro rfl;exact h v k_
   simp[this]
  ·rfl
theorem CP{kindOf:Str->Option QE}{x:Str}:∀{binds:List (Str×b_)}{m:Str->Option b_},(∀v,(x,v)∉binds)->VP kindOf binds m x=m x
 | [],_,_=>rfl
 | (n,v)::r,m,h=>by
  unfold VP;rw[CP λw hw=>h w (i_ _ hw)];split
  ·rfl
  ·have:x≠n:=by rintro rfl;exact h v k_
   simp[this]
theorem BK{kindOf:Str->Option QE}{x:Str}{v:b_}:∀{P:List Str}{vs:List b_}{i:Nat}{m:Str->Option b_},P.Nodup->P[i]?=some x->vs[i]?=some v->kindOf x=some .local →
  VO kindOf (P.zip vs) m x=some v
 | [],_,_,_,_,h,_,_=>by simp at h
 | _::_,[],_,_,_,_,h,_=>by simp at h
 | p::P,w::vs,0,m,nd,h1,h2,hk=>by
  simp at h1 h2;subst h1;subst h2;show VO kindOf ((p,w)::P.zip vs) m p=_;unfold VO;rw[EJ λv hv=>(QQ.mp nd).1 (VQ hv).1,if_pos hk];simp
 | p::P,w::vs,i+1,m,nd,h1,h2,hk=>by
  show VO kindOf ((p,w)::P.zip vs) m x=_;unfold VO;exact BK (i:=i) (QQ.mp nd).2 (by simpa using h1) (by simpa using h2) hk
theorem CS{kindOf:Str->Option QE}{x:Str}{v:b_}:∀{P:List Str}{vs:List b_}{i:Nat}{m:Str->Option b_},P.Nodup->P[i]?=some x->vs[i]?=some v->kindOf x≠some .local →
  VP kindOf (P.zip vs) m x=some v
 | [],_,_,_,_,h,_,_=>by simp at h
 | _::_,[],_,_,_,_,h,_=>by simp at h
 | p::P,w::vs,0,m,nd,h1,h2,hk=>by
  simp at h1 h2;subst h1;subst h2;show VP kindOf ((p,w)::P.zip vs) m p=_;unfold VP;rw[CP λv hv=>(QQ.mp nd).1 (VQ hv).1,if_neg hk];simp
 | p::P,w::vs,i+1,m,nd,h1,h2,hk=>by
  show VP kindOf ((p,w)::P.zip vs) m x=_;unfold VP;exact CS (i:=i) (QQ.mp nd).2 (by simpa using h1) (by simpa using h2) hk
noncomputable def start(N:List Str)(vs:List V):St:=vs.map some++Ql (N.length - vs.length) none
noncomputable def cxOf(CX:CXT)(P:A_)(w:I_)(K:PySem.W.Frag)(mg:Str->Option b_)(base:L_)(N:List Str)(qual:Str)(scope:S_)(f:l_)(cd:b_)(A:Q6)(outer:List Env)(s:c_)(H:Hp)(E:XK):Cx where
 prog:=P
 w:=w
 K:=K
 mg:=mg
 base:=base
 A:=A.deeper (Ua qual scope s.heap.objs.size f cd)
 N:=N
 s₀:=s
 H₀:=H
 env:=Ua qual scope s.heap.objs.size f cd
 outer:=outer
 stack:=Ua qual scope s.heap.objs.size f cd::outer
 ex:=[]
 calm:=true
 fn:=λ_=>true
 pn:=[]
 xe:=λe s'=>q_ (r_ P w) (A.deeper (Ua qual scope s.heap.objs.size f cd)) (leaving (Ua qual scope s.heap.objs.size f cd) e) (λ_ fE=>CX outer H s E e fE) (λe' fE=>CX outer H s E e' fE) s'
theorem Cn{sc:S_}(h:sc.names.lookup x=some .cell):∃c,(cellsFrom n sc.names []).lookup x=some c:=by
 have q:=PySem.W.cellsFrom_some sc.names n [] (.inl h);exact R5.mp q
theorem J8{CX:CXT}{P:A_}{w:I_}{K:PySem.W.Frag}{N:List Str}{outer:List Env}{s s1:c_}{H:Hp}{E:XK}{vs:List V}(S:FnScope N ps scope)(hd:A.handled=none)(e0:Env0 P w K mg base A outer s H)(hl:vs.length=ps.length)(r:Vals vs us)(x:InCallC s s.heap.objs.size (VO (Ua qual scope s.heap.objs.size f cd).kindOf (ps.zip us) λ_=>none) (cellsFrom (s.heap.objs.size+1) scope.names []) (VP (Ua qual scope s.heap.objs.size f cd).kindOf (ps.zip us) λ_=>none) s1):
  Inv (cxOf CX P w K mg base N qual scope f cd A outer s H E) [] (start N vs) H s1:=by
 have aF:ps.length<=N.length:=by have:=congrArg length S.pre;rw[SN] at this;omega
 obtain⟨h1,tk,rfl,hk⟩:=x.done;have fW:∀b:l_,b∉(cxOf CX P w K mg base N qual scope f cd A outer s H E).ex:=λb z=>absurd (show b∈([]:List l_) from z) (by simp)
 refine⟨⟨e0.mod,S.kind,rfl,rfl,w_ _,λy z c h1 h2=>?_,λy hy=>?_,λy c _ h=>?_,λ_=>hd,Q6.frames_deeper e0.frames,.inr ⟨rfl,rfl⟩,λb z=>absurd z (fW b),e0.bs,e0.bsz,λb _ _=>fW b,λb z=>absurd z (fW b),e0.funs,e0.frf⟩,
  rfl,e0.bare,Un.kept hk,⟨_,x.toInCall.ns,λi y v h1 h2 h3=>?_⟩,λy c h=>⟨_,x.cell y c h⟩,e0.hok.fresh (w_ _),λy c h=>?_,λp hp=>absurd (show p∈([]:List (l_×Obj)) from hp) (by simp),e0.hok.kept hk,?_⟩
 ·exact name_of_addr x.apart (PySem.mem_of_lookup h1) (PySem.mem_of_lookup h2)
 ·have hy:scope.names.lookup y=some .cell\/scope.names.lookup y=some .free:=hy
  rcases hy with hy | hy
  ·exact Cn hy
  ·exact absurd rfl (S.nofree _ (PySem.mem_of_lookup hy))
 ·exact SM (x.above y c (PySem.mem_of_lookup h))
 ·have hi:i < vs.length:=by
   unfold start at h2;by_cases hi:i < vs.length
   ·exact hi
   ·rw[QX (by simpa using hi)] at h2;rw[RA] at h2;split at h2<;>cases h2
  have ha:vs[i]?=some v:=by
   unfold start at h2;rw[Rq (by simpa using hi),u_] at h2;cases e:vs[i]? with
   | none=>rw[e] at h2;cases h2
   | some a=>rw[e] at h2;cases h2;rfl
  obtain⟨u,hu,rv⟩:=r.get ha
  have hp:ps[i]?=some y:=by
   rw[←S.pre,TB (by omega)];exact h1
  have lj:ps.Nodup:=by rw[←S.pre];exact S.nd.sublist (Vg _ _)
  refine⟨u,rv,?_⟩
  rcases S.par y (B_ hp) with k | k
  ·exact .inl ⟨k,BK lj hp hu k⟩
  ·obtain⟨c,e⟩:=Cn (n:=s.heap.objs.size+1) k;refine .inr ⟨.inl k,c,e,?_⟩;have q:=x.cell y c e;rw[CS lj hp hu (by show scope.names.lookup y≠_;rw[k];decide)] at q;exact q
 ·exact e0.hok.fresh (SM (x.above y c (PySem.mem_of_lookup h)))
 ·unfold start;show _=N.length;rw[p_,s_,Qa];omega
theorem Ii{CX:CXT}{P:A_}{w:I_}{K:PySem.W.Frag}{name:Str}{body:List Qo}{dV kV bL aA:b_}{N:List Str}{sp:Sp}(lk:K.lookup f=some ⟨oc,od,.func (Ub name qual params body scope dV kV bL pm an aA ct),dW⟩)(cu:codeIn K aA qual=true)(S:FnScope N ps scope)(len:∀vs H Q E,sp vs H Q E->vs.length=ps.length)(eG:∀(A:Q6) (outer:List Env) (s:c_) (H:Hp) (vs:List V) (Q:VK) (E:XK),Room k (A.deeper (Ua qual scope s.heap.objs.size f aA))->sp vs H Q E →
   ∃t,PSs (cxOf CX P w K mg base N qual scope f aA A outer s H E) body t/\t { nx:=λ_ H'=>Q .non H',rt:=Q } (start N vs) H):
  FnOk P w K mg base CX (k+1) f (Ub name qual params body scope dV kV bL pm an aA ct) ps sp:=by
 refine⟨len,λA outer s H args us vs Q E hr e0 hb r dX=>?_⟩;have hl:=len _ _ _ _ dX;have KX:K.In s.heap:=e0.mod.kin.keeps λb o e=>(e0.bs b o e).1
 have lim:s.heap.NoLimit:=e0.mod.nolimit.keeps λb o e=>(e0.bs b o e).1
 have jU:∀y∈ps.zip us,scope.names.lookup y.1=some .local\/(scope.names.lookup y.1=some .cell/\((cellsFrom (s.heap.objs.size+1) scope.names []).lookup y.1).isSome=true):=λ⟨n,v⟩ hy=>by
  rcases S.par n (VQ hy).1 with q | q
  ·exact .inl q
  ·exact .inr ⟨q,PySem.W.cellsFrom_some _ _ _ (.inl q)⟩
 refine codeAny_call_function hr.depth (KX _ _ lk) rfl S.co S.gen rfl (PySem.W.codeRec_of KX cu) (hb _ _ _ _ ?_);refine wpAny_newFunctionEnv_cells S.kind jU λenv he s1 x=>?_
 subst he;refine⟨lim.keeps x.toInCall.keep,codeAny_func ?_⟩;obtain⟨t,ht,hq⟩:=eG A outer s H vs Q E (hr.deeper _) dX;have I:Inv (cxOf CX P w K mg base N qual scope f aA A outer s H E) [] (start N vs) H s1:=J8 S hr.hd e0 hl r x;refine Qs (ht [] s1 (start N vs) H _ I hq) (λfl s' hs=>?_) λe s' hs=>hs
 have fin:∀{ao:St}{H':Hp}{v:V}{u:b_},Inv (cxOf CX P w K mg base N qual scope f aA A outer s H E) [] ao H' s'->RelV v u->Q v H'->CE outer P w H s Q u s':=
  λ{ao H' v u} J rv q=>⟨v,H',J.os,J.bare,J.base,J.hok,rv,q⟩
 cases fl with
 | ret u =>
  obtain⟨v,ao,H',J,rv,q⟩:=hs;exact fin J rv q
 | next =>
  obtain⟨ao,H',J,q⟩:=hs;exact fin (v:=V.non) (u:=b_.none) J rfl q
 | brk =>
  obtain⟨_,_,_,q⟩:=hs;exact V8 q
 | cont =>
  obtain⟨_,_,_,q⟩:=hs;exact V8 q
section
variable{X:Cx}{p:Pos}{es:List Qe}{t:TA}{id T:String}{r:List V->Hp->VK->Prop}
noncomputable def tCB(r:List V->Hp->VK->Prop)(t:TA):TE:=λU H Q=>t U H λvs H1=>r vs H1 Q
theorem xq(hc:CallR X (.builtin id) r)(hg:Gl X x)(hm:X.mg x=none)(hv:Q2 x=some (.builtin id))(ha:PA X (e::es) t)(hn:x ≠ "__name__":=by decide)(bf:(x == ("__debug__":Str))=false:=by decide)(he:e_ (e::es) X.env=(false,Qf e X.env)::e_ es X.env:=by rfl)(aF:(Qk pos (e_ es X.env)).any (·.1)=false:=by rfl):PE X (.Call (.Name x p) (e::es) [] pos) (tCB r t):=by
 intro aa s U H Q I h;refine RG (tf I hg hm hv ?_ hn bf);exact SA (thn (ha pos aa s U H _ I h) λus s1 ⟨vs,H1,I1,r1,q1⟩=>hc aa s1 U H1 vs us Q I1 r1 q1) he aF
theorem A8(hc:CallR X (.type T) r)(hg:Gl X x)(hm:X.mg x=none)(hv:Q2 x=some (.type T))(ha:PA X (e::es) t)(hn:x ≠ "__name__":=by decide)(bf:(x == ("__debug__":Str))=false:=by decide)(he:e_ (e::es) X.env=(false,Qf e X.env)::e_ es X.env:=by rfl)(aF:(Qk pos (e_ es X.env)).any (·.1)=false:=by rfl):PE X (.Call (.Name x p) (e::es) [] pos) (tCB r t):=by
 intro aa s U H Q I h;refine RG (tf I hg hm hv ?_ hn bf);exact O_ (thn (ha pos aa s U H _ I h) λus s1 ⟨vs,H1,I1,r1,q1⟩=>hc aa s1 U H1 vs us Q I1 r1 q1) he aF
end
end L2
variable{xs zs:List L2.V}{o:L2.HO}{X:L2.Cx}{U:L2.St}{H' H2 I I' G I0 J:L2.Hp}{ta:L2.TA}{kvs:List (List L2.Key×L2.V)}{ks:List L2.Key}{v0:L2.V}
namespace HT
open PySem PyProof.Rows
section
variable{prog:A_}{w:I_}{E:b_->c_->Prop}{s:c_}
theorem GX{t:l_}{ws:List b_}{Q:b_->c_->Prop}(ht:VI s.heap t vs.toArray)(hb:VI s.heap b ws.toArray)(hv:vs≠[])(h1:ws=[]->Q (.ref t) s)(h2:ws≠[]->Q (.ref s.heap.objs.size) { s with heap:=s.heap.push { cls:=.type "tuple", data:=.seq (vs++ws).toArray } })(hsz:vs.length+ws.length<=x_):q_ (r_ prog w) A (Ry .Add (.ref t) (.ref b)) Q E s:=by
 obtain⟨⟨cls,dd,data,sl⟩,ho,hc,n,hd⟩:=id ht;obtain⟨⟨lr,ir,data2,fF⟩,eJ,dD,n2,dE⟩:=id hb;simp only at hc hd dD dE;subst hc hd dD dE;have e:vs.toArray++ws.toArray=(vs++ws).toArray:=by simp
 by_cases hw:ws=[]
 ·exact Vh ⟨_,ho,rfl⟩ ⟨_,eJ,rfl⟩ TU UZ Uv Um (TV _ _)
   (tuple_addW1 t b vs.toArray ws.toArray n n2 dd ir sl fF (by simpa using hv) (by simp[hw])) ⟨ho,eJ,h1 hw⟩
 ·refine Vh ⟨_,ho,rfl⟩ ⟨_,eJ,rfl⟩ TU UZ Uv Um (TV _ _)
   (tuple_addW2 t b vs.toArray ws.toArray n n2 dd ir sl fF (by simpa using hv) (by simpa using hw) (by rw[o_,o_];exact hsz)) ⟨ho,eJ,?_⟩
  rw[e];exact h2 hw
noncomputable def sIx(n d:Nat):Option Int->Nat
 | none=>d
 | some v=>if v < 0 then(v+(n:Int)).toNat else min v.toNat n
theorem xt(n d:Nat):sIx n d none=d:=rfl
theorem Fj(n d:Nat)(hd:d<=n)(o:Option Int):sIx n d o<=n:=by
 cases o with
 | none=>exact hd
 | some v =>
  show(if v < 0 then(v+(n:Int)).toNat else min v.toNat n)<=n;by_cases hv:v < 0
  ·rw[if_pos hv];omega
  ·rw[if_neg hv];exact Nat.min_le_right _ _
theorem Ej(v:Int)(n d:Nat):(if v < 0 then max (v+(n:Int)) 0 else min v (n:Int))=((sIx n d (some v):Nat):Int):=by
 show(if v < 0 then max (v+(n:Int)) 0 else min v (n:Int))=(((if v < 0 then(v+(n:Int)).toNat else min v.toNat n):Nat):Int);by_cases hv:v < 0
 ·simp only[if_pos hv];omega
 ·simp only[if_neg hv];omega
theorem MT(lo hi:Option Int)(n:Nat):VA lo hi 1 (n:Int)=(((sIx n 0 lo:Nat):Int),((sIx n n hi:Nat):Int)):=by
 have h1:¬((1:Int) < 0):=by omega
 unfold VA;simp only[h1,if_false];refine Prod.ext ?_ ?_
 ·cases lo with
  | none=>rfl
  | some v=>exact Ej v n 0
 ·cases hi with
  | none=>rfl
  | some v=>exact Ej v n n
theorem IR(i j:Nat):Uw (i:Int) (j:Int) 1=j - i:=by
 unfold Uw;have h1:(1:Int) > 0:=by omega
 simp only[h1,if_true,Int.ediv_one];split<;>omega
theorem Db{v:b_}{o:Option Int}{Q:Option Int->c_->Prop}(p:U5 v o)(h:Q o s):q_ (r_ prog w) A (Rr.Slice.slicePartIndex v) Q E s:=by
 cases p with
 | none=>exact slicePart_none h
 | int i t=>exact slicePart_int h
theorem K7{sl:l_}{lo:Option Int}{Q:Int×Int×Nat->c_->Prop}(hs:s.heap.IsSliceOf sl vl vu .none)(pl:U5 vl lo)(pu:U5 vu hi)(h:Q (((sIx n 0 lo:Nat):Int),1,sIx n n hi - sIx n 0 lo) s):q_ (r_ prog w) A (sliceApplied (.ref sl) (pure (n:Int))) Q E s:=by
 obtain⟨os,fX,lv,fG⟩:=id hs;unfold sliceApplied Rr.Slice.sliceFields;refine a_ (a_ (Rs fX fG (x:=vl) rfl (a_ (Rs fX fG (x:=vu) rfl (a_ (Rs fX fG (x:=.none) rfl (d_ ?_)))))));refine a_ (slicePart_none ?_);show q_ _ _ (if((1:Int) == 0)=true then _ else _) _ _ s;rw[if_neg (by decide)];refine a_ (Db pl (a_ (Db pu (a_ (d_ ?_)))));show q_ _ _ (match VA lo hi 1 (n:Int) with | (lo,hi)=>pure (lo,(1:Int),Uw lo hi 1)) _ _ s;rw[MT lo hi n];show q_ _ _ (pure (((sIx n 0 lo:Nat):Int),(1:Int),Uw ((sIx n 0 lo:Nat):Int) ((sIx n n hi:Nat):Int) 1)) _ _ s;rw[IR];exact d_ h
theorem Mi(xs:Array b_)(i k:Nat):((Qw k).filterMap λ(m:Nat)=>xs[((i:Int)+(m:Int)*1).toNat]?).toArray=((xs.toList.drop i).take k).toArray:=by
 have e:(λ(m:Nat)=>xs[((i:Int)+(m:Int)*1).toNat]?)=λm=>xs[i+m]?:=by
  funext m
  have:((i:Int)+(m:Int)*1).toNat=i+m:=by omega
  rw[this]
 rw[e];have:=pick_run xs i k;rw[List.filterMap_map] at this;have e2:((λx=>xs[x]?)∘λx=>i+x)=λm=>xs[i+m]?:=rfl
 rw[e2] at this;rw[this]
theorem JE{t sl:l_}{lo:Option Int}{Q:b_->c_->Prop}(ht:VI s.heap t aj)(hs:s.heap.IsSliceOf sl vl vu .none)(pl:U5 vl lo)(pu:U5 vu hi)(hw:¬(sIx aj.size 0 lo=0/\sIx aj.size aj.size hi=aj.size))(h:Q (.ref s.heap.objs.size) { s with heap:=s.heap.push { cls:=.type "tuple", data:=.seq ((aj.toList.drop (sIx aj.size 0 lo)).take (sIx aj.size aj.size hi - sIx aj.size 0 lo)).toArray } })(hsz:aj.size<=x_):q_ (r_ prog w) A (Uc (.ref t) (.ref sl)) Q E s:=by
 have dF:sizeOk (.seq ((aj.toList.drop (sIx aj.size 0 lo)).take (sIx aj.size aj.size hi - sIx aj.size 0 lo)).toArray):=by
  show((aj.toList.drop (sIx aj.size 0 lo)).take (sIx aj.size aj.size hi - sIx aj.size 0 lo)).toArray.size<=x_;rw[o_,SN,RS,QC];omega
 have hj:sIx aj.size aj.size hi<=aj.size:=Fj _ _ (w_ _) hi;obtain⟨os,fX,lv,fG⟩:=id hs;have oh:s.TypeIs (.ref sl) "slice":=⟨os,fX,lv⟩;unfold Uc
 try with_reducible refine Qv ?_
 first | refine a_ (d_ ?_) | skip
 refine a_ (wpAny_sequenceKey ht.typeIs (by decide) ?_)
 refine a_ (Qr (name:=TX "__getitem__") ht.typeIs Rx
  (Qy Rx ht.typeIs entry_tuple_getitem ?_ (args_tuple_getitem _ _)))
 show q_ _ _ (tupleItemsOf (.ref t) >>= _) _ _ s;refine a_ (tupleItemsOf_ ht ?_);refine a_ (Vi oh ?_);rw[if_pos (by decide)];refine a_ (K7 hs pl pu ?_)
 have oj:¬((((sIx aj.size 0 lo:Nat):Int) == 0&&(1:Int) == 1&&(sIx aj.size aj.size hi - sIx aj.size 0 lo) == aj.size)=true):=by
  intro q;rw[Qn,Qn] at q;have q1:((sIx aj.size 0 lo:Nat):Int)=0:=eq_of_beq q.1.1;have q2:sIx aj.size aj.size hi - sIx aj.size 0 lo=aj.size:=eq_of_beq q.2;exact hw ⟨by omega,by omega⟩
 show q_ _ _ (if(((sIx aj.size 0 lo:Nat):Int) == 0&&(1:Int) == 1&&(sIx aj.size aj.size hi - sIx aj.size 0 lo) == aj.size)=true then _ else _) _ _ s;rw[if_neg oj,Mi]
 first
  | exact a_ (m:=U6 _) (Qh (d_ ⟨_,rfl,d_ h⟩) dF)
  | exact a_ (m:=U6 _) (Qh (a_ (d_ (d_ ⟨_,rfl,d_ h⟩))) dF)
  | exact a_ (a_ (m:=U6 _) (Qh (d_ (d_ ⟨_,rfl,d_ h⟩)) dF))
  | exact a_ (a_ (m:=U6 _) (Qh (d_ ⟨_,rfl,d_ h⟩) dF))
end
end HT
namespace L2
open PySem PySem.Spec PyProof.Rows
abbrev TO:=St->Hp->(Option Int->Hp->Prop)->Prop
def PO(X:Cx)(e:Option Qe)(t:TO):Prop:=
 ∀(aa:List (l_×Obj)) (s:c_) (U:St) (H:Hp) (Q:Option Int->Hp->Prop),Inv X aa U H s->t U H Q →
  q_ (r_ X.prog X.w) X.A (evalPart e X.env) (λu s'=>∃o H',Inv X aa U H' s'/\U5 u o/\Q o H') X.xe s
noncomputable def tNoPart:TO:=λ_ H Q=>Q none H
noncomputable def tPart(t:TE):TO:=λU H Q=>t U H λx H1=>∃i,x=.int i/\Q (some i) H1
section
variable{te:TE}{lo hi:Option Qe}{tl th:TO}
theorem J2:PO X none tNoPart:=by
 intro aa s U H Q I h;rw[evalPart_none];exact d_ ⟨none,H,I,.none,h⟩
theorem LL(h:PE X e te):PO X (some e) (tPart te):=by
 intro aa s U H Q I hw;rw[evalPart_some];refine thn (h aa s U H _ I hw) λu s1 ⟨x,H1,I1,r1,q1⟩=>?_
 obtain⟨i,rfl,q⟩:=q1;obtain⟨t,rfl⟩:=r1;exact⟨some i,H1,I1,.int i t,q⟩
def SlR(X:Cx)(r:V->Option Int->Option Int->Hp->VK->Prop):Prop:=
 ∀(aa:List (l_×Obj)) (s:c_) (U:St) (H:Hp) (x:V) (v vl vu:b_) (lo hi:Option Int) (sl:l_) (Q:VK),Inv X aa U H s->RelV x v->s.heap.IsSliceOf sl vl vu .none->U5 vl lo->U5 vu hi->r x lo hi H Q →
  ∃T id,typeLookup (.type T) "__getitem__"=pure (some (.builtin id))/\s.TypeIs v T/\q_ (r_ X.prog X.w) X.A (Uc v (.ref sl)) (EP X aa U Q) X.xe s
theorem SlR.or{r r':V->Option Int->Option Int->Hp->VK->Prop}(h:SlR X r)(h':SlR X r'):SlR X (λx lo hi H Q=>r x lo hi H Q\/r' x lo hi H Q):=by
 intro aa s U H x v vl vu lo hi sl Q I rx hs pl pu q
 rcases q with q | q
 ·exact h aa s U H x v vl vu lo hi sl Q I rx hs pl pu q
 ·exact h' aa s U H x v vl vu lo hi sl Q I rx hs pl pu q
noncomputable def tSl(r:V->Option Int->Option Int->Hp->VK->Prop)(te:TE)(tl th:TO):TE:=λU H Q=>te U H λx H1=>tl U H1 λl H2=>th U H2 λu H3=>r x l u H3 Q
theorem F4{r:V->Option Int->Option Int->Hp->VK->Prop}(hr:SlR X r)(he:PE X e te)(hl:PO X lo tl)(hu:PO X hi th):PE X (.Subscript e (.Slice lo hi none p2) pos) (tSl r te tl th):=by
 intro aa s U H Q I h;refine VR (thn (he aa s U H _ I h) λv s1 ⟨x,H1,I1,r1,q1⟩=>?_);refine wpAny_Slice (thn (hl aa s1 U H1 _ I1 q1) λvl s2 ⟨l,H2,I2,pl,q2⟩=>thn (hu aa s2 U H2 _ I2 q2) λvu s3 ⟨u,H3,I3,pu,q3⟩=>?_);rw[evalPart_none];refine d_ ?_;have I4:Inv X aa U H3 { s3 with heap:=s3.heap.push { cls:=.type "slice", data:=.fields #[vl,vu,.none] } }:=I3.kept (t':=s3.toks) λb ob q=>f_ _ q
 obtain⟨T,id,hT,ht,hg⟩:=hr aa { s3 with heap:=s3.heap.push { cls:=.type "slice", data:=.fields #[vl,vu,.none] } } U H3 x v vl vu l u s3.heap.objs.size Q I4 r1 (L_.IsSliceOf.new ..) pl pu q3;show q_ (r_ X.prog X.w) X.A (U0 e (.Slice lo hi none p2) v (.ref s3.heap.objs.size)) (EP X aa U Q) X.xe { s3 with heap:=s3.heap.push { cls:=.type "slice", data:=.fields #[vl,vu,.none] } };exact tail_any (ops:=[.ref s3.heap.objs.size,v]) ht hT hg (by with_unfolding_all rfl)
noncomputable def cutV(xs:List V)(lo hi:Option Int):List V:=(xs.drop (HT.sIx xs.length 0 lo)).take (HT.sIx xs.length xs.length hi - HT.sIx xs.length 0 lo)
theorem Cm(xs:List V)(lo hi:Option Int):(cutV xs lo hi).length<=xs.length:=by
 unfold cutV;rw[SN,RS];omega
def rSlT(K:PySem.W.Frag):V->Option Int->Option Int->Hp->VK->Prop:=λx lo hi H Q=>∃a xs,x=.ref a/\SqT K H a xs ∧
 ¬(HT.sIx xs.length 0 lo=0/\HT.sIx xs.length xs.length hi=xs.length)/\∀p,H p=none->Q (.ref p) (upd H p (.tup (cutV xs lo hi)))
theorem NH:SlR X (rSlT X.K):=by
 intro aa s U H x v vl vu lo hi sl Q I rx hs pl pu h;obtain⟨a,xs,rfl,hx,hw,q⟩:=h;cases rx;obtain⟨ae,r,ht,hz⟩:=I.tuple hx;have aR:ae.toArray.size=xs.length:=by rw[o_];exact r.length.symm
 refine⟨"tuple", _,Rx.lookup,ht.typeIs,?_⟩;refine HT.JE ht hs pl pu (by rw[aR];exact hw) ?_ (by rw[aR];exact hz);rw[aR];refine⟨.ref s.heap.objs.size,_,I.laid (t':=s.toks) (o:=.tup (cutV xs lo hi)) (λb ob q=>f_ _ q) (w_ _) ?_,rfl,q _ (I.hok.fresh (w_ _))⟩;exact⟨y_ (Cm xs lo hi) hz,_,(r.drop (HT.sIx xs.length 0 lo)).take (HT.sIx xs.length xs.length hi - HT.sIx xs.length 0 lo),VI.new _ _⟩
noncomputable def rCatT(K:PySem.W.Frag):R2:=λx y H Q=>∃a b xs ys,x=.ref a/\y=.ref b/\SqT K H a xs/\SqT K H b ys/\xs≠[]/\xs.length+ys.length<=x_ ∧
 (ys=[]->Q (.ref a) H)/\(ys≠[]->∀p,H p=none->Q (.ref p) (upd H p (.tup (xs++ys))))
theorem Vals.nil_iff(r:Vals xs us):us=[]↔xs=[]:=by
 cases r with
 | nil=>simp
 | cons _ _=>simp
theorem Mm:OpR X (Ry .Add) (rCatT X.K):=by
 intro aa s U H x y v u Q I rx ry h;obtain⟨a,b,xs,ys,rfl,rfl,ha,hb,hx,hz,q1,q2⟩:=h;cases rx;cases ry;obtain⟨ae,r1,p1,_⟩:=I.tuple ha;obtain⟨bU,r2,p2,_⟩:=I.tuple hb;refine HT.GX p1 p2 (λz=>hx (r1.nil_iff.mp z)) (λz=>⟨.ref a,H,I,rfl,q1 (r2.nil_iff.mp z)⟩) (λz=>?_) (by rw[←r1.length,←r2.length];exact hz);refine⟨.ref s.heap.objs.size,_,I.laid (t':=s.toks) (o:=.tup (xs++ys)) (λb ob q=>f_ _ q) (w_ _) ?_,rfl,q2 (λw=>z (r2.nil_iff.mpr w)) _ (I.hok.fresh (w_ _))⟩;exact⟨by rw[p_];exact hz,_,r1.append r2,VI.new _ _⟩
end
noncomputable def ixN(n:Nat)(i:Int):Option Nat:=if 0<=i then(if i < n then some i.toNat else none) else if -(n:Int)<=i then some (i+n).toNat else none
noncomputable def atI{α:Type}(xs:List α)(i:Int):Option α:=(ixN xs.length i).bind λj=>xs[j]?
theorem DN{i:Int}(h:ixN n i=some j):seqIndex? i n=some j/\j < n/\-(n:Int)<=i/\i < n:=by
 unfold ixN at h;by_cases h0:0<=i
 ·rw[if_pos h0] at h;by_cases h1:i < n
  ·rw[if_pos h1] at h;have e:i.toNat=j:=Qb h;exact⟨by rw[VB h0 h1,e],by omega,by omega,h1⟩
  ·rw[if_neg h1] at h;cases h
 ·rw[if_neg h0] at h;by_cases h1:-(n:Int)<=i
  ·rw[if_pos h1] at h;have e:(i+n).toNat=j:=Qb h;exact⟨by rw[seqIndex_neg (by omega) h1,e],by omega,h1,by omega⟩
  ·rw[if_neg h1] at h;cases h
theorem CF{α:Type}{xs:List α}{i:Int}{v:α}(h:atI xs i=some v):∃j,seqIndex? i xs.length=some j/\xs[j]?=some v/\j < xs.length/\-(xs.length:Int)<=i/\i < xs.length:=by
 unfold atI at h;cases e:ixN xs.length i with
 | none=>rw[e] at h;cases h
 | some j =>
  rw[e] at h;obtain⟨h1,h2,h3,h4⟩:=DN e;exact⟨j,h1,h,h2,h3,h4⟩
def PlainIx(b:Qe):Prop:=∀o i,Ux b false o i=operate [o,i] (Uc o i)
def IxR(X:Cx)(r:R2):Prop:=
 ∀(value bg:Qe) (aa:List (l_×Obj)) (s:c_) (U:St) (H:Hp) (x y:V) (v u:b_) (Q:VK),Inv X aa U H s->RelV x v->RelV y u->r x y H Q →
  Ux bg false v u=operate [v,u] (Uc v u)->q_ (r_ X.prog X.w) X.A (U0 value bg v u) (EP X aa U Q) X.xe s
def MtR(X:Cx)(id:String)(r:V->List V->Hp->VK->Prop):Prop:=
 ∀(aa:List (l_×Obj)) (s:c_) (U:St) (H:Hp) (x:V) (xs:List V) (v:b_) (us:List b_) (Q:VK),Inv X aa U H s->RelV x v->Vals xs us->r x xs H Q →
  q_ (r_ X.prog X.w) X.A (call (.builtin id) (v::us)) (EP X aa U Q) X.xe s
section
variable{a b:Qe}{ta tb:TE}
theorem IxR.or{r r':R2}(h:IxR X r)(h':IxR X r'):IxR X (λx y H Q=>r x y H Q\/r' x y H Q):=by
 intro value bg aa s U H x y v u Q I rx ry q hs
 rcases q with q | q
 ·exact h value bg aa s U H x y v u Q I rx ry q hs
 ·exact h' value bg aa s U H x y v u Q I rx ry q hs
theorem BP{r:R2}(hr:IxR X r)(ha:PE X a ta)(hb:PE X b tb)(hs:PlainIx b):PE X (.Subscript a b pos) (tOp r ta tb):=by
 intro aa s U H Q I h;exact VR (binT ha hb I h λv u s2 x y H2 I2 rx ry q=>hr a b aa s2 U H2 x y v u Q I2 rx ry q (hs _ _))
noncomputable def rIxL(K:PySem.W.Frag):R2:=λx y H Q=>∃p xs i v,x=.ref p/\y=.int i/\SqL K H p xs/\atI xs i=some v/\Q v H
noncomputable def rIxT(K:PySem.W.Frag):R2:=λx y H Q=>∃p xs i v,x=.ref p/\y=.int i/\SqT K H p xs/\atI xs i=some v/\Q v H
theorem B5:IxR X (rIxL X.K):=by
 intro value bg aa s U H x y v u Q I rx ry h hs;obtain⟨p,xs,i,z,rfl,rfl,hq,he,q⟩:=h;cases rx;obtain⟨t,rfl⟩:=ry;obtain⟨ae,r,pl,hz⟩:=I.list hq;obtain⟨j,h1,h2,h3,h4,h5⟩:=CF he;obtain⟨w,ew,cX⟩:=r.get h2;have hl:=r.length;have hn:=line63;have fin:EP X aa U Q w s:=⟨z,H,I,cX,q⟩;by_cases h0:0<=i
 ·have hj:i.toNat=j:=by
   rw[VB h0 h5] at h1;exact Qb h1
  exact item_listR pl.isList h0 (by omega) (by rw[hj];simpa using ew) fin hs
 ·have hj:(i+(ae.toArray.size:Int)).toNat=j:=by
   rw[seqIndex_neg (by omega) h4] at h1;rw[o_,←hl];exact Qb h1
  exact Ud (x:=w) pl.isList.typeIs Vj.lookup
   (wpAny_getItem_list_neg (Q:=λr s'=>r=w/\EP X aa U Q r s') pl.isList (by omega) (by rw[o_]<;>omega) (by omega) (by rw[hj];simpa using ew) ⟨rfl,fin⟩) hs
theorem Nq:IxR X (rIxT X.K):=by
 intro value bg aa s U H x y v u Q I rx ry h hs;obtain⟨p,xs,i,z,rfl,rfl,hq,he,q⟩:=h;cases rx;obtain⟨t,rfl⟩:=ry;obtain⟨ae,r,pl,hz⟩:=I.tuple hq;obtain⟨j,h1,h2,h3,h4,h5⟩:=CF he;obtain⟨w,ew,cX⟩:=r.get h2;have hl:=r.length;have hn:=line63;have fin:EP X aa U Q w s:=⟨z,H,I,cX,q⟩
 exact Ud (x:=w) pl.typeIs slot_tuple_getitem.lookup
  (getItem_tuple (j:=j) (Q:=λr s'=>r=w/\EP X aa U Q r s') pl (by omega) (by omega) (by rw[o_,←hl];exact h1) (by simpa using ew) ⟨rfl,fin⟩) hs
theorem Kh(ae:List b_)(n j:Nat)(u:b_):Ue (·.setIfInBounds j u) { cls:=.type "list", data:=.seq ae.toArray n }={ cls:=.type "list", data:=.seq (ae.set j u).toArray n }:=by
 simp[Ue]
theorem Inv.lst{H:Hp}{s:c_}{p:l_}(I:Inv X aa U H s)(h:H p=some (.lst xs)):
  ∃(ae:List b_) (n:Nat),Vals xs ae/\s.heap.get? p=some { cls:=.type "list", data:=.seq ae.toArray n }/\xs.length<=x_:=by
 obtain⟨z,ae,n,r,e⟩:=I.hok p _ h;exact⟨ae,n,r,e,z⟩
theorem Inv.lstUpd{H:Hp}{s:c_}{p:l_}{ys:List V}{n':Nat}{f:Obj->Obj}(I:Inv X aa U H s)(h:H p=some (.lst xs))(ho:s.heap.get? p=some { cls:=.type "list", data:=.seq ae.toArray n })(hf:f { cls:=.type "list", data:=.seq ae.toArray n }={ cls:=.type "list", data:=.seq its'.toArray n' })(r:Vals ys its')(hz:ys.length<=x_)(t:Nat):
  Inv X aa U (upd H p (.lst ys)) { s with heap:=s.heap.update p f,toks:=t }:=by
 have e:(s.heap.update p f).get? p=some { cls:=.type "list", data:=.seq its'.toArray n' }:=by
  rw[QH f ho (by rw[hf]<;>rfl),hf]
 refine I.write (x:=p) (e:=p) (by rw[h];trivial) (.inl rfl) (λb u hb q=>(Qc _ _ (Qx hb)).trans q) ⟨_,e⟩ ?_;exact⟨hz,its',n',r,e⟩
def rSetL:V->V->V->Hp->(Hp->Prop)->Prop:=λo i v H Q=>∃p xs k j,o=.ref p/\i=.int k/\H p=some (.lst xs)/\ixN xs.length k=some j/\Q (upd H p (.lst (xs.set j v)))
theorem JI:PSet X rSetL:=by
 intro aa s U H o i v ov iv u Q I ro ri rv h;obtain⟨p,xs,k,j,rfl,rfl,hp,hj,q⟩:=h;cases ro;obtain⟨t,rfl⟩:=ri;obtain⟨ae,n,r,ho,hz⟩:=I.lst hp;obtain⟨h1,h2,h3,h4⟩:=DN hj;have hl:=r.length;have hn:=line63
 have I':Inv X aa U (upd H p (.lst (xs.set j v))) { s with heap:=s.heap.update p (Ue (·.setIfInBounds j u)) }:=
  I.lstUpd hp ho (Kh ae n j u) (r.set rv j) (by rw[Sa];exact hz) s.toks
 by_cases h0:0<=k
 ·have hk:k.toNat=j:=by
   rw[VB h0 h4] at h1;exact Qb h1
  exact PySem.W.ki_setAt ho h0 (by omega) (by rw[o_,←hl];exact h4) (by rw[hk];exact⟨_,I',q⟩)
 ·have hk:(k+(ae.toArray.size:Int)).toNat=j:=by
   rw[seqIndex_neg (by omega) h3] at h1;rw[o_,←hl];exact Qb h1
  exact PySem.W.ki_setBack ho (by omega) (by rw[o_,←hl];exact h3) (by omega) (by rw[hk];exact⟨_,I',q⟩)
theorem Lr(lo hi:Option Int)(n:Nat):(Sg lo hi none n).1=((HT.sIx n 0 lo:Nat):Int)/\(Sg lo hi none n).2.1=((HT.sIx n n hi:Nat):Int)/\(Sg lo hi none n).2.2=1:=by
 refine⟨?_,?_,rfl⟩
 ·cases lo with
  | none=>simp[Sg,HT.sIx]
  | some i =>
   simp only[Sg,HT.sIx,getD_none,show(1:Int) > 0 by decide,if_true];by_cases h:i < 0
   ·simp only[h,if_true]<;>omega
   ·simp only[h,if_false]<;>omega
 ·cases hi with
  | none=>simp[Sg,HT.sIx]
  | some i =>
   simp only[Sg,HT.sIx,getD_none,show(1:Int) > 0 by decide,if_true];by_cases h:i < 0
   ·simp only[h,if_true]<;>omega
   ·simp only[h,if_false]<;>omega
theorem HP(ae:List b_)(lo hi:Option Int):slicePick ae.toArray lo hi none=((ae.drop (HT.sIx ae.length 0 lo)).take (HT.sIx ae.length ae.length hi - HT.sIx ae.length 0 lo)).toArray:=by
 obtain⟨h1,h2,h3⟩:=Lr lo hi ae.toArray.size;unfold slicePick;rw[h1,h2,h3];simp only[sliceRange_one,pick_run,o_]<;>rfl
def rSlL(K:PySem.W.Frag):V->Option Int->Option Int->Hp->VK->Prop:=λx lo hi H Q=>∃a xs,x=.ref a/\SqL K H a xs/\∀p,H p=none->Q (.ref p) (upd H p (.lst (cutV xs lo hi)))
theorem MB:SlR X (rSlL X.K):=by
 intro aa s U H x v vl vu lo hi sl Q I rx hs pl pu h;obtain⟨a,xs,rfl,hx,q⟩:=h;cases rx;obtain⟨ae,r,ht,hz⟩:=I.list hx;have aR:=r.length;refine⟨"list", _,Vj.lookup,ht.isList.typeIs,?_⟩;refine wpAny_getItem_list_slice ht.isList hs pl pu .none (by simp) ?_ (by rw[o_]<;>omega);rw[HP,←aR];refine⟨.ref s.heap.objs.size,_,I.laid (t':=s.toks) (o:=.lst (cutV xs lo hi)) (λb ob q=>f_ _ q) (w_ _) ?_,rfl,q _ (I.hok.fresh (w_ _))⟩;exact⟨y_ (Cm xs lo hi) hz,_,0,(r.drop (HT.sIx xs.length 0 lo)).take (HT.sIx xs.length xs.length hi - HT.sIx xs.length 0 lo),z_ _ rfl⟩
theorem BM:CallR X (.builtin "len") (λxs H Q=>∃p ys,xs=[.ref p]/\(SqL X.K H p ys\/SqT X.K H p ys)/\Q (.int ys.length) H):=by
 intro aa s U H xs us Q I r h;obtain⟨p,ys,rfl,hq,q⟩:=h;obtain⟨u,rfl,rx⟩:=vals1 r;cases rx;have hn:=line63
 rcases hq with hq | hq
 ·obtain⟨ae,r',pl,hz⟩:=I.list hq;have aR:=r'.length;exact Calls.call_len_list pl.isList (by simp only[o_]<;>omega) ⟨.int ys.length,H,I.tok _,⟨s.toks+1,by rw[o_,aR]⟩,q⟩
 ·obtain⟨ae,r',pl,hz⟩:=I.tuple hq;have aR:=r'.length;exact len_tuple pl (by simp only[o_]<;>omega) ⟨.int ys.length,H,I.tok _,⟨s.toks+1,by rw[o_,aR]⟩,q⟩
theorem IL:CallR X (.type "list") (λxs H Q=>∃p ys,xs=[.ref p]/\(SqL X.K H p ys\/SqT X.K H p ys)/\∀l,H l=none->Q (.ref l) (upd H l (.lst ys))):=by
 intro aa s U H xs us Q I r h;obtain⟨p,ys,rfl,hq,q⟩:=h;obtain⟨u,rfl,rx⟩:=vals1 r;cases rx
 have fin:∀(ae:List b_),Vals ys ae->ys.length<=x_->∀(h':L_) (c':Nat),(∀b o',s.heap.get? b=some o'->h'.get? b=some o') →
   h'.get? s.heap.objs.size=some { cls:=.type "list", dict:=none,data:=.seq ae.toArray c',slots:=#[] }->EP X aa U Q (.ref s.heap.objs.size) { s with heap:=h' }:=λae r' hz h' c' kp e =>
  ⟨.ref s.heap.objs.size,_,I.laid (t':=s.toks) kp (w_ _) (show ObjOk X.prog X.w _ h' _ (.lst ys) from⟨hz,ae,c',r',e⟩),rfl,q _ (I.hok.fresh (w_ _))⟩
 rcases hq with hq | hq
 ·obtain⟨ae,r',pl,hz⟩:=I.list hq;have aR:=r'.length;obtain⟨o,ho,hc,n,hd⟩:=pl.isList;exact call_list_seq p (.inl rfl) ho hc hd (λh' c' kp e=>fin ae r' hz h' c' kp e) (by simp only[o_]<;>omega)
 ·obtain⟨ae,r',pl,hz⟩:=I.tuple hq;have aR:=r'.length;obtain⟨o,ho,hc,n,hd⟩:=pl;exact call_list_seq p (.inr rfl) ho hc hd (λh' c' kp e=>fin ae r' hz h' c' kp e) (by simp only[o_]<;>omega)
theorem HY:CallR X (.type "tuple") (λxs H Q=>∃p ys,xs=[.ref p]/\((SqL X.K H p ys/\∀l,H l=none->Q (.ref l) (upd H l (.tup ys)))\/(SqT X.K H p ys/\Q (.ref p) H))):=by
 intro aa s U H xs us Q I r h;obtain⟨p,ys,rfl,h⟩:=h;obtain⟨u,rfl,rx⟩:=vals1 r;cases rx
 rcases h with⟨hq,q⟩ | ⟨hq,q⟩
 ·obtain⟨ae,r',pl,hz⟩:=I.list hq;have aR:=r'.length;refine call_tuple_list pl.isList (λh' kp=>?_) (by simp only[o_]<;>omega);have I1:Inv X aa U H { s with heap:=h' }:=I.kept (t':=s.toks) kp
  have I2:Inv X aa U (upd H h'.objs.size (.tup ys)) { s with heap:=h'.push { cls:=.type "tuple", data:=.seq ae.toArray } }:=
   I1.laid (t':=s.toks) (λb o e=>f_ _ e) (w_ _) (show ObjOk X.prog X.w _ _ _ (.tup ys) from⟨hz,ae,r',VI.new _ _⟩)
  exact⟨.ref h'.objs.size,_,I2,rfl,q _ (I1.hok.fresh (w_ _))⟩
 ·obtain⟨ae,r',pl,hz⟩:=I.tuple hq;exact call_tuple_same pl ⟨.ref p,H,I,rfl,q⟩
def tyV(K:PySem.W.Frag)(T:String)(x:V)(H:Hp):Prop:=match x with
 | .str _=>T = "str"
 | .int _=>T = "int"
 | .ref p=>(T = "list"/\∃xs,SqL K H p xs)\/(T = "tuple"/\∃o,K.lookup p=some o/\o.cls=.type "tuple"/\o.dict=none) ∨
   (T = "dict"/\((∃kvs,H p=some (.dK kvs))\/∃kvs,H p=some (.dT kvs)))\/(T = "set"/\∃S n,H p=some (.set S n))
 | _=>False
theorem MF{H:Hp}{s:c_}{T:String}{x:V}{v:b_}(I:Inv X aa U H s)(r:RelV x v)(ty:tyV X.K T x H):
  s.TypeIs v T/\∀a,v=.ref a->∃ob,s.heap.get? a=some ob/\ob.dict=none:=by
 cases x with
 | str z =>
  obtain⟨t,rfl⟩:=r
  cases(show T = "str" from ty)
  exact⟨typeIs_str s z t,λ_ e=>nomatch e⟩
 | int i =>
  obtain⟨t,rfl⟩:=r
  cases(show T = "int" from ty)
  exact⟨typeIs_int s i t,λ_ e=>nomatch e⟩
 | ref p =>
  cases r
  rcases ty with⟨rfl,xs,hq⟩ | ⟨rfl,o,hk,hc,hd⟩ | ⟨rfl,hk⟩ | ⟨rfl,S,n,hk⟩
  ·obtain⟨ae,_,pl,_⟩:=I.list hq;refine⟨pl.isList.typeIs,λa e=>?_⟩;cases e;obtain⟨o,n,e,c,hd,_⟩:=pl;exact⟨o,e,hd⟩
  ·refine⟨⟨o,I.kIn p o hk,hc⟩,λa e=>?_⟩;cases e;exact⟨o,I.kIn _ o hk,hd⟩
  ·have z:∃o,s.heap.get? p=some o/\o.ExactDict:=by
    rcases hk with⟨kvs,hk⟩ | ⟨kvs,hk⟩
    ·obtain⟨_,_,_,_,o,_,_,e,ex,_⟩:=I.hok p _ hk;exact⟨o,e,ex⟩
    ·obtain⟨_,_,_,_,o,_,_,e,ex,_⟩:=I.hok p _ hk;exact⟨o,e,ex⟩
   obtain⟨o,e,ex⟩:=z;refine⟨⟨o,e,ex.1⟩,λa e2=>?_⟩;cases e2;exact⟨o,e,ex.2.1⟩
  ·obtain⟨o,_,_,_,e,ex,_⟩:=I.hok p _ hk;refine⟨⟨o,e,ex.1⟩,λa e2=>?_⟩;cases e2;exact⟨o,e,ex.2.1⟩
 | _=>exact V8 ty
noncomputable def tBM(K:PySem.W.Frag)(T:String)(r:V->List V->Hp->VK->Prop)(to:TE)(t:TA):TE:=λU H Q=>to U H λx H1=>tyV K T x H1/\t U H1 λxs H2=>r x xs H2 Q
variable{o:Qe}{es:List Qe}{to:TE}{t:TA}{name:Str}{T id:String}{r:V->List V->Hp->VK->Prop}
theorem yu(pa:PlainAttrs T)(slot:Slot T name id)(om:V' (.builtin id)=pure (.type "method_descriptor"))(hm:MtR X id r)(ho:PE X o to)(ha:PA X (e::es) t)(bY:TC o name X.env (Qf o X.env)=Qf o X.env:=by rfl)(cY:((Qk aN (e_ (e::es) X.env)).all (λx=>!x.1)&&(VS aN (Uy [] X.env)).all (λx=>x.1.isSome)
   &&decide ((e::es).length+([]:List Uf).length+(if([]:List Uf).isEmpty then 0 else 1) < 30))=true:=by rfl)(bZ:(bp.endLine == aN.line)=true:=by rfl)(hs:e_ (e::es) X.env=(false,Qf e X.env)::e_ es X.env:=by rfl)(bJ:(Qk aN (e_ es X.env)).any (·.1)=false:=by rfl):
  PE X (.Call (.Attribute o name bp) (e::es) [] aN) (tBM X.K T r to t):=by
 intro aa s U H Q I h;refine wpAny_Call_method_late bY cY bZ rfl (thn (ho aa s U H _ I h) λv s1 ⟨x,H1,I1,r1,ty,q1⟩=>?_);obtain⟨h1,h2⟩:=MF I1 r1 ty;refine⟨T,id,pa,slot,om,h1,h2,?_⟩;have hA:=ha aN aa s1 U H1 _ I1 q1;rw[hs] at hA ⊢;refine Calls.callWith_builtin (by show(false||(Qk aN (e_ es X.env)).any (·.1))=false;rw[bJ]<;>rfl) (Calls.evalArgs_plain ?_);exact thn hA λus s2 ⟨vs,H2,I2,r2,q2⟩=>hm aa s2 U H2 x vs v us Q I2 r1 r2 q2
end
def MtM(X:Cx)(id:String)(r:V->List V->Hp->VK->Prop):Prop:=
 ∀(aa:List (l_×Obj)) (s:c_) (U:St) (H:Hp) (x:V) (xs:List V) (v:b_) (us:List b_) (Q:VK),Inv X aa U H s->RelV x v->Vals xs us->r x xs H Q →
  q_ (r_ X.prog X.w) X.A (call (.builtin id) (v::us)) (EP X aa U Q) X.xe s
theorem Vals.one:∀{x:V}{us:List b_},Vals [x] us->∃u,us=[u]/\RelV x u
 | _,_,.cons r .nil=>⟨_,rfl,r⟩
theorem Vals.two:∀{x y:V}{us:List b_},Vals [x,y] us->∃u v,us=[u,v]/\RelV x u/\RelV y v
 | _,_,_,.cons r (.cons q .nil)=>⟨_,_,rfl,r,q⟩
theorem Vals.eraseIdx:∀{xs:List V}{us:List b_} (i:Nat),Vals xs us->Vals (xs.eraseIdx i) (us.eraseIdx i)
 | _,_,_,.nil=>.nil
 | _,_,0,.cons _ t=>t
 | _,_,i+1,.cons r t=>.cons r (Vals.eraseIdx i t)
theorem DG{α:Type}:∀(l:List α) (i:Nat),(l.eraseIdx i).length<=l.length
 | [],_=>w_ _
 | _::_,0=>VE _
 | _::r,i+1=>Nat.succ_le_succ (DG r i)
section
variable{H:Hp}{s:c_}{l:l_}{ys:List V}
theorem Inv.lset{f:Array b_->Array b_}(I:Inv X aa U H s)(hH:H l=some (.lst xs))(e:s.heap.get? l=some { cls:=.type "list", data:=.seq ae.toArray n })(hf:f ae.toArray=its'.toArray)(hv:Vals ys its')(hz:ys.length<=x_):
  Inv X aa U (upd H l (.lst ys)) { s with heap:=s.heap.update l (Ue f),toks:=t' }:=by
 have q:=PySem.IsL.update e f;rw[hf] at q;refine I.write (x:=l) (e:=l) (by rw[hH];exact trivial) (.inl rfl) (λb' u hb hu=>(Qc s.heap (Ue f) (Qx hb)).trans hu) ⟨_,q⟩ ?_;exact⟨hz,its',_,hv,q⟩
theorem Inv.lnew(I:Inv X aa U H s)(hv:Vals ys ae)(hz:ys.length<=x_):
  Inv X aa U (upd H s.heap.objs.size (.lst ys)) { s with heap:=s.heap.push { cls:=.type "list", data:=.seq ae.toArray },toks:=t' }:=
 I.laid (λ_ _ q=>f_ _ q) (w_ _) ⟨hz,ae,0,hv,z_ _ rfl⟩
theorem Inv.fresh(I:Inv X aa U H s):H s.heap.objs.size=none:=I.hok.fresh (w_ _)
theorem Inv.lstM(I:Inv X aa U H s)(hH:H l=some (.lst xs)):xs.length<=x_/\∃(ae:List b_) (n:Nat),Vals xs ae/\xs.length=ae.length/\s.heap.get? l=some { cls:=.type "list", data:=.seq ae.toArray n }:=by
 obtain⟨z,ae,n,r,e⟩:=I.hok l _ hH;exact⟨z,ae,n,r,r.length,e⟩
theorem notLongL(h:n<=x_):VC n=false:=by
 unfold VC;exact decide_eq_false (by omega)
end
section
def rAppend:V->List V->Hp->VK->Prop:=λx vs H Q=>∃l xs y,x=.ref l/\vs=[y]/\H l=some (.lst xs)/\xs.length < x_/\Q .non (upd H l (.lst (xs++[y])))
theorem EX:MtM X "list.append" rAppend:=by
 intro aa s U H x vs v us Q I rx rv h;obtain⟨l,xs,y,rfl,rfl,hH,hz,q⟩:=h;cases rx;obtain⟨u,rfl,ru⟩:=rv.one;obtain⟨z,ae,n,r,hl,e⟩:=I.lstM hH;refine VT F.slot_list_append ⟨_,e,rfl⟩ F.entry_list_append (F.args_list_append_2 _ _) (PySem.list_append l ae.toArray n u (by rw[o_];omega)) ⟨e,?_⟩;refine⟨.non,_,I.lset (its':=ae++[u]) hH e (by simp) (r.append (.cons ru .nil)) ?_,rfl,q⟩;rw[p_,Sv];omega
def rPopAt:V->List V->Hp->VK->Prop:=λx vs H Q=>∃l xs i k y,x=.ref l/\vs=[.int i]/\H l=some (.lst xs)/\-(2 ^ 63)<=i/\i < 2 ^ 63/\seqIndex? i xs.length=some k/\xs[k]?=some y/\Q y (upd H l (.lst (xs.eraseIdx k)))
theorem Lz:MtM X "list.pop" rPopAt:=by
 intro aa s U H x vs v us Q I rx rv h;obtain⟨l,xs,i,k,y,rfl,rfl,hH,h1,h2,hk,hy,q⟩:=h;cases rx;obtain⟨u,rfl,ru⟩:=rv.one;obtain⟨t,rfl⟩:=ru;obtain⟨z,ae,n,r,hl,e⟩:=I.lstM hH;obtain⟨w,hw,cX⟩:=r.get hy
 refine VT F.slot_list_pop ⟨_,e,rfl⟩ F.entry_list_pop (F.args_list_pop_2 _ _)
  (MeetsSeq.list_pop_at l ae.toArray n i t k w (fitsIndex_both h1 h2) (by rw[o_,←hl];exact hk) (by rw[←Uq];exact hw) (by rw[o_];omega)) ⟨e,?_⟩
 refine⟨y,_,I.lset (its':=ae.eraseIdx k) hH e ?_ (r.eraseIdx k) ?_,cX,q⟩
 ·show ae.toArray.eraseIdxIfInBounds k=(ae.eraseIdx k).toArray;rw[List.eraseIdxIfInBounds_toArray]
 ·have:=DG xs k;omega
end
end L2
namespace Att
open PySem PySem.W PySem.Calls PyProof.Rows
theorem FI{P:Params}{h:L_}:∀(ns:List Int) (vs:List b_),WellAll P h vs (ns.map WData.int)->VF vs ns:=by
 intro ns
 induction ns with
 | nil =>
  intro vs w;rw[map_nil] at w;cases w;exact .nil
 | cons n ns ih =>
  intro vs w;rw[D_] at w;cases w with
  | cons a b =>
   cases a;exact .cons _ _ (ih _ b)
theorem IH{l:V_}(hn:l.most=some n){P:Params}{h:L_}(fm:l.row.toRowW.claim.pre args=true)(iw:WellAll P h fY args):
  ∃a vs ns,fY=[b_.ref a]/\args=[WData.list (ns.map WData.int)]/\h.get? a=some { cls:=.type "list", data:=.seq vs.toArray }/\VF vs ns/\ns.length<=n:=by
 have oo:Wa.hasAll [] args [.list .int]=true:=(pre_splitW fm).1;have hc:l.pre.holds [] { args:=args }=true:=(pre_splitW fm).2;obtain⟨d,r,rfl,h1,h2⟩:=hasAllW_cons oo;obtain rfl:=hasAllW_nil h2;obtain⟨xs,rfl,h3⟩:=hasW_list h1;obtain⟨ns,rfl⟩:=items_int h3
 have aR:ns.length<=n:=by
  unfold V_.pre at hc
  have h4:(WTm.not (.lt (.lit (.int (n:Int))) (.len (.arg 0)))).holds [] { args:=[.list (ns.map .int)] }=true:=by
   have h4:=(holds_andW hc).1;rw[hn] at h4;exact h4
  have h5:=condW_of h4 (w_not (w_lt w_lit (w_len_list (w_arg rfl))));rw[s_] at h5;refine TY λq=>?_
  have q':(n:Int) < ((ns.length:Nat):Int):=by omega
  first
   | (rw[decide_eq_true q'] at h5;exact absurd h5 (by decide))
   | (simp at h5;omega)
 cases iw with
 | cons w1 w2 =>
  cases w2;cases w1 with
  | list ho fZ=>exact⟨_,_,ns,rfl,rfl,ho,FI ns _ fZ,aR⟩
theorem Nf(l:V_)(args:List WData):l.row.toRowW.claim.post args (.bool true) args=true:=
 postW_of (r:=l.row.toRowW) (X:=(true == true))
  (show Wa.has [] (.bool true) .bool=true by first | rfl | decide | simp[Wa.has,Wa.arms,Wa.armsAll])
  (show(WTm.eq .res (.lit (.bool true))).value [] { args:=args,res:=some (.bool true),after:=args }=some (.bool (true == true)) from w_eq_bool (w_res rfl) w_lit) rfl
theorem HJ{l:V_}{q:A_}{XP:(Str->Option b_)->L_->Prop}{YP:I_->L_->Prop}{d:DefRec}(hn:l.most=some n)(ge:d.params.defaults=[])(call:∀(w:I_) (s₀ aB:c_) (mg mb:Str->Option b_) (fa:l_) (o:Obj) (pm cd bL:b_) (a:l_) (vs:List b_) (ns:List Int),
   Ground q cw [] XP w s₀ mg mb aB.heap->YP w aB.heap →
   aB.heap.get? fa=some o->o.data=.func (docDef d.name d.params d.body d.scope pm cd bL)->aB.heap.CodeRec cd d.name->mg d.name=some (.ref fa) →
   aB.heap.get? a=some { cls:=.type "list", data:=.seq vs.toArray }->VF vs ns->ns.length<=n->aB.gens=#[] →
   Sk (r_ l.prog w) UN (.call (.ref fa) ⟨[.ref a],[]⟩) (λr s'=>r=.ok (.ret (.bool true))/\OldK aB.heap s'.heap/\s'.os=aB.os/\Ts s'.gens) aB):
  WalkO q cw XP YP l.row.toRowW d [] (λf vs=>PySem.call f vs):=by
 intro w s₀ aB mg mb G rC fa o pm cd bL dV kV ho hd cu hD gf hg args fY as fm qx ly iw lA;obtain rfl:dV=.none:=Dflts.none hD ge;obtain rfl:kV=.none:=Dflts.noKw hD;obtain⟨a,vs,ns,rfl,rfl,gj,eK,aR⟩:=IH hn fm iw;refine enter_call (RV (call w s₀ aB mg mb fa o pm cd bL a vs ns G rC ho (fd_plain hd) cu gf gj eK aR hg) λr s' hq=>?_);obtain⟨rfl,h2,h3,h4⟩:=hq;exact⟨.inl ⟨.bool true,.bool true,[],rfl,λ_=>rfl,.bool true,Nf l _,λ_=>⟨TF.nil,λ_ hm=>(nomatch hm)⟩⟩,h2,h3,h4⟩
end Att
namespace L2
open PySem PySem.Spec PyProof.Rows
theorem Dx:∀{vs:List b_}{ns:List Int},VF vs ns->Vals (ns.map V.int) vs
 | _,_,.nil=>.nil
 | _,_,.cons n t h=>.cons ⟨t,rfl⟩ (Dx h)
def Only(H:Hp):Prop:=∀b,H b=none\/∃o xs,H b=some (.frz o (.lst xs))
noncomputable def defArgs(s:Qo):Arguments:=match s with
 | .FunctionDef _ a _ _ _ _ _ _ _ _=>a
 | _=>{ posonlyargs:=[],args:=[],vararg:=none,kwonlyargs:=[],kw_defaults:=[],kwarg:=none,defaults:=[] }
noncomputable def defBody(s:Qo):List Qo:=match s with
 | .FunctionDef _ _ b _ _ _ _ _ _ _=>b
 | _=>[]
noncomputable def defScope(s:Qo):S_:=match s with
 | .FunctionDef _ _ _ _ _ _ sc _ _ _=>sc
 | _=>{ kind:=.function,names:=[],isGenerator:=false,isCoroutine:=false }
noncomputable abbrev CX0:CXT:=λ_ _ _ _ _ _=>False
noncomputable abbrev E0:XK:=λ_ _ _=>False
theorem pass0:Passes CX0 X E0:=λ_ _ _ _ _ _ _ h=>h.elim
structure Fun(K:PySem.W.Frag)(x qual:Str)(st:Qo)(f:l_)(fd:Rp):Prop where
 ex:∃(oc:b_) (od:Option l_) (kV bL pm:b_) (an:Option l_) (aA ct:b_) (dW:Array (Option b_)),
  fd=Ub x qual (defArgs st) (defBody st) (defScope st) .none kV bL pm an aA ct/\K.lookup f=some ⟨oc,od,.func fd,dW⟩/\codeIn K aA qual=true
 kp:Re K (.ref f)=true
section
variable{P:A_}{w:I_}{K:PySem.W.Frag}
theorem Fun.ok{st:Qo}{N:List Str}{sp:Sp}(F:Fun K x qual st f fd)(S:FnScope N ps (defScope st))(len:∀vs H Q E,sp vs H Q E->vs.length=ps.length)(eG:∀(aA:b_) (A:Q6) (outer:List Env) (s:c_) (H:Hp) (vs:List V) (Q:VK) (E:XK),Room k (A.deeper (Ua qual (defScope st) s.heap.objs.size f aA))->sp vs H Q E →
   ∃t,PSs (cxOf CX0 P w K mg base N qual (defScope st) f aA A outer s H E).nox (defBody st) t/\t { nx:=λ_ H'=>Q .non H',rt:=Q } (start N vs) H):FnOk P w K mg base CX0 (k+1) f fd ps sp:=by
 obtain⟨oc,od,kV,bL,pm,an,aA,ct,dW,rfl,lk,cu⟩:=F.ex;refine Ii lk cu S len λA outer s H vs Q E hr dX=>?_
 obtain⟨t,h,q⟩:=eG aA A outer s H vs Q E hr dX;exact⟨t,h.nox,q⟩
theorem Fun.binds{st:Qo}(F:Fun K x qual st f fd)(h:∀(kV bL pm:b_) (an:Option l_) (aA ct:b_) (us:List b_),us.length=ps.length->Rz (Ub x qual (defArgs st) (defBody st) (defScope st) .none kV bL pm an aA ct) ⟨us,[]⟩=pure (ps.zip us)):Binds K fd ps []:=by
 obtain⟨oc,od,kV,bL,pm,an,aA,ct,dW,rfl,lk,cu⟩:=F.ex;exact .all (h kV bL pm an aA ct)
theorem Gf{st:Qo}{kV bL aA:b_}(l:K.lookup f=some ⟨oc,od,.func (Ub x qual (defArgs st) (defBody st) (defScope st) .none kV bL pm an aA ct),dW⟩)(c:codeIn K aA qual=true)(k:Re K (.ref f)=true):Fun K x qual st f (Ub x qual (defArgs st) (defBody st) (defScope st) .none kV bL pm an aA ct):=⟨⟨oc,od,kV,bL,pm,an,aA,ct,dW,rfl,l,c⟩,k⟩
end
theorem Bd(hr:Room k A):A.units+1 < Q8:=Nat.lt_of_le_of_lt (Nat.add_le_add_left (by decide:1<=64) _) hr.units
section
theorem pv(i:Nat)(hN:X.N[i]?=some x:=by rfl)(hv:visB X.env.scope x=true:=by rfl)(hd:(x == ("__debug__":Str))=false:=by decide)(cu:(x == ("__classdict__":Str))=false:=by decide):PE X (.Name x pos) (tVar i):=GU hN (visI hv) hd cu
end
theorem iteF{A B:Prop}(h:B):if false=true then A else B:=by
 rw[if_neg j_];exact h
theorem iteT{A B:Prop}(h:A):if true=true then A else B:=by
 rw[if_pos rfl];exact h
def Same(H H':Hp):Prop:=∀b o,H b=some o->H' b=some o
theorem Same.refl(H:Hp):Same H H:=λ_ _ h=>h
theorem Same.trans{H H1:Hp}(a:Same H H1)(b:Same H1 H2):Same H H2:=λc o h=>b c o (a c o h)
theorem Same.free{H:Hp}(e:Same H H'){l:l_}(h:H' l=Option.none):H l=Option.none:=by
 cases q:H l with
 | none=>rfl
 | some o =>
  rw[e l o q] at h;cases h
section
variable {κ:Type}[DecidableEq κ]
noncomputable def valV(kvs:List (κ×V))(k:κ):Option V:=(kvs.find? λkv=>decide (kv.1=k)).map (·.2)
noncomputable def putK(kvs:List (κ×V))(k:κ)(v:V):List (κ×V):=
 if(kvs.any λkv=>decide (kv.1=k))=true then kvs.map (λkv=>if kv.1=k then(kv.1,v) else kv) else kvs++[(k,v)]
theorem xA{p:κ×V}{r:List (κ×V)}{k:κ}(e:p.1=k):valV (p::r) k=some p.2:=by simp[valV,Sb,e]
theorem wv{p:κ×V}{r:List (κ×V)}{k:κ}(e:¬p.1=k):valV (p::r) k=valV r k:=by simp[valV,Sb,e]
theorem Ew(k:κ):∀kvs:List (κ×V),(kvs.any λkv=>decide (kv.1=k))=(valV kvs k).isSome
 | []=>rfl
 | p::r=>by
  rw[R6];by_cases e:p.1=k
  ·simp only[xA e,decide_eq_true e,Bool.true_or,Option.isSome_some]
  ·rw[wv e,decide_eq_false e,UV];exact Ew k r
theorem Ct(kvs:List (κ×V))(k:κ)(v:V):(putK kvs k v).length<=kvs.length+1:=by
 unfold putK;split
 ·rw[s_];omega
 ·rw[p_,Qi,List.length_nil];omega
theorem RelO.isSome_eq{o:Option V}{u:Option b_}(r:RelO o u):o.isSome=u.isSome:=by
 cases o with
 | none=>cases u with
  | none=>rfl
  | some _=>exact(show False from r).elim
 | some _=>cases u with
  | none=>exact(show False from r).elim
  | some _=>rfl
theorem KV.val{kvs:List (κ×V)}{vs:List (κ×b_)}(r:KV kvs vs)(k:κ):RelO (valV kvs k) (UO vs k):=by
 unfold KV at r
 induction r with
 | nil=>exact U7
 | @cons p q ps qs h t ih =>
  obtain⟨h1,h2⟩:=h;by_cases e:p.1=k
  ·have e':q.1=k:=h1.symm.trans e;have b:UO (q::qs) k=some q.2:=by simp[UO,Sb,e']
   rw[xA e,b];exact h2
  ·have e':¬q.1=k:=λz=>e (h1.trans z)
   have b:UO (q::qs) k=UO qs k:=by simp[UO,Sb,e']
   rw[wv e,b];exact ih
theorem KV.any{kvs:List (κ×V)}{vs:List (κ×b_)}(r:KV kvs vs)(k:κ):(kvs.any λkv=>decide (kv.1=k))=vs.any λkv=>decide (kv.1=k):=by
 unfold KV at r
 induction r with
 | nil=>rfl
 | cons h t ih=>rw[R6,R6,ih,h.1]
theorem KV.repl{kvs:List (κ×V)}{vs:List (κ×b_)}(r:KV kvs vs)(k:κ){y:V}(ry:RelV y u):
  KV (kvs.map λkv=>if kv.1=k then(kv.1,y) else kv) (vs.map λkv=>if kv.1=k then(kv.1,u) else kv):=by
 unfold KV at r ⊢
 induction r with
 | nil=>exact .nil
 | @cons p q ps qs h t ih =>
  rw[D_,D_];refine .cons ?_ ih;obtain⟨h1,h2⟩:=h;by_cases e:p.1=k
  ·rw[if_pos e,if_pos (h1.symm.trans e)];exact⟨h1,ry⟩
  ·rw[if_neg e,if_neg (λz=>e (h1.trans z))];exact⟨h1,h2⟩
theorem KV.put{kvs:List (κ×V)}{vs:List (κ×b_)}(r:KV kvs vs)(k:κ){y:V}(ry:RelV y u):KV (putK kvs k y) (stored vs k u):=by
 unfold putK stored;rw[r.any k];by_cases e:(vs.any λkv=>decide (kv.1=k))=true
 ·rw[if_pos e,if_pos e];exact r.repl k ry
 ·rw[if_neg e,if_neg e];exact snoc r ⟨rfl,ry⟩
theorem KV.length{kvs:List (κ×V)}{vs:List (κ×b_)}(r:KV kvs vs):kvs.length=vs.length:=Paired.length r
end
theorem AV{P:A_}{w:I_}{k:Key}(r:RelV (kV k) u):(mixKind P w).is k u=true:=by
 cases k with
 | inl i=>obtain⟨t,e⟩:=(show ∃t,u=b_.int i t from r);subst e;exact Ml P w i t
 | inr x=>obtain⟨t,e⟩:=(show ∃t,u=b_.str x t from r);subst e;exact NO P w x t
theorem Cy{P:A_}{w:I_}:∀{ks:List Key}{us:List b_},Vals (ks.map kV) us->ItemsAre (mixKind P w) ks us
 | [],_,r=>by rw[map_nil] at r;cases r;exact .nil
 | k::ks,_,r=>by
  rw[D_] at r;cases r with
  | cons h t=>exact .cons (AV h) (Cy t)
abbrev KT(H:Hp):List (List Key×V)->List (List Key×l_×b_)->Prop:=Paired λp q=>p.1=q.1/\H q.2.1=some (.tup (p.1.map kV))/\RelV p.2 q.2.2
theorem KT.val{H:Hp}{xs:List (List Key×l_×b_)}(r:KT H kvs xs)(k:List Key):RelO (valV kvs k) ((VD xs k).map (·.2)):=by
 induction r with
 | nil=>exact U7
 | @cons p q ps qs h t ih =>
  obtain⟨h1,_,h2⟩:=h;by_cases e:p.1=k
  ·have e':q.1=k:=h1.symm.trans e;have b:VD (q::qs) k=some q.2:=by simp[VD,Sb,e']
   rw[xA e,b];exact h2
  ·have e':¬q.1=k:=λz=>e (h1.trans z)
   have b:VD (q::qs) k=VD qs k:=by simp[VD,Sb,e']
   rw[wv e,b];exact ih
theorem KT.repl{H:Hp}{xs:List (List Key×l_×b_)}(r:KT H kvs xs)(k:List Key){y:V}(ry:RelV y u):
  KT H (kvs.map λkv=>if kv.1=k then(kv.1,y) else kv) (xs.map (putAt k u)):=by
 induction r with
 | nil=>exact .nil
 | @cons p q ps qs h t ih =>
  rw[D_,D_];refine .cons ?_ ih;obtain⟨h1,h2,h3⟩:=h;unfold putAt;by_cases e:p.1=k
  ·rw[if_pos e,if_pos (h1.symm.trans e)];exact⟨h1,h2,ry⟩
  ·rw[if_neg e,if_neg (λz=>e (h1.trans z))];exact⟨h1,h2,h3⟩
theorem KT.put{H:Hp}{xs:List (List Key×l_×b_)}(r:KT H kvs xs)(k:List Key){y:V}(hb:H b=some (.tup (k.map kV)))(ry:RelV y u):
  KT H (putK kvs k y) (storedH xs k b u):=by
 have e:(kvs.any λkv=>decide (kv.1=k))=(VD xs k).isSome:=by
  rw[Ew,(r.val k).isSome_eq,Option.isSome_map]
 unfold putK storedH;rw[e];by_cases q:(VD xs k).isSome=true
 ·rw[if_pos q,if_pos q];exact r.repl k ry
 ·rw[if_neg q,if_neg q];exact snoc r ⟨rfl,hb,ry⟩
theorem KT.keeps{H:Hp}{xs:List (List Key×l_×b_)}(r:KT H kvs xs)(ht:∀b ys,H b=some (.tup ys)->H' b=some (.tup ys)):KT H' kvs xs:=
 Paired.mapP r λ_ _ z=>⟨z.1,ht _ _ z.2.1,z.2.2⟩
section
variable{P:A_}{w:I_}{H:Hp}{h:L_}
theorem E3{u:HO}(ok:HOk P w H h)(e:Rd H a u):ObjOk P w H h a u:=e.ok ok
theorem zX{kvs:List (Key×V)}(ok:HOk P w H h)(e:Rd H a (.dK kvs)):kvs.length<=x_/\(a == RR)=false/\∃vs,KV kvs vs/\h.DictOf (mixKind P w) a vs:=
 show ObjOk P w H h a (.dK kvs) from E3 ok e
theorem Nz{kvs:List (Key×V)}(ok:HOk P w H h)(e:H a=some (.dK kvs)):kvs.length<=x_/\(a == RR)=false/\∃vs,KV kvs vs/\h.DictOf (mixKind P w) a vs:=zX ok (.inl e)
theorem Ay(ok:HOk P w H h)(e:H a=some (.tup (ks.map kV))):(UL (mixKind P w)).is h ks a:=by
 obtain⟨_,ae,r,o,h1,h2,n,h3⟩:=(show ObjOk P w H h a (.tup (ks.map kV)) from ok a _ e);exact⟨o,ae.toArray,n,h1,h2,h3,by simpa using Cy r⟩
theorem yo(ok:HOk P w H h)(e:Rd H a (.dT kvs)):kvs.length<=x_/\(a == RR)=false ∧
  ∃xs,KT H kvs xs/\h.DictOfH (UL (mixKind P w)) a xs:=by
 obtain⟨z,y,xs,r,o,es,ep,h1,h2,h3,h4,h5⟩:=(show ObjOk P w H h a (.dT kvs) from E3 ok e);refine⟨z,y,xs,r,o,es,ep,h1,h2,h3,h4,λx hx=>?_,h5⟩
 have all:∀{l:List (List Key×V)}{m:List (List Key×l_×b_)},KT H l m->∀x∈m,(UL (mixKind P w)).is h x.1 x.2.1:=by
  intro l m q
  induction q with
  | nil=>intro x hx;exact nomatch hx
  | @cons p q ps qs hq t ih =>
   intro x hx
   rcases E_.mp hx with e | hx
   ·subst e;exact Ay ok (by rw[←hq.1];exact hq.2.1)
   ·exact ih x hx
 exact all r x hx
theorem Nb(ok:HOk P w H h)(e:H a=some (.dT kvs)):kvs.length<=x_/\(a == RR)=false ∧
  ∃xs,KT H kvs xs/\h.DictOfH (UL (mixKind P w)) a xs:=yo ok (.inl e)
end
def DGet(H:Hp)(a:l_)(y:V)(r:Option V):Prop:=
 (∃kvs k,Rd H a (.dK kvs)/\y=kV k/\r=valV kvs k)\/∃kvs k b,Rd H a (.dT kvs)/\y=.ref b/\H b=some (.tup (k.map kV))/\r=valV kvs k
def DPut(H:Hp)(a:l_)(y v:V)(H':Hp):Prop:=
 (∃kvs k,H a=some (.dK kvs)/\y=kV k/\kvs.length < x_/\H'=upd H a (.dK (putK kvs k v))) ∨
 ∃kvs k b,H a=some (.dT kvs)/\y=.ref b/\H b=some (.tup (k.map kV))/\kvs.length < x_/\H'=upd H a (.dT (putK kvs k v))
theorem DGet.t{H:Hp}{k:List Key}(e:H a=some (.dT kvs))(eb:H b=some (.tup (k.map kV))):DGet H a (.ref b) (valV kvs k):=.inr ⟨kvs,k,b,.inl e,rfl,eb,rfl⟩
theorem DPut.t{H:Hp}{k:List Key}{v:V}(e:H a=some (.dT kvs))(eb:H b=some (.tup (k.map kV)))(hl:kvs.length < x_):
  DPut H a (.ref b) v (upd H a (.dT (putK kvs k v))):=.inr ⟨kvs,k,b,e,rfl,eb,hl,rfl⟩
section
variable{H:Hp}{s:c_}{y v:V}{r:b_}{o:Option V}{E:b_->c_->Prop}
theorem Inv.big(I:Inv X aa U H s):RR < s.heap.objs.size:=by
 have h:QV < s.heap.objs.size:=(I.mod.glob.keeps I.bk).lt;exact Nat.lt_trans (by decide) h
theorem JB{Q:b_->c_->Prop}(hu:A.units+1 < Q8)(I:Inv X aa U H s)(g:DGet H a y (some v))(ry:RelV y u)(h:∀w' s',Inv X aa U H s'->RelV v w'->Q w' s'):
  q_ (r_ X.prog X.w) A (Uc (.ref a) u) Q E s:=by
 rcases g with⟨kvs,k,e,ey,l⟩ | ⟨kvs,k,b,e,ey,eb,l⟩
 ·subst ey;obtain⟨z,hd,vs,cx,dd⟩:=zX I.hok e;obtain⟨w',hw,cX⟩:=RelO.some_of (v:=v) (o:=UO vs k) (by rw[l];exact cx.val k);exact wpAny_getItem_of (AV ry) dd.mapOf hw (h w' _ (I.tok _) cX)
 ·subst ey
  cases(show u=b_.ref b from ry)
  obtain⟨z,hd,xs,cx,dd⟩:=yo I.hok e;obtain⟨w',hw,cX⟩:=RelO.some_of (v:=v) (o:=(VD xs k).map (·.2)) (by rw[l];exact cx.val k);obtain⟨p,hp,cZ⟩:=C_.mp hw;refine wpAny_getItem_heap (U8 hu) (Ay I.hok eb) dd hp ?_;rw[cZ];exact h w' _ (I.tok _) cX
theorem A3{ob:HO}(I:Inv X aa U H s)(mu:Mut (H a))(hs:L_.SameBut a s.heap h')(he:∃q,h'.get? a=some q)(new:ObjOk X.prog X.w (upd H a ob) h' a ob):
  Inv X aa U (upd H a ob) { s with heap:=h',toks:=t' }:=
 I.write (x:=a) (e:=a) mu (.inl rfl) (λb q hb z=>(hs.2 b hb).trans z) he new
theorem F9{P:A_}{w:I_}{kvs:List (Key×V)}{vs:List (Key×b_)}(z:kvs.length<=x_)(hd:(a == RR)=false)(cx:KV kvs vs)(dd:h'.DictOf (mixKind P w) a vs):
  ObjOk P w H' h' a (.dK kvs):=⟨z,hd,vs,cx,dd⟩
theorem Nr{Q:Unit->c_->Prop}(hu:A.units+1 < Q8)(I:Inv X aa U H s)(g:DPut H a y v H')(ry:RelV y u)(rv:RelV v r)(h:∀s',Inv X aa U H' s'->Q () s'):
  q_ (r_ X.prog X.w) A (V9 (.ref a) u r) Q E s:=by
 rcases g with⟨kvs,k,e,ey,l,eH⟩ | ⟨kvs,k,b,e,ey,eb,l,eH⟩
 ·subst ey eH;obtain⟨z,hd,vs,cx,dd⟩:=Nz I.hok e;have hz:vs.length<=x_:=by rw[←cx.length];exact z
  have hl:(putK kvs k v).length<=x_:=by have:=Ct kvs k v;omega
  refine wpAny_setItem_pairs (hsz:=hz) (AV ry) dd λh' iy hs=>h _ ?_
  have he:∃q,h'.get? a=some q:=let ⟨q,_,_,hq,_⟩:=iy;⟨q,hq⟩
  exact A3 I (by rw[e];exact U7) hs he (F9 hl hd (cx.put k rv) iy)
 ·subst ey eH
  cases(show u=b_.ref b from ry)
  obtain⟨z,hd,xs,cx,dd⟩:=Nb I.hok e;have hz:xs.length<=x_:=by rw[←Paired.length cx];exact z
  have hl:(putK kvs k v).length<=x_:=by have:=Ct kvs k v;omega
  refine wpAny_setItem_heap (hsz:=hz) (U8 hu) (Ay I.hok eb) dd λh' iy hs=>h _ ?_
  obtain⟨q,es,ep,hq,h2,h3,h4,_,h5⟩:=iy;refine A3 I (by rw[e];exact U7) hs ⟨q,hq⟩ ⟨hl,hd,_,(cx.put k eb rv).keeps λc ys ec=>?_,q,es,ep,hq,h2,h3,h4,h5⟩;rw[rJ (KW ec e (λz=>nomatch z))];exact ec
end
def NoSl(i:Qe):Prop:=∀ov iv,Ux i false ov iv=operate [ov,iv] (Uc ov iv)
theorem Mb{prog:A_}{w:I_}{E:b_->c_->Prop}{s:c_}{value bg:Qe}{T id:String}{Q:b_->c_->Prop}(hl:typeLookup (.type T) "__getitem__"=pure (some (.builtin id)))(hs:NoSl bg)(h:q_ (r_ prog w) A (Qf value env) (λo aB=>q_ (r_ prog w) A (Qf bg env) (λi bS=>bS.TypeIs o T/\q_ (r_ prog w) A (Uc o i) Q E bS) E aB) E s):
  q_ (r_ prog w) A (Qf (.Subscript value bg pos) env) Q E s:=by
 refine VR (Qs h (λo aB lB=>Qs lB (λi bS gm=>?_) λ_ _ x=>x) λ_ _ x=>x);obtain⟨hT,gm⟩:=gm;unfold U0;refine a_ ?_;rw[getitemInPython_of_ne hT.not_modules];refine a_ (SX hT hl ?_)
 have fin:q_ (r_ prog w) A (Ux bg false o i) (λr jz=>q_ (r_ prog w) A (letTemporaryGo value o r >>= λ_=>pure r) Q E jz) E bS:=by
  rw[hs o i];exact wpAny_operating (Qs gm (λr jz lC=>a_ (wpAny_letTemporaryGo (d_ lC))) λ_ _ x=>x)
 first
  | exact d_ (a_ fin)
  | exact a_ (d_ (a_ fin))
  | exact a_ fin
theorem G4{H:Hp}{s:c_}{y:V}{o:Option V}(I:Inv X aa U H s)(g:DGet H a y o):s.TypeIs (.ref a) "dict":=by
 rcases g with⟨kvs,k,e,_,_⟩ | ⟨kvs,k,b,e,_,_,_⟩
 ·obtain⟨_,_,vs,_,dd⟩:=zX I.hok e;exact dd.typeIs
 ·obtain⟨_,_,xs,_,dd⟩:=yo I.hok e;exact dd.typeIs
noncomputable def tDGet(td ty:TE):TE:=λU H Q=>td U H λx H1=>ty U H1 λy H2=>∃a v,x=.ref a/\DGet H2 a y (some v)/\Q v H2
noncomputable def sDPut(td ty tv:TE):TS:=λD U H=>tv U H λv H1=>td U H1 λx H2=>ty U H2 λy H3=>∃a H4,x=.ref a/\DPut H3 a y v H4/\D.nx U H4
section
variable{o i value:Qe}{lg:Pos}{td ty tv:TE}
theorem Fz(hu:X.A.units+1 < Q8)(ho:PE X o td)(hi:PE X i ty)(hs:NoSl i):PE X (.Subscript o i pos) (tDGet td ty):=by
 intro aa s U H Q I h;refine Mb PySem.F.slot_dict_getitem.lookup hs (thn (ho aa s U H _ I h) λu s1 ⟨x,H1,I1,rx,q1⟩=>thn (hi aa s1 U H1 _ I1 q1) λiv s2 ⟨y,H2,I2,ry,a,v,ex,g,q2⟩=>?_);subst ex;obtain rfl:u=b_.ref a:=rx;exact⟨G4 I2 g,JB hu I2 g ry λw' s3 I3 cX=>⟨v,H2,I3,cX,q2⟩⟩
theorem Kp(hu:X.A.units+1 < Q8)(ho:PE X o td)(hi:PE X i ty)(hv:PE X value tv)(hs:QZ value (some (.Subscript o i aH)) pos.line X.env=pure false):
  PS X (.Assign [.Subscript o i aH] value pos) (sDPut td ty tv):=by
 intro aa s U H D I h;refine wpAny_Assign_Subscript (thn (hv aa s U H _ I h) λr s1 ⟨v,H1,I1,rv,q1⟩=>thn (ho aa s1 U H1 _ I1 q1) λu s2 ⟨x,H2,I2,rx,q2⟩=>thn (hi aa s2 U H2 _ I2 q2) λiv s3 ⟨y,H3,I3,ry,a,H4,ex,g,q3⟩=>?_) hs;subst ex;obtain rfl:u=b_.ref a:=rx;exact Nr hu I3 g ry rv λs4 I4=>⟨U,H4,I4,q3⟩
end
theorem J3{P:A_}{w:I_}{H:Hp}(h:L_)(hb:RR < h.objs.size):ObjOk P w H (h.push { cls:=.type "dict", data:=.dict #[] }) h.objs.size (.dT []):=
 ⟨Qp _,beq_eq_false_iff_ne.mpr (Qx (Qg hb)),[],.nil,_,#[],0,z_ _ rfl,⟨rfl,rfl,rfl⟩,rfl,rfl,SB⟩
noncomputable def tDNewT:TE:=λ_ H Q=>∀p,H p=none->Q (.ref p) (upd H p (.dT []))
section
theorem LR:PE X (.Dict [] [] pos) tDNewT:=λaa s U H Q I h =>
 wpAny_Dict_empty ⟨.ref s.heap.objs.size,_,I.laid (a:=s.heap.objs.size) (o:=.dT []) (t':=s.toks) (λ_ _ q=>f_ _ q) (w_ _) (J3 s.heap I.big),rfl,h _ (I.hok.fresh (w_ _))⟩
end
end L2
set_option maxHeartbeats 4000000
namespace DL
open PySem PySem.Spec PyProof.Rows L2
inductive D where
 | non | bl (b:Bool) | int (i:Int) | str (x:Str) | tup (xs:List D) | lst (xs:List D)
def RdK(K:PySem.W.Frag)(I:Hp)(a:l_)(xs:List V):Prop:=Rd I a (.lst xs)\/∃(ae:List b_) (n:Nat),K.lookup a=some { cls:=.type "list", data:=.seq ae.toArray n }/\Vals xs ae/\ae.length<=x_
theorem RdK.of{K:PySem.W.Frag}(h:I a=some (.lst xs)):RdK K I a xs:=.inl (.inl h)
theorem RdK.sq{K:PySem.W.Frag}(h:RdK K I a xs):SqL K I a xs:=by
 rcases h with h | ⟨ae,n,h1,h2,h3⟩
 ·exact .inl h
 ·exact .inr ⟨_,ae.toArray,n,h1,rfl,rfl,rfl,by simpa using h3,by simpa using h2⟩
mutual
def Is(K:PySem.W.Frag)(I:Hp):D->V->Prop
 | .non,v=>v=.non
 | .bl b,v=>v=.bl b
 | .int i,v=>v=.int i
 | .str x,v=>v=.str x
 | .tup ds,v=>∃a xs,v=.ref a/\I a=some (.tup xs)/\IsA K I ds xs
 | .lst ds,v=>∃a xs,v=.ref a/\RdK K I a xs/\IsA K I ds xs
def IsA(K:PySem.W.Frag)(I:Hp):List D->List V->Prop
 | [],xs=>xs=[]
 | d::ds,xs=>∃x r,xs=x::r/\Is K I d x/\IsA K I ds r
end
section
variable{K:PySem.W.Frag}{H:Hp}
theorem Same.rd(e:Same I I')(h:Rd I a o):Rd I' a o:=by
 rcases h with h | ⟨u,h⟩
 ·exact .inl (e _ _ h)
 ·exact .inr ⟨u,e _ _ h⟩
theorem Same.rdK(e:Same I I')(h:RdK K I a xs):RdK K I' a xs:=by
 rcases h with h | h
 ·exact .inl (Same.rd e h)
 ·exact .inr h
theorem Same.sqT(e:Same I I')(h:SqT K I a xs):SqT K I' a xs:=by
 rcases h with h | h
 ·exact .inl (Same.rd e h)
 ·exact .inr h
mutual
theorem Is.mono(e:Same I I'):∀{d:D}{v:V},Is K I d v->Is K I' d v
 | .non,_,h=>by rw[Is] at h ⊢;exact h
 | .bl _,_,h=>by rw[Is] at h ⊢;exact h
 | .int _,_,h=>by rw[Is] at h ⊢;exact h
 | .str _,_,h=>by rw[Is] at h ⊢;exact h
 | .tup ds,v,h=>by
  rw[Is] at h ⊢;obtain⟨a,xs,e1,e2,e3⟩:=h;exact⟨a,xs,e1,e _ _ e2,IsA.mono e e3⟩
 | .lst ds,v,h=>by
  rw[Is] at h ⊢;obtain⟨a,xs,e1,e2,e3⟩:=h;exact⟨a,xs,e1,Same.rdK e e2,IsA.mono e e3⟩
theorem IsA.mono(e:Same I I'):∀{ds:List D}{xs:List V},IsA K I ds xs->IsA K I' ds xs
 | [],_,h=>by rw[IsA] at h ⊢;exact h
 | d::ds,xs,h=>by
  rw[IsA] at h ⊢;obtain⟨x,r,e1,e2,e3⟩:=h;exact⟨x,r,e1,Is.mono e e2,IsA.mono e e3⟩
end
theorem IsA.nil:IsA K I [] []:=by rw[IsA]
theorem IsA.cons{d:D}{ds:List D}{x:V}{xs:List V}(h:Is K I d x)(t:IsA K I ds xs):IsA K I (d::ds) (x::xs):=by
 rw[IsA];exact⟨x,xs,rfl,h,t⟩
theorem IsA.nil_inv(h:IsA K I [] xs):xs=[]:=by rw[IsA] at h;exact h
theorem IsA.cons_inv{d:D}{ds:List D}(h:IsA K I (d::ds) xs):∃x r,xs=x::r/\Is K I d x/\IsA K I ds r:=by rw[IsA] at h;exact h
theorem IsA.length:∀{ds:List D}{xs:List V},IsA K I ds xs->ds.length=xs.length
 | [],xs,h=>by rw[h.nil_inv]<;>rfl
 | d::ds,xs,h=>by
  obtain⟨x,r,rfl,_,t⟩:=h.cons_inv;simp[IsA.length t]
theorem IsA.get:∀{ds:List D}{xs:List V}{i:Nat}{d:D},IsA K I ds xs->ds[i]?=some d->∃x,xs[i]?=some x/\Is K I d x
 | [],xs,i,d,h,e=>by simp at e
 | c::ds,xs,0,d,h,e=>by
  obtain⟨x,r,rfl,hx,t⟩:=h.cons_inv;simp at e;subst e;exact⟨x,rfl,hx⟩
 | c::ds,xs,i+1,d,h,e=>by
  obtain⟨x,r,rfl,hx,t⟩:=h.cons_inv;obtain⟨y,e1,e2⟩:=IsA.get (i:=i) t (by simpa using e);exact⟨y,by simpa using e1,e2⟩
theorem IsA.append:∀{ds es:List D}{xs ys:List V},IsA K I ds xs->IsA K I es ys->IsA K I (ds++es) (xs++ys)
 | [],es,xs,ys,h,t=>by rw[h.nil_inv];exact t
 | d::ds,es,xs,ys,h,t=>by
  obtain⟨x,r,rfl,hx,h'⟩:=h.cons_inv;exact IsA.cons hx (IsA.append h' t)
theorem IsA.take:∀{ds:List D}{xs:List V} (n:Nat),IsA K I ds xs->IsA K I (ds.take n) (xs.take n)
 | ds,xs,0,h=>by rw[List.take_zero,List.take_zero];exact IsA.nil
 | [],xs,n+1,h=>by rw[h.nil_inv];exact IsA.nil
 | d::ds,xs,n+1,h=>by
  obtain⟨x,r,rfl,hx,h'⟩:=h.cons_inv;rw[UQ,UQ];exact IsA.cons hx (IsA.take n h')
theorem IsA.drop:∀{ds:List D}{xs:List V} (n:Nat),IsA K I ds xs->IsA K I (ds.drop n) (xs.drop n)
 | ds,xs,0,h=>by rw[List.drop_zero,List.drop_zero];exact h
 | [],xs,n+1,h=>by rw[h.nil_inv];exact IsA.nil
 | d::ds,xs,n+1,h=>by
  obtain⟨x,r,rfl,hx,h'⟩:=h.cons_inv;rw[Th,Th];exact IsA.drop n h'
theorem IsA.set{d:D}{x:V}(q:Is K I d x):∀{ds:List D}{xs:List V} (n:Nat),IsA K I ds xs->IsA K I (ds.set n d) (xs.set n x)
 | [],xs,n,h=>by rw[h.nil_inv];exact IsA.nil
 | c::ds,xs,0,h=>by
  obtain⟨y,r,rfl,hx,h'⟩:=h.cons_inv;exact IsA.cons q h'
 | c::ds,xs,n+1,h=>by
  obtain⟨y,r,rfl,hx,h'⟩:=h.cons_inv;exact IsA.cons hx (IsA.set q n h')
theorem IsA.one{d:D}(h:IsA K I [d] xs):∃x,xs=[x]/\Is K I d x:=by
 obtain⟨x,r,rfl,hx,t⟩:=h.cons_inv;rw[t.nil_inv];exact⟨x,rfl,hx⟩
theorem IsA.two{d e:D}(h:IsA K I [d,e] xs):∃x y,xs=[x,y]/\Is K I d x/\Is K I e y:=by
 obtain⟨x,r,rfl,hx,t⟩:=h.cons_inv;obtain⟨y,rfl,hy⟩:=t.one;exact⟨x,y,rfl,hx,hy⟩
theorem rM{i:Int}{v:V}(h:Is K I (.int i) v):v=.int i:=by rw[Is] at h;exact h
theorem sK{i:Bool}{v:V}(h:Is K I (.bl i) v):v=.bl i:=by rw[Is] at h;exact h
theorem tu{i:Str}{v:V}(h:Is K I (.str i) v):v=.str i:=by rw[Is] at h;exact h
theorem tx{v:V}(h:Is K I .non v):v=.non:=by rw[Is] at h;exact h
theorem uO{ds:List D}{v:V}(h:Is K I (.tup ds) v):∃a xs,v=.ref a/\I a=some (.tup xs)/\IsA K I ds xs:=by rw[Is] at h;exact h
theorem rZ{ds:List D}{v:V}(h:Is K I (.tup ds) v):∃a xs,v=.ref a/\SqT K I a xs/\IsA K I ds xs:=by
 obtain⟨a,xs,e,h1,h2⟩:=uO h;exact⟨a,xs,e,SqT.of h1,h2⟩
theorem sd{ds:List D}{v:V}(h:Is K I (.lst ds) v):∃a xs,v=.ref a/\RdK K I a xs/\IsA K I ds xs:=by rw[Is] at h;exact h
theorem Is.int(i:Int):Is K I (.int i) (.int i):=by rw[Is]
theorem Is.bl(i:Bool):Is K I (.bl i) (.bl i):=by rw[Is]
theorem Is.str(i:Str):Is K I (.str i) (.str i):=by rw[Is]
theorem Is.non:Is K I .non .non:=by rw[Is]
theorem Is.tup{ds:List D}(h:I a=some (.tup xs))(t:IsA K I ds xs):Is K I (.tup ds) (.ref a):=by rw[Is];exact⟨a,xs,rfl,h,t⟩
theorem Is.lst{ds:List D}(h:RdK K I a xs)(t:IsA K I ds xs):Is K I (.lst ds) (.ref a):=by rw[Is];exact⟨a,xs,rfl,h,t⟩
end
inductive R where
 | val (d:D) | own (ds:List D) | bor (ds:List D) | fro (ds:List D) | dic (kvs:List ((Int×Int)×D)) | rdc (kvs:List ((Int×Int)×D))
noncomputable def R.mut:R->Bool
 | .val _=>false
 | .own _=>true
 | .bor _=>true
 | .fro _=>false
 | .rdc _=>false
 | .dic _=>false
noncomputable def R.ptr:R->Bool
 | .val _=>false
 | .own _=>true
 | .bor _=>true
 | .fro _=>false
 | .rdc _=>false
 | .dic _=>true
abbrev Gm:=List (Option R)
def Mt(K:PySem.W.Frag)(G I H:Hp)(ds:List D)(v:V):Prop:=∃p xs,v=.ref p/\H p=some (.lst xs)/\I p=none/\G p=none/\IsA K I ds xs
def IsK(K:PySem.W.Frag)(I:Hp)(kvs:List ((Int×Int)×D))(xs:List (List Key×V)):Prop:=xs.map (·.1)=kvs.map (λq=>[S3 q.1.1,S3 q.1.2])/\IsA K I (kvs.map (·.2)) (xs.map (·.2))
theorem IsK.mono{K:PySem.W.Frag}{kvs:List ((Int×Int)×D)}{xs:List (List Key×V)}(e:Same I I')(h:IsK K I kvs xs):IsK K I' kvs xs:=⟨h.1,h.2.mono e⟩
def MtK(K:PySem.W.Frag)(G I H:Hp)(kvs:List ((Int×Int)×D))(v:V):Prop:=∃p xs,v=.ref p/\H p=some (.dT xs)/\I p=none/\G p=none/\IsK K I kvs xs
def SlotOk(K:PySem.W.Frag)(G I H:Hp):R->V->Prop
 | .val d,v=>Is K I d v
 | .own ds,v=>Mt K G I H ds v
 | .bor ds,v=>Mt K G I H ds v
 | .fro ds,v=>∃p xs,v=.ref p/\I p=some (.lst xs)/\G p=none/\IsA K I ds xs
 | .rdc kvs,v=>∃p xs,v=.ref p/\G p=some (.dT xs)/\IsK K I kvs xs
 | .dic kvs,v=>MtK K G I H kvs v
theorem SlotOk.mt{K:PySem.W.Frag}{H:Hp}{r:R}{v:V}(h:SlotOk K G I H r v)(m:r.ptr=true):∃p xs,v=.ref p/\H p=some xs/\I p=none/\G p=none:=by
 cases r with
 | val d=>cases m
 | own ds=>obtain⟨p,xs,e1,e2,e3,e4,_⟩:=h;exact⟨p,_,e1,e2,e3,e4⟩
 | bor ds=>obtain⟨p,xs,e1,e2,e3,e4,_⟩:=h;exact⟨p,_,e1,e2,e3,e4⟩
 | fro ds=>cases m
 | rdc ds=>cases m
 | dic ds=>obtain⟨p,xs,e1,e2,e3,e4,_⟩:=h;exact⟨p,_,e1,e2,e3,e4⟩
structure Rep(K:PySem.W.Frag)(B:Nat->Option (Option V))(G I H:Hp)(U:L2.St)(Y:Gm):Prop where
 iH:Same I H
 gH:Same G H
 len:U.length=Y.length
 slot:∀(i:Nat) (r:R),Y[i]?=some (some r)->∃v,U[i]?=some (some v)/\SlotOk K G I H r v
 dist:∀(i j:Nat) (r r':R) (v:V),Y[i]?=some (some r)->Y[j]?=some (some r')->r.ptr=true->r'.ptr=true->U[i]?=some (some v)->U[j]?=some (some v)->i=j
 bor:∀(i:Nat) (ds:List D),Y[i]?=some (some (.bor ds))->U[i]?=B i
structure Grow(G I I':Hp):Prop where
 up:Same I I'
 new:∀b o,I' b=some o->I b=some o\/G b=none
theorem Grow.refl(G I:Hp):Grow G I I:=⟨Same.refl _,λ_ _ h=>.inl h⟩
theorem Grow.trans{I1 I2:Hp}(a:Grow G I I1)(b:Grow G I1 I2):Grow G I I2:=⟨a.up.trans b.up,λc o h=>by
 rcases b.new c o h with h1 | h1
 ·exact a.new c o h1
 ·exact .inr h1⟩
section
variable{K:PySem.W.Frag}{B:Nat->Option (Option V)}{H:Hp}{Y:Gm}
theorem Rep.ext(r:Rep K B G I H U Y)(hI:Same I I')(hH:Same H H')(iH:Same I' H')(new:∀b o,I' b=some o->I b=some o\/H b=none):Rep K B G I' H' U Y where
 iH:=iH
 gH:=r.gH.trans hH
 len:=r.len
 slot:=λi q e=>by
  obtain⟨v,e1,e2⟩:=r.slot i q e;refine⟨v,e1,?_⟩
  have mt:∀ds,Mt K G I H ds v->Mt K G I' H' ds v:=λds h=>by
   obtain⟨p,xs,h1,h2,h3,h4,h5⟩:=h;refine⟨p,xs,h1,hH _ _ h2,?_,h4,h5.mono hI⟩;cases z:I' p with
   | none=>rfl
   | some o =>
    rcases new p o z with z1 | z1
    ·rw[h3] at z1;cases z1
    ·rw[h2] at z1;cases z1
  cases q with
  | val d=>exact Is.mono hI e2
  | dic ds =>
   obtain⟨p,xs,h1,h2,h3,h4,h5⟩:=e2;refine⟨p,xs,h1,hH _ _ h2,?_,h4,h5.mono hI⟩;cases z:I' p with
   | none=>rfl
   | some o =>
    rcases new p o z with z1 | z1
    ·rw[h3] at z1;cases z1
    ·rw[h2] at z1;cases z1
  | own ds=>exact mt ds e2
  | bor ds=>exact mt ds e2
  | fro ds=>obtain⟨p,xs,f1,f2,f3,f4⟩:=e2;exact⟨p,xs,f1,hI _ _ f2,f3,f4.mono hI⟩
  | rdc ds=>obtain⟨p,xs,f1,f2,f3⟩:=e2;exact⟨p,xs,f1,f2,f3.mono hI⟩
 dist:=r.dist
 bor:=r.bor
theorem sy{H:Hp}{p:l_}(h:H p=none)(o:HO):Same H (upd H p o):=λb u q=>by rw[rJ (sZ q h)];exact q
theorem By{I H:Hp}{p:l_}(h:Same I H)(o:HO):Same (upd I p o) (upd H p o):=λb u q=>by
 by_cases e:b=p
 ·subst e;rw[r9] at q ⊢;exact q
 ·rw[rJ e] at q ⊢;exact h b u q
theorem Rep.iFree(r:Rep K B G I H U Y){p:l_}(h:H p=none):I p=none:=r.iH.free h
theorem Rep.gFree(r:Rep K B G I H U Y){p:l_}(h:H p=none):G p=none:=r.gH.free h
theorem Rep.alloc(r:Rep K B G I H U Y){p:l_}(h:H p=none)(o:HO):Rep K B G (upd I p o) (upd H p o) U Y:=
 r.ext (sy (r.iFree h) o) (sy h o) (By r.iH o) λb u q=>by
  by_cases e:b=p
  ·subst e;exact .inr h
  ·rw[rJ e] at q;exact .inl q
theorem Rep.growAlloc(r:Rep K B G I H U Y){p:l_}(h:H p=none)(o:HO):Grow G I (upd I p o):=⟨sy (r.iFree h) o,λb u q=>by
 by_cases e:b=p
 ·subst e;exact .inr (r.gFree h)
 ·rw[rJ e] at q;exact .inl q⟩
theorem Rep.fresh(r:Rep K B G I H U Y){p:l_}(h:H p=none)(o:HO):Rep K B G I (upd H p o) U Y:=
 r.ext (Same.refl _) (sy h o) (r.iH.trans (sy h o)) λb u q=>.inl q
def Apart(U:L2.St)(Y:Gm)(p:l_):Prop:=∀(j:Nat) (r:R),Y[j]?=some (some r)->r.ptr=true->U[j]?≠some (some (.ref p))
theorem Rep.apart(r:Rep K B G I H U Y){p:l_}(h:H p=none):Apart U Y p:=λj q e m z=>by
 obtain⟨v,e1,e2⟩:=r.slot j q e;obtain⟨p',xs,h1,h2,_,_⟩:=e2.mt m;rw[e1] at z;subst h1;cases z;rw[h] at h2;cases h2
theorem Rep.freeze(r:Rep K B G I H U Y){p:l_}(h:H p=some (.lst xs))(hi:I p=none)(a:Apart U Y p):Rep K B G (upd I p (.lst xs)) H U Y where
 iH:=λb u q=>by
  by_cases e:b=p
  ·subst e;rw[r9] at q;cases q;exact h
  ·rw[rJ e] at q;exact r.iH b u q
 gH:=r.gH
 len:=r.len
 slot:=λi q e=>by
  obtain⟨v,e1,e2⟩:=r.slot i q e;refine⟨v,e1,?_⟩;have up:=sy hi (.lst xs)
  have mt:q.ptr=true->∀ds,Mt K G I H ds v->Mt K G (upd I p (.lst xs)) H ds v:=λm ds h=>by
   obtain⟨p',bb,h1,h2,h3,h4,h5⟩:=h;refine⟨p',bb,h1,h2,?_,h4,h5.mono up⟩;have ne:p'≠p:=λz=>a i q e m (by rw[e1,h1,z])
   rw[rJ ne];exact h3
  cases q with
  | val d=>exact Is.mono up e2
  | dic ds =>
   obtain⟨p',bb,h1,h2,h3,h4,h5⟩:=e2;refine⟨p',bb,h1,h2,?_,h4,h5.mono up⟩;have ne:p'≠p:=λz=>a i _ e rfl (by rw[e1,h1,z])
   rw[rJ ne];exact h3
  | own ds=>exact mt rfl ds e2
  | bor ds=>exact mt rfl ds e2
  | fro ds=>obtain⟨p,xs,f1,f2,f3,f4⟩:=e2;exact⟨p,xs,f1,up _ _ f2,f3,f4.mono up⟩
  | rdc ds=>obtain⟨p,xs,f1,f2,f3⟩:=e2;exact⟨p,xs,f1,f2,f3.mono up⟩
 dist:=r.dist
 bor:=r.bor
theorem growFreeze{G I:Hp}{p:l_}(hi:I p=none)(hg:G p=none):Grow G I (upd I p (.lst xs)):=⟨sy hi _,λb u q=>by
 by_cases e:b=p
 ·subst e;exact .inr hg
 ·rw[rJ e] at q;exact .inl q⟩
theorem sk{α:Type}{l:List α}{a b:α}(h:(l.set i a)[j]?=some b):(j=i/\b=a/\i < l.length)\/(j≠i/\l[j]?=some b):=by
 by_cases e:j=i
 ·subst e;by_cases hl:j < l.length
  ·rw[RF hl] at h;cases h;exact .inl ⟨rfl,rfl,hl⟩
  ·rw[RW (by rw[Sa];omega)] at h;cases h
 ·rw[Ra (Qx e)] at h;exact .inr ⟨e,h⟩
theorem Rep.forget(r:Rep K B G I H U Y)(i:Nat):Rep K B G I H U (Y.set i none) where
 iH:=r.iH
 gH:=r.gH
 len:=by rw[Sa];exact r.len
 slot:=λj q e=>by
  rcases sk e with⟨_,z,_⟩ | ⟨_,z⟩
  ·cases z
  ·exact r.slot j q z
 dist:=λj k q q' v e e'=>by
  rcases sk e with⟨_,z,_⟩ | ⟨_,z⟩
  ·cases z
  rcases sk e' with⟨_,z',_⟩ | ⟨_,z'⟩
  ·cases z'
  exact r.dist j k q q' v z z'
 bor:=λj ds e=>by
  rcases sk e with⟨_,z,_⟩ | ⟨_,z⟩
  ·cases z
  ·exact r.bor j ds z
theorem Rep.learn(r:Rep K B G I H U Y){q:R}{v:V}(hv:U[i]?=some (some v))(ok:SlotOk K G I H q v)(ha:q.ptr=true->∀p,v=.ref p->∀(j:Nat) (r:R),j≠i->Y[j]?=some (some r)->r.ptr=true->U[j]?≠some (some (.ref p)))(hb:∀ds,q=.bor ds->U[i]?=B i):Rep K B G I H U (Y.set i (some q)) where
 iH:=r.iH
 gH:=r.gH
 len:=by rw[Sa];exact r.len
 slot:=λj q' e=>by
  rcases sk e with⟨rfl,z,_⟩ | ⟨_,z⟩
  ·cases z;exact⟨v,hv,ok⟩
  ·exact r.slot j q' z
 dist:=λj k q1 q2 w e e' m1 m2 s1 s2=>by
  rcases sk e with⟨rfl,z,_⟩ | ⟨n1,z⟩
  ·cases z
   rcases sk e' with⟨rfl,z',_⟩ | ⟨n2,z'⟩
   ·rfl
   ·obtain⟨p,xs,e1,_⟩:=ok.mt m1;rw[hv] at s1;cases s1;exact absurd (e1▸s2) (ha m1 p e1 k q2 n2 z' m2)
  ·rcases sk e' with⟨rfl,z',_⟩ | ⟨n2,z'⟩
   ·cases z';obtain⟨p,xs,e1,_⟩:=ok.mt m2;rw[hv] at s2;cases s2;exact absurd (e1▸s1) (ha m2 p e1 j q1 n1 z m1)
   ·exact r.dist j k q1 q2 w z z' m1 m2 s1 s2
 bor:=λj ds e=>by
  rcases sk e with⟨rfl,z,_⟩ | ⟨_,z⟩
  ·cases z;exact hb ds rfl
  ·exact r.bor j ds z
theorem Rep.store(r:Rep K B G I H U Y){q:R}{v:V}(hi:i < U.length)(ok:SlotOk K G I H q v)(ha:q.ptr=true->∀p,v=.ref p->Apart U Y p)(hb:∀ds,q≠.bor ds):Rep K B G I H (U.set i (some v)) (Y.set i (some q)):=by
 have r1:Rep K B G I H (U.set i (some v)) (Y.set i none):={
  iH:=r.iH,gH:=r.gH,len:=by rw[Sa,Sa];exact r.len
  slot:=λj q' e=>by
   rcases sk e with⟨_,z,_⟩ | ⟨n,z⟩
   ·cases z
   ·rw[Ra (Qx n)];exact r.slot j q' z
  dist:=λj k q1 q2 w e e' m1 m2 s1 s2=>by
   rcases sk e with⟨_,z,_⟩ | ⟨n1,z⟩
   ·cases z
   rcases sk e' with⟨_,z',_⟩ | ⟨n2,z'⟩
   ·cases z'
   rw[Ra (Qx n1)] at s1;rw[Ra (Qx n2)] at s2;exact r.dist j k q1 q2 w z z' m1 m2 s1 s2
  bor:=λj ds e=>by
   rcases sk e with⟨_,z,_⟩ | ⟨n,z⟩
   ·cases z
   ·rw[Ra (Qx n)];exact r.bor j ds z }
 have r2:=r1.learn (i:=i) (q:=q) (v:=v) (by rw[RF hi]) ok (λm p e j q' n z m' s=>by
  rcases sk z with⟨_,z',_⟩ | ⟨_,z'⟩
  ·cases z'
  ·rw[Ra (Qx n)] at s
   exact ha m p e j q' z' m' s) (λds e=>absurd e (hb ds))
 rw[VG] at r2;exact r2
theorem Rep.write(r:Rep K B G I H U Y){q q':R}{p:l_}{ys:List V}{ds:List D}(hq:Y[i]?=some (some q))(hm:q.ptr=true)(hs:U[i]?=some (some (.ref p)))(h:H p=some (.lst xs))(cL:q'=.own ds\/(q'=.bor ds/\∃es,q=.bor es))(hd:IsA K I ds ys):
  Rep K B G I (upd H p (.lst ys)) U (Y.set i (some q')):=by
 obtain⟨v,e1,e2⟩:=r.slot i q hq;obtain⟨p',bb,h1,h2,h3,h4⟩:=e2.mt hm;have hp:p'=p:=by rw[hs] at e1;subst h1;cases e1;rfl
 subst hp;have b9:∀(j:Nat) (r':R),j≠i->Y[j]?=some (some r')->r'.ptr=true->U[j]?≠some (some (.ref p')):=λj r' n z m s=>n (r.dist j i r' q _ z hq m hm s hs)
 have sI:Same I (upd H p' (.lst ys)):=λb u z=>by
  have ne:b≠p':=λe=>by subst e;rw[h3] at z;cases z
  rw[rJ ne];exact r.iH b u z
 have sG:Same G (upd H p' (.lst ys)):=λb u z=>by
  have ne:b≠p':=λe=>by subst e;rw[h4] at z;cases z
  rw[rJ ne];exact r.gH b u z
 have r1:Rep K B G I (upd H p' (.lst ys)) U (Y.set i none):={
  iH:=sI,gH:=sG,len:=by rw[Sa];exact r.len
  slot:=λj q1 e=>by
   rcases sk e with⟨_,z,_⟩ | ⟨n,z⟩
   ·cases z
   obtain⟨w,e3,e4⟩:=r.slot j q1 z;refine⟨w,e3,?_⟩
   have mt:q1.ptr=true->∀ds,Mt K G I H ds w->Mt K G I (upd H p' (.lst ys)) ds w:=λm ds hh=>by
    obtain⟨p2,dj,g1,g2,g3,g4,g5⟩:=hh;refine⟨p2,dj,g1,?_,g3,g4,g5⟩;have ne:p2≠p':=λz2=>b9 j q1 n z m (by rw[e3,g1,z2])
    rw[rJ ne];exact g2
   cases q1 with
   | val d=>exact e4
   | dic ds =>
    obtain⟨p2,dj,g1,g2,g3,g4,g5⟩:=e4;refine⟨p2,dj,g1,?_,g3,g4,g5⟩;have ne:p2≠p':=λz2=>b9 j _ n z rfl (by rw[e3,g1,z2])
    rw[rJ ne];exact g2
   | own ds=>exact mt rfl ds e4
   | bor ds=>exact mt rfl ds e4
   | fro ds=>exact e4
   | rdc ds=>exact e4
  dist:=(r.forget i).dist
  bor:=(r.forget i).bor }
 have lD:Mt K G I (upd H p' (.lst ys)) ds (.ref p'):=⟨p',ys,rfl,r9,h3,h4,hd⟩
 have r2:=r1.learn (i:=i) (q:=q') (v:=.ref p') hs (by rcases cL with rfl | ⟨rfl,_⟩<;>exact lD) (λm p2 e j r' n z m' s=>by
  cases e
  rcases sk z with⟨_,z',_⟩ | ⟨_,z'⟩
  ·cases z'
  ·exact b9 j r' n z' m' s) (λes e=>by
  rcases cL with rfl | ⟨rfl,es',rfl⟩
  ·cases e
  ·exact r.bor i es' hq)
 rw[VG] at r2;exact r2
end
end DL
variable{ys ds:List DL.D}{q rr:DL.R}{d:DL.D}{Y af:DL.Gm}{F:List DL.D->Option (List DL.D)}{F':DL.D->DL.D->Option DL.D}
namespace DL
open PySem PySem.Spec PyProof.Rows L2
noncomputable abbrev M(α:Type):=Gm->Option (α×Gm)
noncomputable def ret{α:Type}(a:α):M α:=λY=>some (a,Y)
noncomputable def bnd{α Z:Type}(m:M α)(f:α->M Z):M Z:=λY=>match m Y with
 | some (a,ac)=>f a ac
 | none=>none
noncomputable def lft{α:Type}(o:Option α):M α:=λY=>match o with
 | some a=>some (a,Y)
 | none=>none
theorem rG{α Z:Type}{m:M α}{f:α->M Z}{b:Z}(h:bnd m f Y=some (b,af)):∃a ac,m Y=some (a,ac)/\f a ac=some (b,af):=by
 unfold bnd at h;cases e:m Y with
 | none=>rw[e] at h;cases h
 | some q=>obtain⟨a,ac⟩:=q;rw[e] at h;exact⟨a,ac,rfl,h⟩
theorem rW{α:Type}{o:Option α}{a:α}(h:lft o Y=some (a,af)):o=some a/\af=Y:=by
 unfold lft at h;cases o with
 | none=>cases h
 | some b=>cases h;exact⟨rfl,rfl⟩
section
variable (K:PySem.W.Frag)(B:Nat->Option (Option V))
def KD(G I:Hp)(U:L2.St)(af:Gm)(d:D)(Q:VK):Prop:=∀v H' I',Rep K B G I' H' U af->Grow G I I'->Is K I' d v->Q v H'
def KO(G I:Hp)(U:L2.St)(af:Gm)(ds:List D)(Q:VK):Prop:=∀p xs H' I',Rep K B G I' H' U af->Grow G I I'->H' p=some (.lst xs)->I' p=none->G p=none->Apart U af p->IsA K I' ds xs->Q (.ref p) H'
def KT(G I:Hp)(U:L2.St)(af:Gm)(b:Bool)(Q:Bool->Hp->Prop):Prop:=∀H' I',Rep K B G I' H' U af->Grow G I I'->Q b H'
def KA(G I:Hp)(U:L2.St)(af:Gm)(ds:List D)(Q:List V->Hp->Prop):Prop:=∀vs H' I',Rep K B G I' H' U af->Grow G I I'->IsA K I' ds vs->Q vs H'
noncomputable def tD(g:M D):TE:=λU H Q=>∃G I Y d af,Rep K B G I H U Y/\g Y=some (d,af)/\KD K B G I U af d Q
noncomputable def tO(g:M (List D)):TE:=λU H Q=>∃G I Y ds af,Rep K B G I H U Y/\g Y=some (ds,af)/\KO K B G I U af ds Q
noncomputable def tTD(g:M Bool):TT:=λU H Q=>∃G I Y b af,Rep K B G I H U Y/\g Y=some (b,af)/\KT K B G I U af b Q
noncomputable def tAD(g:M (List D)):TA:=λU H Q=>∃G I Y ds af,Rep K B G I H U Y/\g Y=some (ds,af)/\KA K B G I U af ds Q
end
abbrev BB:=Nat->Option (Option V)
def ED(X:Cx)(B:BB)(e:Qe)(g:M D):Prop:=PE X e (tD X.K B g)
def EO(X:Cx)(B:BB)(e:Qe)(g:M (List D)):Prop:=PE X e (tO X.K B g)
def TD(X:Cx)(B:BB)(e:Qe)(g:M Bool):Prop:=PT X e (tTD X.K B g)
def TW(X:Cx)(B:BB)(e:Qe)(g:M Bool):Prop:=PW X e (tTD X.K B g)
def AD(X:Cx)(B:BB)(es:List Qe)(g:M (List D)):Prop:=PA X es (tAD X.K B g)
section
theorem PE.imp{t t':TE}(h:PE X e t)(f:∀U H Q,t' U H Q->t U H Q):PE X e t':=λaa s U H Q I q=>h aa s U H Q I (f U H Q q)
theorem PT.imp{t t':TT}(h:PT X e t)(f:∀U H Q,t' U H Q->t U H Q):PT X e t':=λaa s U H Q I q=>h aa s U H Q I (f U H Q q)
theorem PW.imp{t t':TT}(h:PW X e t)(f:∀U H Q,t' U H Q->t U H Q):PW X e t':=λwh aa s U H Q I q=>h wh aa s U H Q I (f U H Q q)
theorem PA.imp{es:List Qe}{t t':TA}(h:PA X es t)(f:∀U H Q,t' U H Q->t U H Q):PA X es t':=λpos aa s U H Q I q=>h pos aa s U H Q I (f U H Q q)
end
section
variable{K:PySem.W.Frag}{B:BB}{I1 I2 H H1:Hp}{ac:Gm}{Q:VK}
theorem KD.now(k:KD K B G I U Y d Q)(r:Rep K B G I H U Y){v:V}(h:Is K I d v):Q v H:=k v H I r (Grow.refl _ _) h
theorem KD.after(k:KD K B G I U af d Q)(g:Grow G I I1):KD K B G I1 U af d Q:=λv H' I' r g' h=>k v H' I' r (g.trans g') h
theorem KO.after(k:KO K B G I U af ds Q)(g:Grow G I I1):KO K B G I1 U af ds Q:=λp xs H' I' r g'=>k p xs H' I' r (g.trans g')
theorem KT.after{b:Bool}{Q:Bool->Hp->Prop}(k:KT K B G I U af b Q)(g:Grow G I I1):KT K B G I1 U af b Q:=λH' I' r g'=>k H' I' r (g.trans g')
theorem KD.tup(k:KD K B G I U Y (.tup ds) Q)(r:Rep K B G I H U Y){p:l_}(hp:H p=none)(h:IsA K I ds xs):Q (.ref p) (upd H p (.tup xs)):=
 k _ _ _ (r.alloc hp _) (r.growAlloc hp _) (Is.tup r9 (h.mono (sy (r.iFree hp) _)))
theorem KO.new(k:KO K B G I U Y ds Q)(r:Rep K B G I H U Y){p:l_}(hp:H p=none)(h:IsA K I ds xs):Q (.ref p) (upd H p (.lst xs)):=
 k p xs _ I (r.fresh hp _) (Grow.refl _ _) r9 (r.iFree hp) (r.gFree hp) (r.apart hp) h
end
section
variable{B:BB}{a b c:Qe}{es:List Qe}{ga gb gc:M D}
noncomputable def frz(g:M (List D)):M D:=bnd g λds=>ret (.lst ds)
theorem rK{g:M (List D)}(h:EO X B e g):ED X B e (frz g):=PE.imp h λU H Q q=>by
 obtain⟨G,I,Y,d,af,r,e1,k⟩:=q;obtain⟨ds,ac,e2,e3⟩:=rG e1;cases e3;refine⟨G,I,Y,ds,_,r,e2,λp xs H' I' r' g h1 h2 h3 h4 h5=>?_⟩;exact k _ _ _ (r'.freeze h1 h2 h4) (g.trans (growFreeze h2 h3)) (Is.lst (RdK.of r9) (h5.mono (sy h2 _)))
noncomputable def nm(i:Nat):M D:=λY=>match Y[i]? with
 | some (some (.val d))=>some (d,Y)
 | some (some (.own ds))=>some (.lst ds,Y.set i (some (.val (.lst ds))))
 | some (some (.fro ds))=>some (.lst ds,Y)
 | _=>none
theorem Ir(h:PE X (.Name x pos) (tVar i)):ED X B (.Name x pos) (nm i):=PE.imp h λU H Q q=>by
 obtain⟨G,I,Y,d,af,r,e1,k⟩:=q;unfold nm at e1;cases e:Y[i]? with
 | none=>rw[e] at e1;cases e1
 | some o =>
  cases o with
  | none=>rw[e] at e1;cases e1
  | some q =>
   obtain⟨v,h1,h2⟩:=r.slot i q e;cases q with
   | val d'=>rw[e] at e1;cases e1;exact⟨v,h1,k.now r h2⟩
   | bor ds=>rw[e] at e1;cases e1
   | dic ds=>rw[e] at e1;cases e1
   | rdc ds=>rw[e] at e1;cases e1
   | fro ds=>rw[e] at e1;cases e1;obtain⟨p,xs,rfl,f1,f2,f3⟩:=h2;exact⟨_,h1,k.now r (Is.lst (RdK.of f1) f3)⟩
   | own ds =>
    rw[e] at e1;cases e1;obtain⟨p,xs,rfl,g1,g2,g3,g4⟩:=h2;refine⟨_,h1,k _ _ (upd I p (.lst xs)) ?_ (growFreeze g2 g3) (Is.lst (RdK.of r9) (g4.mono (sy g2 _)))⟩
    have ap:Apart U (Y.set i none) p:=λj q' z m s=>by
     rcases sk z with⟨_,z',_⟩ | ⟨n,z'⟩
     ·cases z'
     ·exact n (r.dist j i q' (.own ds) _ z' e m rfl s h1)
    have r1:=(r.forget i).freeze g1 g2 ap;have r2:=r1.learn (i:=i) (q:=.val (.lst ds)) h1 (Is.lst (RdK.of r9) (g4.mono (sy g2 _))) (λm=>nomatch m) (λ_ z=>nomatch z);rw[VG] at r2;exact r2
theorem ed_c{v:V}(h:PE X e (tC v))(hd:∀I,Is X.K I d v):ED X B e (ret d):=PE.imp h λU H Q q=>by
 obtain⟨G,I,Y,d',af,r,e1,k⟩:=q;cases e1;exact k.now r (hd I)
theorem gV{i j}:ED X B (.Constant (.int i) j pos) (ret (.int i)):=ed_c Gu λ_=>Is.int i
theorem t7{b j}:ED X B (.Constant (.bool b) j pos) (ret (.bl b)):=ed_c Lh λ_=>Is.bl b
theorem sC{j}:ED X B (.Constant .none j pos) (ret .non):=ed_c FL λ_=>Is.non
theorem sO{x j}:ED X B (.Constant (.str x) j pos) (ret (.str x)):=ed_c Jf λ_=>Is.str x
noncomputable def nilA:M (List D):=ret []
noncomputable def consA(g:M D)(t:M (List D)):M (List D):=bnd g λd=>bnd t λds=>ret (d::ds)
theorem gs:AD X B [] nilA:=PA.imp vP λU H Q q=>by
 obtain⟨G,I,Y,d,af,r,e1,k⟩:=q;cases e1;exact k _ _ _ r (Grow.refl _ _) IsA.nil
theorem IY{g:M D}{t:M (List D)}(ha:ED X B e g)(hr:AD X B es t)(hs:e_ (e::es) X.env=(false,Qf e X.env)::e_ es X.env:=by rfl):AD X B (e::es) (consA g t):=
 PA.imp (sY ha hr hs) λU H Q q=>by
  obtain⟨G,I,Y,d,af,r,e1,k⟩:=q;obtain⟨d1,ac,e2,e3⟩:=rG e1;obtain⟨d2,ai,e4,e5⟩:=rG e3;cases e5;exact⟨G,I,Y,d1,ac,r,e2,λv H1 I1 r1 g1 h1=>⟨G,I1,ac,d2,_,r1,e4,λvs H2 I2 r2 g2 h2=>k _ _ _ r2 (g1.trans g2) (IsA.cons (h1.mono g2.up) h2)⟩⟩
noncomputable def lim:Nat:=1000000
theorem t9(h:n<=lim):n<=x_:=y_ h (by rw[Q7];decide)
noncomputable def tupA(t:M (List D)):M D:=bnd t λds=>lft (if ds.length<=lim then some (.tup ds) else none)
noncomputable def lstA(t:M (List D)):M (List D):=bnd t λds=>lft (if ds.length<=lim then some ds else none)
theorem sv{α:Type}{c:Prop}[Decidable c]{a b:α}(h:(if c then some a else none)=some b):c/\b=a:=by
 by_cases hc:c
 ·rw[if_pos hc] at h;exact⟨hc,(Qb h).symm⟩
 ·rw[if_neg hc] at h;cases h
theorem rY{x1}{t:M (List D)}(h:AD X B es t):ED X B (.Tuple es x1 pos) (tupA t):=PE.imp (MH h) λU H Q q=>by
 obtain⟨G,I,Y,d,af,r,e1,k⟩:=q;obtain⟨d1,ac,e2,e3⟩:=rG e1;obtain⟨e4,rfl⟩:=rW e3;obtain⟨hl,rfl⟩:=sv e4;refine⟨G,I,Y,d1,_,r,e2,λvs H1 I1 r1 g1 h1=>⟨?_,λp hp=>(k.after g1).tup r1 hp h1⟩⟩;rw[←h1.length];exact t9 hl
theorem rV{t:M (List D)}(h:AD X B es t):EO X B (.List es pos) (lstA t):=PE.imp (K4 h) λU H Q q=>by
 obtain⟨G,I,Y,d,af,r,e1,k⟩:=q;obtain⟨d1,ac,e2,e3⟩:=rG e1;obtain⟨e4,rfl⟩:=rW e3;obtain⟨hl,rfl⟩:=sv e4;refine⟨G,I,Y,_,_,r,e2,λvs H1 I1 r1 g1 h1=>⟨?_,λp hp=>(k.after g1).new r1 hp h1⟩⟩;rw[←h1.length];exact t9 hl
def OpD(K:PySem.W.Frag)(r:R2)(F:D->D->Option D):Prop:=∀a b d,F a b=some d->∀(B:BB) (G I H:Hp) (U:L2.St) (Y:Gm) (x y:V) (Q:VK),Rep K B G I H U Y->Is K I a x->Is K I b y->KD K B G I U Y d Q->r x y H Q
def OpO(K:PySem.W.Frag)(r:R2)(F:D->D->Option (List D)):Prop:=∀a b d,F a b=some d->∀(B:BB) (G I H:Hp) (U:L2.St) (Y:Gm) (x y:V) (Q:VK),Rep K B G I H U Y->Is K I a x->Is K I b y->KO K B G I U Y d Q->r x y H Q
def CallD(K:PySem.W.Frag)(r:List V->Hp->VK->Prop)(F:List D->Option D):Prop:=∀ds d,F ds=some d->∀(B:BB) (G I H:Hp) (U:L2.St) (Y:Gm) (xs:List V) (Q:VK),Rep K B G I H U Y->IsA K I ds xs->KD K B G I U Y d Q->r xs H Q
def CallO(K:PySem.W.Frag)(r:List V->Hp->VK->Prop)(F:List D->Option (List D)):Prop:=∀ds d,F ds=some d->∀(B:BB) (G I H:Hp) (U:L2.St) (Y:Gm) (xs:List V) (Q:VK),Rep K B G I H U Y->IsA K I ds xs->KO K B G I U Y d Q->r xs H Q
noncomputable def op2{α:Type}(F:D->D->Option α)(ga gb:M D):M α:=bnd ga λx=>bnd gb λy=>lft (F x y)
noncomputable def fn1{α:Type}(F:List D->Option α)(t:M (List D)):M α:=bnd t λds=>lft (F ds)
theorem t_op{r:R2}{F:D->D->Option D}{K:PySem.W.Frag}(h:OpD K r F):∀U H Q,tD K B (op2 F ga gb) U H Q->tOp r (tD K B ga) (tD K B gb) U H Q:=λU H Q q=>by
 obtain⟨G,I,Y,d,af,r,e1,k⟩:=q;obtain⟨d1,ac,e2,e3⟩:=rG e1;obtain⟨d2,ai,e4,e5⟩:=rG e3;obtain⟨e6,rfl⟩:=rW e5;exact⟨G,I,Y,d1,ac,r,e2,λv H1 I1 r1 g1 h1=>⟨G,I1,ac,d2,_,r1,e4,λw H2 I2 r2 g2 h2=>h _ _ _ e6 B G I2 H2 U _ v w Q r2 (h1.mono g2.up) h2 (k.after (g1.trans g2))⟩⟩
theorem Iq{r:R2}{F:D->D->Option (List D)}{K:PySem.W.Frag}(h:OpO K r F):∀U H Q,tO K B (op2 F ga gb) U H Q->tOp r (tD K B ga) (tD K B gb) U H Q:=λU H Q q=>by
 obtain⟨G,I,Y,d,af,r,e1,k⟩:=q;obtain⟨d1,ac,e2,e3⟩:=rG e1;obtain⟨d2,ai,e4,e5⟩:=rG e3;obtain⟨e6,rfl⟩:=rW e5;exact⟨G,I,Y,d1,ac,r,e2,λv H1 I1 r1 g1 h1=>⟨G,I1,ac,d2,_,r1,e4,λw H2 I2 r2 g2 h2=>h _ _ _ e6 B G I2 H2 U _ v w Q r2 (h1.mono g2.up) h2 (k.after (g1.trans g2))⟩⟩
theorem u9{op:Operator}{r:R2}{F:D->D->Option D}(ho:OpR X (Ry op) r)(h:OpD X.K r F)(ha:ED X B a ga)(hb:ED X B b gb):ED X B (.BinOp a op b pos) (op2 F ga gb):=PE.imp (CU ho ha hb) (t_op h)
theorem Lf{op:Operator}{r:R2}{F:D->D->Option (List D)}(ho:OpR X (Ry op) r)(h:OpO X.K r F)(ha:ED X B a ga)(hb:ED X B b gb):EO X B (.BinOp a op b pos) (op2 F ga gb):=PE.imp (CU ho ha hb) (Iq h)
theorem vH{r:R2}{F:D->D->Option D}(ho:OpR X (Qq op) r)(h:OpD X.K r F)(ha:ED X B a ga)(hb:ED X B b gb)(hm:Rf op b=false):ED X B (.Compare a [op] [b] pos) (op2 F ga gb):=PE.imp (Gk ho ha hb hm) (t_op h)
theorem IW{r:R2}{F:D->D->Option D}(ho:IxR X r)(h:OpD X.K r F)(ha:ED X B a ga)(hb:ED X B b gb)(hs:PlainIx b:=by exact λ_ _=>rfl):ED X B (.Subscript a b pos) (op2 F ga gb):=PE.imp (BP ho ha hb hs) (t_op h)
noncomputable def asB(d:D):Option Bool:=match d with
 | .bl b=>some b
 | _=>none
theorem yC{b:Bool}(h:asB d=some b):d=.bl b:=by
 cases d<;>simp[asB] at h
 rw[h]
noncomputable def tst(g:M D):M Bool:=bnd g λd=>lft (asB d)
theorem vA{K:PySem.W.Frag}{g:M D}{t:TE}(ht:∀U H Q,tD K B g U H Q->t U H Q):∀U H Q,tTD K B (tst g) U H Q->tTest t U H Q:=λU H Q q=>by
 obtain⟨G,I,Y,d,af,r,e1,k⟩:=q;obtain⟨d1,ac,e2,e3⟩:=rG e1;obtain⟨e4,rfl⟩:=rW e3;have:=yC e4;subst this;exact ht _ _ _ ⟨G,I,Y,_,_,r,e2,λv H1 I1 r1 g1 h1=>⟨d,sK h1,k _ _ r1 g1⟩⟩
theorem tV{r:R2}{F:D->D->Option D}(ho:OpR X (Qq op) r)(h:OpD X.K r F)(ha:ED X B a ga)(hb:ED X B b gb)(hm:Rf op b=false):TD X B (.Compare a [op] [b] pos) (tst (op2 F ga gb)):=PT.imp (y8 ho ha hb hm) (vA (t_op h))
theorem sL(ha:ED X B a ga)(he:∀bI,VL a X.env bI=(do let v ←bI;V7 a.pos;S4 [v] (truthy v)):=by intros;rfl):TD X B a (tst ga):=PT.imp (LV ha he) (vA λ_ _ _ z=>z)
noncomputable def chn(F F':D->D->Option D)(ga gb gc:M D):M D:=bnd ga λx=>bnd gb λy=>bnd (lft (F x y)) λz=>bnd (lft (asB z)) λk=>if k then bnd gc λw=>lft (F' y w) else ret (.bl false)
theorem DF{r r':R2}{F:D->D->Option D}{K:PySem.W.Frag}(h:OpD K r F)(h':OpD K r' F'):∀U H Q,tD K B (chn F F' ga gb gc) U H Q->tChain r r' (tD K B ga) (tD K B gb) (tD K B gc) U H Q:=λU H Q q=>by
 obtain⟨G,I,Y,d,af,r,e1,k⟩:=q;obtain⟨d1,ac,e2,e3⟩:=rG e1;obtain⟨d2,ai,e4,e5⟩:=rG e3;obtain⟨d3,aO,e6,e7⟩:=rG e5;obtain⟨e8,rfl⟩:=rW e6;obtain⟨k1,aQ,e9,f1⟩:=rG e7;obtain⟨f2,rfl⟩:=rW e9;have:=yC f2;subst this;refine⟨G,I,Y,d1,ac,r,e2,λv H1 I1 r1 g1 h1=>⟨G,I1,ac,d2,aQ,r1,e4,λw H2 I2 r2 g2 h2=>h _ _ _ e8 B G I2 H2 U aQ v w _ r2 (h1.mono g2.up) h2 λu H3 I3 r3 g3 h3=>⟨k1,sK h3,?_⟩⟩⟩;cases k1 with
 | false=>cases f1;exact iteF (k _ _ _ r3 (g1.trans (g2.trans g3)) (Is.bl false))
 | true =>
  obtain⟨d4,dG,f3,f4⟩:=rG f1;obtain⟨f5,rfl⟩:=rW f4;exact iteT ⟨G,I3,aQ,d4,_,r3,f3,λz H4 I4 r4 g4 h4=>h' _ _ _ f5 B G I4 H4 U _ w z Q r4 (h2.mono (g3.trans g4).up) h4 (k.after (g1.trans (g2.trans (g3.trans g4))))⟩
theorem G6{r r':R2}{F:D->D->Option D}(ho:OpR X (Qq op) r)(h:OpD X.K r F)(bV:OpR X (Qq bX) r')(h':OpD X.K r' F')(ha:ED X B a ga)(hb:ED X B b gb)(hc:ED X B c gc)(hm:TR [op,bX] [b,c]=false:=by with_unfolding_all rfl):ED X B (.Compare a [op,bX] [b,c] pos) (chn F F' ga gb gc):=PE.imp (Jw ho bV ha hb hc hm) (DF h h')
theorem Ln{r r':R2}{F:D->D->Option D}(ho:OpR X (Qq op) r)(h:OpD X.K r F)(bV:OpR X (Qq bX) r')(h':OpD X.K r' F')(ha:ED X B a ga)(hb:ED X B b gb)(hc:ED X B c gc)(hm:TR [op,bX] [b,c]=false:=by with_unfolding_all rfl):TD X B (.Compare a [op,bX] [b,c] pos) (tst (chn F F' ga gb gc)):=PT.imp (NL ho bV ha hb hc hm) (vA (DF h h'))
noncomputable def andT(a b:M Bool):M Bool:=bnd a λk=>if k then b else ret false
noncomputable def orT(a b:M Bool):M Bool:=bnd a λk=>if k then ret true else b
noncomputable def notT(a:M Bool):M Bool:=bnd a λk=>ret (!k)
noncomputable def andV(a b:M D):M D:=bnd a λd=>bnd (lft (asB d)) λk=>if k then b else ret (.bl false)
noncomputable def ifV(c:M Bool)(a b:M D):M D:=bnd c λk=>if k then a else b
variable{ta tb:M Bool}
theorem uA(ha:TD X B a ta):TW X B (.BoolOp .And [a] pos) ta:=FV ha
theorem ue(ha:TD X B a ta):TW X B (.BoolOp .Or [a] pos) ta:=Na ha
theorem uM(ha:TD X B a ta)(hb:TW X B (.BoolOp .And (b::aE) pos) tb):TW X B (.BoolOp .And (a::b::aE) pos) (andT ta tb):=PW.imp (LX ha hb) λU H Q q=>by
 obtain⟨G,I,Y,d,af,r,e1,k⟩:=q;obtain⟨d1,ac,e2,e3⟩:=rG e1;refine⟨G,I,Y,d1,ac,r,e2,λH1 I1 r1 g1=>?_⟩;cases d1 with
 | true=>exact iteT ⟨G,I1,ac,d,af,r1,e3,k.after g1⟩
 | false=>cases e3;exact iteF (k _ _ r1 g1)
theorem um(ha:TD X B a ta)(hb:TW X B (.BoolOp .Or (b::aE) pos) tb):TW X B (.BoolOp .Or (a::b::aE) pos) (orT ta tb):=PW.imp (IZ ha hb) λU H Q q=>by
 obtain⟨G,I,Y,d,af,r,e1,k⟩:=q;obtain⟨d1,ac,e2,e3⟩:=rG e1;refine⟨G,I,Y,d1,ac,r,e2,λH1 I1 r1 g1=>?_⟩;cases d1 with
 | false=>exact iteF ⟨G,I1,ac,d,af,r1,e3,k.after g1⟩
 | true=>cases e3;exact iteT (k _ _ r1 g1)
theorem TW.td(h:TW X B e ta):TD X B e ta:=h _
theorem vq(ha:TD X B a ta):TD X B (.UnaryOp .Not a pos) (notT ta):=PT.imp (Fs ha) λU H Q q=>by
 obtain⟨G,I,Y,d,af,r,e1,k⟩:=q;obtain⟨d1,ac,e2,e3⟩:=rG e1;cases e3;exact⟨G,I,Y,d1,_,r,e2,λH1 I1 r1 g1=>k _ _ r1 g1⟩
theorem uR{op}(h:ED X B a ga):ED X B (.BoolOp op [a] pos) ga:=JJ h
theorem uv(ha:ED X B a ga)(hb:ED X B (.BoolOp .And (b::aE) pos) gb):ED X B (.BoolOp .And (a::b::aE) pos) (andV ga gb):=PE.imp (Jh ha hb) λU H Q q=>by
 obtain⟨G,I,Y,d,af,r,e1,k⟩:=q;obtain⟨d1,ac,e2,e3⟩:=rG e1;obtain⟨k1,ai,e4,e5⟩:=rG e3;obtain⟨e6,rfl⟩:=rW e4;have:=yC e6;subst this;refine⟨G,I,Y,_,_,r,e2,λv H1 I1 r1 g1 h1=>⟨k1,sK h1,?_⟩⟩;cases k1 with
 | true=>exact iteT ⟨G,I1,_,d,af,r1,e5,k.after g1⟩
 | false=>cases e5;exact iteF (k _ _ _ r1 g1 (Is.bl false))
theorem HR(hc:TD X B c ta)(ha:ED X B a ga)(hb:ED X B b gb):ED X B (.IfExp c a b pos) (ifV ta ga gb):=PE.imp (LO hc ha hb) λU H Q q=>by
 obtain⟨G,I,Y,d,af,r,e1,k⟩:=q;obtain⟨d1,ac,e2,e3⟩:=rG e1;refine⟨G,I,Y,d1,ac,r,e2,λH1 I1 r1 g1=>?_⟩;cases d1 with
 | true=>exact iteT ⟨G,I1,ac,d,af,r1,e3,k.after g1⟩
 | false=>exact iteF ⟨G,I1,ac,d,af,r1,e3,k.after g1⟩
variable{p:Pos}{id T:String}{r:List V->Hp->VK->Prop}{t:M (List D)}
theorem t_fn{F:List D->Option D}{K:PySem.W.Frag}(h:CallD K r F):∀U H Q,tD K B (fn1 F t) U H Q->tCB r (tAD K B t) U H Q:=λU H Q q=>by
 obtain⟨G,I,Y,d,af,r,e1,k⟩:=q;obtain⟨d1,ac,e2,e3⟩:=rG e1;obtain⟨e4,rfl⟩:=rW e3;exact⟨G,I,Y,d1,_,r,e2,λvs H1 I1 r1 g1 h1=>h _ _ e4 B G I1 H1 U _ vs Q r1 h1 (k.after g1)⟩
theorem xW{K:PySem.W.Frag}(h:CallO K r F):∀U H Q,tO K B (fn1 F t) U H Q->tCB r (tAD K B t) U H Q:=λU H Q q=>by
 obtain⟨G,I,Y,d,af,r,e1,k⟩:=q;obtain⟨d1,ac,e2,e3⟩:=rG e1;obtain⟨e4,rfl⟩:=rW e3;exact⟨G,I,Y,d1,_,r,e2,λvs H1 I1 r1 g1 h1=>h _ _ e4 B G I1 H1 U _ vs Q r1 h1 (k.after g1)⟩
theorem vc{F:List D->Option D}(hc:CallR X (.builtin id) r)(h:CallD X.K r F)(hg:Gl X x)(hm:X.mg x=none)(hv:Q2 x=some (.builtin id))(ha:AD X B (e::es) t)(hn:x ≠ "__name__":=by decide)(bf:(x == ("__debug__":Str))=false:=by decide)(he:e_ (e::es) X.env=(false,Qf e X.env)::e_ es X.env:=by rfl)(aF:(Qk pos (e_ es X.env)).any (·.1)=false:=by rfl):ED X B (.Call (.Name x p) (e::es) [] pos) (fn1 F t):=PE.imp (xq hc hg hm hv ha hn bf he aF) (t_fn h)
theorem LB(hc:CallR X (.builtin id) r)(h:CallO X.K r F)(hg:Gl X x)(hm:X.mg x=none)(hv:Q2 x=some (.builtin id))(ha:AD X B (e::es) t)(hn:x ≠ "__name__":=by decide)(bf:(x == ("__debug__":Str))=false:=by decide)(he:e_ (e::es) X.env=(false,Qf e X.env)::e_ es X.env:=by rfl)(aF:(Qk pos (e_ es X.env)).any (·.1)=false:=by rfl):EO X B (.Call (.Name x p) (e::es) [] pos) (fn1 F t):=PE.imp (xq hc hg hm hv ha hn bf he aF) (xW h)
theorem G1{F:List D->Option D}(hc:CallR X (.type T) r)(h:CallD X.K r F)(hg:Gl X x)(hm:X.mg x=none)(hv:Q2 x=some (.type T))(ha:AD X B (e::es) t)(hn:x ≠ "__name__":=by decide)(bf:(x == ("__debug__":Str))=false:=by decide)(he:e_ (e::es) X.env=(false,Qf e X.env)::e_ es X.env:=by rfl)(aF:(Qk pos (e_ es X.env)).any (·.1)=false:=by rfl):ED X B (.Call (.Name x p) (e::es) [] pos) (fn1 F t):=PE.imp (A8 hc hg hm hv ha hn bf he aF) (t_fn h)
theorem E8(hc:CallR X (.type T) r)(h:CallO X.K r F)(hg:Gl X x)(hm:X.mg x=none)(hv:Q2 x=some (.type T))(ha:AD X B (e::es) t)(hn:x ≠ "__name__":=by decide)(bf:(x == ("__debug__":Str))=false:=by decide)(he:e_ (e::es) X.env=(false,Qf e X.env)::e_ es X.env:=by rfl)(aF:(Qk pos (e_ es X.env)).any (·.1)=false:=by rfl):EO X B (.Call (.Name x p) (e::es) [] pos) (fn1 F t):=PE.imp (A8 hc hg hm hv ha hn bf he aF) (xW h)
end
inductive Fl where
 | nx | rt (r:R) | bk | ct
def ResOk(K:PySem.W.Frag)(G I H:Hp)(U:L2.St)(Y:Gm):R->V->Prop
 | .val d,v=>Is K I d v
 | .own ds,v=>∃p xs,v=.ref p/\H p=some (.lst xs)/\I p=none/\G p=none/\Apart U Y p/\IsA K I ds xs
 | .bor _,_=>False
 | .fro ds,v=>∃p xs,v=.ref p/\I p=some (.lst xs)/\G p=none/\IsA K I ds xs
 | .rdc _,_=>False
 | .dic kvs,v=>∃p xs,v=.ref p/\H p=some (.dT xs)/\I p=none/\G p=none/\Apart U Y p/\IsK K I kvs xs
def EndAt(K:PySem.W.Frag)(G I H:Hp)(U:L2.St)(Y:Gm)(E:Ends):Fl->Prop
 | .nx=>E.nx U H
 | .bk=>E.bk U H
 | .ct=>E.ct U H
 | .rt r=>∀v,ResOk K G I H U Y r v->E.rt v H
section
variable (K:PySem.W.Frag)(B:BB)
def KS(G I:Hp)(af:Gm)(f:Fl)(E:Ends):Prop:=∀ao H' I',Rep K B G I' H' ao af->Grow G I I'->EndAt K G I' H' ao af E f
noncomputable def tS(g:M Fl):TS:=λE U H=>∃G I Y f af,Rep K B G I H U Y/\g Y=some (f,af)/\KS K B G I af f E
def KG(m:Nat)(U:L2.St)(G I:Hp)(af:Gm)(Q:L2.St->Hp->Prop):Prop:=∀ao H' I',Rep K B G I' H' ao af->Grow G I I'->ao.drop m=U.drop m->Q ao H'
noncomputable def tGD(m:Nat)(f:D->M Unit):TG:=λv U H Q=>∃G I Y d af,Rep K B G I H U Y/\Is K I d v/\f d Y=some ((),af)/\KG K B m U G I af Q
noncomputable def tGs(m:Nat)(f:List D->M Unit):TGs:=λvs U H Q=>∃G I Y ds af,Rep K B G I H U Y/\IsA K I ds vs/\f ds Y=some ((),af)/\KG K B m U G I af Q
end
def SD(X:Cx)(B:BB)(st:Qo)(g:M Fl):Prop:=PS X st (tS X.K B g)
def SDs(X:Cx)(B:BB)(st:List Qo)(g:M Fl):Prop:=PSs X st (tS X.K B g)
def GD(X:Cx)(B:BB)(m:Nat)(tg:Qe)(f:D->M Unit):Prop:=PG X tg (tGD X.K B m f)
def GDs(X:Cx)(B:BB)(m:Nat)(iz:List Qe)(f:List D->M Unit):Prop:=PGs X iz (tGs X.K B m f)
section
theorem PS.imp{st:Qo}{t t':TS}(h:PS X st t)(f:∀E U H,t' E U H->t E U H):PS X st t':=λaa s U H E I q=>h aa s U H E I (f E U H q)
theorem PSs.imp{st:List Qo}{t t':TS}(h:PSs X st t)(f:∀E U H,t' E U H->t E U H):PSs X st t':=λaa s U H E I q=>h aa s U H E I (f E U H q)
theorem PG.imp{t t':TG}(h:PG X tg t)(f:∀v U H Q,t' v U H Q->t v U H Q):PG X tg t':=λaa s U H v u Q I r q=>h aa s U H v u Q I r (f v U H Q q)
theorem PGs.imp{t t':TGs}(h:PGs X iz t)(f:∀v U H Q,t' v U H Q->t v U H Q):PGs X iz t':=λaa s U H v u Q I r q=>h aa s U H v u Q I r (f v U H Q q)
theorem PI.imp{t t':TI}(h:PI X tg iter t)(f:∀U H Q,t' U H Q->t U H Q):PI X tg iter t':=λaa s U H R I q=>h aa s U H R I (f U H R q)
end
section
variable{K:PySem.W.Frag}{B:BB}{I1 H:Hp}{f:Fl}{E:Ends}
theorem KS.after(k:KS K B G I af f E)(g:Grow G I I1):KS K B G I1 af f E:=λao H' I' r g'=>k ao H' I' r (g.trans g')
theorem KG.after{cj:L2.St}{Q:L2.St->Hp->Prop}(k:KG K B m U G I af Q)(g:Grow G I I1)(hs:cj.drop m=U.drop m):KG K B m cj G I1 af Q:=λao H' I' r g' z=>k ao H' I' r (g.trans g') (z.trans hs)
end
section
variable{B:BB}{a b c:Qe}{es:List Qe}{ga gb gc:M D}{st:Qo}{aE:List Qo}{g h:M Fl}
noncomputable def seqS(g h:M Fl):M Fl:=bnd g λf=>match f with
 | .nx=>h
 | .rt r=>ret (.rt r)
 | .bk=>ret .bk
 | .ct=>ret .ct
theorem Hj:SDs X B [] (ret .nx):=PSs.imp He λE U H q=>by
 obtain⟨G,I,Y,f,af,r,e1,k⟩:=q;cases e1;exact k U H I r (Grow.refl _ _)
theorem JQ(h:SD X B st g):SDs X B [st] g:=Ic h
theorem Fw(h1:SD X B st g)(h2:SDs X B aE h):SDs X B (st::aE) (seqS g h):=PSs.imp (GT h1 h2) λE U H q=>by
 obtain⟨G,I,Y,f,af,r,e1,k⟩:=q;obtain⟨f1,ac,e2,e3⟩:=rG e1;refine⟨G,I,Y,f1,ac,r,e2,λcj H1 I1 r1 g1=>?_⟩;cases f1 with
 | nx=>exact⟨G,I1,ac,f,af,r1,e3,k.after g1⟩
 | bk=>cases e3;exact k cj H1 I1 r1 g1
 | ct=>cases e3;exact k cj H1 I1 r1 g1
 | rt v=>cases e3;exact k cj H1 I1 r1 g1
theorem Aa:SD X B st (λ_=>none):=PS.imp MI λE U H q=>by
 obtain⟨G,I,Y,f,af,r,e1,k⟩:=q;cases e1
noncomputable def dropS(g:M D):M Fl:=bnd g λ_=>ret .nx
theorem tF(he:ED X B e ga)(hs:QZ e none pos.line X.env=pure false:=by rfl):SD X B (.Expr e pos) (dropS ga):=PS.imp (yI he hs) λE U H q=>by
 obtain⟨G,I,Y,f,af,r,e1,k⟩:=q;obtain⟨d1,ac,e2,e3⟩:=rG e1;cases e3;exact⟨G,I,Y,d1,_,r,e2,λv H1 I1 r1 g1 h1=>k U H1 I1 r1 g1⟩
noncomputable def retS(g:M D):M Fl:=bnd g λd=>ret (.rt (.val d))
theorem rO(he:ED X B e ga):SD X B (.Return (some e) pos) (retS ga):=PS.imp (xI he) λE U H q=>by
 obtain⟨G,I,Y,f,af,r,e1,k⟩:=q;obtain⟨d1,ac,e2,e3⟩:=rG e1;cases e3;exact⟨G,I,Y,d1,_,r,e2,λv H1 I1 r1 g1 h1=>k U H1 I1 r1 g1 v h1⟩
noncomputable def retO(g:M (List D)):M Fl:=bnd g λd=>ret (.rt (.own d))
theorem sF{g:M (List D)}(he:EO X B e g):SD X B (.Return (some e) pos) (retO g):=PS.imp (xI he) λE U H q=>by
 obtain⟨G,I,Y,f,af,r,e1,k⟩:=q;obtain⟨d1,ac,e2,e3⟩:=rG e1;cases e3;exact⟨G,I,Y,d1,_,r,e2,λp xs H1 I1 r1 g1 h1 h2 h3 h4 h5=>k U H1 I1 r1 g1 _ ⟨p,xs,rfl,h1,h2,h3,h4,h5⟩⟩
noncomputable def ifS(c:M Bool)(a b:M Fl):M Fl:=bnd c λk=>if k then a else b
theorem JM{tc:M Bool}{sa sb:List Qo}(hc:TD X B c tc)(ha:SDs X B sa g)(hb:SDs X B sb h):SD X B (.If c sa sb pos) (ifS tc g h):=PS.imp (FX hc ha hb) λE U H q=>by
 obtain⟨G,I,Y,f,af,r,e1,k⟩:=q;obtain⟨d1,ac,e2,e3⟩:=rG e1;refine⟨G,I,Y,d1,ac,r,e2,λH1 I1 r1 g1=>?_⟩;cases d1 with
 | true=>exact iteT ⟨G,I1,ac,f,af,r1,e3,k.after g1⟩
 | false=>exact iteF ⟨G,I1,ac,f,af,r1,e3,k.after g1⟩
noncomputable def putS(i:Nat)(q:R):M Unit:=λY=>if i < Y.length then some ((),Y.set i (some q)) else none
noncomputable def tgN(i:Nat)(d:D):M Unit:=putS i (.val d)
theorem uJ{u:Unit}(h:putS i q Y=some (u,af)):i < Y.length/\af=Y.set i (some q):=by
 unfold putS at h;obtain⟨h1,h2⟩:=sv h;cases h2;exact⟨h1,rfl⟩
theorem EH{α:Type}:∀{l:List α}{i m:Nat}{a:α},i < m->(l.set i a).drop m=l.drop m
 | [],_,_,_,_=>rfl
 | _::_,0,m+1,_,_=>rfl
 | _::r,i+1,m+1,a,h=>by
  rw[List.set_cons_succ,Th,Th];exact EH (Nat.lt_of_succ_lt_succ h)
theorem gd_n(hN:X.N.Nodup)(hi:X.N[i]?=some x:=by rfl)(hx:locB X.env.scope x=true:=by rfl)(hf:fnB X x=true:=by rfl)(oq:i < m:=by decide):GD X B m (.Name x pos) (tgN i):=
 PG.imp (Fn hN hi (locI hx) (fnI hf)) λv U H Q q=>by
  obtain⟨G,I,Y,d,af,r,hd,e1,k⟩:=q;obtain⟨hl,rfl⟩:=uJ e1;exact k _ _ I (r.store (by rw[r.len];exact hl) hd (λm=>nomatch m) (λ_ z=>nomatch z)) (Grow.refl _ _) (EH oq)
noncomputable def tgNil(ds:List D):M Unit:=match ds with
 | []=>ret ()
 | _=>λ_=>none
noncomputable def tgCons(f:D->M Unit)(t:List D->M Unit)(ds:List D):M Unit:=match ds with
 | d::r=>bnd (f d) λ_=>t r
 | []=>λ_=>none
theorem sH:GDs X B m [] tgNil:=PGs.imp HL λv U H Q q=>by
 obtain⟨G,I,Y,ds,af,r,hd,e1,k⟩:=q;cases ds with
 | nil=>cases e1;exact⟨hd.nil_inv,k _ _ I r (Grow.refl _ _) rfl⟩
 | cons d t=>cases e1
theorem rX{f:D->M Unit}{t:List D->M Unit}(h1:GD X B m e f)(h2:GDs X B m es t)(hs:(Ri (e::es) X.env).map (·.2)=Td e X.env::(Ri es X.env).map (·.2):=by rfl):GDs X B m (e::es) (tgCons f t):=PGs.imp (JP h1 h2 hs) λv U H Q q=>by
 obtain⟨G,I,Y,ds,af,r,hd,e1,k⟩:=q;cases ds with
 | nil=>cases e1
 | cons d t =>
  obtain⟨x,xs,rfl,h1,h2⟩:=hd.cons_inv;obtain⟨u,ac,e2,e3⟩:=rG e1;exact⟨x,xs,rfl,G,I,Y,d,ac,r,h1,e2,λcj H1 I1 r1 g1 z=>⟨G,I1,ac,t,af,r1,h2.mono g1.up,e3,k.after g1 z⟩⟩
noncomputable def tgTup(n:Nat)(t:List D->M Unit)(d:D):M Unit:=match d with
 | .tup ds=>if ds.length=n then t ds else λ_=>none
 | _=>λ_=>none
theorem sE{t:List D->M Unit}(hc:X.calm=true)(h:GDs X B m es t)(hn:(Ri es X.env).length=n:=by rfl)(fV:(Ri es X.env).findIdx? (·.1)=none:=by rfl):GD X B m (.Tuple es k pos) (tgTup n t):=
 PG.imp (NC hc h hn fV) λv U H Q q=>by
  obtain⟨G,I,Y,d,af,r,hd,e1,k⟩:=q;cases d with
  | tup ds =>
   obtain⟨a,xs,rfl,h1,h2⟩:=rZ hd;unfold tgTup at e1;by_cases hl:ds.length=n
   ·simp only[hl,if_true] at e1;exact⟨a,xs,rfl,Same.sqT r.iH h1,by rw[←h2.length];exact hl,G,I,Y,ds,af,r,h2,e1,k⟩
   ·simp only[hl,if_false] at e1;cases e1
  | _=>cases e1
noncomputable def asgS(g:M D)(f:D->M Unit):M Fl:=bnd g λd=>bnd (f d) λ_=>ret .nx
theorem GH{f:D->M Unit}(he:ED X B e ga)(hg:GD X B m tg f)(hs:UX [tg] e pos.line X.env=pure false:=by rfl)(hw:UY [tg] e X.env=pure none:=by rfl)(h1:(Ri [tg] X.env).map (·.2)=[Td tg X.env]:=by rfl):SD X B (.Assign [tg] e pos) (asgS ga f):=PS.imp (Cq he hg hs hw h1) λE U H q=>by
 obtain⟨G,I,Y,f,af,r,e1,k⟩:=q;obtain⟨d1,ac,e2,e3⟩:=rG e1;obtain⟨d2,ai,e4,e5⟩:=rG e3;cases e5;exact⟨G,I,Y,d1,ac,r,e2,λv H1 I1 r1 g1 h1=>⟨G,I1,ac,d1,_,r1,h1,e4,λaX H2 I2 r2 g2 _=>k aX H2 I2 r2 (g1.trans g2)⟩⟩
noncomputable def setV(i:Nat)(g:M D):M Fl:=bnd g λd=>bnd (putS i (.val d)) λ_=>ret .nx
noncomputable def setO(i:Nat)(g:M (List D)):M Fl:=bnd g λd=>bnd (putS i (.own d)) λ_=>ret .nx
theorem Ks{K:PySem.W.Frag}:∀E U H,tS K B (setV i ga) E U H->tAsg (tD K B ga) (gName i) E U H:=λE U H q=>by
 obtain⟨G,I,Y,f,af,r,e1,k⟩:=q;obtain⟨d1,ac,e2,e3⟩:=rG e1;obtain⟨d2,ai,e4,e5⟩:=rG e3;cases e5;obtain⟨hl,rfl⟩:=uJ e4;exact⟨G,I,Y,d1,ac,r,e2,λv H1 I1 r1 g1 h1=>k _ H1 I1 (r1.store (by rw[r1.len];exact hl) h1 (λm=>nomatch m) (λ_ z=>nomatch z)) g1⟩
theorem L9{K:PySem.W.Frag}{g:M (List D)}:∀E U H,tS K B (setO i g) E U H->tAsg (tO K B g) (gName i) E U H:=λE U H q=>by
 obtain⟨G,I,Y,f,af,r,e1,k⟩:=q;obtain⟨d1,ac,e2,e3⟩:=rG e1;obtain⟨d2,ai,e4,e5⟩:=rG e3;cases e5;obtain⟨hl,rfl⟩:=uJ e4;exact⟨G,I,Y,d1,ac,r,e2,λp xs H1 I1 r1 g1 h1 h2 h3 h4 h5=>k _ H1 I1 (r1.store (by rw[r1.len];exact hl) ⟨p,xs,rfl,h1,h2,h3,h5⟩ (λ_ p' z=>by cases z;exact h4) (λ_ z=>nomatch z)) g1⟩
theorem KB(hN:X.N.Nodup)(he:ED X B e ga)(hi:X.N[i]?=some x:=by rfl)(hx:locB X.env.scope x=true:=by rfl)(hs:QZ e (some (.Name x aH)) pos.line X.env=pure false:=by rfl)(hf:fnB X x=true:=by rfl):SD X B (.Assign [.Name x aH] e pos) (setV i ga):=PS.imp (v5 hN hi (locI hx) he hs (fnI hf)) Ks
theorem sJ{g:M (List D)}(hN:X.N.Nodup)(he:EO X B e g)(hi:X.N[i]?=some x:=by rfl)(hx:locB X.env.scope x=true:=by rfl)(hs:QZ e (some (.Name x aH)) pos.line X.env=pure false:=by rfl)(hf:fnB X x=true:=by rfl):SD X B (.Assign [.Name x aH] e pos) (setO i g):=PS.imp (v5 hN hi (locI hx) he hs (fnI hf)) L9
noncomputable def isMut(Y:Gm)(i:Nat):Bool:=match Y[i]? with
 | some (some r)=>r.mut
 | _=>false
noncomputable def wr(i:Nat)(F:List D->Option (List D)):M Unit:=λY=>match Y[i]? with
 | some (some (.own ds))=>match F ds with
  | some es=>some ((),Y.set i (some (.own es)))
  | none=>none
 | some (some (.bor ds))=>match F ds with
  | some es=>some ((),Y.set i (some (.bor es)))
  | none=>none
 | _=>none
theorem t6{K:PySem.W.Frag}{H:Hp}(h:isMut Y i=true)(r:Rep K B G I H U Y):∃p xs,U[i]?=some (some (.ref p))/\H p=some (.lst xs):=by
 unfold isMut at h;cases e:Y[i]? with
 | none=>rw[e] at h;cases h
 | some o =>
  cases o with
  | none=>rw[e] at h;cases h
  | some q =>
   rw[e] at h;obtain⟨v,h1,h2⟩:=r.slot i q e;cases q with
   | val d=>cases h
   | fro d=>cases h
   | rdc d=>cases h
   | dic d=>cases h
   | own d=>obtain⟨p,xs,rfl,h3,_⟩:=h2;exact⟨p,xs,h1,h3⟩
   | bor d=>obtain⟨p,xs,rfl,h3,_⟩:=h2;exact⟨p,xs,h1,h3⟩
theorem xQ{K:PySem.W.Frag}{H:Hp}{u:Unit}(h:wr i F Y=some (u,af))(r:Rep K B G I H U Y):
  ∃p xs ds es,U[i]?=some (some (.ref p))/\H p=some (.lst xs)/\IsA K I ds xs/\F ds=some es/\∀ys,IsA K I es ys->Rep K B G I (upd H p (.lst ys)) U af:=by
 unfold wr at h;cases e:Y[i]? with
 | none=>rw[e] at h;cases h
 | some o =>
  cases o with
  | none=>rw[e] at h;cases h
  | some q =>
   obtain⟨v,h1,h2⟩:=r.slot i q e;cases q with
   | val d=>rw[e] at h;cases h
   | fro d=>rw[e] at h;cases h
   | rdc d=>rw[e] at h;cases h
   | dic d=>rw[e] at h;cases h
   | own ds =>
    rw[e] at h;obtain⟨p,xs,rfl,g1,g2,g3,g4⟩:=h2;cases hf:F ds with
    | none=>simp only[hf] at h;cases h
    | some es =>
     simp only[hf] at h;cases h;exact⟨p,xs,ds,es,h1,g1,g4,hf,λys hy=>r.write e rfl h1 g1 (.inl rfl) hy⟩
   | bor ds =>
    rw[e] at h;obtain⟨p,xs,rfl,g1,g2,g3,g4⟩:=h2;cases hf:F ds with
    | none=>simp only[hf] at h;cases h
    | some es =>
     simp only[hf] at h;cases h;exact⟨p,xs,ds,es,h1,g1,g4,hf,λys hy=>r.write e rfl h1 g1 (.inr ⟨rfl,ds,rfl⟩) hy⟩
noncomputable def mutS{α:Type}(i:Nat)(m:M α):M α:=λY=>if isMut Y i then m Y else none
theorem uH{α:Type}{m:M α}{r:α×Gm}(h:mutS i m Y=some r):isMut Y i=true/\m Y=some r:=by
 unfold mutS at h;by_cases hc:isMut Y i=true
 ·rw[if_pos hc] at h;exact⟨hc,h⟩
 ·rw[if_neg hc] at h;cases h
noncomputable def appF(d:D)(ds:List D):Option (List D):=if ds.length < lim then some (ds++[d]) else none
noncomputable def extF(d:D)(ds:List D):Option (List D):=match d with
 | .lst es=>if ds.length+es.length<=lim then some (ds++es) else none
 | _=>none
noncomputable def appS(i:Nat)(g:M D):M Fl:=mutS i (bnd g λd=>bnd (wr i (appF d)) λ_=>ret .nx)
noncomputable def extS(i:Nat)(g:M D):M Fl:=mutS i (bnd g λd=>bnd (wr i (extF d)) λ_=>ret .nx)
theorem yO{H:Hp}{s:c_}{l:l_}(I:Inv X aa U H s)(hH:RdK X.K H l xs):xs.length<=x_/\∃(ae:List b_) (n:Nat),Vals xs ae/\xs.length=ae.length/\s.heap.get? l=some { cls:=.type "list", data:=.seq ae.toArray n }:=by
 rcases hH with hH | ⟨ae,n,h1,h2,h3⟩
 ·obtain⟨z,ae,n,r,e⟩:=hH.ok I.hok;exact⟨z,ae,n,r,r.length,e⟩
 ·exact⟨by rw[h2.length];exact h3,ae,n,h2,h2.length,I.kIn l _ h1⟩
def rExtendR(K:PySem.W.Frag):V->List V->Hp->VK->Prop:=λx vs H Q=>∃l b xs zs,x=.ref l/\vs=[.ref b]/\H l=some (.lst xs)/\RdK K H b zs/\xs.length+zs.length<=x_/\Q .non (upd H l (.lst (xs++zs)))
theorem Gz:MtM X "list.extend" (rExtendR X.K):=by
 intro aa s U H x vs v us Q I rx rv h;obtain⟨l,b,xs,zs,rfl,rfl,hH,hB,hz,q⟩:=h;cases rx;obtain⟨u,rfl,ru⟩:=rv.one;cases ru;obtain⟨z,ae,n,r,hl,e⟩:=I.lstM hH;obtain⟨z2,bU,n2,r2,dH,e2⟩:=yO I hB;have hsz:ae.toArray.size+bU.toArray.size<=x_:=by rw[o_,o_];omega
 have jV:¬(!ae.toArray.isEmpty&&VC (ae.toArray.size+bU.toArray.size))=true:=by
  rw[notLongL hsz,Bool.and_false];exact j_
 refine VT F.slot_list_extend ⟨_,e,rfl⟩ F.entry_list_extend (F.args_list_extend_2 _ _)
  (AutoSeq1.list_extend_list_list_0 l ae.toArray n b bU.toArray n2 jV (by rw[o_];omega) (by omega)) ⟨e,e2,?_⟩
 refine⟨.non,_,I.lset (its':=ae++bU) hH e (by simp) (r.append r2) ?_,rfl,q⟩;rw[p_];omega
theorem sS(hv:PE X (.Name x p1) (tVar i))(ha:ED X B e ga)(hs:QZ (.Call (.Attribute (.Name x p1) "append" bp) [e] [] aN) none pos.line X.env=pure false:=by rfl)(eL:e_ [e] X.env=(false,Qf e X.env)::e_ [] X.env:=by rfl)(bY:TC (.Name x p1) "append" X.env (Qf (.Name x p1) X.env)=Qf (.Name x p1) X.env:=by rfl)(cY:((Qk aN (e_ [e] X.env)).all (λx=>!x.1)&&(VS aN (Uy [] X.env)).all (λx=>x.1.isSome)
   &&decide ([e].length+([]:List Uf).length+(if([]:List Uf).isEmpty then 0 else 1) < 30))=true:=by rfl)(bZ:(bp.endLine == aN.line)=true:=by rfl)(bJ:(Qk aN (e_ [] X.env)).any (·.1)=false:=by rfl):
  SD X B (.Expr (.Call (.Attribute (.Name x p1) "append" bp) [e] [] aN) pos) (appS i ga):=
 PS.imp (yI (yu Uo PySem.F.slot_list_append PySem.F.type_list_append EX hv (sY ha vP eL) bY cY bZ eL bJ) hs) λE U H q=>by
  obtain⟨G,I,Y,f,af,r,e1,k⟩:=q;obtain⟨hm,e1⟩:=uH e1;obtain⟨d1,ac,e2,e3⟩:=rG e1;obtain⟨d2,ai,e4,e5⟩:=rG e3;cases e5;obtain⟨p,xs,h1,h2⟩:=t6 hm r;refine⟨_,h1,.inl ⟨rfl,xs,SqL.of h2⟩,G,I,Y,d1,ac,r,e2,λv H1 I1 r1 g1 hd=>?_⟩;obtain⟨p',bb,ds,es,h3,h4,h5,h6,h7⟩:=xQ e4 r1;have hp:p'=p:=by rw[h1] at h3;cases h3;rfl
  subst hp;obtain⟨hl,rfl⟩:=sv h6;refine⟨p',bb,v,rfl,rfl,h4,?_,k U _ I1 (h7 _ (IsA.append h5 (IsA.cons hd IsA.nil))) g1⟩;rw[←h5.length];exact J_ hl (t9 (w_ _))
theorem Az(hv:PE X (.Name x p1) (tVar i))(ha:ED X B e ga)(hs:QZ (.Call (.Attribute (.Name x p1) "extend" bp) [e] [] aN) none pos.line X.env=pure false:=by rfl)(eL:e_ [e] X.env=(false,Qf e X.env)::e_ [] X.env:=by rfl)(bY:TC (.Name x p1) "extend" X.env (Qf (.Name x p1) X.env)=Qf (.Name x p1) X.env:=by rfl)(cY:((Qk aN (e_ [e] X.env)).all (λx=>!x.1)&&(VS aN (Uy [] X.env)).all (λx=>x.1.isSome)
   &&decide ([e].length+([]:List Uf).length+(if([]:List Uf).isEmpty then 0 else 1) < 30))=true:=by rfl)(bZ:(bp.endLine == aN.line)=true:=by rfl)(bJ:(Qk aN (e_ [] X.env)).any (·.1)=false:=by rfl):
  SD X B (.Expr (.Call (.Attribute (.Name x p1) "extend" bp) [e] [] aN) pos) (extS i ga):=
 PS.imp (yI (yu Uo PySem.F.slot_list_extend PySem.F.type_list_extend Gz hv (sY ha vP eL) bY cY bZ eL bJ) hs) λE U H q=>by
  obtain⟨G,I,Y,f,af,r,e1,k⟩:=q;obtain⟨hm,e1⟩:=uH e1;obtain⟨d1,ac,e2,e3⟩:=rG e1;obtain⟨d2,ai,e4,e5⟩:=rG e3;cases e5;obtain⟨p,xs,h1,h2⟩:=t6 hm r;refine⟨_,h1,.inl ⟨rfl,xs,SqL.of h2⟩,G,I,Y,d1,ac,r,e2,λv H1 I1 r1 g1 hd=>?_⟩;obtain⟨p',bb,ds,es,h3,h4,h5,h6,h7⟩:=xQ e4 r1;have hp:p'=p:=by rw[h1] at h3;cases h3;rfl
  subst hp;cases d1 with
  | lst zs =>
   obtain⟨a,ys,rfl,i1,i2⟩:=sd hd;obtain⟨hl,rfl⟩:=sv h6;refine⟨p',a,bb,ys,rfl,rfl,h4,Same.rdK r1.iH i1,?_,k U _ I1 (h7 _ (IsA.append h5 i2)) g1⟩;rw[←h5.length,←i2.length];exact t9 hl
  | _=>cases h6
noncomputable def asI(d:D):Option Int:=match d with
 | .int i=>some i
 | _=>none
theorem Bh{i:Int}(h:asI d=some i):d=.int i:=by
 cases d<;>simp[asI] at h
 rw[h]
noncomputable def stF(k:Int)(d:D)(ds:List D):Option (List D):=(ixN ds.length k).map λj=>ds.set j d
noncomputable def stS(i:Nat)(gi gv:M D):M Fl:=bnd gv λd=>mutS i (bnd gi λn=>bnd (lft (asI n)) λk=>bnd (wr i (stF k d)) λ_=>ret .nx)
theorem xn{gi:M D}(hv:PE X (.Name x p1) (tVar i))(hi:ED X B ie gi)(he:ED X B e ga)(ha:∀v,Td (.Subscript (.Name x p1) ie p2) X.env v=(do
   let ov ←S4 [v] (Qf (.Name x p1) X.env)
   let iv ←S4 [v,ov] (Qf ie X.env)
   V7 p2
   S4 [v,ov,iv] (V9 ov iv v)
   release [v,ov,iv] []):=by intros;rfl)(hs:UX [.Subscript (.Name x p1) ie p2] e pos.line X.env=pure false:=by rfl)(hw:UY [.Subscript (.Name x p1) ie p2] e X.env=pure none:=by rfl)(h1:(Ri [.Subscript (.Name x p1) ie p2] X.env).map (·.2)=[Td (.Subscript (.Name x p1) ie p2) X.env]:=by rfl):
  SD X B (.Assign [.Subscript (.Name x p1) ie p2] e pos) (stS i gi ga):=PS.imp (Cq he (KJ hv hi JI ha) hs hw h1) λE U H q=>by
 obtain⟨G,I,Y,f,af,r,e1,k⟩:=q;obtain⟨d,ac,e2,e3⟩:=rG e1;obtain⟨hm,e3⟩:=uH e3;obtain⟨n,ai,e4,e5⟩:=rG e3;obtain⟨z,aO,e6,e7⟩:=rG e5;obtain⟨e8,rfl⟩:=rW e6;obtain⟨u,aQ,f1,f2⟩:=rG e7;cases f2;have:=Bh e8;subst this;refine⟨G,I,Y,d,ac,r,e2,λv H1 I1 r1 g1 hd=>?_⟩;obtain⟨p,xs,h1,h2⟩:=t6 hm r1;refine⟨_,h1,G,I1,ac,_,_,r1,e4,λw H2 I2 r2 g2 hw=>?_⟩;obtain⟨p',bb,ds,es,h3,h4,h5,h6,h7⟩:=xQ f1 r2;have hp:p'=p:=by rw[h1] at h3;cases h3;rfl
 subst hp;unfold stF at h6;cases hj:ixN ds.length z with
 | none=>rw[hj] at h6;cases h6
 | some j =>
  rw[hj] at h6;cases h6;exact⟨p',bb,z,j,rfl,rM hw,h4,by rw[←h5.length];exact hj,k U _ I2 (h7 _ (IsA.set (hd.mono g2.up) j h5)) (g1.trans g2)⟩
def Yields(K:PySem.W.Frag)(I:Hp)(ds:List D)(J:It):Prop:=∀(i:Nat) (H1:Hp),Same I H1 →
 (∀d,ds[i]?=some d->J.go i H1/\∀x H2,J.yld i H1 x H2->(H2=H1/\Is K I d x)\/(∃p es xs,d=.tup es/\x=.ref p/\H1 p=none/\H2=upd H1 p (.tup xs)/\IsA K I es xs))/\(ds.length<=i->J.stop i H1)
noncomputable def tI(K:PySem.W.Frag)(B:BB)(g:M (List D)):TI:=λU H R=>∃G I Y ds af,Rep K B G I H U Y/\g Y=some (ds,af)/\∀J H' I',Rep K B G I' H' U af->Grow G I I'->Yields K I' ds J->R J H'
def ITD(X:Cx)(B:BB)(tg iter:Qe)(g:M (List D)):Prop:=PI X tg iter (tI X.K B g)
theorem Mv{l:Qe}{tl:TE}(hl:PE X l tl):PI X tg l (λU H R=>tl U H λx H1=>(∃a,x=.ref a/\(∃xs,SqL X.K H1 a xs)/\R (Itl X.K a) H1)\/(∃a,x=.ref a/\(∃xs,SqT X.K H1 a xs)/\R (Itt X.K a) H1)):=by
 intro aa s U H R I h;refine thn (hl aa s U H _ I h) λv s1 ⟨x,H1,I1,r1,q1⟩=>?_
 rcases q1 with⟨a,e,⟨xs,hq⟩,q⟩ | ⟨a,e,⟨xs,hq⟩,q⟩
 ·subst e;cases r1;obtain⟨ae,rv,p,hz⟩:=I1.list hq;refine Rt p.isList ?_;refine⟨s1.heap.objs.size,[s1.heap.objs.size],_,_,H1,rfl,I1.kept (t':=s1.toks) λb o e=>f_ _ e,Jn a _,⟨_,z_ _ rfl,rfl,rfl⟩,λb hb=>?_,q⟩;have e:b=s1.heap.objs.size:=by simpa using hb
  subst e;exact I1.fpOk (w_ _) (I1.hok.fresh (w_ _))
 ·subst e;cases r1;obtain⟨ae,rv,p,hz⟩:=I1.tuple hq;refine U9 (show s1.heap.IsTuple a ae.toArray from p) ?_;refine⟨s1.heap.objs.size,[s1.heap.objs.size],_,_,H1,rfl,I1.kept (t':=s1.toks) λb o e=>f_ _ e,Mp a _,⟨_,z_ _ rfl,rfl,rfl⟩,λb hb=>?_,q⟩;have e:b=s1.heap.objs.size:=by simpa using hb
  subst e;exact I1.fpOk (w_ _) (I1.hok.fresh (w_ _))
noncomputable def seqI(d:D):Option (List D):=match d with
 | .lst ds=>some ds
 | .tup ds=>some ds
 | _=>none
noncomputable def itS(g:M D):M (List D):=bnd g λd=>lft (seqI d)
theorem rT(ha:ED X B a ga):ITD X B tg a (itS ga):=PI.imp (Mv ha) λU H R q=>by
 obtain⟨G,I,Y,ds,af,r,e1,k⟩:=q;obtain⟨d,ac,e2,e3⟩:=rG e1;obtain⟨e4,rfl⟩:=rW e3;refine⟨G,I,Y,d,_,r,e2,λv H1 I1 r1 g1 hd=>?_⟩;cases d with
 | lst es =>
  cases e4;obtain⟨l,xs,rfl,h1,h2⟩:=sd hd;refine .inl ⟨l,rfl,⟨xs,(Same.rdK r1.iH h1).sq⟩,k _ _ _ r1 g1 λi H2 s2=>⟨λd hd=>?_,λhi=>⟨xs,(Same.rdK s2 h1).sq,by rw[←h2.length];exact hi⟩⟩⟩;obtain⟨x,e5,e6⟩:=h2.get hd;refine⟨⟨xs,x,(Same.rdK s2 h1).sq,e5⟩,λy H3 hy=>.inl ⟨hy.1,?_⟩⟩;have:=hy.2 xs ((Same.rdK s2 h1).sq);rw[e5] at this;cases this;exact e6
 | tup es =>
  cases e4;obtain⟨l,xs,rfl,h1,h2⟩:=rZ hd;refine .inr ⟨l,rfl,⟨xs,Same.sqT r1.iH h1⟩,k _ _ _ r1 g1 λi H2 s2=>⟨λd hd=>?_,λhi=>⟨xs,Same.sqT s2 h1,by rw[←h2.length];exact hi⟩⟩⟩;obtain⟨x,e5,e6⟩:=h2.get hd;refine⟨⟨xs,x,Same.sqT s2 h1,e5⟩,λy H3 hy=>.inl ⟨hy.1,?_⟩⟩;have:=hy.2 xs (Same.sqT s2 h1);rw[e5] at this;cases this;exact e6
 | _=>cases e4
noncomputable def rngD(lo:Int)(n:Nat):List D:=(Qw n).map λ(k:Nat)=>D.int (lo+(k:Int))
theorem Ep{K:PySem.W.Frag}(lo:Int)(n:Nat):Yields K I (rngD lo n) (Itr lo n):=λi H1 s1=>by
 refine⟨λd hd=>?_,λhi=>?_⟩
 ·unfold rngD at hd;rw[u_] at hd;cases e:(Qw n)[i]? with
  | none=>rw[e] at hd;cases hd
  | some j =>
   rw[e] at hd;cases hd;obtain⟨h1,h2⟩:=m_.mp e;rw[TH] at h2;rw[S5] at h1;subst h2;refine⟨h1,λx H2 hy=>.inl ⟨hy.1,?_⟩⟩;rw[hy.2];exact Is.int _
 ·unfold rngD at hi;rw[s_,S5] at hi;exact hi
noncomputable def rngI1(ds:List D):Option (List D):=match ds with
 | [.int j]=>if -1000000<=j/\j<=1000000 then some (rngD 0 j.toNat) else none
 | _=>none
noncomputable def rngI2(ds:List D):Option (List D):=match ds with
 | [.int i,.int j]=>if(-1000000<=i/\i<=1000000)/\-1000000<=j/\j<=1000000 then some (rngD i (j - i).toNat) else none
 | _=>none
theorem AW{es:List D}(h:rngI1 ds=some es):∃j:Int,ds=[.int j]/\(-1000000<=j/\j<=1000000)/\es=rngD 0 j.toNat:=by
 unfold rngI1 at h;split at h
 ·obtain⟨h1,h2⟩:=sv h;exact⟨_,rfl,h1,h2⟩
 ·cases h
theorem Jt{es:List D}(h:rngI2 ds=some es):∃i j:Int,ds=[.int i,.int j]/\((-1000000<=i/\i<=1000000)/\-1000000<=j/\j<=1000000)/\es=rngD i (j - i).toNat:=by
 unfold rngI2 at h;split at h
 ·obtain⟨h1,h2⟩:=sv h;exact⟨_,_,rfl,h1,h2⟩
 ·cases h
theorem uP{p:Pos}{t:M (List D)}(hg:Gl X "range")(hm:X.mg "range"=none)(ha:AD X B [a] t)(hs:e_ [a] X.env=[(false,Qf a X.env)]:=by rfl):ITD X B tg (.Call (.Name "range" p) [a] [] pos) (fn1 rngI1 t):=
 PI.imp (Mk hg hm ha hs) λU H R q=>by
  obtain⟨G,I,Y,ds,af,r,e1,k⟩:=q;obtain⟨d,ac,e2,e3⟩:=rG e1;obtain⟨e4,rfl⟩:=rW e3;obtain⟨j,rfl,⟨h1,h2⟩,rfl⟩:=AW e4;refine⟨G,I,Y,_,_,r,e2,λvs H1 I1 r1 g1 hd=>?_⟩;obtain⟨x,rfl,hx⟩:=hd.one;exact⟨j,by rw[rM hx],by omega,by omega,k _ _ _ r1 g1 (Ep _ _)⟩
theorem Eg{p:Pos}{t:M (List D)}(hg:Gl X "range")(hm:X.mg "range"=none)(ha:AD X B [a,b] t)(hs:e_ [a,b] X.env=[(false,Qf a X.env),(false,Qf b X.env)]:=by rfl)(ck:e_ [b] X.env=[(false,Qf b X.env)]:=by rfl):
  ITD X B tg (.Call (.Name "range" p) [a,b] [] pos) (fn1 rngI2 t):=
 PI.imp (M' hg hm ha hs ck) λU H R q=>by
  obtain⟨G,I,Y,ds,af,r,e1,k⟩:=q;obtain⟨d,ac,e2,e3⟩:=rG e1;obtain⟨e4,rfl⟩:=rW e3;obtain⟨i,j,rfl,h1,rfl⟩:=Jt e4;refine⟨G,I,Y,_,_,r,e2,λvs H1 I1 r1 g1 hd=>?_⟩;obtain⟨x,y,rfl,hx,hy⟩:=hd.two;exact⟨i,j,by rw[rM hx,rM hy],by omega,k _ _ _ r1 g1 (Ep _ _)⟩
noncomputable def forM(aG:D->M Unit)(body:M Fl):List D->M Fl
 | []=>ret .nx
 | d::ds=>bnd (aG d) λ_=>bnd body λf=>match f with
  | .nx=>forM aG body ds
  | .ct=>forM aG body ds
  | .bk=>ret .nx
  | .rt r=>ret (.rt r)
noncomputable def forS(it:M (List D))(aG:D->M Unit)(body:M Fl):M Fl:=bnd it λds=>forM aG body ds
theorem Ku{body:List Qo}{it:M (List D)}{aG:D->M Unit}(hp:TQ (r_ X.prog X.w) X.A X.env X.xe)(hc:X.calm=true)(hi:ITD X B tg iter it)(hg:GD X B m tg aG)(hb:SDs X B body g)(hs:∀x,QP iter X.env x=pure x:=by intros;rfl):SD X B (.For tg iter body [] pos) (forS it aG g):=PS.imp (G' hp hc hi hg hb hs) λE U H q=>by
 obtain⟨G,I,Y,f,af,r,e1,k⟩:=q;obtain⟨ds,ac,e2,e3⟩:=rG e1;refine⟨G,I,Y,ds,ac,r,e2,λJ H1 I1 r1 g1 y=>?_⟩;refine⟨λi m U H=>∃I2 ai,Rep X.K B G I2 H U ai/\Grow G I1 I2/\forM aG g (ds.drop i) ai=some (f,af)/\i<=ds.length/\m=ds.length - i,⟨ds.length,I1,ac,r1,Grow.refl _ _,by simpa using e3,Qp _,rfl⟩,?_⟩;rintro i m' aX H2 ⟨I2,ai,r2,g2,e4,bC,rfl⟩;obtain⟨yg,ys⟩:=y i H2 (g2.up.trans r2.iH);by_cases bF:i < ds.length
 ·have hd:ds.drop i=ds[i]::ds.drop (i+1):=P_ bF;obtain⟨go,yld⟩:=yg ds[i] (g_ bF);rw[hd] at e4;obtain⟨u,aO,e5,e6⟩:=rG e4;obtain⟨fl,aQ,e7,e8⟩:=rG e6;refine .inr ⟨go,λao H'=>∃I3,Rep X.K B G I3 H' ao aQ/\Grow G I1 I3/\(fl=.nx\/fl=.ct),λao H' ⟨I3,r3,g3,hf⟩=>⟨ds.length - (i+1),by omega,I3,aQ,r3,g3,?_,bF,rfl⟩,λx H3 hy=>?_⟩
  ·rcases hf with rfl | rfl<;>exact e8
  ·have lE:∀I3,Rep X.K B G I3 H3 aX ai->Grow G I2 I3->Is X.K I3 ds[i] x->tGD X.K B m aG x aX H3 λaX H2=>tS X.K B g { E with nx:=λao H'=>∃I3,Rep X.K B G I3 H' ao aQ/\Grow G I1 I3/\(fl=.nx\/fl=.ct),ct:=λao H'=>∃I3,Rep X.K B G I3 H' ao aQ/\Grow G I1 I3/\(fl=.nx\/fl=.ct),bk:=E.nx } aX H2:=by
    intro I3 r3 g3 hx;refine⟨G,I3,ai,ds[i],aO,r3,hx,e5,λlF H4 I4 r4 g4 _=>⟨G,I4,aO,fl,aQ,r4,e7,λdk H5 I5 r5 g5=>?_⟩⟩;have gg:Grow G I1 I5:=g2.trans (g3.trans (g4.trans g5));cases fl with
    | nx=>exact⟨I5,r5,gg,.inl rfl⟩
    | ct=>exact⟨I5,r5,gg,.inr rfl⟩
    | bk=>cases e8;exact k dk H5 I5 r5 (g1.trans gg)
    | rt v=>cases e8;exact k dk H5 I5 r5 (g1.trans gg)
   rcases yld x H3 hy with⟨rfl,hx⟩ | ⟨p,es,xs,dE,rfl,cZ,rfl,hx⟩
   ·exact lE I2 r2 (Grow.refl _ _) (hx.mono g2.up)
   ·refine lE _ (r2.alloc cZ _) (r2.growAlloc cZ _) ?_;rw[dE];exact Is.tup r9 ((hx.mono g2.up).mono (sy (r2.iFree cZ) _))
 ·have cp:i=ds.length:=by omega
  subst cp;rw[List.drop_length] at e4;cases e4;exact .inl ⟨ys (w_ _),k aX H2 I2 r2 (g1.trans g2)⟩
end
noncomputable def fin:List R->Gm->Option (List R)
 | [],_=>some []
 | .val d::rs,_::Y=>match fin rs Y with
  | some l=>some (.val d::l)
  | none=>none
 | .bor _::rs,some (.bor ds)::Y=>match fin rs Y with
  | some l=>some (.bor ds::l)
  | none=>none
 | .rdc d::rs,_::Y=>match fin rs Y with
  | some l=>some (.rdc d::l)
  | none=>none
 | _,_=>none
noncomputable def flR:Fl->Option R
 | .rt r=>some r
 | .nx=>some (.val .non)
 | _=>none
noncomputable def fnD1(n:Nat)(body:M Fl)(rs:List R):Option (R×List R):=
 match body (rs.map some++Ql (n - rs.length) none) with
 | some (f,af)=>match flR f with
  | some r=>match fin rs af with
   | some l=>some (r,l)
   | none=>none
  | none=>none
 | none=>none
noncomputable def fnD(n ar:Nat)(body:M Fl)(rs:List R):Option (R×List R):=if rs.length=ar then fnD1 n body rs else none
noncomputable def noOwn:R->Bool
 | .own _=>false
 | _=>true
noncomputable def vB(vs:List V):BB:=λi=>(vs.map some)[i]?
noncomputable def spD(K:PySem.W.Frag)(g:List R->Option (R×List R)):Sp:=λvs H Q _=>∃(G I:Hp) (rs:List R) (r:R) (aS:List R),Rep K (vB vs) G I H (vs.map some) (rs.map some)/\rs.all noOwn=true/\g rs=some (r,aS) ∧
 ∀v H' I',Rep K (vB vs) G I' H' (vs.map some) (aS.map some)->Grow G I I'->ResOk K G I' H' (vs.map some) (aS.map some) r v->Q v H'
noncomputable def R.stays:R->Bool
 | .val _=>true
 | .rdc _=>true
 | _=>false
theorem R.stays_ptr(h:q.stays=true):q.ptr=false:=by cases q<;>first | rfl | cases h
theorem SlotOk.stay{K:PySem.W.Frag}{H:Hp}{v:V}(h:q.stays=true)(s:Same I I')(x:SlotOk K G I H q v):SlotOk K G I' H' q v:=by
 cases q<;>first | exact Is.mono s x | (obtain⟨p,xs,f1,f2,f3⟩:=x;exact⟨p,xs,f1,f2,f3.mono s⟩) | cases h
theorem xL:∀{rs l:List R}{Y:Gm},fin rs Y=some l->l.length=rs.length/\∀(i:Nat) (r:R),l[i]?=some r->(r.stays=true/\rs[i]?=some r)\/(∃ds,r=.bor ds/\Y[i]?=some (some (.bor ds)))
 | [],l,Y,h=>by
  rw[fin] at h;cases h;exact⟨rfl,λi r e=>by simp at e⟩
 | .val d::rs,l,[],h=>by simp[fin] at h
 | .bor d::rs,l,[],h=>by simp[fin] at h
 | .own d::rs,l,Y,h=>by cases Y<;>simp[fin] at h
 | .fro d::rs,l,Y,h=>by cases Y<;>simp[fin] at h
 | .rdc d::rs,l,[],h=>by simp[fin] at h
 | .dic d::rs,l,Y,h=>by cases Y<;>simp[fin] at h
 | .val d::rs,l,o::Y,h=>by
  rw[fin] at h;cases e:fin rs Y with
  | none=>rw[e] at h;cases h
  | some l' =>
   rw[e] at h;cases h;obtain⟨h1,h2⟩:=xL e;refine⟨by simp[h1],λi r er=>?_⟩;cases i with
   | zero=>simp at er;subst er;exact .inl ⟨rfl,rfl⟩
   | succ i =>
    rcases h2 i r (by simpa using er) with⟨e1,e2⟩ | ⟨ds,e1,e2⟩
    ·exact .inl ⟨e1,by simpa using e2⟩
    ·exact .inr ⟨ds,e1,by simpa using e2⟩
 | .rdc d::rs,l,o::Y,h=>by
  rw[fin] at h;cases e:fin rs Y with
  | none=>rw[e] at h;cases h
  | some l' =>
   rw[e] at h;cases h;obtain⟨h1,h2⟩:=xL e;refine⟨by simp[h1],λi r er=>?_⟩;cases i with
   | zero=>simp at er;subst er;exact .inl ⟨rfl,rfl⟩
   | succ i =>
    rcases h2 i r (by simpa using er) with⟨e1,e2⟩ | ⟨ds,e1,e2⟩
    ·exact .inl ⟨e1,by simpa using e2⟩
    ·exact .inr ⟨ds,e1,by simpa using e2⟩
 | .bor d::rs,l,none::Y,h=>by simp[fin] at h
 | .bor d::rs,l,some (.val x)::Y,h=>by simp[fin] at h
 | .bor d::rs,l,some (.own x)::Y,h=>by simp[fin] at h
 | .bor d::rs,l,some (.fro x)::Y,h=>by simp[fin] at h
 | .bor d::rs,l,some (.rdc x)::Y,h=>by simp[fin] at h
 | .bor d::rs,l,some (.dic x)::Y,h=>by simp[fin] at h
 | .bor d::rs,l,some (.bor x)::Y,h=>by
  rw[fin] at h;cases e:fin rs Y with
  | none=>rw[e] at h;cases h
  | some l' =>
   rw[e] at h;cases h;obtain⟨h1,h2⟩:=xL e;refine⟨by simp[h1],λi r er=>?_⟩;cases i with
   | zero=>simp at er;subst er;exact .inr ⟨x,rfl,rfl⟩
   | succ i =>
    rcases h2 i r (by simpa using er) with⟨e1,e2⟩ | ⟨ds,e1,e2⟩
    ·exact .inl ⟨e1,by simpa using e2⟩
    ·exact .inr ⟨ds,e1,by simpa using e2⟩
theorem getMap{α Z:Type}{f:α->Z}{l:List α}{b:Z}(h:(l.map f)[i]?=some b):∃a,l[i]?=some a/\b=f a:=by
 rw[u_] at h;cases e:l[i]? with
 | none=>rw[e] at h;cases h
 | some a=>rw[e] at h;exact⟨a,rfl,(Qb h).symm⟩
theorem wX{α:Type}{l:List α}{a:α}(h:(l.map some++Ql n (none:Option α))[i]?=some (some a)):l[i]?=some a:=by
 by_cases hi:i < (l.map some).length
 ·rw[Rq hi] at h;obtain⟨b,e1,e2⟩:=getMap h;cases e2;exact e1
 ·rw[QX (by omega),RA] at h;split at h<;>cases h
section
variable{P:A_}{w:I_}{K:PySem.W.Frag}
theorem rP{st:Qo}{N:List Str}(F:Fun K x qual st f fd)(S:FnScope N ps (defScope st))(g:M Fl)(hb:∀(aA:b_) (A:Q6) (outer:List Env) (s:c_) (H:Hp) (E:XK) (B:BB),Room k (A.deeper (Ua qual (defScope st) s.heap.objs.size f aA)) →
   SDs (cxOf CX0 P w K mg base N qual (defScope st) f aA A outer s H E).nox B (defBody st) g):FnOk P w K mg base CX0 (k+1) f fd ps (spD K (fnD N.length ps.length g)):=by
 refine F.ok S (λvs H Q E h=>?_) (λaA A outer s H vs Q E hr h=>?_)
 ·obtain⟨_,_,rs,_,_,h1,_,h2,_⟩:=h;unfold fnD at h2;by_cases hc:rs.length=ps.length
  ·rw[←hc];simpa using h1.len
  ·rw[if_neg hc] at h2;cases h2
 ·obtain⟨G,I,rs,r,aS,h2,h3,h4,h5⟩:=h;have hl:vs.length=rs.length:=by simpa using h2.len
  refine⟨_,hb aA A outer s H E (λi=>(L2.start N vs)[i]?) hr,?_⟩;unfold fnD at h4
  have hc:rs.length=ps.length:=by
   by_cases hc:rs.length=ps.length
   ·exact hc
   ·rw[if_neg hc] at h4;cases h4
  rw[if_pos hc] at h4;unfold fnD1 at h4;cases e1:g (rs.map some++Ql (N.length - rs.length) none) with
  | none=>rw[e1] at h4;cases h4
  | some q =>
   obtain⟨fl,af⟩:=q;rw[e1] at h4;dsimp only at h4;cases e2:flR fl with
   | none=>rw[e2] at h4;cases h4
   | some rr =>
    rw[e2] at h4;dsimp only at h4;cases e3:fin rs af with
    | none=>rw[e3] at h4;cases h4
    | some l =>
     rw[e3] at h4;obtain⟨rfl,rfl⟩:rr=r/\l=aS:=by cases h4;exact⟨rfl,rfl⟩
     have iA:∀{i:Nat}{v:V},vs[i]?=some v->(L2.start N vs)[i]?=some (some v):=λ{i v} e=>by
      unfold L2.start;rw[Rq (by rw[s_];exact(m_.mp e).1),u_,e];rfl
     have jW:∀{i:Nat}{v:V},(L2.start N vs)[i]?=some (some v)->vs[i]?=some v:=λ{i v} e=>wX e
     have lG:Rep K (λi=>(L2.start N vs)[i]?) G I H (L2.start N vs) (rs.map some++Ql (N.length - rs.length) none):={
      iH:=h2.iH,gH:=h2.gH
      len:=by unfold L2.start;rw[p_,p_,s_,s_,Qa,Qa,hl]
      slot:=λi q e=>by
       have e':=wX e;obtain⟨v,e4,e5⟩:=h2.slot i q (by rw[u_,e'];rfl);obtain⟨v',e6,e7⟩:=getMap e4;cases e7;exact⟨v,iA e6,e5⟩
      dist:=λi j q q' v e e' m m' s1 s2=>h2.dist i j q q' v (by rw[u_,wX e];rfl) (by rw[u_,wX e'];rfl) m m' (by rw[u_,jW s1];rfl) (by rw[u_,jW s2];rfl)
      bor:=λi ds e=>rfl }
     obtain⟨f1,f2⟩:=xL e3
     -- behind the body
     have back:∀{ao:L2.St}{H' I':Hp},Rep K (λi=>(L2.start N vs)[i]?) G I' H' ao af->Grow G I I'->Rep K (vB vs) G I' H' (vs.map some) (l.map some):=λ{ao H' I'} r' g'=>{
      iH:=r'.iH,gH:=r'.gH
      len:=by rw[s_,s_,f1,hl]
      slot:=λi q e=>by
       obtain⟨q',e4,e5⟩:=getMap e;cases e5
       rcases f2 i q e4 with⟨st,e6⟩ | ⟨ds,rfl,e6⟩
       ·obtain⟨v,e7,e8⟩:=h2.slot i q (by rw[u_,e6];rfl);exact⟨v,e7,e8.stay st g'.up⟩
       ·obtain⟨v,e7,e8⟩:=r'.slot i _ e6;have e9:=r'.bor i ds e6;rw[e7] at e9;exact⟨v,by rw[u_,jW e9.symm];rfl,e8⟩
      dist:=λi j q q' v e e' m m' s1 s2=>by
       obtain⟨_,e4,e5⟩:=getMap e;cases e5;obtain⟨_,e6,e7⟩:=getMap e';cases e7
       rcases f2 i q e4 with⟨st,_⟩ | ⟨ds,rfl,e8⟩
       ·rw[R.stays_ptr st] at m;cases m
       rcases f2 j q' e6 with⟨st,_⟩ | ⟨dY,rfl,e9⟩
       ·rw[R.stays_ptr st] at m';cases m'
       obtain⟨v1,a1,_⟩:=getMap s1;obtain⟨v2,a2,a3⟩:=getMap s2;have b1:=r'.bor i ds e8;have b2:=r'.bor j dY e9;rename_i b3;cases b3;cases a3;rw[iA a1] at b1;rw[iA a2] at b2;exact r'.dist i j _ _ v e8 e9 rfl rfl b1 b2
      bor:=λi ds e=>rfl }
     have ap:∀{ao:L2.St}{H' I':Hp}{p:l_},Rep K (λi=>(L2.start N vs)[i]?) G I' H' ao af->Apart ao af p->Apart (vs.map some) (l.map some) p:=λ{ao H' I' p} r' a i q e m z=>by
      obtain⟨_,e4,e5⟩:=getMap e;cases e5
      rcases f2 i q e4 with⟨st,_⟩ | ⟨ds,rfl,e8⟩
      ·rw[R.stays_ptr st] at m;cases m
      obtain⟨v1,a1,a2⟩:=getMap z;cases a2;exact a i _ e8 rfl ((r'.bor i ds e8).trans (iA a1))
     refine⟨G,I,_,fl,af,lG,e1,λao H' I' r' g'=>?_⟩;cases fl with
     | nx=>cases e2;exact h5 _ H' I' (back r' g') g' (show Is K I' D.non V.non from Is.non)
     | bk=>cases e2
     | ct=>cases e2
     | rt r0 =>
      cases e2;intro v hv;refine h5 v H' I' (back r' g') g' ?_;cases rr with
      | val d=>exact hv
      | bor d=>exact hv
      | fro d=>exact hv
      | rdc d=>exact hv
      | dic d =>
       obtain⟨p,xs,b1,b2,b3,b4,b5,b6⟩:=hv;exact⟨p,xs,b1,b2,b3,b4,ap r' b5,b6⟩
      | own d =>
       obtain⟨p,xs,b1,b2,b3,b4,b5,b6⟩:=hv;exact⟨p,xs,b1,b2,b3,b4,ap r' b5,b6⟩
end
mutual
noncomputable def noL:D->Bool
 | .tup ds=>noLA ds
 | .lst _=>false
 | _=>true
noncomputable def noLA:List D->Bool
 | []=>true
 | d::ds=>noL d&&noLA ds
end
noncomputable def tupOf(I0 I:Hp):Hp:=λb=>match I0 b with
 | some o=>some o
 | none=>match I b with
  | some (.lst _)=>none
  | o=>o
theorem Es:Same I0 (tupOf I0 I):=λb o e=>by unfold tupOf;rw[e]
theorem y4(h:tupOf I0 I b=some o):I0 b=some o\/(I0 b=none/\I b=some o/\∀xs,o≠.lst xs):=by
 unfold tupOf at h;cases e:I0 b with
 | some o'=>rw[e] at h;cases h;exact .inl rfl
 | none =>
  rw[e] at h;cases e1:I b with
  | none=>rw[e1] at h;cases h
  | some o' =>
   rw[e1] at h;cases o'<;>first | (cases h;exact .inr ⟨rfl,rfl,λxs z=>by cases z⟩) | cases h
theorem Kj(s:Same I0 I)(h:I b=some o)(n:∀xs,o≠.lst xs):tupOf I0 I b=some o:=by
 unfold tupOf;cases e:I0 b with
 | some o'=>rw[s b o' e] at h;exact h
 | none =>
  simp only[h];split
  ·rename_i z;cases z;exact absurd rfl (n _)
  ·rfl
mutual
theorem JC{K:PySem.W.Frag}{I0 I:Hp}(s:Same I0 I):∀(d:D) (v:V),noL d=true->Is K I d v->Is K (tupOf I0 I) d v
 | .non,_,_,h=>by rw[Is] at h ⊢;exact h
 | .bl _,_,_,h=>by rw[Is] at h ⊢;exact h
 | .int _,_,_,h=>by rw[Is] at h ⊢;exact h
 | .str _,_,_,h=>by rw[Is] at h ⊢;exact h
 | .lst _,_,n,_=>by simp[noL] at n
 | .tup ds,v,n,h=>by
  rw[noL] at n;obtain⟨a,xs,rfl,h1,h2⟩:=uO h;exact Is.tup (Kj s h1 λxs z=>by cases z) (zG s ds xs n h2)
theorem zG{K:PySem.W.Frag}{I0 I:Hp}(s:Same I0 I):∀(ds:List D) (xs:List V),noLA ds=true->IsA K I ds xs->IsA K (tupOf I0 I) ds xs
 | [],xs,_,h=>by rw[h.nil_inv];exact IsA.nil
 | d::ds,xs,n,h=>by
  rw[noLA,Qn] at n;obtain⟨x,r,rfl,h1,h2⟩:=h.cons_inv;exact IsA.cons (JC s d x n.1 h1) (zG s ds r n.2 h2)
end
section
variable{B:BB}{es:List Qe}{p:Pos}{g:List R->Option (R×List R)}{t:M (List D)}
noncomputable def cvF(g:List R->Option (R×List R))(ds:List D):Option D:=match g (ds.map .val) with
 | some (.val d,_)=>some d
 | some (.fro d,_)=>some (.lst d)
 | _=>none
noncomputable def coF(g:List R->Option (R×List R))(ds:List D):Option (List D):=match g (ds.map .val) with
 | some (.own d,_)=>some d
 | some (.fro d,_)=>if noLA d=true then some d else none
 | _=>none
theorem uG{K:PySem.W.Frag}{H:Hp}{vs:List V}(r:Rep K B G I H U Y)(h:IsA K I ds vs):Rep K (vB vs) H I H (vs.map some) ((ds.map R.val).map some) where
 iH:=r.iH
 gH:=Same.refl _
 len:=by rw[s_,s_,s_,h.length]
 slot:=λi q e=>by
  obtain⟨_,e1,e2⟩:=getMap e;cases e2;obtain⟨d,e3,rfl⟩:=getMap e1;obtain⟨v,e4,e5⟩:=h.get e3;exact⟨v,by rw[u_,e4];rfl,e5⟩
 dist:=λi j q q' v e e' m=>by
  obtain⟨_,e1,e2⟩:=getMap e;cases e2;obtain⟨d,e3,rfl⟩:=getMap e1;cases m
 bor:=λi ds e=>rfl
theorem uz(ds:List D):(ds.map R.val).all noOwn=true:=by
 induction ds with
 | nil=>rfl
 | cons d r ih=>rw[D_,QY,ih];rfl
theorem vJ{K:PySem.W.Frag}{B':BB}{H:Hp}{ao:L2.St}(r:Rep K B G I H U Y)(r':Rep K B' H I' H' ao af)(g':Grow H I I'):Rep K B G I' H' U Y/\Grow G I I':=
 ⟨r.ext g'.up r'.gH r'.iH g'.new,g'.up,λb o e=>(g'.new b o e).imp (λz=>z) λz=>r.gFree z⟩
theorem t_cv{K:PySem.W.Frag}{E:XK}:∀U H Q,tD K B (fn1 (cvF g) t) U H Q->tCall (spD K g) [] E (tAD K B t) U H Q:=λU H Q q=>by
 obtain⟨G,I,Y,d,af,r,e1,kk⟩:=q;obtain⟨ds,ac,e2,e3⟩:=rG e1;obtain⟨e4,rfl⟩:=rW e3;refine⟨G,I,Y,ds,_,r,e2,λvs H1 I1 r1 g1 h1=>?_⟩;show spD K g (vs++[]) H1 Q E;rw[Q0];unfold cvF at e4;cases e5:g (ds.map .val) with
 | none=>rw[e5] at e4;cases e4
 | some q =>
  obtain⟨rr,aS⟩:=q;rw[e5] at e4;cases rr with
  | val d' =>
   cases e4;refine⟨H1,I1,ds.map .val,.val d,aS,uG r1 h1,uz ds,e5,λv H' I' r' g' hv=>?_⟩;obtain⟨r2,g2⟩:=vJ r1 r' g';exact kk v H' I' r2 (g1.trans g2) hv
  | fro d' =>
   cases e4;refine⟨H1,I1,ds.map .val,.fro d',aS,uG r1 h1,uz ds,e5,λv H' I' r' g' hv=>?_⟩;obtain⟨r2,g2⟩:=vJ r1 r' g';obtain⟨p,xs,rfl,f1,_,f3⟩:=hv;exact kk _ H' I' r2 (g1.trans g2) (Is.lst (RdK.of f1) f3)
  | own _=>cases e4
  | bor _=>cases e4
  | dic _=>cases e4
  | rdc _=>cases e4
theorem t_co{K:PySem.W.Frag}{E:XK}:∀U H Q,tO K B (fn1 (coF g) t) U H Q->tCall (spD K g) [] E (tAD K B t) U H Q:=λU H Q q=>by
 obtain⟨G,I,Y,d,af,r,e1,kk⟩:=q;obtain⟨ds,ac,e2,e3⟩:=rG e1;obtain⟨e4,rfl⟩:=rW e3;refine⟨G,I,Y,ds,_,r,e2,λvs H1 I1 r1 g1 h1=>?_⟩;show spD K g (vs++[]) H1 Q E;rw[Q0];unfold coF at e4;cases e5:g (ds.map .val) with
 | none=>rw[e5] at e4;cases e4
 | some q =>
  obtain⟨rr,aS⟩:=q;rw[e5] at e4;cases rr with
  | own d' =>
   cases e4;refine⟨H1,I1,ds.map .val,.own d,aS,uG r1 h1,uz ds,e5,λv H' I' r' g' hv=>?_⟩;obtain⟨r2,g2⟩:=vJ r1 r' g';obtain⟨q,xs,rfl,b2,b3,b4,b5,b6⟩:=hv;exact kk q xs H' I' r2 (g1.trans g2) b2 b3 (r1.gFree b4) (r1.apart b4) b6
  | fro d' =>
   obtain⟨nl,e4⟩:=sv e4;subst e4;refine⟨H1,I1,ds.map .val,.fro d,aS,uG r1 h1,uz ds,e5,λv H' I' r' g' hv=>?_⟩;obtain⟨p,xs,rfl,f1,f2,f3⟩:=hv
   have new:∀b o,tupOf I1 I' b=some o->I1 b=some o\/H1 b=none:=λb o e=>by
    rcases y4 e with z | ⟨_,z,_⟩
    ·exact .inl z
    ·exact g'.new b o z
   have r2:Rep K B G (tupOf I1 I') H' U _:=r1.ext Es r'.gH (λb o e=>by
    rcases y4 e with z | ⟨_,z,_⟩
    ·exact r'.iH b o (g'.up b o z)
    ·exact r'.iH b o z) new
   refine kk p xs H' (tupOf I1 I') r2 (g1.trans ⟨Es,λb o e=>(new b o e).imp (λz=>z) λz=>r1.gFree z⟩) (r'.iH p _ f1) ?_ (r1.gFree f2) (r1.apart f2) (zG g'.up _ _ nl f3);cases e:tupOf I1 I' p with
   | none=>rfl
   | some o =>
    rcases y4 e with z | ⟨_,z,zn⟩
    ·rw[r1.iFree f2] at z;cases z
    ·rw[f1] at z;cases z;exact absurd rfl (zn _)
  | rdc _=>cases e4
  | val _=>cases e4
  | bor _=>cases e4
  | dic _=>cases e4
variable {qM:Nat}{b:Qe}
theorem rN(F:FnOk X.prog X.w X.K X.mg X.base CX0 k f fd ps (spD X.K g))(hr:Room k X.A)(hg:Gl X x)(hm:X.mg x=some (.ref f))(hk:Re X.K (.ref f)=true)(hb:Binds X.K fd ps [])(ha:AD X B (e::es) t)(bf:(x == ("__debug__":Str))=false:=by decide)(he:e_ (e::es) X.env=(false,Qf e X.env)::e_ es X.env:=by rfl)(aF:(Qk pos (e_ es X.env)).any (·.1)=false:=by rfl):
  ED X B (.Call (.Name x p) (e::es) [] pos) (fn1 (cvF g) t):=PE.imp (u6 F hr hg hm hk hb .nil pass0 ha bf he aF) t_cv
theorem so(F:FnOk X.prog X.w X.K X.mg X.base CX0 k f fd ps (spD X.K g))(hr:Room k X.A)(hg:Gl X x)(hm:X.mg x=some (.ref f))(hk:Re X.K (.ref f)=true)(hb:Binds X.K fd ps [])(ha:AD X B (e::es) t)(bf:(x == ("__debug__":Str))=false:=by decide)(he:e_ (e::es) X.env=(false,Qf e X.env)::e_ es X.env:=by rfl)(aF:(Qk pos (e_ es X.env)).any (·.1)=false:=by rfl):
  EO X B (.Call (.Name x p) (e::es) [] pos) (fn1 (coF g) t):=PE.imp (u6 F hr hg hm hk hb .nil pass0 ha bf he aF) t_co
noncomputable def hide(H:Hp)(p:l_):Hp:=λb=>if b=p then none else H b
theorem Eh{H:Hp}{p:l_}:hide H p p=none:=by unfold hide;rw[if_pos rfl]
theorem uF{H:Hp}{p b:l_}(h:b≠p):hide H p b=H b:=by unfold hide;rw[if_neg h]
theorem IF{H:Hp}{p:l_}:Same (hide H p) H:=λb o e=>by
 by_cases h:b=p
 ·subst h;rw[Eh] at e;cases e
 ·rw[uF h] at e;exact e
noncomputable def bcF(g:List R->Option (R×List R))(c ds:List D):Option (R×List D):=match g (.bor c::ds.map .val) with
 | some (r,.bor c'::_)=>some (r,c')
 | _=>none
noncomputable def callB(i:Nat)(g:List R->Option (R×List R))(t:M (List D)):M R:=mutS i (bnd t λds=>λac=>match ac[i]? with
 | some (some (.own c))=>match bcF g c ds with
  | some (r,c')=>some (r,ac.set i (some (.own c')))
  | none=>none
 | some (some (.bor c))=>match bcF g c ds with
  | some (r,c')=>some (r,ac.set i (some (.bor c')))
  | none=>none
 | _=>none)
noncomputable def asV(r:R):Option D:=match r with
 | .val d=>some d
 | _=>none
noncomputable def asO(r:R):Option (List D):=match r with
 | .own d=>some d
 | _=>none
noncomputable def cbV(i:Nat)(g:List R->Option (R×List R))(t:M (List D)):M D:=bnd (callB i g t) λr=>lft (asV r)
noncomputable def cbO(i:Nat)(g:List R->Option (R×List R))(t:M (List D)):M (List D):=bnd (callB i g t) λr=>lft (asO r)
theorem Rep.extBut{K:PySem.W.Frag}{H:Hp}(r:Rep K B G I H U Y){q:l_}(ap:Apart U Y q)(gq:G q=none)(iq:I q=none)(qN:I' q=none)(hI:Same I I')(hH:∀b o,H b=some o->b≠q->H' b=some o)(iH:Same I' H')(new:∀b o,I' b=some o->I b=some o\/H b=none\/b=q):Rep K B G I' H' U Y where
 iH:=iH
 gH:=λb o e=>hH b o (r.gH b o e) (λz=>by subst z;rw[gq] at e;cases e)
 len:=r.len
 slot:=λi qr e=>by
  obtain⟨v,e1,e2⟩:=r.slot i qr e;refine⟨v,e1,?_⟩
  have mt:qr.ptr=true->∀ds,Mt K G I H ds v->Mt K G I' H' ds v:=λm ds h=>by
   obtain⟨p2,xs,h1,h2,h3,h4,h5⟩:=h;have ne:p2≠q:=λz=>ap i qr e m (by rw[e1,h1,z])
   refine⟨p2,xs,h1,hH _ _ h2 ne,?_,h4,h5.mono hI⟩;cases z:I' p2 with
   | none=>rfl
   | some o =>
    rcases new p2 o z with z1 | z1 | z1
    ·rw[h3] at z1;cases z1
    ·rw[h2] at z1;cases z1
    ·exact absurd z1 ne
  cases qr with
  | val d=>exact Is.mono hI e2
  | dic ds =>
   obtain⟨p2,xs,h1,h2,h3,h4,h5⟩:=e2;have ne:p2≠q:=λz=>ap i _ e rfl (by rw[e1,h1,z])
   refine⟨p2,xs,h1,hH _ _ h2 ne,?_,h4,h5.mono hI⟩;cases z:I' p2 with
   | none=>rfl
   | some o =>
    rcases new p2 o z with z1 | z1 | z1
    ·rw[h3] at z1;cases z1
    ·rw[h2] at z1;cases z1
    ·exact absurd z1 ne
  | own ds=>exact mt rfl ds e2
  | bor ds=>exact mt rfl ds e2
  | fro ds=>obtain⟨p,xs,f1,f2,f3,f4⟩:=e2;exact⟨p,xs,f1,hI _ _ f2,f3,f4.mono hI⟩
  | rdc ds=>obtain⟨p,xs,f1,f2,f3⟩:=e2;exact⟨p,xs,f1,f2,f3.mono hI⟩
 dist:=r.dist
 bor:=r.bor
theorem borrow{K:PySem.W.Frag}{H:Hp}{q':R}{c c':List D}{ws:List V}{Q:VK}{E:XK}(r:Rep K B G I H U Y)(hq:Y[i]?=some (some q))(hc:(q=.own c/\q'=.own c')\/(q=.bor c/\q'=.bor c'))(hd:IsA K I ds ws)(gr:U[i]?=some (some v0))(hg:bcF g c ds=some (rr,c'))(k:∀v H' I',Rep K B G I' H' U (Y.set i (some q'))->Grow G I I'->ResOk K G I' H' U (Y.set i (some q')) rr v->Q v H'):spD K g (v0::ws) H Q E:=by
 obtain⟨v,e1,e2⟩:=r.slot i q hq;rw[gr] at e1;cases e1;have hm:q.ptr=true:=by rcases hc with⟨rfl,_⟩ | ⟨rfl,_⟩<;>rfl
 have mt:Mt K G I H c v0:=by rcases hc with⟨rfl,_⟩ | ⟨rfl,_⟩<;>exact e2
 obtain⟨a,xs,rfl,h1,h2,h3,h4⟩:=mt;unfold bcF at hg;cases e3:g (.bor c::ds.map .val) with
 | none=>rw[e3] at hg;cases hg
 | some z =>
  obtain⟨r0,aS⟩:=z;rw[e3] at hg;cases aS with
  | nil=>cases hg
  | cons y aS =>
   cases y with
   | val _=>cases hg
   | own _=>cases hg
   | fro _=>cases hg
   | rdc _=>cases hg
   | dic _=>cases hg
   | bor c2 =>
    cases hg;refine⟨hide H a,I,.bor c::ds.map .val,rr,.bor c'::aS,?_,by rw[QY,uz];rfl,e3,λv H' I' r' g' hv=>?_⟩
    ·have rv:=uG r hd
     exact {
      iH:=r.iH,gH:=IF
      len:=by rw[D_,D_,Qi,Qi,rv.len]
      slot:=λj qr e=>by
       cases j with
       | zero=>cases e;exact⟨_,rfl,a,xs,rfl,h1,h2,Eh,h4⟩
       | succ j =>
        obtain⟨w,e4,e5⟩:=rv.slot j qr (by simpa using e);refine⟨w,by simpa using e4,?_⟩;have e9:((ds.map R.val).map some)[j]?=some (some qr):=e;obtain⟨z,f1,f2⟩:=getMap e9;cases f2;obtain⟨d,f3,rfl⟩:=getMap f1;exact e5
      dist:=λj l qr qO w e e' m m' s1 s2=>by
       have only:∀{j:Nat}{qr:R},((R.bor c::ds.map R.val).map some)[j]?=some (some qr)->qr.ptr=true->j=0:=λ{j qr} e m=>by
        cases j with
        | zero=>rfl
        | succ j =>
         have e9:((ds.map R.val).map some)[j]?=some (some qr):=e;obtain⟨z,f1,f2⟩:=getMap e9;cases f2;obtain⟨d,f3,rfl⟩:=getMap f1;cases m
       rw[only e m,only e' m']
      bor:=λj es e=>rfl }
    ·obtain⟨w,e4,e5⟩:=r'.slot 0 (.bor c') rfl;cases e4;obtain⟨a',bb,e6,f1,f2,f3,f4⟩:=e5;cases e6
     have fH:Apart U (Y.set i none) a:=λj r1 z m s=>by
      rcases sk z with⟨_,z',_⟩ | ⟨n,z'⟩
      ·cases z'
      ·exact n (r.dist j i r1 q _ z' hq m hm s gr)
     have r1:=(r.forget i).extBut (q:=a) fH h3 h2 f2 g'.up (λb o e n=>r'.gH b o (by rw[uF n];exact e)) r'.iH (λb o e=>by
      rcases g'.new b o e with z | z
      ·exact .inl z
      ·by_cases n:b=a
       ·exact .inr (.inr n)
       ·rw[uF n] at z;exact .inr (.inl z))
     have r2:=r1.learn (i:=i) (q:=q') (v:=.ref a) gr (by rcases hc with⟨_,rfl⟩ | ⟨_,rfl⟩<;>exact⟨a,bb,rfl,f1,f2,h3,f4⟩) (λm p2 e j r' n z m' s=>by
      cases e;exact fH j r' z m' s) (λes z=>by
      rcases hc with⟨_,rfl⟩ | ⟨rfl,rfl⟩
      ·cases z
      ·exact r.bor i c hq)
     rw[VG] at r2
     have g2:Grow G I I':=⟨g'.up,λb o e=>by
      rcases g'.new b o e with z | z
      ·exact .inl z
      ·by_cases n:b=a
       ·subst n;exact .inr h3
       ·rw[uF n] at z;exact .inr (r.gFree z)⟩
     refine k v H' I' r2 g2 ?_;cases rr with
     | val d=>exact hv
     | bor d=>exact hv
     | rdc d=>exact hv
     | fro d =>
      obtain⟨p2,ys,b1,b2,b3,b4⟩:=hv;have ne:p2≠a:=λz=>by rw[z,f2] at b2;cases b2
      rw[uF ne] at b3;exact⟨p2,ys,b1,b2,r.gFree b3,b4⟩
     | dic d =>
      obtain⟨p2,ys,b1,b2,b3,b4,b5,b6⟩:=hv;have ne:p2≠a:=λz=>b5 0 (.bor c') rfl rfl (by rw[z];rfl)
      rw[uF ne] at b4;refine⟨p2,ys,b1,b2,b3,r.gFree b4,λj r3 z m s=>?_,b6⟩
      rcases sk z with⟨rfl,z',_⟩ | ⟨n,z'⟩
      ·rw[gr] at s;cases s;exact ne rfl
      ·exact r.apart b4 j r3 z' m s
     | own d =>
      obtain⟨p2,ys,b1,b2,b3,b4,b5,b6⟩:=hv;have ne:p2≠a:=λz=>b5 0 (.bor c') rfl rfl (by rw[z];rfl)
      rw[uF ne] at b4;refine⟨p2,ys,b1,b2,b3,r.gFree b4,λj r3 z m s=>?_,b6⟩
      rcases sk z with⟨rfl,z',_⟩ | ⟨n,z'⟩
      ·rw[gr] at s;cases s;exact ne rfl
      ·exact r.apart b4 j r3 z' m s
theorem Dk{t:M (List D)}(h:callB i g t Y=some (rr,af)):isMut Y i=true/\∃ds ac q q' c c',t Y=some (ds,ac)/\ac[i]?=some (some q)/\((q=.own c/\q'=.own c')\/(q=.bor c/\q'=.bor c'))/\bcF g c ds=some (rr,c')/\af=ac.set i (some q'):=by
 obtain⟨hm,h⟩:=uH h;obtain⟨ds,ac,e1,e2⟩:=rG h;refine⟨hm,ds,ac,?_⟩;cases e:ac[i]? with
 | none=>simp only[e] at e2;cases e2
 | some o =>
  cases o with
  | none=>simp only[e] at e2;cases e2
  | some q =>
   cases q with
   | val d=>simp only[e] at e2;cases e2
   | fro d=>simp only[e] at e2;cases e2
   | rdc d=>simp only[e] at e2;cases e2
   | dic d=>simp only[e] at e2;cases e2
   | own c =>
    simp only[e] at e2;cases e3:bcF g c ds with
    | none=>simp only[e3] at e2;cases e2
    | some z =>
     obtain⟨r0,c'⟩:=z;simp only[e3] at e2;cases e2;exact⟨.own c,.own c',c,c',e1,rfl,.inl ⟨rfl,rfl⟩,e3,rfl⟩
   | bor c =>
    simp only[e] at e2;cases e3:bcF g c ds with
    | none=>simp only[e3] at e2;cases e2
    | some z =>
     obtain⟨r0,c'⟩:=z;simp only[e3] at e2;cases e2;exact⟨.bor c,.bor c',c,c',e1,rfl,.inr ⟨rfl,rfl⟩,e3,rfl⟩
theorem FQ{K:PySem.W.Frag}{E:XK}:∀U H Q,tD K B (cbV i g t) U H Q->tCall (spD K g) [] E (tCons (tVar i) (tAD K B t)) U H Q:=λU H Q q=>by
 obtain⟨G,I,Y,d,af,r,e1,kk⟩:=q;obtain⟨rr,gw,e2,e3⟩:=rG e1;obtain⟨e4,rfl⟩:=rW e3;obtain⟨hm,ds,ac,q,q',c,c',f1,f2,f3,f4,rfl⟩:=Dk e2;obtain⟨a,xs,h1,h2⟩:=t6 hm r;refine⟨_,h1,G,I,Y,ds,ac,r,f1,λws H1 I1 r1 g1 hd=>?_⟩;show spD K g ((.ref a::ws)++[]) H1 Q E;rw[Q0];refine borrow r1 f2 f3 hd h1 f4 λv H' I' r' g' hv=>?_
 cases rr with
 | val d'=>cases e4;exact kk v H' I' r' (g1.trans g') hv
 | own _=>cases e4
 | bor _=>cases e4
 | fro _=>cases e4
 | rdc _=>cases e4
 | dic _=>cases e4
theorem Jk{K:PySem.W.Frag}{E:XK}:∀U H Q,tO K B (cbO i g t) U H Q->tCall (spD K g) [] E (tCons (tVar i) (tAD K B t)) U H Q:=λU H Q q=>by
 obtain⟨G,I,Y,d,af,r,e1,kk⟩:=q;obtain⟨rr,gw,e2,e3⟩:=rG e1;obtain⟨e4,rfl⟩:=rW e3;obtain⟨hm,ds,ac,q,q',c,c',f1,f2,f3,f4,rfl⟩:=Dk e2;obtain⟨a,xs,h1,h2⟩:=t6 hm r;refine⟨_,h1,G,I,Y,ds,ac,r,f1,λws H1 I1 r1 g1 hd=>?_⟩;show spD K g ((.ref a::ws)++[]) H1 Q E;rw[Q0];refine borrow r1 f2 f3 hd h1 f4 λv H' I' r' g' hv=>?_
 cases rr with
 | own d' =>
  cases e4;obtain⟨p2,ys,rfl,b2,b3,b4,b5,b6⟩:=hv;exact kk p2 ys H' I' r' (g1.trans g') b2 b3 b4 b5 b6
 | val _=>cases e4
 | bor _=>cases e4
 | fro _=>cases e4
 | rdc _=>cases e4
 | dic _=>cases e4
theorem sg(F:FnOk X.prog X.w X.K X.mg X.base CX0 k f fd ps (spD X.K g))(hr:Room k X.A)(hg:Gl X x)(hm:X.mg x=some (.ref f))(hk:Re X.K (.ref f)=true)(hb:Binds X.K fd ps [])(hv:PE X (.Name y py) (tVar i))(ha:AD X B es t)(bf:(x == ("__debug__":Str))=false:=by decide)(he:e_ (.Name y py::es) X.env=(false,Qf (.Name y py) X.env)::e_ es X.env:=by rfl)(aF:(Qk pos (e_ es X.env)).any (·.1)=false:=by rfl):
  ED X B (.Call (.Name x p) (.Name y py::es) [] pos) (cbV i g t):=PE.imp (u6 F hr hg hm hk hb .nil pass0 (sY hv ha he) bf he aF) FQ
theorem G0(F:FnOk X.prog X.w X.K X.mg X.base CX0 k f fd ps (spD X.K g))(hr:Room k X.A)(hg:Gl X x)(hm:X.mg x=some (.ref f))(hk:Re X.K (.ref f)=true)(hb:Binds X.K fd ps [])(hv:PE X (.Name y py) (tVar i))(ha:AD X B es t)(bf:(x == ("__debug__":Str))=false:=by decide)(he:e_ (.Name y py::es) X.env=(false,Qf (.Name y py) X.env)::e_ es X.env:=by rfl)(aF:(Qk pos (e_ es X.env)).any (·.1)=false:=by rfl):
  EO X B (.Call (.Name x p) (.Name y py::es) [] pos) (cbO i g t):=PE.imp (u6 F hr hg hm hk hb .nil pass0 (sY hv ha he) bf he aF) Jk
end
end DL
variable{it:DL.M (List DL.D)}{body:DL.M DL.Fl}{aG:DL.D->DL.M Unit}{gl gh:DL.M (Option Int)}{gc ts:DL.M Bool}{gv el gk:DL.M DL.D}
namespace DL
open PySem PySem.Spec PyProof.Rows L2
noncomputable def relab(sc cy:S_):S_:={ sc with names:=sc.names.map λ(n,k)=>if(k == .free&&cy.kind == .function&&cy.names.lookup n == some .cell) then(n,.cell) else(n,k) }
noncomputable def clo(cells:List (Str×l_)):List (Str×QE)->List (Str×l_)->List (Str×l_)
 | [],ag=>ag
 | (n,k)::r,ag=>if k == .free then clo cells r ((n,(cells.lookup n).getD 0)::ag) else clo cells r ag
theorem Cw{env:Env}(f:Str×QE->List (Str×l_)->Sem (ForInStep (List (Str×l_))))(hf:∀name kind cs,f (name,kind) cs=if kind == .free then(do let a ←cellOf env name;pure (.yield ((name,a)::cs))) else pure (.yield cs)):
  ∀(names:List (Str×QE)) (ag:List (Str×l_)),(∀n,(n,QE.free)∈names->∃c,env.cells.lookup n=some c)->(forIn names ag f:Sem _)=pure (clo env.cells names ag)
 | [],ag,_=>by rw[S'];rfl
 | (n,k)::r,ag,h=>by
  rw[Sc,hf];unfold clo;have ih:=λlI=>Cw f hf r lI (λn hn=>h n (i_ _ hn))
  by_cases hk:(k == QE.free)=true
  ·rw[if_pos hk,if_pos hk];have bD:k=.free:=by simpa using hk
   subst bD;obtain⟨c,hc⟩:=h n k_;have e:cellOf env n=pure c:=by unfold cellOf;rw[hc]
   rw[e,hc];simp only[pure_bind,Option.getD_some];exact ih _
  ·rw[if_neg hk,if_neg hk];simp only[pure_bind];exact ih _
theorem B6(h:∀n,(n,QE.free)∈scope.names->∃c,env.cells.lookup n=some c):closureFor scope env=pure (clo env.cells scope.names []):=by
 unfold closureFor;dsimp only;rw[Cw (env:=env) _ (λname kind cs=>by cases hk:kind == QE.free<;>simp[hk]) scope.names [] h];rfl
theorem xN{cells:List (Str×l_)}:∀{names:List (Str×QE)}{ag:List (Str×l_)}{x:Str}{c:l_},(x,c)∈clo cells names ag->(x,c)∈ag\/((x,QE.free)∈names/\c=(cells.lookup x).getD 0)
 | [],ag,x,c,h=>.inl h
 | (n,k)::r,ag,x,c,h=>by
  unfold clo at h;by_cases hk:(k == QE.free)=true
  ·rw[if_pos hk] at h;have bD:k=.free:=by simpa using hk
   subst bD
   rcases xN h with z | ⟨z1,z2⟩
   ·rcases E_.mp z with z | z
    ·cases z;exact .inr ⟨k_,rfl⟩
    ·exact .inl z
   ·exact .inr ⟨i_ _ z1,z2⟩
  ·rw[if_neg hk] at h
   rcases xN h with z | ⟨z1,z2⟩
   ·exact .inl z
   ·exact .inr ⟨i_ _ z1,z2⟩
theorem Ag{cells:List (Str×l_)}:∀{names:List (Str×QE)}{ag:List (Str×l_)}{x:Str},((x,QE.free)∈names\/∃c,ag.lookup x=some c)->∃c,(clo cells names ag).lookup x=some c
 | [],ag,x,h=>by
  rcases h with h | h
  ·cases h
  ·exact h
 | (n,k)::r,ag,x,h=>by
  unfold clo
  have push:∀c0:l_,(∃c,ag.lookup x=some c)->∃c,((n,c0)::ag).lookup x=some c:=λc0 ⟨c,hc⟩=>by
   rw[List.lookup_cons];cases x == n
   ·exact⟨c,hc⟩
   ·exact⟨c0,rfl⟩
  by_cases hk:(k == QE.free)=true
  ·rw[if_pos hk];refine Ag ?_
   rcases h with h | h
   ·rcases E_.mp h with z | z
    ·cases z;exact .inr ⟨_,by rw[List.lookup_cons,beq_self_eq_true]⟩
    ·exact .inl z
   ·exact .inr (push _ h)
  ·rw[if_neg hk];refine Ag ?_
   rcases h with h | h
   ·rcases E_.mp h with z | z
    ·cases z;exact absurd (by rfl) hk
    ·exact .inl z
   ·exact .inr h
structure CompScope(cy sc:S_)(N N':List Str)(m:Nat):Prop where
 kind:sc.kind=.function
 nocell:∀y∈sc.names,y.2≠.cell
 locals:∀y∈sc.names,y.2=.local->sc.names.lookup y.1=some .local
 free:∀y∈sc.names,y.2=.free->cy.names.lookup y.1=some .cell\/cy.names.lookup y.1=some .free
 nd:N'.Nodup
 len:N'.length=m+N.length
 up:∀p∈(N'.drop m).zip N,((relab sc cy).names.lookup p.1=none)\/(p.1=p.2/\(relab sc cy).names.lookup p.1≠some .local)
noncomputable def cxC(X:Cx)(scope:S_)(N':List Str)(C:l_)(s:c_)(H:Hp)(ex:List l_):Cx:=
 { X with N:=N',s₀:=s,H₀:=H,env:=compEnvC scope (clo X.env.cells scope.names []) C X.env,outer:=X.stack,stack:=X.stack,ex:=ex,fn:=λ_=>false,pn:=[],xe:=λ_ _=>False }
def PTs(X:Cx)(aY:List Qe)(t:TT):Prop:=
 ∀(aa:List (l_×Obj)) (s:c_) (U:L2.St) (H:Hp) (Q:Bool->Hp->Prop),Inv X aa U H s->t U H Q →
  q_ (r_ X.prog X.w) X.A (forIn aY true λc r=>if r=true then do let ok ←VL c X.env (Qf c X.env);pure (VU ok) else pure (VU r)) (TP X aa U Q) X.xe s
theorem GJ:PTs X [] (λ_ H Q=>Q true H):=λaa s U H Q I h=>wpAny_tests_nil ⟨H,I,h⟩
theorem Nh{c:Qe}{t:TT}(h:PT X c t):PTs X [c] t:=λaa s U H Q I q=>wpAny_tests_one (h aa s U H Q I q)
abbrev calm(P:A_)(w:I_)(A:Q6){α:Type}(m:Sem α)(Q:α->c_->Prop)(s:c_):Prop:=q_ (r_ P w) A m Q (λ_ _=>False) s
theorem calm.on{P:A_}{w:I_}{α Z:Type}{m:Sem α}{f:α->Sem Z}{Q:α->c_->Prop}{K:Z->c_->Prop}{E:b_->c_->Prop}{s:c_}(h:calm P w A m Q s)(k:∀a s',Q a s'->q_ (r_ P w) A (f a) K E s'):q_ (r_ P w) A (m >>= f) K E s:=
 a_ (Qs h k λ_ _ no=>no.elim)
def TurnMeets(P:A_)(w:I_)(A:Q6)(cz iB:b_)(tg bh:Qe)(aY:List Qe)(env:Env)(Vz aZ:c_->Prop)(s:c_):Prop:=
 calm P w A (Sz cz) (λeM s=>match eM with
  | none=>aZ s
  | some v=>calm P w A (SW tg cz v) (λ_ s=>calm P w A (Td tg env v) (λ_ s =>
    calm P w A (forIn aY true λc r=>if r=true then do let ok ←VL c env (Qf c env);pure (VU ok) else pure (VU r)) (λfI s =>
     cond fI (calm P w A (Qf bh env) (λx s=>calm P w A (call (.builtin "list.append") [iB,x]) (λ_ s=>Vz s) s) s) (Vz s)) s) s) s) s
theorem Hf{P:A_}{w:I_}{aZ:Result->c_->Prop}{s:c_}{bh jX:Qe}{sc:S_}{aW:Pos}{cz iB:b_}(W:Nat->c_->Prop)(gx:∀left s,W left s->TurnMeets P w A cz iB tg bh aY env (λs'=>∃VV,VV < left/\W VV s') (aZ (.ok .next)) s)(left:Nat)(start:W left s):
  Sk (r_ P w) A (.compLoop (.ListComp bh [⟨tg,jX,aY,0⟩] sc aW) 0 cz iB env) aZ s:=by
 refine codeAny_loop rfl W (λleft s here=>?_) left start;have turn:=gx left s here;unfold TurnMeets at turn;refine wpAny_noted ?_;rw[compTurn_list];refine a_ (UW (turn.on λeM s1 h1=>?_));cases eM with
 | none=>exact d_ h1
 | some v=>exact calm.on h1 λ_ _ h2=>calm.on h2 λ_ _ h3=>calm.on h3 λfI s4 h4=>match fI,h4 with
  | false,h4=>d_ (And.intro rfl h4)
  | true,h4=>a_ (calm.on h4 λ_ _ h5=>calm.on h5 λ_ _ h6=>d_ (d_ (And.intro rfl h6)))
def Clear(X:Cx)(aa:List (l_×Obj))(H:Hp)(C:l_):Prop:=H C=none/\C≠X.env.locals/\X.s₀.heap.objs.size<=C/\(∀x c,X.env.cells.lookup x=some c->c≠C)/\∀p∈X.pn++aa,p.1≠C
theorem Inv.clear{H:Hp}{s:c_}{C:l_}(I:Inv X aa U H s)(c:Clear X aa H C)(hs:L_.SameBut C s.heap h'):Inv X aa U H { s with heap:=h' }:=
 I.turned (t':=s.toks) (λb o hb e=>(hs.2 b hb).trans e) c.1 c.2.1 (.inr c.2.2.1) c.2.2.2.1 c.2.2.2.2
def CompW(m:Nat)(J:It)(g:TG)(tt:TT)(te:TE)(U:L2.St)(H1:Hp)(p:l_)(Q:VK):Prop:=
 ∃W:Nat->Nat->L2.St->Hp->Prop,(∃n,W 0 n (Ql m none++U) (upd H1 p (.lst [])))/\∀i n ao H',W i n ao H' →
  (J.stop i H'/\Q (.ref p) H')\/(J.go i H'/\∀x H2,J.yld i H' x H2->g x ao H2 λaX H3=>tt aX H3 λb H4 =>
   if b=true then te aX H4 λy H5=>∃ag,H5 p=some (.lst ag)/\ag.length < x_/\∃n',n' < n/\W (i+1) n' aX (upd H5 p (.lst (ag++[y])))
   else ∃n',n' < n/\W (i+1) n' aX H4)
section
variable{bh:Qe}{N':List Str}{g:TG}{tt:TT}{te:TE}
theorem El{it:l_}{tn:Nat->L_->Prop}{J:It}{Q:VK}{E:b_->c_->Prop}(S:CompScope X.env.scope scope X.N N' m)(hc:X.calm=true)(hg:∀C s H ex,PG (cxC X scope N' C s H ex) tg g)(ht:∀C s H ex,PTs (cxC X scope N' C s H ex) aY tt)(he:∀C s H ex,PE (cxC X scope N' C s H ex) bh te)(I2:Inv X aa U H2 s2)(T:Turn X.prog X.w X.K tg J fp it tn)(dS:tn 0 s2.heap)(f2:∀b∈fp,FpOk X aa H2 b)(hw:∀p,H2 p=none->CompW m J g tt te U H2 p Q):
  q_ (r_ X.prog X.w) X.A (newList []) (λag s3=>q_ (r_ X.prog X.w) X.A (newFunctionEnv scope X.env.globals (clo X.env.cells scope.names []) [] X.env.qual none .none (some X.env)) (λc8 s4 =>
   Sk (r_ X.prog X.w) X.A (.compStart (.ListComp bh [⟨tg,iter,aY,0⟩] scope pos) 0 (.ref it) ag { c8 with scope:=relabel scope X.env })
    (λr s'=>match r with | .ok _=>∃p H' mm,ag=.ref p/\s'.heap.Ns c8.locals mm/\Inv X aa U H' s'/\Clear X aa H' c8.locals/\Q (.ref p) H' | .error _=>False) s4) E s3) E s2:=by
 refine Qh (wpAny_newFunctionEnv S.nocell (by intro y hy;simp at hy) (λh1 jA jB=>?_) S.kind);dsimp only at jA jB ⊢
 -- the new list
 have hp:H2 s2.heap.objs.size=none:=I2.hok.fresh (w_ _);obtain⟨W,⟨n0,w0⟩,turn⟩:=hw _ hp;obtain⟨p,hP⟩:∃p,p=s2.heap.objs.size:=⟨_,rfl⟩;obtain⟨s3,jY⟩:∃s3:c_,s3={ s2 with heap:=s2.heap.push { cls:=.type "list", dict:=none,data:=.seq ([]:List b_).toArray } }:=⟨_,rfl⟩;obtain⟨C,hC⟩:∃C,C=s3.heap.objs.size:=⟨_,rfl⟩;obtain⟨H3,jZ⟩:∃H3,H3=upd H2 p (.lst []):=⟨_,rfl⟩;have h3:s3.heap=s2.heap.push { cls:=.type "list", dict:=none,data:=.seq ([]:List b_).toArray }:=by rw[jY]
 have gy:h1.Ns C (λx=>([]:List (Str×b_)).reverse.lookup x):=by rw[hC,h3];exact jA
 have ou:L_.SameBut C (s3.heap.push { cls:=.type "dict", data:=.dict #[] }) h1:=by rw[hC,h3];exact jB
 rw[←hP] at hp;have ow:W 0 n0 (Ql m none++U) H3:=by rw[jZ,hP];exact w0
 have j0:∀i n ao H',W i n ao H'->(J.stop i H'/\Q (.ref p) H')\/(J.go i H'/\∀x H2,J.yld i H' x H2->g x ao H2 λaX H3=>tt aX H3 λb H4 =>
   if b=true then te aX H4 λy H5=>∃ag,H5 p=some (.lst ag)/\ag.length < x_/\∃n',n' < n/\W (i+1) n' aX (upd H5 p (.lst (ag++[y])))
   else ∃n',n' < n/\W (i+1) n' aX H4):=by rw[hP];exact turn
 have I3:Inv X aa U H3 s3:=by
  rw[jZ,jY,hP];exact I2.laid (t':=s2.toks) (λb u e=>f_ _ e) (w_ _) ⟨Qp _,[],0,.nil,z_ _ rfl⟩
 have fC:tn 0 s3.heap:=T.keep _ _ _ dS λb _ o e=>by rw[h3];exact f_ _ e
 have f3:∀b∈fp,FpOk X aa H3 b:=λb hb=>by
  obtain⟨a0,a1⟩:=f2 b hb;refine⟨?_,a1⟩;obtain⟨o,e,_⟩:=T.obj _ _ dS b hb
  have ne:b≠p:=λz=>by
   have:=H_ e;rw[←hP,z] at this;exact Rl _ this
  rw[jZ,rJ ne];exact a0
 -- the block's context
 have bz:∀x c,(clo X.env.cells scope.names []).lookup x=some c->X.env.cells.lookup x=some c:=λx c e=>by
  rcases xN (mem_of_lookup e) with z | ⟨z1,z2⟩
  ·cases z
  ·obtain⟨c',aM⟩:=I2.ok.has x (S.free _ z1 rfl);rw[aM] at z2;rw[z2];exact aM
 have fo:Clear X aa H3 C:=by
  refine⟨?_,?_,?_,λx c e z=>?_,λq hq z=>?_⟩
  ·exact I3.hok.fresh (Vk hC.symm)
  ·have:=I3.lt;rw[←hC] at this;exact Te this
  ·have:=I3.sz;rw[←hC] at this;exact this
  ·obtain⟨v,q⟩:=I3.cell x c e;have:=q.lt;rw[←hC,z] at this;exact Rl _ this
  ·have:=H_ (I3.pin q hq).1;rw[←hC,z] at this;exact Rl _ this
 have old:∀b o,s3.heap.get? b=some o->h1.get? b=some o:=λb o e=>by
  have ne:b≠C:=λz=>by have:=H_ e;rw[←hC,z] at this;exact Rl _ this
  exact(ou.2 b ne).trans (f_ _ e)
 have ok:(cxC X scope N' C s3 H3 fp).Ok:=by
  refine⟨I3.ok.mod,S.kind,I3.ok.glob,I3.ok.blt,Vk hC.symm,λx y c e1 e2=>I3.ok.inj x y c (bz x c e1) (bz y c e2),λx hx=>?_,λx c z=>(nomatch z),λz=>I3.ok.hd z,I3.ok.frames,.inl rfl,λb hb=>⟨λz=>?_,λx c e=>(f3 b hb).2.2.2.2.1 x c (bz x c e)⟩,I3.bs,y_ I3.ok.bsz I3.sz,λb o e hb=>?_,λb hb z=>?_,I3.stack,λb hb=>I3.stkFree b hb⟩
  ·-- has
   have dy:(relab scope X.env.scope).names.lookup x=some .cell\/(relab scope X.env.scope).names.lookup x=some .free:=hx
   have mem:∃k,(x,k)∈(relab scope X.env.scope).names/\(k=QE.cell\/k=QE.free):=by
    rcases dy with z | z
    ·exact⟨_,mem_of_lookup z,.inl rfl⟩
    ·exact⟨_,mem_of_lookup z,.inr rfl⟩
   obtain⟨k,hm,hk⟩:=mem;obtain⟨⟨n1,k1⟩,dI,e1⟩:=F_.mp hm;refine Ag (.inl ?_);dsimp only at e1;by_cases hcond:(k1 == QE.free&&X.env.scope.kind == ScopeKind.function&&X.env.scope.names.lookup n1 == some QE.cell)=true
   ·rw[if_pos hcond] at e1;cases e1
    have:k1=.free:=by
     simp only[Qn,beq_iff_eq] at hcond;exact hcond.1.1
    rw[←this];exact dI
   ·rw[if_neg hcond] at e1;cases e1
    rcases hk with rfl | rfl
    ·exact absurd rfl (S.nocell _ dI)
    ·exact dI
  ·obtain⟨o,e,_⟩:=T.obj _ _ fC b hb;have:=H_ e;rw[←hC] at this;have z':b=C:=z;rw[z'] at this;exact Rl _ this
  ·obtain⟨a0,a1,a2,a3,_⟩:=f3 b hb
   rcases a3 with z | z
   ·exact I3.ok.noex b o e z
   ·exact absurd (J_ (H_ e) (y_ I3.ok.bsz z)) (Rl _)
  ·have z':=I3.stkSub b z;obtain⟨a0,a1,a2,_⟩:=f3 b hb
   rcases E_.mp z' with e | e
   ·exact a1 e
   ·exact a2 e
 -- the block's first state
 have I4:Inv (cxC X scope N' C s3 H3 fp) [] (Ql m none++U) H3 { s3 with heap:=h1,toks:=s3.toks+([]:List (Str×b_)).length }:=by
  obtain⟨mo,qP,lA⟩:=I3.loc;refine⟨ok,rfl,I3.bare,Un.kept old,⟨_,gy,λi x v e1 e2 e3=>?_⟩,λx c e=>?_,fo.1,λx c e=>I3.freeC x c (bz x c e),λq hq=>absurd (show q∈([]:List (l_×Obj)) from hq) (by simp),I3.hok.kept old,?_⟩
  ·have hi:m<=i:=by
    by_cases z:m<=i
    ·exact z
    ·rw[Rq (by rw[Qa];omega),RA] at e2;split at e2<;>cases e2
   rw[QX (by rw[Qa];exact hi),Qa] at e2;have eN:N'[i]?=some x:=e1
   have cp:i - m < X.N.length:=by
    have:=(m_.mp eN).1;rw[S.len] at this;omega
   have e4:(N'.drop m)[i - m]?=some x:=by rw[SF];rw[show m+(i - m)=i from by omega];exact eN
   have e5:X.N[i - m]?=some X.N[i - m]:=g_ cp;have e6:((N'.drop m).zip X.N)[i - m]?=some (x,X.N[i - m]):=by rw[R4];exact⟨e4,e5⟩
   have lJ:Vis (relab scope X.env.scope) x:=e3
   rcases S.up _ (B_ e6) with z | ⟨z1,z2⟩
   ·have z':(relab scope X.env.scope).names.lookup x=none:=z
    rcases lJ with y | y | y<;>rw[z'] at y<;>cases y
   ·have ox:x=X.N[i - m]:=z1;have oy:(relab scope X.env.scope).names.lookup x≠some .local:=z2
    have lK:(relab scope X.env.scope).names.lookup x=some .cell\/(relab scope X.env.scope).names.lookup x=some .free:=by
     rcases lJ with y | y | y
     ·exact absurd y oy
     ·exact .inl y
     ·exact .inr y
    obtain⟨c,fJ⟩:=ok.has x lK;have oz:=bz x c fJ
    -- the name in the def's own frame
    have mem:(x,QE.free)∈scope.names:=by
     rcases xN (mem_of_lookup fJ) with y | ⟨y,_⟩
     ·cases y
     ·exact y
    have lL:Vis X.env.scope x:=by
     rcases S.free _ mem rfl with y | y
     ·exact .inr (.inl y)
     ·exact .inr (.inr y)
    obtain⟨u,ru,l⟩:=lA (i - m) x v (by rw[e5,←ox]) e2 lL;refine⟨u,ru,.inr ⟨lK,c,fJ,?_⟩⟩
    rcases l with⟨k,_⟩ | ⟨_,c',e',z'⟩
    ·have k':X.env.scope.names.lookup x=some .local:=k
     rcases S.free _ mem rfl with y | y<;>(have y':X.env.scope.names.lookup x=_:=y;rw[k'] at y';cases y')
    ·rw[oz] at e';cases e';exact z'.keeps old
  ·obtain⟨v,q⟩:=I3.cell x c (bz x c e);exact⟨v,q.keeps old⟩
  ·show(Ql m none++U).length=N'.length;rw[p_,Qa,S.len,I3.len]
 have cV:∀{H':Hp},(∀b∈fp,H' b=none)->∀b∈fp,FpOk (cxC X scope N' C s3 H3 fp) [] H' b:=λ{H'} hn b hb=>by
  refine⟨hn b hb,(ok.exf b hb).1,ok.exfs b hb,.inl hb,(ok.exf b hb).2,λq hq=>absurd (show q∈([]:List (l_×Obj)) from hq) (by simp)⟩
 -- what stands behind the block
 have back:∀{ao:L2.St}{H':Hp}{s':c_},Inv (cxC X scope N' C s3 H3 fp) [] ao H' s'->Inv X aa U H' s'/\Clear X aa H' C:=λ{ao H' s'} J'=>by
  refine⟨I3.call' J'.os J'.base J'.hok J'.bare λb hb=>?_,J'.free,fo.2⟩;obtain⟨a0,a1,a2,a3,a4,a5⟩:=f3 b hb;exact⟨a3,a1,a4,a5⟩
 have cn:∀s4:c_,s4={ s3 with heap:=h1,toks:=s3.toks+([]:List (Str×b_)).length } →
   Sk (r_ X.prog X.w) X.A (.compLoop (.ListComp bh [⟨tg,iter,aY,0⟩] scope pos) 0 (.ref it) (.ref p) (compEnvC scope (clo X.env.cells scope.names []) C X.env))
    (λr s'=>match r with | .ok _=>∃p' H' mm,b_.ref p=.ref p'/\s'.heap.Ns C mm/\Inv X aa U H' s'/\Clear X aa H' C/\Q (.ref p') H' | .error _=>False) s4:=by
  rintro s4 rfl;refine Hf (λn s'=>∃i ao H',Inv (cxC X scope N' C s3 H3 fp) [] ao H' s'/\tn i s'.heap/\(∀b∈fp,H' b=none)/\W i n ao H') ?_ n0 ⟨0,_,_,I4,T.keep _ _ _ fC λb _ o e=>old b o e,λb hb=>(f3 b hb).1,ow⟩;rintro n s5 ⟨i,dk,H5,I5,fD,io,w5⟩;show TurnMeets _ _ _ _ _ _ _ _ _ _ _ _;unfold TurnMeets
  rcases j0 i n dk H5 w5 with⟨stop,qn⟩ | ⟨go,step⟩
  ·refine Qs (T.done (cxC X scope N' C s3 H3 fp) rfl rfl rfl hc i [] s5 dk H5 (λ_ _=>False) I5 (cV io) fD stop) (λr s6 ⟨hr,I6⟩=>?_) λ_ _ z=>z
   subst hr;obtain⟨mm,oA,_⟩:=I6.loc;obtain⟨b1,b2⟩:=back I6;exact⟨p,H5,mm,rfl,oA,b1,b2,qn⟩
  ·refine Qs (T.item (cxC X scope N' C s3 H3 fp) rfl rfl rfl hc i [] s5 dk H5 (λ_ _=>False) I5 (cV io) fD go) (λr s6 ⟨u,hr,h6⟩=>?_) λ_ _ z=>z
   subst hr;refine Qs h6 (λ_ s7 ⟨x,H7,I7,r7,y7,j3,oB⟩=>?_) λ_ _ z=>z
   have oC:=I7.pinned (cV oB) (T.obj _ _ j3);refine Qs (hg C s3 H3 fp _ s7 dk H7 x u _ oC r7 (step x H7 y7)) (λ_ s8 ⟨gz,H8,I8,q8⟩=>?_) λ_ _ z=>z
   refine Qs (ht C s3 H3 fp _ s8 gz H8 _ I8 q8) (λok s9 ⟨H9,I9,q9⟩=>?_) λ_ _ z=>z
   have Vz:∀{lM:L2.St}{Ha:Hp}{sa:c_},Inv (cxC X scope N' C s3 H3 fp) ([]++pinsAt fp s7.heap) lM Ha sa->tn (i+1) sa.heap/\(∀b∈fp,Ha b=none):=λ{lM Ha sa} Ia=>by
    refine⟨T.keep _ _ _ j3 λb hb o e=>(Ia.pin (b,o) (M_ _ (M_ _ (wS hb e)))).1,λb hb=>?_⟩;obtain⟨o,e,d⟩:=T.obj _ _ j3 b hb;exact(Ia.pin (b,o) (M_ _ (M_ _ (wS hb e)))).2.1
   cases ok with
   | false =>
    rw[if_neg j_] at q9;obtain⟨n',fT,w9⟩:=q9;obtain⟨a1,a2⟩:=Vz I9;exact⟨n',fT,i+1,gz,H9,I9.unpinned,a1,a2,w9⟩
   | true =>
    rw[if_pos rfl] at q9;refine Qs (he C s3 H3 fp _ s9 gz H9 _ I9 q9) (λxv oE ⟨y,lN,oF,oG,ag,lO,hl,n',fT,oH⟩=>?_) λ_ _ z=>z
    refine Qs (EX (X:=cxC X scope N' C s3 H3 fp) _ oE gz lN (.ref p) [y] (.ref p) [xv] (λ_ H'=>H'=upd lN p (.lst (ag++[y]))) oF rfl (.cons oG .nil) ⟨p,ag,y,rfl,rfl,lO,hl,rfl⟩) (λ_ qQ ⟨qR,qS,lP,_,oI⟩=>?_) λ_ _ z=>z
    subst oI;obtain⟨a1,a2⟩:=Vz lP;exact⟨n',fT,i+1,gz,_,lP.unpinned,a1,a2,oH⟩
 subst hC;subst jY;subst hP;refine codeAny_compStart_list ?_ (T.self X.A 0 _ _ _ (T.keep _ _ _ fC λb _ o e=>old b o e) ?_)
 ·exact cn _ rfl
 ·exact cn _ rfl
end
section
variable{bh:Qe}{N':List Str}{g:TG}{tt:TT}{te:TE}{wi:TI}
noncomputable def tComp(m:Nat)(wi:TI)(g:TG)(tt:TT)(te:TE):TE:=λU H Q=>wi U H λJ H1=>∀p,H1 p=none->CompW m J g tt te U H1 p Q
theorem Jj(S:CompScope X.env.scope scope X.N N' m)(hc:X.calm=true)(hi:PI X tg iter wi)(hg:∀C s H ex,PG (cxC X scope N' C s H ex) tg g)(ht:∀C s H ex,PTs (cxC X scope N' C s H ex) aY tt)(he:∀C s H ex,PE (cxC X scope N' C s H ex) bh te)(hs:∀x,QP iter X.env x=pure x:=by intros;rfl):PE X (.ListComp bh [⟨tg,iter,aY,0⟩] scope pos) (tComp m wi g tt te):=by
 intro aa s U H Q I h;rw[eval_ListComp];refine TJ (use:=none) rfl hs (B6 λn hn=>I.ok.has n (S.free _ hn rfl)) S.kind S.locals (thn (hi aa s U H _ I h) λxv s1 h1=>thn h1 λim s2 h2=>?_);obtain⟨it,fp,tn,J,H2,e,I2,T,dS,f2,hw⟩:=h2;subst e;refine thn (El (pos:=pos) (iter:=iter) S hc hg ht he I2 T dS f2 hw) λag s3 h3=>thn h3 λc8 s4 h4=>RV h4 λr s5 h5=>?_
 cases r with
 | error x=>exact h5.elim
 | ok fl =>
  obtain⟨p,H5,mm,rfl,hn,I5,cl,q⟩:=h5;exact⟨mm,hn,λh' fK=>⟨.ref p,H5,Inv.clear I5 cl fK,rfl,q⟩⟩
theorem DP(S:CompScope X.env.scope scope X.N N' m)(hc:X.calm=true)(hN:X.N.Nodup)(bC:X.N[i]?=some y)(hy:X.env.scope.names.lookup y=some .local)(hi:PI X tg iter wi)(hg:∀C s H ex,PG (cxC X scope N' C s H ex) tg g)(ht:∀C s H ex,PTs (cxC X scope N' C s H ex) aY tt)(he:∀C s H ex,PE (cxC X scope N' C s H ex) bh te)(gA:QZ (.ListComp bh [⟨tg,iter,aY,0⟩] scope pos) (some (.Name y py)) cG.line X.env=pure true)(hs:∀x,QP iter X.env x=pure x:=by intros;rfl):PS X (.Assign [.Name y py] (.ListComp bh [⟨tg,iter,aY,0⟩] scope pos) cG) (tAsg (tComp m wi g tt te) (gName i)):=by
 intro aa s U H D I h;rw[exec_Assign_Name_used _ _ _ _ gA];refine a_ (UW (a_ ?_));show q_ _ X.A (do let _ ←comprehension (.ListComp bh [⟨tg,iter,aY,0⟩] scope pos) scope X.env _ (newList []) false (Qf iter X.env) (some (Td (.Name y py) X.env))) _ _ s
 refine a_ (thn (TJ (use:=some (Td (.Name y py) X.env)) (Q:=λ_ s'=>SP X aa D .next s') rfl hs (B6 λn hn=>I.ok.has n (S.free _ hn rfl)) S.kind S.locals
  (thn (hi aa s U H _ I h) λxv s1 h1=>thn h1 λim s2 h2=>?_)) λ_ s' hq=>d_ (d_ hq))
 obtain⟨it,fp,tn,J,H2,e,I2,T,dS,f2,hw⟩:=h2;subst e;refine thn (El (pos:=pos) (iter:=iter) S hc hg ht he I2 T dS f2 hw) λag s3 h3=>thn h3 λc8 s4 h4=>RV h4 λr s5 h5=>?_
 cases r with
 | error x=>exact h5.elim
 | ok fl =>
  obtain⟨p,H5,mm,rfl,hn,I5,cl,q⟩:=h5;show q_ _ X.A (Td (.Name y py) X.env (.ref p)) _ _ s5;refine Ve (BA (v:=.ref p) I5 hN bC (.inl hy) rfl (λs6 I6 ⟨a,oJ,ha⟩=>?_) (.inr hy))
  have fB:c8.locals≠a:=by
   rcases ha with rfl | ha
   ·exact cl.2.1
   ·exact λz=>cl.2.2.2.1 y a ha z.symm
  refine⟨mm,hn.sameBut oJ fB,λh' fK=>?_⟩;have oK:Clear X aa H5 c8.locals:=cl;exact⟨_,H5,Inv.clear I6 oK fK,q⟩
end
noncomputable def inC{α:Type}(m:Nat)(g:M α):M α:=λY=>match g (Ql m none++Y) with
 | some (a,af)=>some (a,af.drop m)
 | none=>none
noncomputable def compM(aG:D->M Unit)(ts:M Bool)(el:M D):List D->M (List D)
 | []=>ret []
 | d::ds=>bnd (aG d) λ_=>bnd ts λb=>if b then bnd el λx=>bnd (compM aG ts el ds) λr=>ret (x::r) else compM aG ts el ds
noncomputable def compO(m:Nat)(it:M (List D))(aG:D->M Unit)(ts:M Bool)(el:M D):M (List D):=bnd it λds=>if ds.length<=lim then inC m (compM aG ts el ds) else λ_=>none
noncomputable def bUp(m:Nat)(B:BB):BB:=λi=>if i < m then none else B (i - m)
theorem Nm{α:Type}{g:M α}{a:α}(h:inC m g Y=some (a,af)):∃ac,g (Ql m none++Y)=some (a,ac)/\af=ac.drop m:=by
 unfold inC at h;cases e:g (Ql m none++Y) with
 | none=>rw[e] at h;cases h
 | some q=>obtain⟨b,ac⟩:=q;rw[e] at h;cases h;exact⟨ac,rfl,rfl⟩
section
variable{K:PySem.W.Frag}{B:BB}{H:Hp}{ao:L2.St}
theorem uW{α:Type}{l:List (Option α)}{m:Nat}{a:α}(h:(Ql m (none:Option α)++l)[i]?=some (some a)):m<=i/\l[i - m]?=some (some a):=by
 by_cases hi:m<=i
 ·rw[QX (by rw[Qa];exact hi),Qa] at h;exact⟨hi,h⟩
 ·rw[Rq (by rw[Qa];omega),RA] at h;split at h<;>cases h
theorem Co{α:Type}{l:List (Option α)}{m:Nat}(hi:m<=i):(Ql m (none:Option α)++l)[i]?=l[i - m]?:=by
 rw[QX (by rw[Qa];exact hi),Qa]
theorem Rep.up(r:Rep K B G I H U Y)(m:Nat):Rep K (bUp m B) G I H (Ql m none++U) (Ql m none++Y) where
 iH:=r.iH
 gH:=r.gH
 len:=by rw[p_,p_,Qa,Qa,r.len]
 slot:=λi q e=>by
  obtain⟨hi,e1⟩:=uW e;obtain⟨v,e2,e3⟩:=r.slot _ q e1;exact⟨v,by rw[Co hi];exact e2,e3⟩
 dist:=λi j q q' v e e' mm j4 s1 s2=>by
  obtain⟨hi,e1⟩:=uW e;obtain⟨hj,e2⟩:=uW e';have:=r.dist _ _ q q' v e1 e2 mm j4 (uW s1).2 (uW s2).2;omega
 bor:=λi ds e=>by
  obtain⟨hi,e1⟩:=uW e;rw[Co hi,r.bor _ ds e1];unfold bUp;rw[if_neg (by omega)]
theorem Rep.down(r:Rep K (bUp m B) G I H ao af)(hs:ao.drop m=U):Rep K B G I H U (af.drop m):=by
 subst hs
 exact {
  iH:=r.iH,gH:=r.gH
  len:=by rw[RS,RS,r.len]
  slot:=λi q e=>by
   rw[SF] at e;obtain⟨v,e2,e3⟩:=r.slot _ q e;exact⟨v,by rw[SF];exact e2,e3⟩
  dist:=λi j q q' v e e' mm j4 s1 s2=>by
   rw[SF] at e e' s1 s2;have:=r.dist _ _ q q' v e e' mm j4 s1 s2;omega
  bor:=λi ds e=>by
   rw[SF] at e ⊢;rw[r.bor _ ds e];unfold bUp;rw[if_neg (by omega)]
   congr 1
   omega }
theorem Rep.guard(r:Rep K B G I H U Y){p:l_}(h:H p=none)(o:HO):Rep K B (upd G p o) I (upd H p o) U Y where
 iH:=r.iH.trans (sy h o)
 gH:=By r.gH o
 len:=r.len
 slot:=λi q e=>by
  obtain⟨v,e1,e2⟩:=r.slot i q e;refine⟨v,e1,?_⟩
  have mt:∀ds,Mt K G I H ds v->Mt K (upd G p o) I (upd H p o) ds v:=λds hh=>by
   obtain⟨p2,xs,h1,h2,h3,h4,h5⟩:=hh;have ne:p2≠p:=sZ h2 h;exact⟨p2,xs,h1,by rw[rJ ne];exact h2,h3,by rw[rJ ne];exact h4,h5⟩
  cases q with
  | val d=>exact e2
  | dic ds =>
   obtain⟨p2,xs,h1,h2,h3,h4,h5⟩:=e2;have ne:p2≠p:=sZ h2 h;exact⟨p2,xs,h1,by rw[rJ ne];exact h2,h3,by rw[rJ ne];exact h4,h5⟩
  | own ds=>exact mt ds e2
  | bor ds=>exact mt ds e2
  | rdc ds =>
   obtain⟨p2,xs,f1,f2,f3⟩:=e2;have ne:p2≠p:=sZ (r.gH _ _ f2) h;exact⟨p2,xs,f1,by rw[rJ ne];exact f2,f3⟩
  | fro ds =>
   obtain⟨p2,xs,f1,f2,f3,f4⟩:=e2;have ne:p2≠p:=sZ (r.iH _ _ f2) h;exact⟨p2,xs,f1,f2,by rw[rJ ne];exact f3,f4⟩
 dist:=r.dist
 bor:=r.bor
theorem Rep.reguard{p:l_}{o':HO}(r:Rep K B (upd G p o) I H U Y)(hi:I p=none)(ho:∀xs,o≠.dT xs:=by intro xs z;cases z):Rep K B (upd G p o') I (upd H p o') U Y where
 iH:=λb u q=>by
  have ne:b≠p:=λz=>by subst z;rw[hi] at q;cases q
  rw[rJ ne];exact r.iH b u q
 gH:=λb u q=>by
  by_cases e:b=p
  ·subst e;rw[r9] at q ⊢;exact q
  ·rw[rJ e] at q ⊢;exact r.gH b u (by rw[rJ e];exact q)
 len:=r.len
 slot:=λi q e=>by
  obtain⟨v,e1,e2⟩:=r.slot i q e;refine⟨v,e1,?_⟩
  have mt:∀ds,Mt K (upd G p o) I H ds v->Mt K (upd G p o') I (upd H p o') ds v:=λds hh=>by
   obtain⟨p2,xs,h1,h2,h3,h4,h5⟩:=hh;have ne:p2≠p:=λz=>by subst z;rw[r9] at h4;cases h4
   rw[rJ ne] at h4;exact⟨p2,xs,h1,by rw[rJ ne];exact h2,h3,by rw[rJ ne];exact h4,h5⟩
  cases q with
  | val d=>exact e2
  | dic ds =>
   obtain⟨p2,xs,h1,h2,h3,h4,h5⟩:=e2;have ne:p2≠p:=λz=>by subst z;rw[r9] at h4;cases h4
   rw[rJ ne] at h4;exact⟨p2,xs,h1,by rw[rJ ne];exact h2,h3,by rw[rJ ne];exact h4,h5⟩
  | own ds=>exact mt ds e2
  | bor ds=>exact mt ds e2
  | rdc ds =>
   obtain⟨p2,xs,f1,f2,f3⟩:=e2;have ne:p2≠p:=λz=>by rw[z,r9] at f2;cases f2;exact ho _ rfl
   rw[rJ ne] at f2;exact⟨p2,xs,f1,by rw[rJ ne];exact f2,f3⟩
  | fro ds =>
   obtain⟨p2,xs,f1,f2,f3,f4⟩:=e2;have ne:p2≠p:=λz=>by rw[z,hi] at f2;cases f2
   rw[rJ ne] at f3;exact⟨p2,xs,f1,f2,by rw[rJ ne];exact f3,f4⟩
 dist:=r.dist
 bor:=r.bor
theorem Rep.unguard{p:l_}(r:Rep K B (upd G p o) I H U Y)(hg:G p=none)(ho:∀xs,o≠.dT xs:=by intro xs z;cases z):Rep K B G I H U Y/\Apart U Y p:=by
 have ap:Apart U Y p:=λj q e mm s=>by
  obtain⟨v,e1,e2⟩:=r.slot j q e;obtain⟨p2,xs,h1,h2,h3,h4⟩:=e2.mt mm;rw[e1,h1] at s;cases s;rw[r9] at h4;cases h4
 refine⟨{ iH:=r.iH,gH:=(sy hg o).trans r.gH,len:=r.len,slot:=λi q e=>?_,dist:=r.dist,bor:=r.bor },ap⟩;obtain⟨v,e1,e2⟩:=r.slot i q e;refine⟨v,e1,?_⟩
 have mt:∀ds,Mt K (upd G p o) I H ds v->Mt K G I H ds v:=λds hh=>by
  obtain⟨p2,xs,h1,h2,h3,h4,h5⟩:=hh;have ne:p2≠p:=λz=>by subst z;rw[r9] at h4;cases h4
  rw[rJ ne] at h4;exact⟨p2,xs,h1,h2,h3,h4,h5⟩
 cases q with
 | val d=>exact e2
 | dic ds =>
  obtain⟨p2,xs,h1,h2,h3,h4,h5⟩:=e2;have ne:p2≠p:=λz=>by subst z;rw[r9] at h4;cases h4
  rw[rJ ne] at h4;exact⟨p2,xs,h1,h2,h3,h4,h5⟩
 | own ds=>exact mt ds e2
 | bor ds=>exact mt ds e2
 | rdc ds =>
  obtain⟨p2,xs,f1,f2,f3⟩:=e2;have ne:p2≠p:=λz=>by rw[z,r9] at f2;cases f2;exact ho _ rfl
  rw[rJ ne] at f2;exact⟨p2,xs,f1,f2,f3⟩
 | fro ds =>
  obtain⟨p2,xs,f1,f2,f3,f4⟩:=e2;have ne:p2≠p:=λz=>by rw[z,r9] at f3;cases f3
  rw[rJ ne] at f3;exact⟨p2,xs,f1,f2,f3,f4⟩
theorem Grow.unguard{p:l_}(g:Grow (upd G p o) I I'):Grow G I I':=⟨g.up,λb u q=>by
 rcases g.new b u q with z | z
 ·exact .inl z
 ·by_cases e:b=p
  ·subst e;rw[r9] at z;cases z
  ·rw[rJ e] at z;exact .inr z⟩
theorem Grow.keepsOut{p:l_}(g:Grow (upd G p o) I I')(hi:I p=none):I' p=none:=by
 cases e:I' p with
 | none=>rfl
 | some u =>
  rcases g.new p u e with z | z
  ·rw[hi] at z;cases z
  ·rw[r9] at z;cases z
end
section
variable{B:BB}{bh:Qe}{N':List Str}
def TDs(X:Cx)(B:BB)(aY:List Qe)(g:M Bool):Prop:=PTs X aY (tTD X.K B g)
theorem sD:TDs X B [] (ret true):=λaa s U H Q I h=>GJ aa s U H Q I (by
 obtain⟨G,I,Y,b,af,r,e1,k⟩:=h;cases e1
 exact k _ _ r (Grow.refl _ _))
theorem sU{c:Qe}{g:M Bool}(h:TD X B c g):TDs X B [c] g:=Nh h
theorem zc{K:PySem.W.Frag}:∀U H Q,tO K B (compO m it aG ts el) U H Q->tComp m (tI K B it) (tGD K (bUp m B) m aG) (tTD K (bUp m B) ts) (tD K (bUp m B) el) U H Q:=λU H Q q=>by
 obtain⟨G,I,Y,rs,af,r,e1,k⟩:=q;obtain⟨ds,ac,e2,e3⟩:=rG e1;by_cases fq:ds.length<=lim
 case neg=>rw[if_neg fq] at e3;cases e3
 rw[if_pos fq] at e3;obtain⟨cM,e4,rfl⟩:=Nm e3;refine⟨G,I,Y,ds,ac,r,e2,λJ H1 I1 r1 g1 y p hp=>?_⟩;have gp:=r1.gFree hp;have ip:=r1.iFree hp
 refine⟨λi n ao H'=>∃ag ad I2 ai aE,Rep K (bUp m B) (upd G p (.lst ag)) I2 H' ao ai/\Grow G I1 I2/\I2 p=none/\IsA K I2 ad ag/\ao.drop m=U/\compM aG ts el (ds.drop i) ai=some (aE,cM)/\ad++aE=rs/\ad.length<=i/\i<=ds.length/\n=ds.length - i,
  ⟨ds.length,[],[],I1,_,rs,(r1.up m).guard hp _,Grow.refl _ _,ip,IsA.nil,by rw[List.drop_append_of_le_length (by simp),RH (by simp),U_],by simpa using e4,rfl,Qp _,Qp _,rfl⟩,?_⟩
 rintro i n aX H2 ⟨ag,ad,I2,ai,aE,r2,g2,j5,ha,hs,e5,rfl,qT,hi,rfl⟩;obtain⟨yg,ys⟩:=y i H2 (g2.up.trans r2.iH);by_cases bF:i < ds.length
 ·have hd:ds.drop i=ds[i]::ds.drop (i+1):=P_ bF;obtain⟨go,yld⟩:=yg ds[i] (g_ bF);rw[hd,compM] at e5;obtain⟨u,aO,e6,e7⟩:=rG e5;obtain⟨b,aQ,e8,e9⟩:=rG e7;refine .inr ⟨go,λx H3 hy=>?_⟩
  have main:∀I3,Rep K (bUp m B) (upd G p (.lst ag)) I3 H3 aX ai->Grow (upd G p (.lst ag)) I2 I3->Is K I3 ds[i] x->tGD K (bUp m B) m aG x aX H3 λaX H3=>tTD K (bUp m B) ts aX H3 λb H4 =>
    if b=true then tD K (bUp m B) el aX H4 λy H5=>∃ag,H5 p=some (.lst ag)/\ag.length < x_/\∃n',n' < ds.length - i/\∃acc_1 ad_1 I2 ai rest_1,Rep K (bUp m B) (upd G p (.lst acc_1)) I2 (upd H5 p (.lst (ag++[y]))) aX ai/\Grow G I1 I2/\I2 p=none/\IsA K I2 ad_1 acc_1/\aX.drop m=U/\compM aG ts el (ds.drop (i+1)) ai=some (rest_1,cM)/\ad_1++rest_1=ad++aE/\ad_1.length<=i+1/\i+1<=ds.length/\n'=ds.length - (i+1)
    else ∃n',n' < ds.length - i/\∃ag ad_1 I2 ai rest_1,Rep K (bUp m B) (upd G p (.lst ag)) I2 H4 aX ai/\Grow G I1 I2/\I2 p=none/\IsA K I2 ad_1 ag/\aX.drop m=U/\compM aG ts el (ds.drop (i+1)) ai=some (rest_1,cM)/\ad_1++rest_1=ad++aE/\ad_1.length<=i+1/\i+1<=ds.length/\n'=ds.length - (i+1):=by
   intro I3 r3 g3 hx;refine⟨_,I3,ai,ds[i],aO,r3,hx,e6,λlF H4 I4 r4 g4 oM=>⟨_,I4,aO,b,aQ,r4,e8,λH5 I5 r5 g5=>?_⟩⟩;have iC:=g3.trans (g4.trans g5);have fK:lF.drop m=U:=oM.trans hs;cases b with
   | false =>
    refine iteF ⟨ds.length - (i+1),by omega,ag,ad,I5,aQ,aE,r5,g2.trans iC.unguard,iC.keepsOut j5,ha.mono iC.up,fK,by simpa using e9,rfl,by omega,bF,rfl⟩
   | true =>
    simp only[if_true] at e9;obtain⟨xd,dG,f1,f2⟩:=rG e9;obtain⟨rr,gB,f3,f4⟩:=rG f2;cases f4;refine iteT ⟨_,I5,aQ,xd,dG,r5,f1,λyv H6 I6 r6 g6 oN=>⟨ag,r6.gH _ _ r9,?_,ds.length - (i+1),by omega,ag++[yv],ad++[xd],I6,dG,rr,?_⟩⟩
    ·rw[←ha.length];have h1:lim < x_:=by rw[Q7];decide
     omega
    ·have j6:=iC.trans g6;have lQ:=j6.keepsOut j5;exact⟨r6.reguard lQ,g2.trans j6.unguard,lQ,IsA.append (ha.mono j6.up) (IsA.cons oN IsA.nil),fK,f3,by rw[Ru];rfl,by rw[p_,Sv];omega,bF,rfl⟩
  rcases yld x H3 hy with⟨rfl,hx⟩ | ⟨p2,es,xs,dE,rfl,cZ,rfl,hx⟩
  ·exact main I2 r2 (Grow.refl _ _) (hx.mono g2.up)
  ·refine main _ (r2.alloc cZ _) (r2.growAlloc cZ _) ?_;rw[dE];exact Is.tup r9 ((hx.mono g2.up).mono (sy (r2.iFree cZ) _))
 ·have cp:i=ds.length:=by omega
  subst cp;rw[List.drop_length] at e5;cases e5;rw[Q0] at k;refine .inl ⟨ys (w_ _),?_⟩;have rd:=Rep.down r2 hs;obtain⟨ru,ap⟩:=rd.unguard gp;exact k p ag H2 I2 ru (g1.trans g2) (r2.gH _ _ r9) j5 gp ap ha
theorem su(S:CompScope X.env.scope scope X.N N' m)(hc:X.calm=true)(hi:ITD X B tg iter it)(hg:∀C s H ex,GD (cxC X scope N' C s H ex) (bUp m B) m tg aG)(ht:∀C s H ex,TDs (cxC X scope N' C s H ex) (bUp m B) aY ts)(he:∀C s H ex,ED (cxC X scope N' C s H ex) (bUp m B) bh el)(hs:∀x,QP iter X.env x=pure x:=by intros;rfl):EO X B (.ListComp bh [⟨tg,iter,aY,0⟩] scope pos) (compO m it aG ts el):=PE.imp (Jj (g:=tGD X.K (bUp m B) m aG) (tt:=tTD X.K (bUp m B) ts) (te:=tD X.K (bUp m B) el) S hc hi hg ht he hs) zc
theorem u8(S:CompScope X.env.scope scope X.N N' m)(hc:X.calm=true)(hN:X.N.Nodup)(hi:ITD X B tg iter it)(hg:∀C s H ex,GD (cxC X scope N' C s H ex) (bUp m B) m tg aG)(ht:∀C s H ex,TDs (cxC X scope N' C s H ex) (bUp m B) aY ts)(he:∀C s H ex,ED (cxC X scope N' C s H ex) (bUp m B) bh el)(bC:X.N[i]?=some y:=by rfl)(hy:X.env.scope.names.lookup y=some .local:=by rfl)(gA:QZ (.ListComp bh [⟨tg,iter,aY,0⟩] scope pos) (some (.Name y py)) cG.line X.env=pure true:=by rfl)(hs:∀x,QP iter X.env x=pure x:=by intros;rfl):SD X B (.Assign [.Name y py] (.ListComp bh [⟨tg,iter,aY,0⟩] scope pos) cG) (setV i (frz (compO m it aG ts el))):=PS.imp (DP (g:=tGD X.K (bUp m B) m aG) (tt:=tTD X.K (bUp m B) ts) (te:=tD X.K (bUp m B) el) S hc hN bC hy hi hg ht he gA hs) λE U H q=>by
 obtain⟨G,I,Y,f,af,r,e1,k⟩:=q;obtain⟨d1,ac,e2,e3⟩:=rG e1;obtain⟨d2,ai,e4,e5⟩:=rG e3;cases e5;obtain⟨hl,rfl⟩:=uJ e4;obtain⟨ds,aO,e6,e7⟩:=rG e2;cases e7;refine zc U H _ ⟨G,I,Y,ds,_,r,e6,λp xs H1 I1 r1 g1 h1 h2 h3 h4 h5=>?_⟩;refine k _ H1 _ ((r1.freeze h1 h2 h4).store (by rw[r1.len];exact hl) (Is.lst (RdK.of r9) (h5.mono (sy h2 _))) (λm=>nomatch m) (λ_ z=>nomatch z)) (g1.trans (growFreeze h2 h3))
end
mutual
noncomputable def deq:D->D->Bool
 | .non,.non=>true
 | .bl a,.bl b=>a == b
 | .bl a,.int j=>(if a then(1:Int) else 0) == j
 | .int i,.bl b=>i == (if b then(1:Int) else 0)
 | .int i,.int j=>i == j
 | .str x,.str y=>x == y
 | .tup xs,.tup ys=>deqA xs ys
 | .lst xs,.lst ys=>deqA xs ys
 | _,_=>false
noncomputable def deqA:List D->List D->Bool
 | [],[]=>true
 | x::xs,y::ys=>deq x y&&deqA xs ys
 | _,_=>false
end
mutual
noncomputable def dep:D->Nat
 | .tup xs=>depA xs+1
 | .lst xs=>depA xs+1
 | _=>0
noncomputable def depA:List D->Nat
 | []=>0
 | x::xs=>max (dep x) (depA xs)
end
mutual
theorem vQ:∀a:D,deq a a=true
 | .non=>by rw[deq]
 | .bl b=>by rw[deq];exact beq_self_eq_true b
 | .int b=>by rw[deq];exact beq_self_eq_true b
 | .str b=>by rw[deq];exact beq_self_eq_true b
 | .tup xs=>by rw[deq];exact vE xs
 | .lst xs=>by rw[deq];exact vE xs
theorem vE:∀a:List D,deqA a a=true
 | []=>by rw[deqA]
 | x::xs=>by rw[deqA,vQ x,vE xs];rfl
end
theorem tz:∀{xs:List D}{x:D},x∈xs->dep x<=depA xs
 | y::ys,x,h=>by
  rw[depA]
  rcases E_.mp h with rfl | h
  ·omega
  ·have:=tz h;omega
theorem xC:∀(xs ys:List D),((Qw (min xs.length ys.length)).all (λj=>deq (xs.getD j .non) (ys.getD j .non))&&(xs.length == ys.length))=deqA xs ys
 | [],[]=>by rw[deqA];rfl
 | [],y::ys=>by rw[deqA]<;>simp
 | x::xs,[]=>by rw[deqA]<;>simp
 | x::xs,y::ys=>by
  have ih:=xC xs ys;have e:min (x::xs).length (y::ys).length=min xs.length ys.length+1:=by simp only[Qi];omega
  rw[deqA,←ih,e,RN,QY,List.all_map]
  have e2:((x::xs).length == (y::ys).length)=(xs.length == ys.length):=by
   simp only[Qi];cases h:xs.length == ys.length
   ·simp at h ⊢;omega
   ·simp at h ⊢;omega
  rw[e2,Bool.and_assoc];rfl
theorem Iz{xs:List D}(h:xs.length≠ys.length):deqA xs ys=false:=by
 rw[←xC];have:(xs.length == ys.length)=false:=by simpa using h
 rw[this,Bool.and_false]
section
variable{H:Hp}{s:c_}
theorem IsA.getU{K:PySem.W.Frag}(h:IsA K I ds xs)(r:Vals xs us)(hj:j < us.toArray.size):∃v,RelV v us.toArray[j]/\Is K I (ds.getD j .non) v:=by
 have h1:=h.length;have h2:=r.length;have br:j < us.length:=by simpa using hj
 have hd:ds[j]?=some ds[j]:=g_ (by omega);obtain⟨v,e1,e2⟩:=h.get hd;obtain⟨u,e3,e4⟩:=r.get e1
 have e5:us.toArray[j]=u:=by
  rw[g_ br] at e3;simpa using e3
 refine⟨v,by rw[e5];exact e4,?_⟩;rw[h_,hd];exact e2
theorem rdL{K:PySem.W.Frag}(h:RdK K H a xs):SqL K H a xs:=h.sq
mutual
theorem vz(I:Inv X aa U H s):∀{a b:D}{v:V},Is X.K H a v->Is X.K H b v->a=b
 | .non,b,v,h,h'=>by
  have e:=tx h;subst e;cases b<;>first | rfl | (rw[Is] at h';obtain⟨_,_,e,_⟩:=h';cases e) | (rw[Is] at h';cases h')
 | .bl x,b,v,h,h'=>by
  have e:=sK h;subst e;cases b<;>first | (rw[Is] at h';obtain⟨_,_,e,_⟩:=h';cases e) | (rw[Is] at h';cases h';rfl) | (rw[Is] at h';cases h')
 | .int x,b,v,h,h'=>by
  have e:=rM h;subst e;cases b<;>first | (rw[Is] at h';obtain⟨_,_,e,_⟩:=h';cases e) | (rw[Is] at h';cases h';rfl) | (rw[Is] at h';cases h')
 | .str x,b,v,h,h'=>by
  have e:=tu h;subst e;cases b<;>first | (rw[Is] at h';obtain⟨_,_,e,_⟩:=h';cases e) | (rw[Is] at h';cases h';rfl) | (rw[Is] at h';cases h')
 | .tup ds,b,v,h,h'=>by
  obtain⟨p,xs,rfl,h1,h2⟩:=rZ h;cases b with
  | tup es =>
   obtain⟨p',bb,e,h3,h4⟩:=rZ h';cases e;have:=I.tuple_inj h1 h3;subst this;rw[AB I h2 h4]
  | lst es =>
   obtain⟨p',bb,e,h3,h4⟩:=sd h';cases e;obtain⟨i1,_,t1,_⟩:=I.tuple h1;obtain⟨i2,_,t2,_⟩:=I.list (rdL h3);exact absurd rfl (ne_of_list_tuple t2.isList t1)
  | _=>rw[Is] at h';cases h'
 | .lst ds,b,v,h,h'=>by
  obtain⟨p,xs,rfl,h1,h2⟩:=sd h;cases b with
  | lst es =>
   obtain⟨p',bb,e,h3,h4⟩:=sd h';cases e;have:=I.list_inj (rdL h1) (rdL h3);subst this;rw[AB I h2 h4]
  | tup es =>
   obtain⟨p',bb,e,h3,h4⟩:=rZ h';cases e;obtain⟨i1,_,t1,_⟩:=I.tuple h3;obtain⟨i2,_,t2,_⟩:=I.list (rdL h1);exact absurd rfl (ne_of_list_tuple t2.isList t1)
  | _=>rw[Is] at h';cases h'
theorem AB(I:Inv X aa U H s):∀{a b:List D}{v:List V},IsA X.K H a v->IsA X.K H b v->a=b
 | [],b,v,h,h'=>by
  have e:=h.nil_inv;subst e;cases b with
  | nil=>rfl
  | cons d r=>obtain⟨_,_,e,_⟩:=h'.cons_inv;cases e
 | d::ds,b,v,h,h'=>by
  obtain⟨x,r,rfl,h1,h2⟩:=h.cons_inv;cases b with
  | nil=>have:=h'.nil_inv;cases this
  | cons e es =>
   obtain⟨x',r',e',h3,h4⟩:=h'.cons_inv;cases e';rw[vz I h1 h3,AB I h2 h4]
end
open PySem.SeqAt in
theorem CJ(I:Inv X aa U H s)(hu:A.units < Q8){a b:D}{x y:V}{v:b_}(ha:Is X.K H a x)(hb:Is X.K H b y)(ru:RelV x u)(rv:RelV y v)(ht:∀xs ys,a=.tup xs->b=.tup ys->RcAt A s u v (deq a b)/\V6 A s u v (deq a b)/\Vy A s u v (!deq a b))(hl:∀xs ys,a=.lst xs->b=.lst ys->RcAt A s u v (deq a b)/\V6 A s u v (deq a b)/\Vy A s u v (!deq a b)):RcAt A s u v (deq a b)/\V6 A s u v (deq a b)/\Vy A s u v (!deq a b):=by
 cases a with
 | non =>
  have e:=tx ha;subst e;cases ru;cases b with
  | non=>have e:=tx hb;subst e;cases rv;rw[deq];exact⟨.none_none,.same _,.none_none⟩
  | bl j=>have e:=sK hb;subst e;cases rv;rw[deq]<;>first | exact⟨.none_bool _,.none_bool _,.none_bool _⟩ | (intros;contradiction)
  | int j=>have e:=rM hb;subst e;obtain⟨t,rfl⟩:=rv;rw[deq]<;>first | exact⟨.none_int _ _,.none_int _ _,.none_int _ _⟩ | (intros;contradiction)
  | str j=>have e:=tu hb;subst e;obtain⟨t,rfl⟩:=rv;rw[deq]<;>first | exact⟨.none_str _ _,.none_str _ _,.none_str _ _⟩ | (intros;contradiction)
  | tup j =>
   obtain⟨p,xs,rfl,h1,h2⟩:=rZ hb;cases rv;obtain⟨ae,_,t,_⟩:=I.tuple h1;rw[deq]<;>first | exact⟨.none_tuple t hu,.none_tuple t hu,.none_tuple t hu⟩ | (intros;contradiction)
  | lst j =>
   obtain⟨p,xs,rfl,h1,h2⟩:=sd hb;cases rv;obtain⟨ae,_,t,_⟩:=I.list (rdL h1);have t:=t.isList;rw[deq]<;>first | exact⟨.none_list t hu,.none_list t hu,.none_list t hu⟩ | (intros;contradiction)
 | bl i =>
  have e:=sK ha;subst e;cases ru;cases b with
  | non=>have e:=tx hb;subst e;cases rv;rw[deq]<;>first | exact⟨.bool_none _,.bool_none _,.bool_none _⟩ | (intros;contradiction)
  | bl j=>have e:=sK hb;subst e;cases rv;rw[deq];exact⟨.bool_bool _ _,.bool_bool _ _,.bool_bool _ _⟩
  | int j=>have e:=rM hb;subst e;obtain⟨t,rfl⟩:=rv;rw[deq];exact⟨.bool_int _ _ _,.bool_int _ _ _,.bool_int _ _ _⟩
  | str j=>have e:=tu hb;subst e;obtain⟨t,rfl⟩:=rv;rw[deq]<;>first | exact⟨.bool_str _ _ _,.bool_str _ _ _,.bool_str _ _ _⟩ | (intros;contradiction)
  | tup j =>
   obtain⟨p,xs,rfl,h1,h2⟩:=rZ hb;cases rv;obtain⟨ae,_,t,_⟩:=I.tuple h1;rw[deq]<;>first | exact⟨.bool_tuple _ t hu,.bool_tuple _ t hu,.bool_tuple _ t hu⟩ | (intros;contradiction)
  | lst j =>
   obtain⟨p,xs,rfl,h1,h2⟩:=sd hb;cases rv;obtain⟨ae,_,t,_⟩:=I.list (rdL h1);have t:=t.isList;rw[deq]<;>first | exact⟨.bool_list _ t hu,.bool_list _ t hu,.bool_list _ t hu⟩ | (intros;contradiction)
 | int i =>
  have e:=rM ha;subst e;obtain⟨t0,rfl⟩:=ru;cases b with
  | non=>have e:=tx hb;subst e;cases rv;rw[deq]<;>first | exact⟨.int_none _ _,.int_none _ _,.int_none _ _⟩ | (intros;contradiction)
  | bl j=>have e:=sK hb;subst e;cases rv;rw[deq];exact⟨.int_bool _ _ _,.int_bool _ _ _,.int_bool _ _ _⟩
  | int j=>have e:=rM hb;subst e;obtain⟨t,rfl⟩:=rv;rw[deq];exact⟨.int_int _ _ _ _,.int_int _ _ _ _,.int_int _ _ _ _⟩
  | str j=>have e:=tu hb;subst e;obtain⟨t,rfl⟩:=rv;rw[deq]<;>first | exact⟨.int_str _ _ _ _,.int_str _ _ _ _,.int_str _ _ _ _⟩ | (intros;contradiction)
  | tup j =>
   obtain⟨p,xs,rfl,h1,h2⟩:=rZ hb;cases rv;obtain⟨ae,_,t,_⟩:=I.tuple h1;rw[deq]<;>first | exact⟨.int_tuple _ _ t hu,.int_tuple _ _ t hu,.int_tuple _ _ t hu⟩ | (intros;contradiction)
  | lst j =>
   obtain⟨p,xs,rfl,h1,h2⟩:=sd hb;cases rv;obtain⟨ae,_,t,_⟩:=I.list (rdL h1);have t:=t.isList;rw[deq]<;>first | exact⟨.int_list _ _ t hu,.int_list _ _ t hu,.int_list _ _ t hu⟩ | (intros;contradiction)
 | str i =>
  have e:=tu ha;subst e;obtain⟨t0,rfl⟩:=ru;cases b with
  | non=>have e:=tx hb;subst e;cases rv;rw[deq]<;>first | exact⟨.str_none _ _,.str_none _ _,.str_none _ _⟩ | (intros;contradiction)
  | bl j=>have e:=sK hb;subst e;cases rv;rw[deq]<;>first | exact⟨.str_bool _ _ _,.str_bool _ _ _,.str_bool _ _ _⟩ | (intros;contradiction)
  | int j=>have e:=rM hb;subst e;obtain⟨t,rfl⟩:=rv;rw[deq]<;>first | exact⟨.str_int _ _ _ _,.str_int _ _ _ _,.str_int _ _ _ _⟩ | (intros;contradiction)
  | str j=>have e:=tu hb;subst e;obtain⟨t,rfl⟩:=rv;rw[deq];exact⟨.str_str _ _ _ _,.str_str _ _ _ _,.str_str _ _ _ _⟩
  | tup j =>
   obtain⟨p,xs,rfl,h1,h2⟩:=rZ hb;cases rv;obtain⟨ae,_,t,_⟩:=I.tuple h1;rw[deq]<;>first | exact⟨.str_tuple _ _ t hu,.str_tuple _ _ t hu,.str_tuple _ _ t hu⟩ | (intros;contradiction)
  | lst j =>
   obtain⟨p,xs,rfl,h1,h2⟩:=sd hb;cases rv;obtain⟨ae,_,t,_⟩:=I.list (rdL h1);have t:=t.isList;rw[deq]<;>first | exact⟨.str_list _ _ t hu,.str_list _ _ t hu,.str_list _ _ t hu⟩ | (intros;contradiction)
 | tup i =>
  obtain⟨q,ys,rfl,g1,g2⟩:=rZ ha;cases ru;obtain⟨bu,_,t',_⟩:=I.tuple g1;cases b with
  | non=>have e:=tx hb;subst e;cases rv;rw[deq]<;>first | exact⟨.tuple_none t' hu,.tuple_none t' hu,.tuple_none t' hu⟩ | (intros;contradiction)
  | bl j=>have e:=sK hb;subst e;cases rv;rw[deq]<;>first | exact⟨.tuple_bool _ t' hu,.tuple_bool _ t' hu,.tuple_bool _ t' hu⟩ | (intros;contradiction)
  | int j=>have e:=rM hb;subst e;obtain⟨t,rfl⟩:=rv;rw[deq]<;>first | exact⟨.tuple_int _ _ t' hu,.tuple_int _ _ t' hu,.tuple_int _ _ t' hu⟩ | (intros;contradiction)
  | str j=>have e:=tu hb;subst e;obtain⟨t,rfl⟩:=rv;rw[deq]<;>first | exact⟨.tuple_str _ _ t' hu,.tuple_str _ _ t' hu,.tuple_str _ _ t' hu⟩ | (intros;contradiction)
  | tup j=>exact ht _ _ rfl rfl
  | lst j =>
   obtain⟨p,xs,rfl,h1,h2⟩:=sd hb;cases rv;obtain⟨ae,_,t,_⟩:=I.list (rdL h1);have t:=t.isList;rw[deq]<;>first | exact⟨.tuple_list t' t hu,.tuple_list t' t hu,.tuple_list t' t hu⟩ | (intros;contradiction)
 | lst i =>
  obtain⟨q,ys,rfl,g1,g2⟩:=sd ha;cases ru;obtain⟨bu,_,t',_⟩:=I.list (rdL g1);have t':=t'.isList;cases b with
  | non=>have e:=tx hb;subst e;cases rv;rw[deq]<;>first | exact⟨.list_none t' hu,.list_none t' hu,.list_none t' hu⟩ | (intros;contradiction)
  | bl j=>have e:=sK hb;subst e;cases rv;rw[deq]<;>first | exact⟨.list_bool _ t' hu,.list_bool _ t' hu,.list_bool _ t' hu⟩ | (intros;contradiction)
  | int j=>have e:=rM hb;subst e;obtain⟨t,rfl⟩:=rv;rw[deq]<;>first | exact⟨.list_int _ _ t' hu,.list_int _ _ t' hu,.list_int _ _ t' hu⟩ | (intros;contradiction)
  | str j=>have e:=tu hb;subst e;obtain⟨t,rfl⟩:=rv;rw[deq]<;>first | exact⟨.list_str _ _ t' hu,.list_str _ _ t' hu,.list_str _ _ t' hu⟩ | (intros;contradiction)
  | lst j=>exact hl _ _ rfl rfl
  | tup j =>
   obtain⟨p,xs,rfl,h1,h2⟩:=rZ hb;cases rv;obtain⟨ae,_,t,_⟩:=I.tuple h1;rw[deq]<;>first | exact⟨.list_tuple t' t hu,.list_tuple t' t hu,.list_tuple t' t hu⟩ | (intros;contradiction)
open PySem.SeqAt in
theorem vg(I:Inv X aa U H s):∀(n:Nat) (A:Q6),A.units+n < Q8->∀(a b:D) (x y:V) (u v:b_),dep a<=n\/dep b<=n->Is X.K H a x->Is X.K H b y->RelV x u->RelV y v->RcAt A s u v (deq a b)/\V6 A s u v (deq a b)/\Vy A s u v (!deq a b):=by
 intro n
 induction n with
 | zero =>
  intro A hu a b x y u v hd ha hb ru rv;refine CJ I (by omega) ha hb ru rv (λxs ys e1 e2=>?_) (λxs ys e1 e2=>?_)<;>(subst e1;subst e2;rw[dep,dep] at hd;omega)
 | succ n ih =>
  intro A hu a b x y u v hd ha hb ru rv;have eO:A.in1.units+n < Q8:=by show A.units+1+n < Q8;omega
  refine CJ I (by omega) ha hb ru rv (λds es e1 e2=>?_) (λds es e1 e2=>?_)
  ·subst e1;subst e2;obtain⟨p,xs,rfl,h1,h2⟩:=rZ ha;obtain⟨q,ys,rfl,h3,h4⟩:=rZ hb;cases ru;cases rv;obtain⟨ae,r1,t1,_⟩:=I.tuple h1;obtain⟨bu,r2,t2,_⟩:=I.tuple h3;have l1:ae.toArray.size=ds.length:=by rw[o_,←r1.length,h2.length]
   have l2:bu.toArray.size=es.length:=by rw[o_,←r2.length,h4.length]
   have hk:∀j (g1:j < ae.toArray.size) (g2:j < bu.toArray.size),V6 A.in1 s ae.toArray[j] bu.toArray[j] (deq (ds.getD j .non) (es.getD j .non)):=λj g1 g2=>by
    obtain⟨v1,q1,q2⟩:=h2.getU r1 g1;obtain⟨v2,q3,q4⟩:=h4.getU r2 g2;refine(ih A.in1 eO _ _ _ _ _ _ ?_ q2 q4 q1 q3).2.1
    have m1:ds.getD j .non∈ds:=by
     rw[h_,g_ (by omega)];exact Qt _
    have m2:es.getD j .non∈es:=by
     rw[h_,g_ (by omega)];exact Qt _
    have k1:=tz m1;have k2:=tz m2;rw[dep,dep] at hd;omega
   have re:((Qw (min ae.toArray.size bu.toArray.size)).all (λj=>deq (ds.getD j .non) (es.getD j .non))&&ae.toArray.size == bu.toArray.size)=deqA ds es:=by
    rw[l1,l2];exact xC ds es
   have R1:=RcAt.tuples (A:=A) t1 t2 (by omega) hk;have R3:=Vy.tuples (A:=A) t1 t2 (by omega) hk;rw[re] at R1 R3;have ed:deq (.tup ds) (.tup es)=deqA ds es:=by rw[deq]
   rw[ed];refine⟨R1,?_,R3⟩;by_cases hpq:p=q
   ·subst hpq;have:=vz I ha hb;cases this;rw[vE];exact .same _
   ·exact .of_refs hpq R1
  ·subst e1;subst e2;obtain⟨p,xs,rfl,h1,h2⟩:=sd ha;obtain⟨q,ys,rfl,h3,h4⟩:=sd hb;cases ru;cases rv;obtain⟨ae,r1,t1,_⟩:=I.list (rdL h1);obtain⟨bu,r2,t2,_⟩:=I.list (rdL h3);have t1:=t1.isList;have t2:=t2.isList;have l1:ae.toArray.size=ds.length:=by rw[o_,←r1.length,h2.length]
   have l2:bu.toArray.size=es.length:=by rw[o_,←r2.length,h4.length]
   have ed:deq (.lst ds) (.lst es)=deqA ds es:=by rw[deq]
   rw[ed]
   have fin:RcAt A s (.ref p) (.ref q) (deqA ds es)/\Vy A s (.ref p) (.ref q) (!deqA ds es):=by
    by_cases hl:ds.length=es.length
    ·have hk:∀j (g1:j < ae.toArray.size) (g2:j < bu.toArray.size),V6 A.in1 s ae.toArray[j] bu.toArray[j] (deq (ds.getD j .non) (es.getD j .non)):=λj g1 g2=>by
      obtain⟨v1,q1,q2⟩:=h2.getU r1 g1;obtain⟨v2,q3,q4⟩:=h4.getU r2 g2;refine(ih A.in1 eO _ _ _ _ _ _ ?_ q2 q4 q1 q3).2.1
      have m1:ds.getD j .non∈ds:=by
       rw[h_,g_ (by omega)];exact Qt _
      have m2:es.getD j .non∈es:=by
       rw[h_,g_ (by omega)];exact Qt _
      have k1:=tz m1;have k2:=tz m2;rw[dep,dep] at hd;omega
     have re:(Qw ae.toArray.size).all (λj=>deq (ds.getD j .non) (es.getD j .non))=deqA ds es:=by
      rw[←xC ds es,l1,hl,Nat.min_self,beq_self_eq_true,Bool.and_true]
     have R1:=RcAt.lists (A:=A) t1 t2 (by omega) (by omega) hk;have R3:=Vy.lists (A:=A) t1 t2 (by omega) (by omega) hk;rw[re] at R1 R3;exact⟨R1,R3⟩
    ·rw[Iz hl];have dJ:(ae.toArray.size != bu.toArray.size)=true:=by rw[l1,l2];simpa using hl
     exact⟨.lists_lengths t1 t2 dJ (by omega),.lists_lengths t1 t2 dJ (by omega)⟩
   refine⟨fin.1,?_,fin.2⟩;by_cases hpq:p=q
   ·subst hpq;have:=vz I ha hb;cases this;rw[vE];exact .same _
   ·exact .of_refs hpq fin.1
noncomputable def rEqD(K:PySem.W.Frag)(neg:Bool):R2:=λx y H Q=>∃a b,Is K H a x/\Is K H b y/\(dep a<=100\/dep b<=100)/\Q (.bl (if neg then !deq a b else deq a b)) H
theorem DW(hu:X.A.units+100 < Q8):OpR X (Qq .Eq) (rEqD X.K false):=by
 intro aa s U H x y v u Q I rx ry h;obtain⟨a,b,h1,h2,h3,q⟩:=h;exact(vg I 100 X.A hu a b x y v u h3 h1 h2 rx ry).1 _ _ _ _ ⟨.bl (deq a b),H,I,rfl,q⟩
theorem Ao(hu:X.A.units+100 < Q8):OpR X (Qq .NotEq) (rEqD X.K true):=by
 intro aa s U H x y v u Q I rx ry h;obtain⟨a,b,h1,h2,h3,q⟩:=h;exact(vg I 100 X.A hu a b x y v u h3 h1 h2 rx ry).2.2 _ _ _ _ ⟨.bl (!deq a b),H,I,rfl,q⟩
noncomputable def rInD(K:PySem.W.Frag)(neg:Bool):R2:=λx y H Q=>∃a ds,Is K H a x/\(Is K H (.lst ds) y\/Is K H (.tup ds) y)/\(dep a<=99)/\Q (.bl (if neg then !ds.any (λd=>deq d a) else ds.any λd=>deq d a)) H
theorem G8{K:PySem.W.Frag}{f:D->Bool}{e:b_->Bool}(h:IsA K H ds xs)(r:Vals xs us)(hf:∀d v u,d∈ds->Is K H d v->RelV v u->e u=f d):us.any e=ds.any f:=by
 induction ds generalizing xs us with
 | nil=>have:=h.nil_inv;subst this;cases r;rfl
 | cons d ds ih =>
  obtain⟨x,xr,rfl,h1,h2⟩:=h.cons_inv;cases r with
  | cons r1 r2 =>
   rw[R6,R6,hf d _ _ k_ h1 r1,ih h2 r2 λd v u hd=>hf d v u (i_ _ hd)]
theorem EN(hu:X.A.units+100 < Q8){aa:List (l_×Obj)}{U:L2.St}{H:Hp}{s:c_}{x y:V}{v:b_}{Q:VK}(I:Inv X aa U H s)(rx:RelV x v)(ry:RelV y u)(h:rInD X.K neg x y H Q):
  ∃(ae:Array b_) (e:b_->Bool) (l:l_),u=.ref l/\(s.heap.IsList l ae\/s.heap.IsTuple l ae)/\(∀z,z∈ae->PySem.SeqAt.EqAt X.A.in1 s z v (e z))/\Q (.bl (if neg then !ae.any e else ae.any e)) H:=by
 obtain⟨a,ds,h1,h2,h3,q⟩:=h;have eO:X.A.in1.units+99 < Q8:=by show X.A.units+1+99 < Q8;omega
 -- every item has ae data: e reads it j7
 have aT:∀(xs:List V) (ae:List b_),IsA X.K H ds xs->Vals xs ae->∃e:b_->Bool,(∀z,z∈ae.toArray->PySem.SeqAt.EqAt X.A.in1 s z v (e z))/\ae.toArray.any e=ds.any λd=>deq d a:=by
  intro xs ae ha r
  have ex:∀z:b_,∃b:Bool,∀d w,d∈ds->Is X.K H d w->RelV w z->b=deq d a:=λz=>by
   by_cases hz:∃d w,d∈ds/\Is X.K H d w/\RelV w z
   ·obtain⟨d,w,hd,hi,hr⟩:=hz;refine⟨deq d a,λd' w' cr bC oO=>?_⟩;have:=RelV.inj hr oO;subst this;rw[vz I hi bC]
   ·exact⟨false,λd w hd hi hr=>absurd ⟨d,w,hd,hi,hr⟩ hz⟩
  refine⟨λz=>(ex z).choose,λz hz=>?_,?_⟩
  ·have oP:z∈ae:=by simpa using hz
   obtain⟨j,hj,ej⟩:=List.mem_iff_getElem.mp oP;obtain⟨w,q1,q2⟩:=ha.getU r (j:=j) (by simpa using hj)
   have lR:RelV w z:=by
    have:ae.toArray[j]'(by simpa using hj)=z:=by simpa using ej
    rw[←this];exact q1
   have hm:ds.getD j .non∈ds:=by
    have l1:=ha.length;have l2:=r.length;rw[h_,g_ (by omega)];exact Qt _
   show PySem.SeqAt.EqAt X.A.in1 s z v (ex z).choose;rw[(ex z).choose_spec _ w hm q2 lR];exact(vg I 99 X.A.in1 eO _ a w x z v (.inr h3) q2 h1 lR rx).2.1
  ·have:ae.toArray.any (λz=>(ex z).choose)=ae.any (λz=>(ex z).choose):=by simp
   rw[this];exact G8 ha r λd w z hd hi hr=>(ex z).choose_spec d w hd hi hr
 rcases h2 with h2 | h2
 ·obtain⟨l,xs,rfl,g1,g2⟩:=sd h2;cases ry;obtain⟨ae,r,t,_⟩:=I.list (rdL g1);obtain⟨e,k1,k2⟩:=aT xs ae g2 r;exact⟨ae.toArray,e,l,rfl,.inl t.isList,k1,by rw[k2];exact q⟩
 ·obtain⟨l,xs,rfl,g1,g2⟩:=rZ h2;cases ry;obtain⟨ae,r,t,_⟩:=I.tuple g1;obtain⟨e,k1,k2⟩:=aT xs ae g2 r;exact⟨ae.toArray,e,l,rfl,.inr t,k1,by rw[k2];exact q⟩
theorem Gn(hu:X.A.units+100 < Q8):OpR X (Qq .In) (rInD X.K false):=by
 intro aa s U H x y v u Q I rx ry h;obtain⟨ae,e,l,rfl,hl,he,q⟩:=EN hu I rx ry h
 rcases hl with hl | hl
 ·exact PySem.SeqAt.in_listAt e hl he ⟨.bl (ae.any e),H,I,rfl,q⟩
 ·exact PySem.SeqAt.in_tupleAt e hl he ⟨.bl (ae.any e),H,I,rfl,q⟩
theorem AQ(hu:X.A.units+100 < Q8):OpR X (Qq .NotIn) (rInD X.K true):=by
 intro aa s U H x y v u Q I rx ry h;obtain⟨ae,e,l,rfl,hl,he,q⟩:=EN hu I rx ry h
 rcases hl with hl | hl
 ·exact PySem.SeqAt.notIn_listAt e hl he ⟨.bl (!ae.any e),H,I,rfl,q⟩
 ·exact PySem.SeqAt.notIn_tupleAt e hl he ⟨.bl (!ae.any e),H,I,rfl,q⟩
end
end DL
set_option exponentiation.threshold 2000
namespace DL
open PySem PySem.Spec PyProof.Rows L2
noncomputable def intF(C:Int->Int->Bool)(g:Int->Int->D)(a b:D):Option D:=match a,b with
 | .int i,.int j=>if C i j then some (g i j) else none
 | _,_=>none
theorem yX{g:Int->Int->D}{a b:D}(h:intF C g a b=some d):∃i j,a=.int i/\b=.int j/\C i j=true/\d=g i j:=by
 unfold intF at h;split at h
 ·obtain⟨h1,h2⟩:=sv h;exact⟨_,_,rfl,rfl,h1,h2⟩
 ·cases h
noncomputable def tt2(_ _:Int):Bool:=true
theorem od_I{K:PySem.W.Frag}{C:Int->Int->Prop}{c:Int->Int->Bool}{g:Int->Int->Int}(hc:∀i j,c i j=true->C i j):OpD K (rI C λi j=>.int (g i j)) (intF c λi j=>.int (g i j)):=λa b d e B G I H U Y x y Q r hx hy k=>by
 obtain⟨i,j,rfl,rfl,h,rfl⟩:=yX e;exact⟨i,j,rM hx,rM hy,hc i j h,k.now r (Is.int _)⟩
theorem Fo{K:PySem.W.Frag}{g:Int->Int->Int}:OpD K (rI0 λi j=>.int (g i j)) (intF tt2 λi j=>.int (g i j)):=λa b d e B G I H U Y x y Q r hx hy k=>by
 obtain⟨i,j,rfl,rfl,h,rfl⟩:=yX e;exact⟨i,j,rM hx,rM hy,k.now r (Is.int _)⟩
theorem uk{K:PySem.W.Frag}{g:Int->Int->Bool}:OpD K (rI0 λi j=>.bl (g i j)) (intF tt2 λi j=>.bl (g i j)):=λa b d e B G I H U Y x y Q r hx hy k=>by
 obtain⟨i,j,rfl,rfl,h,rfl⟩:=yX e;exact⟨i,j,rM hx,rM hy,k.now r (Is.bl _)⟩
noncomputable def subI:D->D->Option D:=intF tt2 λi j=>.int (i - j)
noncomputable def mulI:D->D->Option D:=intF (λi j=>decide ((-(2 ^ 64) < i/\i < 2 ^ 64)\/(-(2 ^ 64) < j/\j < 2 ^ 64))) λi j=>.int (i*j)
noncomputable def modI:D->D->Option D:=intF (λ_ j=>decide (0 < j)) λi j=>.int (i % j)
noncomputable def divI:D->D->Option D:=intF (λ_ j=>decide (0 < j/\j < 2 ^ 200)) λi j=>.int (i / j)
noncomputable def powI:D->D->Option D:=intF (λi j=>decide (0<=j/\j<=1000000/\i.natAbs < 2 ^ 64)) λi j=>.int (i ^ j.toNat)
noncomputable def ltI:D->D->Option D:=intF tt2 λi j=>.bl (decide (i < j))
noncomputable def leI:D->D->Option D:=intF tt2 λi j=>.bl (decide (i<=j))
noncomputable def gtI:D->D->Option D:=intF tt2 λi j=>.bl (decide (j < i))
noncomputable def geI:D->D->Option D:=intF tt2 λi j=>.bl (decide (j<=i))
section
variable{B:BB}{a b c:Qe}{es:List Qe}{ga gb gc:M D}
theorem vM(ha:ED X B a ga)(hb:ED X B b gb):ED X B (.BinOp a .Sub b pos) (op2 subI ga gb):=u9 MO Fo ha hb
theorem tq(ha:ED X B a ga)(hb:ED X B b gb):ED X B (.BinOp a .Mult b pos) (op2 mulI ga gb):=u9 GO (od_I (C:=CMul) λi j h=>(of_decide_eq_true h:_\/_)) ha hb
theorem tE(ha:ED X B a ga)(hb:ED X B b gb):ED X B (.BinOp a .Mod b pos) (op2 modI ga gb):=u9 KZ (od_I λi j h=>of_decide_eq_true h) ha hb
theorem AR(ha:ED X B a ga)(hb:ED X B b gb):ED X B (.BinOp a .Pow b pos) (op2 powI ga gb):=u9 Hv (od_I (C:=CPow) λi j h=>(of_decide_eq_true h:_/\_/\_)) ha hb
def CDivW(i j:Int):Prop:=0 < j/\j < 2 ^ 200
theorem No:OpR X (Ry .FloorDiv) (rI CDivW λi j=>.int (i / j)):=opI λi j _ _ _ _ _ hc q=>by
 have h1:(0:Int) < j:=hc.1
 have h2:j.natAbs < 2 ^ 200:=by
  have:=hc.2;omega
 have h4:j.natAbs.log2 < 9000:=by
  have h5:j.natAbs.log2 < 200:=(Nat.log2_lt (by omega)).mpr h2;omega
 refine floordiv_int (by omega) ?_ (.inl (PyProof.noPylong_of_log2 h4));rw[Int.fdiv_eq_ediv_of_nonneg _ (Vl h1)];exact q
theorem LI(ha:ED X B a ga)(hb:ED X B b gb):ED X B (.BinOp a .FloorDiv b pos) (op2 divI ga gb):=u9 No (od_I (C:=CDivW) λi j h=>(of_decide_eq_true h:_/\_)) ha hb
theorem Dl(ha:ED X B a ga)(hb:ED X B b gb):ED X B (.Compare a [.LtE] [b] pos) (op2 leI ga gb):=vH wH uk ha hb (nomark _)
theorem uK(ha:ED X B a ga)(hb:ED X B b gb):TD X B (.Compare a [.Lt] [b] pos) (tst (op2 ltI ga gb)):=tV D' uk ha hb (nomark _)
theorem wx(ha:ED X B a ga)(hb:ED X B b gb):TD X B (.Compare a [.Gt] [b] pos) (tst (op2 gtI ga gb)):=tV E9 uk ha hb (nomark _)
theorem Hd(ha:ED X B a ga)(hb:ED X B b gb):TD X B (.Compare a [.GtE] [b] pos) (tst (op2 geI ga gb)):=tV G7 uk ha hb (nomark _)
theorem Nn(ha:ED X B a ga)(hb:ED X B b gb)(hc:ED X B c gc)(hm:TR [.LtE,.LtE] [b,c]=false:=by with_unfolding_all rfl):ED X B (.Compare a [.LtE,.LtE] [b,c] pos) (chn leI leI ga gb gc):=G6 wH uk wH uk ha hb hc hm
theorem Ec(ha:ED X B a ga)(hb:ED X B b gb)(hc:ED X B c gc)(hm:TR [.LtE,.Lt] [b,c]=false:=by with_unfolding_all rfl):TD X B (.Compare a [.LtE,.Lt] [b,c] pos) (tst (chn leI ltI ga gb gc)):=Ln wH uk D' uk ha hb hc hm
noncomputable def eqF(neg:Bool)(a b:D):Option D:=if dep a<=100\/dep b<=100 then some (.bl (if neg then !deq a b else deq a b)) else none
theorem wn{K:PySem.W.Frag}:OpD K (rEqD K neg) (eqF neg):=λa b d e B G I H U Y x y Q r hx hy k=>by
 obtain⟨h1,rfl⟩:=sv e;exact⟨a,b,hx.mono r.iH,hy.mono r.iH,h1,k.now r (Is.bl _)⟩
variable {kr:Nat}
theorem hu100(hr:Room k A):A.units+100 < Q8:=by have:=hr.un;omega
theorem xa(hr:Room kr X.A)(ha:ED X B a ga)(hb:ED X B b gb):ED X B (.Compare a [.Eq] [b] pos) (op2 (eqF false) ga gb):=vH (DW (hu100 hr)) wn ha hb (nomark _)
theorem GG(hr:Room kr X.A)(ha:ED X B a ga)(hb:ED X B b gb):ED X B (.Compare a [.NotEq] [b] pos) (op2 (eqF true) ga gb):=vH (Ao (hu100 hr)) wn ha hb (nomark _)
theorem sA(hr:Room kr X.A)(ha:ED X B a ga)(hb:ED X B b gb):TD X B (.Compare a [.Eq] [b] pos) (tst (op2 (eqF false) ga gb)):=tV (DW (hu100 hr)) wn ha hb (nomark _)
theorem sN(hr:Room kr X.A)(ha:ED X B a ga)(hb:ED X B b gb):TD X B (.Compare a [.NotEq] [b] pos) (tst (op2 (eqF true) ga gb)):=tV (Ao (hu100 hr)) wn ha hb (nomark _)
noncomputable def inF(neg:Bool)(a b:D):Option D:=match seqI b with
 | some ds=>if dep a<=99 then some (.bl (if neg then !ds.any (λd=>deq d a) else ds.any λd=>deq d a)) else none
 | none=>none
theorem yW{K:PySem.W.Frag}:OpD K (rInD K neg) (inF neg):=λa b d e B G I H U Y x y Q r hx hy k=>by
 unfold inF at e;cases b with
 | lst ds =>
  obtain⟨h1,rfl⟩:=sv e;exact⟨a,ds,hx.mono r.iH,.inl (hy.mono r.iH),h1,k.now r (Is.bl _)⟩
 | tup ds =>
  obtain⟨h1,rfl⟩:=sv e;exact⟨a,ds,hx.mono r.iH,.inr (hy.mono r.iH),h1,k.now r (Is.bl _)⟩
 | _=>cases e
theorem Ja(hr:Room kr X.A)(ha:ED X B a ga)(hb:ED X B b gb)(hm:Rf .NotIn b=false:=by rfl):ED X B (.Compare a [.NotIn] [b] pos) (op2 (inF true) ga gb):=vH (AQ (hu100 hr)) yW ha hb hm
theorem CM(hr:Room kr X.A)(ha:ED X B a ga)(hb:ED X B b gb)(hm:Rf .In b=false:=by rfl):TD X B (.Compare a [.In] [b] pos) (tst (op2 (inF false) ga gb)):=tV (Gn (hu100 hr)) yW ha hb hm
theorem Ff(hr:Room kr X.A)(ha:ED X B a ga)(hb:ED X B b gb)(hm:Rf .NotIn b=false:=by rfl):TD X B (.Compare a [.NotIn] [b] pos) (tst (op2 (inF true) ga gb)):=tV (AQ (hu100 hr)) yW ha hb hm
noncomputable def rCatTT(K:PySem.W.Frag):R2:=λx y H Q=>∃a b xs ys,x=.ref a/\y=.ref b/\SqT K H a xs/\SqT K H b ys/\xs.length+ys.length<=x_ ∧
 (xs=[]->Q (.ref b) H)/\(xs≠[]->ys=[]->Q (.ref a) H)/\(xs≠[]->ys≠[]->∀p,H p=none->Q (.ref p) (upd H p (.tup (xs++ys))))
theorem Gp:OpR X (Ry .Add) (rCatTT X.K):=by
 intro aa s U H x y v u Q I rx ry h;obtain⟨a,b,xs,ys,rfl,rfl,ha,hb,hz,q0,q1,q2⟩:=h;cases rx;cases ry;obtain⟨ae,r1,p1,_⟩:=I.tuple ha;obtain⟨bU,r2,p2,_⟩:=I.tuple hb;by_cases hx:xs=[]
 ·subst hx;cases r1;obtain⟨⟨cls,dd,data,sl⟩,ho,hc,n,hd⟩:=id p1;obtain⟨⟨lr,ir,data2,fF⟩,eJ,dD,n2,dE⟩:=id p2;simp only at hc hd dD dE;subst hc hd dD dE
  exact Vh ⟨_,ho,rfl⟩ ⟨_,eJ,rfl⟩ TU UZ Uv Um (TV _ _)
   (tuple_addW0 a b _ bU.toArray n n2 dd ir sl fF (by simp)) ⟨ho,eJ,⟨.ref b,H,I,rfl,q0 rfl⟩⟩
 ·exact Mm aa s U H (.ref a) (.ref b) _ _ Q I rfl rfl ⟨a,b,xs,ys,rfl,rfl,ha,hb,hx,hz,q1 hx,q2 hx⟩
noncomputable def addF(a b:D):Option D:=match a,b with
 | .int i,.int j=>some (.int (i+j))
 | .tup xs,.tup ys=>if xs.length+ys.length<=lim then some (.tup (xs++ys)) else none
 | .str x,.str y=>if x.length+y.length<=lim then some (.str (x++y)) else none
 | _,_=>none
theorem IsA.ne_nil{K:PySem.W.Frag}(h:IsA K I ds xs):xs=[]↔ds=[]:=by
 have:=h.length;constructor
 ·intro e;subst e;exact Q1.mp this
 ·intro e;subst e;exact Q1.mp this.symm
theorem r8(ha:ED X B a ga)(hb:ED X B b gb):ED X B (.BinOp a .Add b pos) (op2 addF ga gb):=u9 ((G9.or Gp).or Jy) (λa b d e B G I H U Y x y Q r hx hy k=>by
 unfold addF at e;split at e
 ·cases e;exact .inl (.inl ⟨_,_,rM hx,rM hy,k.now r (Is.int _)⟩)
 ·obtain⟨hl,rfl⟩:=sv e;obtain⟨p,xs,rfl,h1,h2⟩:=uO hx;obtain⟨q,ys,rfl,h3,h4⟩:=uO hy;refine .inl (.inr ⟨p,q,xs,ys,rfl,rfl,Same.sqT r.iH (SqT.of h1),Same.sqT r.iH (SqT.of h3),by rw[←h2.length,←h4.length];exact t9 hl,λz=>?_,λ_ z=>?_,λ_ _ p' hp=>k.tup r hp (IsA.append h2 h4)⟩)
  ·have:=h2.ne_nil.mp z;subst this;exact k.now r (Is.tup h3 h4)
  ·have:=h4.ne_nil.mp z;subst this;rw[Q0] at k;exact k.now r (Is.tup h1 h2)
 ·obtain⟨hl,rfl⟩:=sv e;exact .inr ⟨_,_,tu hx,tu hy,t9 hl,k.now r (Is.str _)⟩
 ·cases e) ha hb
noncomputable def rCatR(K:PySem.W.Frag):R2:=λx y H Q=>∃l b xs zs,x=.ref l/\y=.ref b/\RdK K H l xs/\RdK K H b zs/\xs.length+zs.length<=x_/\∀p,H p=none->Q (.ref p) (upd H p (.lst (xs++zs)))
theorem KC:OpR X (Ry .Add) (rCatR X.K):=by
 intro aa s U H x y v u Q I rx ry h;obtain⟨l,b,xs,zs,rfl,rfl,hH,hB,hz,q⟩:=h;cases rx;cases ry;obtain⟨z,ae,n,r,hl,e⟩:=yO I hH;obtain⟨z2,bU,n2,r2,dH,e2⟩:=yO I hB;refine PySem.P.add_list e e2 ?_ (by rw[o_,o_];omega);have ea:ae.toArray++bU.toArray=(ae++bU).toArray:=by simp
 rw[ea];exact⟨.ref _,_,I.lnew (t':=s.toks) (r.append r2) (by rw[p_];omega),rfl,q _ I.fresh⟩
noncomputable def catF(a b:D):Option (List D):=match a,b with
 | .lst xs,.lst ys=>if xs.length+ys.length<=lim then some (xs++ys) else none
 | _,_=>none
theorem uL(ha:ED X B a ga)(hb:ED X B b gb):EO X B (.BinOp a .Add b pos) (op2 catF ga gb):=Lf KC (λa b d e B G I H U Y x y Q r hx hy k=>by
 unfold catF at e;split at e
 ·obtain⟨hl,rfl⟩:=sv e;obtain⟨p,xs,rfl,h1,h2⟩:=sd hx;obtain⟨q,ys,rfl,h3,h4⟩:=sd hy;exact⟨p,q,xs,ys,rfl,rfl,Same.rdK r.iH h1,Same.rdK r.iH h3,by rw[←h2.length,←h4.length];exact t9 hl,λp' hp=>k.new r hp (IsA.append h2 h4)⟩
 ·cases e) ha hb
theorem IsA.at{K:PySem.W.Frag}{I:Hp}{ds:List D}{xs:List V}{i:Int}{d:D}(h:IsA K I ds xs)(e:atI ds i=some d):∃x,atI xs i=some x/\Is K I d x:=by
 unfold atI at e ⊢;rw[←h.length];cases hj:ixN ds.length i with
 | none=>rw[hj] at e;cases e
 | some j =>
  rw[hj] at e;exact h.get e
noncomputable def ixF(a b:D):Option D:=match seqI a,asI b with
 | some ds,some i=>atI ds i
 | _,_=>none
theorem CO{a b:D}(h:ixF a b=some d):∃ds i,(a=.lst ds\/a=.tup ds)/\b=.int i/\atI ds i=some d:=by
 unfold ixF at h;cases a<;>cases b<;>simp[seqI,asI] at h
 ·exact⟨_,_,.inr rfl,rfl,h⟩
 ·exact⟨_,_,.inl rfl,rfl,h⟩
theorem rH(ha:ED X B a ga)(hb:ED X B b gb)(hs:PlainIx b:=by exact λ_ _=>rfl):ED X B (.Subscript a b pos) (op2 ixF ga gb):=IW (B5.or Nq) (λa b d e B G I H U Y x y Q r hx hy k=>by
 obtain⟨ds,i,h1,rfl,h2⟩:=CO e
 rcases h1 with rfl | rfl
 ·obtain⟨p,xs,rfl,h3,h4⟩:=sd hx;obtain⟨v,e5,e6⟩:=h4.at h2;exact .inl ⟨p,xs,i,v,rfl,rM hy,(Same.rdK r.iH h3).sq,e5,k.now r e6⟩
 ·obtain⟨p,xs,rfl,h3,h4⟩:=rZ hx;obtain⟨v,e5,e6⟩:=h4.at h2
  exact .inr ⟨p,xs,i,v,rfl,rM hy,Same.sqT r.iH h3,e5,k.now r e6⟩) ha hb hs
noncomputable def look(i:Nat):M D:=λY=>match Y[i]? with
 | some (some (.own ds))=>some (.lst ds,Y)
 | some (some (.bor ds))=>some (.lst ds,Y)
 | _=>none
theorem vD{K:PySem.W.Frag}{H:Hp}(h:look i Y=some (d,af))(r:Rep K B G I H U Y):af=Y/\∃p xs ds,d=.lst ds/\U[i]?=some (some (.ref p))/\H p=some (.lst xs)/\IsA K I ds xs:=by
 unfold look at h;cases e:Y[i]? with
 | none=>rw[e] at h;cases h
 | some o =>
  cases o with
  | none=>rw[e] at h;cases h
  | some q =>
   rw[e] at h;obtain⟨v,h1,h2⟩:=r.slot i q e;cases q with
   | val _=>cases h
   | own ds=>cases h;obtain⟨p,xs,rfl,g1,_,_,g4⟩:=h2;exact⟨rfl,p,xs,ds,rfl,h1,g1,g4⟩
   | fro ds=>cases h
   | rdc ds=>cases h
   | dic ds=>cases h
   | bor ds=>cases h;obtain⟨p,xs,rfl,g1,_,_,g4⟩:=h2;exact⟨rfl,p,xs,ds,rfl,h1,g1,g4⟩
noncomputable def atN(i:Nat)(g:M D):M D:=mutS i (bnd g λn=>bnd (look i) λl=>lft (ixF l n))
theorem sQ(hv:PE X (.Name x p1) (tVar i))(hb:ED X B b gb)(hs:PlainIx b:=by exact λ_ _=>rfl):ED X B (.Subscript (.Name x p1) b pos) (atN i gb):=PE.imp (BP B5 hv hb hs) λU H Q q=>by
 obtain⟨G,I,Y,d,af,r,e1,k⟩:=q;obtain⟨hm,e1⟩:=uH e1;obtain⟨n,ac,e2,e3⟩:=rG e1;obtain⟨l,ai,e4,e5⟩:=rG e3;obtain⟨e6,rfl⟩:=rW e5;obtain⟨p,xs,h1,h2⟩:=t6 hm r;refine⟨_,h1,G,I,Y,n,ac,r,e2,λv H1 I1 r1 g1 hn=>?_⟩;obtain⟨rfl,p',bb,ds,rfl,f1,f2,f3⟩:=vD e4 r1;have hp:p'=p:=by rw[h1] at f1;cases f1;rfl
 subst hp;obtain⟨dY,j,g2,rfl,g3⟩:=CO e6
 rcases g2 with g2 | g2
 ·cases g2;obtain⟨y,e7,e8⟩:=f3.at g3;exact⟨p',bb,j,y,rfl,rM hn,SqL.of f2,e7,(k.after g1).now r1 e8⟩
 ·cases g2
noncomputable def lenF(ds:List D):Option D:=match ds with
 | [.lst xs]=>some (.int xs.length)
 | [.tup xs]=>some (.int xs.length)
 | _=>none
theorem Fv(h:lenF ds=some d):∃xs,(ds=[.lst xs]\/ds=[.tup xs])/\d=.int xs.length:=by
 unfold lenF at h;split at h
 ·cases h;exact⟨_,.inl rfl,rfl⟩
 ·cases h;exact⟨_,.inr rfl,rfl⟩
 ·cases h
theorem sM{p:Pos}{t:M (List D)}(hg:Gl X "len")(hm:X.mg "len"=none)(ha:AD X B [e] t)(he:e_ [e] X.env=(false,Qf e X.env)::e_ [] X.env:=by rfl)(aF:(Qk pos (e_ [] X.env)).any (·.1)=false:=by rfl):
  ED X B (.Call (.Name "len" p) [e] [] pos) (fn1 lenF t):=vc BM (λds d e B G I H U Y xs Q r h k=>by
 obtain⟨ys,h1,rfl⟩:=Fv e
 rcases h1 with rfl | rfl
 ·obtain⟨x,rfl,hx⟩:=h.one;obtain⟨q,zs,rfl,h3,h4⟩:=sd hx;exact⟨q,zs,rfl,.inl ((Same.rdK r.iH h3).sq),by rw[h4.length] at k;exact k.now r (Is.int _)⟩
 ·obtain⟨x,rfl,hx⟩:=h.one;obtain⟨q,zs,rfl,h3,h4⟩:=rZ hx
  exact⟨q,zs,rfl,.inr (Same.sqT r.iH h3),by rw[h4.length] at k;exact k.now r (Is.int _)⟩) hg hm PySem.boot_len ha (by decide) (by decide) he aF
noncomputable def lenN(i:Nat):M D:=bnd (look i) λl=>lft (lenF [l])
theorem wq{p:Pos}(hg:Gl X "len")(hm:X.mg "len"=none)(hv:PE X (.Name x p1) (tVar i))(he:e_ [.Name x p1] X.env=(false,Qf (.Name x p1) X.env)::e_ [] X.env:=by rfl)(aF:(Qk pos (e_ [] X.env)).any (·.1)=false:=by rfl):
  ED X B (.Call (.Name "len" p) [.Name x p1] [] pos) (lenN i):=PE.imp (xq BM hg hm PySem.boot_len (sY hv vP he) (by decide) (by decide) he aF) λU H Q q=>by
 obtain⟨G,I,Y,d,af,r,e1,k⟩:=q;obtain⟨l,ac,e2,e3⟩:=rG e1;obtain⟨e4,rfl⟩:=rW e3;obtain⟨rfl,q,xs,ds,rfl,f1,f2,f3⟩:=vD e2 r;cases e4;exact⟨_,f1,q,xs,rfl,.inl (SqL.of f2),by rw[f3.length] at k;exact k.now r (Is.int _)⟩
noncomputable def cmpN(neg:Bool)(i:Nat)(g:M D):M D:=mutS i (bnd g λd=>bnd (look i) λl=>lft (eqF neg l d))
theorem GY{K:PySem.W.Frag}:∀U H Q,tD K B (cmpN neg i gb) U H Q->tOp (rEqD K neg) (tVar i) (tD K B gb) U H Q:=λU H Q q=>by
 obtain⟨G,I,Y,d,af,r,e1,k⟩:=q;obtain⟨hm,e1⟩:=uH e1;obtain⟨n,ac,e2,e3⟩:=rG e1;obtain⟨l,ai,e4,e5⟩:=rG e3;obtain⟨e6,rfl⟩:=rW e5;obtain⟨p,xs,h1,h2⟩:=t6 hm r;refine⟨_,h1,G,I,Y,n,ac,r,e2,λv H1 I1 r1 g1 hn=>?_⟩;obtain⟨rfl,p',bb,ds,rfl,f1,f2,f3⟩:=vD e4 r1;have hp:p'=p:=by rw[h1] at f1;cases f1;rfl
 subst hp;obtain⟨hd,rfl⟩:=sv e6;exact⟨.lst ds,n,Is.lst (RdK.of f2) (f3.mono r1.iH),hn.mono r1.iH,hd,(k.after g1).now r1 (Is.bl _)⟩
theorem DI(hr:Room kr X.A)(hv:PE X (.Name x p1) (tVar i))(hb:ED X B b gb):TD X B (.Compare (.Name x p1) [.NotEq] [b] pos) (tst (cmpN true i gb)):=PT.imp (y8 (Ao (hu100 hr)) hv hb (nomark _)) (vA GY)
def partD(e:Option Qe)(X:Cx)(B:BB)(g:M (Option Int)):Prop:=PO X e (λU H Q=>∃G I Y o af,Rep X.K B G I H U Y/\g Y=some (o,af)/\∀H' I',Rep X.K B G I' H' U af->Grow G I I'->Q o H')
theorem tM:partD none X B (ret none):=λaa s U H Q I h=>J2 aa s U H Q I (by
 obtain⟨G,I,Y,o,af,r,e1,k⟩:=h;cases e1
 exact k _ _ r (Grow.refl _ _))
noncomputable def prt(g:M D):M (Option Int):=bnd g λd=>bnd (lft (asI d)) λi=>ret (some i)
theorem sX(ha:ED X B a ga):partD (some a) X B (prt ga):=λaa s U H Q I h=>LL ha aa s U H Q I (by
 obtain⟨G,I,Y,o,af,r,e1,k⟩:=h;obtain⟨d,ac,e2,e3⟩:=rG e1;obtain⟨i,ai,e4,e5⟩:=rG e3;cases e5;obtain⟨e6,rfl⟩:=rW e4;have:=Bh e6;subst this
 exact⟨G,I,Y,_,_,r,e2,λv H1 I1 r1 g1 hv=>⟨i,rM hv,k _ _ r1 g1⟩⟩)
noncomputable def cutD(ds:List D)(lo hi:Option Int):List D:=(ds.drop (HT.sIx ds.length 0 lo)).take (HT.sIx ds.length ds.length hi - HT.sIx ds.length 0 lo)
theorem IsA.cut{K:PySem.W.Frag}(h:IsA K I ds xs)(lo hi:Option Int):IsA K I (cutD ds lo hi) (cutV xs lo hi):=by
 unfold cutD cutV;rw[←h.length];exact(h.drop _).take _
noncomputable def slF(d:D)(lo hi:Option Int):Option D:=match d with
 | .lst ds=>some (.lst (cutD ds lo hi))
 | .tup ds=>if HT.sIx ds.length 0 lo=0/\HT.sIx ds.length ds.length hi=ds.length then none else some (.tup (cutD ds lo hi))
 | _=>none
noncomputable def sl3{α:Type}(F:D->Option Int->Option Int->Option α)(g:M D)(gl gh:M (Option Int)):M α:=bnd g λd=>bnd gl λl=>bnd gh λh=>lft (F d l h)
theorem tH{lo hi:Option Qe}(ha:ED X B a ga)(hl:partD lo X B gl)(hh:partD hi X B gh):ED X B (.Subscript a (.Slice lo hi none p2) pos) (sl3 slF ga gl gh):=PE.imp (F4 (MB.or NH) ha hl hh) λU H Q q=>by
 obtain⟨G,I,Y,d,af,r,e1,k⟩:=q;obtain⟨c,ac,e2,e3⟩:=rG e1;obtain⟨l,ai,e4,e5⟩:=rG e3;obtain⟨h,aO,e6,e7⟩:=rG e5;obtain⟨e8,rfl⟩:=rW e7;refine⟨G,I,Y,c,ac,r,e2,λv H1 I1 r1 g1 hv=>⟨G,I1,ac,l,ai,r1,e4,λH2 I2 r2 g2=>⟨G,I2,ai,h,_,r2,e6,λH3 I3 r3 g3=>?_⟩⟩⟩;have gg:=g1.trans (g2.trans g3);have lU:=hv.mono (g2.trans g3).up;cases c with
 | lst ds =>
  cases e8;obtain⟨p,xs,rfl,h3,h4⟩:=sd lU;refine .inl ⟨p,xs,rfl,(Same.rdK r3.iH h3).sq,λp' hp=>?_⟩;exact(k.after gg) _ _ _ (r3.alloc hp _) (r3.growAlloc hp _) (Is.lst (RdK.of r9) ((h4.cut l h).mono (sy (r3.iFree hp) _)))
 | tup ds =>
  unfold slF at e8;by_cases hw:HT.sIx ds.length 0 l=0/\HT.sIx ds.length ds.length h=ds.length
  ·simp only[hw,and_self,if_true] at e8;cases e8
  ·simp only[if_neg hw] at e8;cases e8;obtain⟨p,xs,rfl,h3,h4⟩:=rZ lU;exact .inr ⟨p,xs,rfl,Same.sqT r3.iH h3,by rw[←h4.length];exact hw,λp' hp=>(k.after gg).tup r3 hp (h4.cut l h)⟩
 | _=>cases e8
noncomputable def minF(ds:List D):Option D:=match ds with
 | [.int i,.int j]=>some (.int (if j < i then j else i))
 | _=>none
noncomputable def maxF(ds:List D):Option D:=match ds with
 | [.int i,.int j]=>some (.int (if j > i then j else i))
 | _=>none
theorem uY{p:Pos}{t:M (List D)}(hc:X.calm=true)(hg:Gl X "min")(hm:X.mg "min"=none)(ha:AD X B (e::es) t)(he:e_ (e::es) X.env=(false,Qf e X.env)::e_ es X.env:=by rfl)(aF:(Qk pos (e_ es X.env)).any (·.1)=false:=by rfl):
  ED X B (.Call (.Name "min" p) (e::es) [] pos) (fn1 minF t):=vc (JS hc) (λds d e B G I H U Y xs Q r h k=>by
 unfold minF at e;split at e
 ·cases e;obtain⟨x,y,rfl,hx,hy⟩:=h.two;exact⟨_,_,by rw[rM hx,rM hy],k.now r (Is.int _)⟩
 ·cases e) hg hm boot_min ha (by decide) (by decide) he aF
theorem vR{p:Pos}{t:M (List D)}(hc:X.calm=true)(hg:Gl X "max")(hm:X.mg "max"=none)(ha:AD X B (e::es) t)(he:e_ (e::es) X.env=(false,Qf e X.env)::e_ es X.env:=by rfl)(aF:(Qk pos (e_ es X.env)).any (·.1)=false:=by rfl):
  ED X B (.Call (.Name "max" p) (e::es) [] pos) (fn1 maxF t):=vc (Ik hc) (λds d e B G I H U Y xs Q r h k=>by
 unfold maxF at e;split at e
 ·cases e;obtain⟨x,y,rfl,hx,hy⟩:=h.two;exact⟨_,_,by rw[rM hx,rM hy],k.now r (Is.int _)⟩
 ·cases e) hg hm boot_max ha (by decide) (by decide) he aF
noncomputable def tupF(ds:List D):Option D:=match ds with
 | [.lst xs]=>some (.tup xs)
 | [.tup xs]=>some (.tup xs)
 | _=>none
noncomputable def lstF(ds:List D):Option (List D):=match ds with
 | [.lst xs]=>some xs
 | [.tup xs]=>some xs
 | _=>none
theorem ud{p:Pos}{t:M (List D)}(hg:Gl X "tuple")(hm:X.mg "tuple"=none)(ha:AD X B [e] t)(he:e_ [e] X.env=(false,Qf e X.env)::e_ [] X.env:=by rfl)(aF:(Qk pos (e_ [] X.env)).any (·.1)=false:=by rfl):
  ED X B (.Call (.Name "tuple" p) [e] [] pos) (fn1 tupF t):=G1 HY (λds d e B G I H U Y xs Q r h k=>by
 unfold tupF at e;split at e
 ·cases e;obtain⟨x,rfl,hx⟩:=h.one;obtain⟨q,zs,rfl,h3,h4⟩:=sd hx;exact⟨q,zs,rfl,.inl ⟨(Same.rdK r.iH h3).sq,λp' hp=>k.tup r hp h4⟩⟩
 ·cases e;obtain⟨x,rfl,hx⟩:=h.one;obtain⟨q,zs,rfl,h3,h4⟩:=uO hx;exact⟨q,zs,rfl,.inr ⟨Same.sqT r.iH (SqT.of h3),k.now r (Is.tup h3 h4)⟩⟩
 ·cases e) hg hm boot_tuple ha (by decide) (by decide) he aF
theorem Eb{p:Pos}{t:M (List D)}(hg:Gl X "list")(hm:X.mg "list"=none)(ha:AD X B [e] t)(he:e_ [e] X.env=(false,Qf e X.env)::e_ [] X.env:=by rfl)(aF:(Qk pos (e_ [] X.env)).any (·.1)=false:=by rfl):
  EO X B (.Call (.Name "list" p) [e] [] pos) (fn1 lstF t):=E8 IL (λds d e B G I H U Y xs Q r h k=>by
 unfold lstF at e;split at e
 ·cases e;obtain⟨x,rfl,hx⟩:=h.one;obtain⟨q,zs,rfl,h3,h4⟩:=sd hx;exact⟨q,zs,rfl,.inl ((Same.rdK r.iH h3).sq),λp' hp=>k.new r hp h4⟩
 ·cases e;obtain⟨x,rfl,hx⟩:=h.one;obtain⟨q,zs,rfl,h3,h4⟩:=rZ hx;exact⟨q,zs,rfl,.inr (Same.sqT r.iH h3),λp' hp=>k.new r hp h4⟩
 ·cases e) hg hm boot_list ha (by decide) (by decide) he aF
noncomputable def isN(d:D):Bool:=match d with
 | .non=>true
 | _=>false
noncomputable def isNF(neg:Bool)(a b:D):Option D:=match b with
 | .non=>some (.bl (if neg then !isN a else isN a))
 | _=>none
theorem Ey{K:PySem.W.Frag}{a:D}{x:V}(h:Is K I a x):decide (x=V.non)=isN a:=by
 cases a with
 | non=>rw[tx h];rfl
 | bl _=>rw[sK h];rfl
 | int _=>rw[rM h];rfl
 | str _=>rw[tu h];rfl
 | tup _=>obtain⟨_,_,rfl,_⟩:=rZ h;rfl
 | lst _=>obtain⟨_,_,rfl,_⟩:=sd h;rfl
theorem Bj{K:PySem.W.Frag}:OpD K (λx y H Q=>y=.non/\Q (.bl (decide (x=.non))) H) (isNF false):=λa b d e B G I H U Y x y Q r hx hy k=>by
 unfold isNF at e;split at e
 ·cases e;exact⟨tx hy,by rw[Ey hx];exact k.now r (Is.bl _)⟩
 ·cases e
theorem HD{K:PySem.W.Frag}:OpD K (λx y H Q=>y=.non/\Q (.bl (!decide (x=.non))) H) (isNF true):=λa b d e B G I H U Y x y Q r hx hy k=>by
 unfold isNF at e;split at e
 ·cases e;exact⟨tx hy,by rw[Ey hx];exact k.now r (Is.bl _)⟩
 ·cases e
theorem Da(ha:ED X B a ga)(hb:ED X B b gb):ED X B (.Compare a [.Is] [b] pos) (op2 (isNF false) ga gb):=vH Cs Bj ha hb (nomark _)
theorem xZ(ha:ED X B a ga)(hb:ED X B b gb):TD X B (.Compare a [.Is] [b] pos) (tst (op2 (isNF false) ga gb)):=tV Cs Bj ha hb (nomark _)
theorem zf(ha:ED X B a ga)(hb:ED X B b gb):TD X B (.Compare a [.IsNot] [b] pos) (tst (op2 (isNF true) ga gb)):=tV Fu HD ha hb (nomark _)
end
structure Kd where
 it:L_->l_->l_->Nat->Prop
 sq:L_->l_->Array b_->Prop
 nm:String
structure KdOk(k:Kd):Prop where
 itAt:∀{h h':L_}{i l:l_}{n:Nat},k.it h i l n->(∀o,h.get? i=some o->h'.get? i=some o)->k.it h' i l n
 sqAt:∀{h h':L_}{l:l_}{xs:Array b_},k.sq h l xs->(∀o,h.get? l=some o->h'.get? l=some o)->k.sq h' l xs
 itLt:∀{h:L_}{i l:l_}{n:Nat},k.it h i l n->i < h.objs.size
 sqLt:∀{h:L_}{l:l_}{xs:Array b_},k.sq h l xs->l < h.objs.size
 itObj:∀{h:L_}{i l:l_}{n:Nat},k.it h i l n->∃o,h.get? i=some o/\∀v,o.data≠.cell v
 iter:∀{prog:A_}{w:I_}{A:Q6}{E:b_->c_->Prop}{s:c_}{l:l_}{xs:Array b_}{Q:b_->c_->Prop},k.sq s.heap l xs →
  Q (.ref s.heap.objs.size) { s with heap:=s.heap.push { cls:=.type k.nm,data:=.fields #[.ref l,.int 0 0] } }->q_ (r_ prog w) A (U4 (.ref l)) Q E s
 new:∀{h:L_}{l:l_},k.it (h.push { cls:=.type k.nm,data:=.fields #[.ref l,.int 0 0] }) h.objs.size l 0
 item:∀{prog:A_}{w:I_}{A:Q6}{E:b_->c_->Prop}{s:c_}{i l:l_}{n:Nat}{xs:Array b_}{x:b_}{Q:b_->c_->Prop},k.it s.heap i l n->k.sq s.heap l xs->xs[n]?=some x →
  (∀h',k.it h' i l (n+1)->L_.SameBut i s.heap h'->Q x { s with heap:=h' })->q_ (r_ prog w) A (VW (.ref i)) Q E s
 stop:∀{prog:A_}{w:I_}{A:Q6}{E:b_->c_->Prop}{s:c_}{i l:l_}{n:Nat}{xs:Array b_}{Q:b_->c_->Prop},A.handled=none->k.it s.heap i l n->k.sq s.heap l xs->xs[n]?=none →
  (∀h' e,L_.ExtBut i s.heap h'->(∃o,h'.get? e=some o/\o.cls=.type "StopIteration")->E (.ref e) { s with heap:=h' })->q_ (r_ prog w) A (VW (.ref i)) Q E s
noncomputable def kdL:Kd:=⟨λh i l n=>h.IsListIter i l n,λh l xs=>h.IsList l xs, "list_iterator"⟩
noncomputable def kdT:Kd:=⟨λh i l n=>h.IsTupleIter i l n,λh l xs=>h.IsTuple l xs, "tuple_iterator"⟩
theorem Dz:KdOk kdL where
 itAt:=λh k=>h.at k
 sqAt:=λh k=>h.at k
 itLt:=λh=>by obtain⟨_,e,_⟩:=h;exact H_ e
 sqLt:=λh=>by obtain⟨_,e,_⟩:=h;exact H_ e
 itObj:=λh=>by obtain⟨o,e,_,d⟩:=h;exact⟨o,e,λv z=>by rw[d] at z;cases z⟩
 iter:=λh q=>Rt h q
 new:=⟨_,z_ _ rfl,rfl,rfl⟩
 item:=λh1 h2 h3 q=>wpAny_nextOf_list_item h1 h2 h3 q
 stop:=λhh h1 h2 h3 q=>wpAny_nextOf_list_end hh h1 h2 h3 q
section
variable{prog:A_}{w:I_}{E:b_->c_->Prop}{s:c_}
theorem JV{α:Type}{Q:α->c_->Prop}(hh:A.handled=none)(k:∀(g:L_) (x:l_),(∀b o,s.heap.get? b=some o->g.get? b=some o)->(∃o,g.get? x=some o/\o.cls=.type "StopIteration")->E (.ref x) { s with heap:=g }):
  q_ (r_ prog w) A (stopIteration (α:=α)) Q E s:=by
 unfold stopIteration newExc newTuple;refine a_ (a_ (Qh (a_ (RD (a:=b_.none) (by first | rfl | (simp only[Uz];rfl)) (Qh ?_ (by size_fits)))) (by size_fits)));unfold raiseNew;refine a_ (wpAny_handled ?_);rw[hh];exact a_ (d_ (wpAny_throw (k _ _ (λb o e=>f_ _ (f_ _ e)) ⟨_,z_ _ rfl,rfl⟩)))
theorem Ce{aW tp:l_}{Q:b_->c_->Prop}(hi:s.heap.IsTupleIter aW tp i)(hT:s.heap.IsTuple tp cells)(one:∀v,cells[i]?=some v->∀g:L_,g.IsTupleIter aW tp (i+1)->L_.SameBut aW s.heap g->Q v { s with heap:=g })(non:cells[i]?=none->A.handled=none/\∀(g:L_) (x:l_),L_.ExtBut aW s.heap g->(∃o,g.get? x=some o/\o.cls=.type "StopIteration")->E (.ref x) { s with heap:=g }):
  q_ (r_ prog w) A (VW (.ref aW)) Q E s:=by
 have ty:=hi.typeIs;obtain⟨oi,gi,ci,di⟩:=hi;obtain⟨ot,gt,ct,nt,dt⟩:=hT;unfold VW;refine a_ (Qr (name:=TX "__next__") ty Ti (Qy Ti ty F.entry_tuple_iterator_next ?_ (F.args_tuple_iterator_next_1 _)));refine a_ (RD (a:=(b_.ref aW,[])) rfl ?_);refine a_ (Rs (i:=0) gi di (x:=.ref tp) rfl (wpAny_ite_split (λno=>absurd no j_) λ_=>?_));refine a_ (Rs (i:=1) gi di (x:=.int i 0) rfl (a_ (QT gt dt ?_)));dsimp only;rw[R7];cases hv:cells[i]? with
 | some v =>
  refine a_ (Sl gi di (by simp) (d_ ⟨v,rfl,d_ (one v hv _ ?_ (L_.SameBut.update ..))⟩));have low:=Sm di;exact⟨_,QH _ gi (Sw (low _)),(Tu ..).trans ci,by rw[low];simp[T_]⟩
 | none =>
  obtain⟨hh,k⟩:=non hv;refine a_ (Va (a_ (Sl gi di (by simp) (JV hh λg x keep is=>k g x (λb o ne e=>keep b o ((L_.SameBut.update ..).extBut b o ne e)) is))))
end
theorem CC:KdOk kdT where
 itAt:=λh k=>by obtain⟨o,e,r⟩:=h;exact⟨o,k o e,r⟩
 sqAt:=λh k=>by obtain⟨o,e,r⟩:=h;exact⟨o,k o e,r⟩
 itLt:=λh=>by obtain⟨_,e,_⟩:=h;exact H_ e
 sqLt:=λh=>by obtain⟨_,e,_⟩:=h;exact H_ e
 itObj:=λh=>by obtain⟨o,e,_,d⟩:=h;exact⟨o,e,λv z=>by rw[d] at z;cases z⟩
 iter:=λh q=>U9 h q
 new:=⟨_,z_ _ rfl,rfl,rfl⟩
 item:=λh1 h2 h3 q=>Ce h1 h2 (λv e g=>by rw[h3] at e;cases e;exact q g) λe=>by rw[h3] at e;cases e
 stop:=λhh h1 h2 h3 q=>Ce h1 h2 (λv e=>by rw[h3] at e;cases e) λ_=>⟨hh,q⟩
theorem Em{H:Hp}{s:c_}{T:l_}(I:Inv X aa U H s)(bq:∀b∈ch,FpOk X aa H b)(k:∀b u,b∉ch->s.heap.get? b=some u->h'.get? b=some u)(hT:s.heap.objs.size<=T)(new:ObjOk X.prog X.w (upd H T o) h' T o):Inv X aa U (upd H T o) { s with heap:=h',toks:=t' }:=by
 have hf:=I.hok.fresh hT;have ne:∀{b u},H b=some u->b≠T:=λ{b u} e=>sZ e hf
 have cS:∀{b u},H b=some u->b∉ch:=λ{b u} e z=>by have:=(bq b z).1;rw[e] at this;cases this
 refine I.step (g':=s.gens) (d':=s.drawn) (ch:=ch) (λb hb=>⟨(bq b hb).2.2.2.1,(bq b hb).2.1,(bq b hb).2.2.2.2.1,(bq b hb).2.2.2.2.2⟩) (λb u _ _ hc e _=>k b u hc e) (λb u _ _ hc e _=>⟨u.slots,k b u hc e⟩) (λb u hc e n=>?_)
  (λb u hc e=>⟨u,k b u hc e⟩) (λb xs e=>by rw[rJ (ne e)];exact e) (λb u v e=>by rw[rJ (ne e)];exact e) (λb ps e=>⟨#[],by rw[rJ (ne e),e];simp⟩) (λm hm=>?_) (λb u e=>?_) I.bare
 ·have nb:b≠T:=λz=>by have:=H_ e;rw[z] at this;exact absurd (J_ this hT) (Rl _)
  rw[rJ nb];exact n
 ·obtain⟨ob,es,ep,ho,r⟩:=hm;exact⟨ob,es,ep,k _ ob (λz=>(bq _ z).2.1 rfl) ho,r⟩
 ·by_cases hb:b=T
  ·subst hb;rw[r9] at e;cases e;exact new
  ·rw[rJ hb] at e;refine(I.hok b u e).stay (λc v hc q=>k c v ?_ q) (λc q=>by rw[rJ (ne q)];exact q) λc xs q=>by rw[rJ (ne q)];exact q
   rcases hc with z | z
   ·rw[z];exact cS e
   ·exact cS z
theorem CA{H:Hp}{s:c_}(I:Inv X aa U H s)(bq:∀b∈ch,FpOk X aa H b)(k:∀b u,b∉ch->s.heap.get? b=some u->h'.get? b=some u):Inv X aa U H { s with heap:=h',toks:=t' }:=by
 have cS:∀{b u},H b=some u->b∉ch:=λ{b u} e z=>by have:=(bq b z).1;rw[e] at this;cases this
 refine I.step (g':=s.gens) (d':=s.drawn) (ch:=ch) (λb hb=>⟨(bq b hb).2.2.2.1,(bq b hb).2.1,(bq b hb).2.2.2.2.1,(bq b hb).2.2.2.2.2⟩) (λb u _ _ hc e _=>k b u hc e) (λb u _ _ hc e _=>⟨u.slots,k b u hc e⟩) (λb u hc e n=>n)
  (λb u hc e=>⟨u,k b u hc e⟩) (λb xs e=>e) (λb u v e=>e) (λb ps e=>⟨#[],by rw[e];simp⟩) (λm hm=>?_) (λb u e=>?_) I.bare
 ·obtain⟨ob,es,ep,ho,r⟩:=hm;exact⟨ob,es,ep,k _ ob (λz=>(bq _ z).2.1 rfl) ho,r⟩
 ·refine(I.hok b u e).stay (λc v hc q=>k c v ?_ q) (λc q=>q) λc xs q=>q
  rcases hc with z | z
  ·rw[z];exact cS e
  ·exact cS z
section
variable{prog:A_}{w:I_}{E:b_->c_->Prop}{s:c_}{k:Kd}
theorem A0(ok:KdOk k){ta bG p q u v:l_}{xs ys:Array b_}{c0 c1:b_}{Q:PySem.Fin->c_->Prop}(D:ZipApart z ta bG p q u v)(rD:U2 s.heap z ta bG .none)(Ta:Sd s.heap ta (.ref p) (.ref q))(To:Sd s.heap bG c0 c1)(P:k.it s.heap p u m)(P':k.it s.heap q v n)(rB:k.sq s.heap u xs)(U':k.sq s.heap v ys)(jC:∀x y,xs[m]?=some x->ys[n]?=some y->∀g:L_,g.objs.size=s.heap.objs.size+1/\Sd g s.heap.objs.size x y->U2 g z ta bG (T_ s.heap.objs.size)->Sd g bG x y->k.it g p u (m+1)/\k.it g q v (n+1) →
   (∀c o,(c≠z/\c≠bG/\c≠p/\c≠q)->s.heap.get? c=some o->g.get? c=some o)->Q (.done (.ret (.ref s.heap.objs.size))) { s with heap:=g })(jD:(xs[m]?=none\/ys[n]?=none)->A.handled=none/\∀(g:L_) (x:l_),(∀c o,(c≠z/\c≠bG/\c≠p/\c≠q)->s.heap.get? c=some o->g.get? c=some o)->(∃o,g.get? x=some o/\o.cls=.type "StopIteration")->E (.ref x) { s with heap:=g }):
  q_ (r_ prog w) A (Rr.«zip.__next__» ⟨[.ref z],[]⟩) Q E s:=by
 refine a_ (RD (a:=(b_.ref z,[])) rfl (a_ (Rs (i:=2) rD rfl (x:=.bool false) rfl (a_ (Rs (i:=3) rD rfl (x:=.ref ta) rfl (a_ (QT Ta rfl ?_)))))));refine a_ (m:=Rr.SmallTypes.ownedTupleIsFree (.ref z)) (a_ (Rs (i:=0) rD rfl (x:=.none) rfl (d_ ?_)));rw[if_pos rfl];refine a_ (Va (a_ (Rs (i:=4) rD rfl (x:=.ref bG) rfl (a_ (Se rD (by simp) λg1 Z1 b1=>?_)))));replace Z1:U2 g1 z ta bG .ellipsis:=Z1
 have j7:∀(g:L_) (x:l_),U2 g z ta bG .ellipsis->(∃o,g.get? x=some o/\o.cls=.type "StopIteration")->(∀g':L_,L_.SameBut z g g'->(∃o,g'.get? x=some o/\o.cls=.type "StopIteration")->E (.ref x) { s with heap:=g' }) →
   q_ (r_ prog w) A (setField (.ref z) 0 .none) (λ_ s'=>E (.ref x) s') E { s with heap:=g }:=λg x Zg is kk=>by
  obtain⟨o,e1,e2⟩:=is;refine Se Zg (by simp) λg' _ b'=>kk g' b' ⟨o,b'.extBut _ _ (λsame=>?_) e1,e2⟩
  rw[same,Zg] at e1;cases e1;simp at e2
 have f1:∀c o,c≠z->s.heap.get? c=some o->g1.get? c=some o:=λc o ne e=>b1.extBut _ _ ne e
 refine a_ ?_;rw[TZ,TZ,List.zipIdx_nil,Sc];refine a_ (a_ (wpAny_onRaise (a_ (m:=VW (.ref p)) ?_)));have P1:=ok.itAt P λo e=>f1 _ o D.i1z e
 have U1:=ok.sqAt rB λo e=>f1 _ o D.l1z e
 cases hx:xs[m]? with
 | none =>
  obtain⟨hh,aZ⟩:=jD (.inl hx);exact ok.stop hh P1 U1 hx λg2 x b2 is=>j7 g2 x (b2 _ _ D.i1z.symm Z1) is λg' b' eP=>aZ g' x (λc o ne e=>b'.extBut _ _ ne.1 (b2 _ _ ne.2.2.1 (f1 c o ne.1 e))) eP
 | some x =>
  refine ok.item P1 U1 hx λg2 P2 b2=>d_ ?_
  have lV:Sd g2 bG c0 c1:=b2.extBut _ _ D.TOi1 (f1 _ _ D.TOz To);refine a_ (QT lV rfl (a_ (UA lV λg3 j8 b3=>a_ (SO (d_ ?_)))));replace j8:Sd g3 bG x c1:=j8;have f3:∀c o,c≠bG->c≠p->g1.get? c=some o->g3.get? c=some o:=λc o n1 n2 e=>b3.extBut _ _ n1 (b2.extBut _ _ n2 e)
  have Z3:U2 g3 z ta bG .ellipsis:=f3 _ _ D.TOz.symm D.i1z.symm Z1;dsimp only;rw[Sc];refine a_ (a_ (wpAny_onRaise (a_ (m:=VW (.ref q)) ?_)));have Q3:=ok.itAt P' λo e=>f3 _ o D.TOi2.symm D.i12.symm (f1 _ o D.i2z e)
  have V3:=ok.sqAt U' λo e=>f3 _ o D.l2TO D.l2i1 (f1 _ o D.l2z e)
  cases hy:ys[n]? with
  | none =>
   obtain⟨hh,aZ⟩:=jD (.inr hy);exact ok.stop hh Q3 V3 hy λg4 x b4 is=>j7 g4 x (b4 _ _ D.i2z.symm Z3) is λg' b' eP=>aZ g' x (λc o ne e=>b'.extBut _ _ ne.1 (b4 _ _ ne.2.2.2 (f3 c o ne.2.1 ne.2.2.1 (f1 c o ne.1 e)))) eP
  | some y =>
   refine ok.item Q3 V3 hy λg4 Q4 b4=>d_ ?_
   have lW:Sd g4 bG x c1:=b4.extBut _ _ D.TOi2 j8;refine a_ (QT lW rfl (a_ (UA lW λg5 iD b5=>a_ (SO (d_ ?_)))));replace iD:Sd g5 bG x y:=iD;have f5:∀c o,c≠bG->c≠q->g3.get? c=some o->g5.get? c=some o:=λc o n1 n2 e=>b5.extBut _ _ n1 (b4.extBut _ _ n2 e)
   dsimp only;rw[S'];refine d_ (a_ (QT iD rfl (a_ (wpAny_newTuple ?_))));have same:g5.objs.size=s.heap.objs.size:=b5.1.trans (b4.1.trans (b3.1.trans (b2.1.trans b1.1)));have Z5:U2 g5 z ta bG .ellipsis:=f5 _ _ D.TOz.symm D.i2z.symm Z3;have eQ:g5.objs.size≠z:=Te (H_ Z5);have Z6:U2 (g5.push { cls:=.type "tuple", data:=.seq #[x,y] }) z ta bG .ellipsis:=f_ _ Z5;refine a_ (m:=Rr.SmallTypes.ownedTupleHandOut (.ref z) (.ref g5.objs.size)) (a_ (Se Z6 (by simp) λg7 Z7 b7=>?_));refine Se Z7 (by simp) λg8 Z8 b8=>d_ ?_
   replace Z8:U2 g8 z ta bG (T_ g5.objs.size):=Z8;have f8:∀c o,c≠z->g5.get? c=some o->g8.get? c=some o:=λc o ne e=>b8.extBut _ _ ne (b7.extBut _ _ ne (f_ _ e))
   have T8:Sd g8 g5.objs.size x y:=b8.extBut _ _ eQ (b7.extBut _ _ eQ (z_ _ rfl));have gC:g8.objs.size=g5.objs.size+1:=b8.1.trans (b7.1.trans (RJ ..));show Q (.done (.ret (.ref g5.objs.size))) { s with heap:=g8 };rw[same] at Z8 T8 gC ⊢
   exact jC x y hx hy g8 ⟨gC,T8⟩ Z8 (f8 _ _ D.TOz iD) ⟨ok.itAt P2 λo e=>f8 _ o D.i1z (f5 _ o D.TOi1.symm D.i12 (b3.extBut _ _ D.TOi1.symm e)),ok.itAt Q4 λo e=>f8 _ o D.i2z (b5.extBut _ _ D.TOi2.symm e)⟩
    λc o ne e=>f8 c o ne.1 (f5 c o ne.2.1 ne.2.2.2 (f3 c o ne.2.1 ne.2.2.1 (f1 c o ne.1 e)))
noncomputable abbrev zk1(k:Kd)(h:L_)(l1:l_):L_:=h.push { cls:=.type k.nm,data:=.fields #[.ref l1,.int 0 0] }
noncomputable abbrev zk2(k:Kd)(h:L_)(l1 l2:l_):L_:=(zk1 k h l1).push { cls:=.type k.nm,data:=.fields #[.ref l2,.int 0 0] }
noncomputable abbrev zk3(k:Kd)(h:L_)(l1 l2:l_):L_:=(zk2 k h l1 l2).push { cls:=.type "tuple", data:=.seq #[.ref h.objs.size,.ref (zk1 k h l1).objs.size] }
noncomputable abbrev zk4(k:Kd)(h:L_)(l1 l2:l_):L_:=(zk3 k h l1 l2).push { cls:=.type "tuple", data:=.seq #[.none,.none] }
noncomputable abbrev zk5(k:Kd)(h:L_)(l1 l2:l_):L_:=(zk4 k h l1 l2).push { cls:=.type "zip", data:=.fields #[.none,.bool false,.bool false,.ref (zk2 k h l1 l2).objs.size,.ref (zk3 k h l1 l2).objs.size] }
theorem Iv(ok:KdOk k)(l1 l2:l_)(xs ys:Array b_):
  Meets (Rr.«zip.__new__» ⟨[.type "zip", .ref l1,.ref l2],[]⟩) (λ_ R s=>k.sq s.heap l1 xs/\k.sq s.heap l2 ys ∧
   ∀h',U2 h' (s.heap.objs.size+4) (s.heap.objs.size+2) (s.heap.objs.size+3) .none->Sd h' (s.heap.objs.size+2) (.ref s.heap.objs.size) (.ref (s.heap.objs.size+1)) →
    Sd h' (s.heap.objs.size+3) .none .none->k.it h' s.heap.objs.size l1 0->k.it h' (s.heap.objs.size+1) l2 0->(∀c o,s.heap.get? c=some o->h'.get? c=some o)->R (.ok (.ret (.ref (s.heap.objs.size+4)))) { s with heap:=h' }):=
 .of_wp λprog w A R s h=>by
  obtain⟨hp,gn,dw,tk,os⟩:=s;obtain⟨c9,dH,h⟩:=h;have gD:=sub_zip;have oQ:k.sq (c_.heap ⟨hp,gn,dw,tk,os⟩) l1 xs:=c9;have oR:k.sq (c_.heap ⟨zk1 k hp l1,gn,dw,tk,os⟩) l2 ys:=ok.sqAt dH λo e=>f_ _ e
  wp_walk using ok.iter oQ,ok.iter oR
  refine⟨_,rfl,?_⟩;have z1:(zk1 k hp l1).objs.size=hp.objs.size+1:=RJ ..;have z2:(zk2 k hp l1 l2).objs.size=hp.objs.size+2:=by rw[RJ,z1]
  have z3:(zk3 k hp l1 l2).objs.size=hp.objs.size+3:=by rw[RJ,z2]
  have z4:(zk4 k hp l1 l2).objs.size=hp.objs.size+4:=by rw[RJ,z3]
  have g5:(zk5 k hp l1 l2).get? (zk4 k hp l1 l2).objs.size=some { cls:=.type "zip", data:=.fields #[.none,.bool false,.bool false,.ref (zk2 k hp l1 l2).objs.size,.ref (zk3 k hp l1 l2).objs.size] }:=z_ _ rfl;have g4:(zk5 k hp l1 l2).get? (zk3 k hp l1 l2).objs.size=some { cls:=.type "tuple", data:=.seq #[.none,.none] }:=f_ _ (z_ _ rfl);have g3:(zk5 k hp l1 l2).get? (zk2 k hp l1 l2).objs.size=some { cls:=.type "tuple", data:=.seq #[.ref hp.objs.size,.ref (zk1 k hp l1).objs.size] }:=f_ _ (f_ _ (z_ _ rfl));have n2:k.it (zk2 k hp l1 l2) (zk1 k hp l1).objs.size l2 0:=ok.new;have n1:k.it (zk1 k hp l1) hp.objs.size l1 0:=ok.new;have i2:k.it (zk5 k hp l1 l2) (zk1 k hp l1).objs.size l2 0:=ok.itAt n2 λo e=>f_ _ (f_ _ (f_ _ e))
  have i1:k.it (zk5 k hp l1 l2) hp.objs.size l1 0:=ok.itAt n1 λo e=>f_ _ (f_ _ (f_ _ (f_ _ e)))
  show R (.ok (.ret (.ref (zk4 k hp l1 l2).objs.size))) { heap:=zk5 k hp l1 l2,gens:=gn,drawn:=dw,toks:=tk,os:=os };rw[z2,z3,z4] at g5;rw[z1,z2] at g3;rw[z3] at g4;rw[z1] at i2;rw[z4];exact h (zk5 k hp l1 l2) g5 g3 g4 i1 i2 λc o e=>f_ _ (f_ _ (f_ _ (f_ _ (f_ _ e))))
theorem Gg(ok:KdOk k){xs ys:Array b_}{Q:b_->c_->Prop}(c9:k.sq s.heap l1 xs)(dH:k.sq s.heap l2 ys)(made:∀n h',n=s.heap.objs.size->U2 h' (n+4) (n+2) (n+3) .none->Sd h' (n+2) (.ref n) (.ref (n+1))->Sd h' (n+3) .none .none->k.it h' n l1 0->k.it h' (n+1) l2 0->(∀c o,s.heap.get? c=some o->h'.get? c=some o)->Q (.ref (n+4)) { s with heap:=h' }):
  q_ (r_ prog w) A (call (type "zip") ([l1,l2].map b_.ref)) Q E s:=
 callType_new F.called_zip (by decide) (F.typeCall_zip_2 _ _) (F.newCall_zip_2 _ _) (λobj=>F.args_object_init_3 obj _ _) F.entry_zip_new (Iv ok l1 l2 xs ys) ⟨c9,dH,λh' b1 b2 b3 b4 b5 b6=>⟨⟨_,b1,rfl⟩,made _ h' rfl b1 b2 b3 b4 b5 b6⟩⟩
end
section
variable{k:Kd}
noncomputable def Itz(rd:Hp->l_->List V->Prop)(l1 l2:l_):It:=
 ⟨λi H=>∃xs ys x y,rd H l1 xs/\rd H l2 ys/\xs[i]?=some x/\ys[i]?=some y,
  λi H v H'=>∃p x y,H p=none/\v=.ref p/\H'=upd H p (.tup [x,y])/\(∀xs,rd H l1 xs->xs[i]?=some x)/\(∀ys,rd H l2 ys->ys[i]?=some y),
  λi H=>∃xs ys,rd H l1 xs/\rd H l2 ys/\(xs.length<=i\/ys.length<=i)⟩
structure KdRd(K:PySem.W.Frag)(k:Kd)(rd:Hp->l_->List V->Prop):Prop where
 of:∀{X:Cx}{aa:List (l_×Obj)}{U:L2.St}{H:Hp}{s:c_}{a:l_}{xs:List V},X.K=K->Inv X aa U H s->rd H a xs->∃ae:List b_,Vals xs ae/\k.sq s.heap a ae.toArray
 inj:∀{X:Cx}{aa:List (l_×Obj)}{U:L2.St}{H:Hp}{s:c_}{a:l_}{xs ys:List V},X.K=K->Inv X aa U H s->rd H a xs->rd H a ys->xs=ys
theorem Cz(K:PySem.W.Frag):KdRd K kdL (λH a xs=>SqL K H a xs) where
 of:=λe I h=>by subst e;obtain⟨ae,r,t,_⟩:=I.list h;exact⟨ae,r,t.isList⟩
 inj:=λe I h h'=>by subst e;exact I.list_inj h h'
theorem Cc(K:PySem.W.Frag):KdRd K kdT (λH a xs=>SqT K H a xs) where
 of:=λe I h=>by subst e;obtain⟨ae,r,t,_⟩:=I.tuple h;exact⟨ae,r,t⟩
 inj:=λe I h h'=>by subst e;exact I.tuple_inj h h'
theorem LA{P:A_}{w:I_}{K:PySem.W.Frag}{rd:Hp->l_->List V->Prop}(ok:KdOk k)(kr:KdRd K k rd){TI TO i1 i2:l_}(D:ZipApart z TI TO i1 i2 l1 l2):
  Turn P w K (.Tuple bA x1 tp) (Itz rd l1 l2) [z,TI,TO,i1,i2] z (λi h=>U2 h z TI TO .none/\Sd h TI (.ref i1) (.ref i2)/\(∃a b,Sd h TO a b)/\k.it h i1 l1 i/\k.it h i2 l2 i) where
 mem:=by simp
 obj:=λi h st b hb=>by
  obtain⟨a1,a2,⟨x,y,a3⟩,a4,a5⟩:=st;rw[E_,E_,E_,E_,t_] at hb
  rcases hb with rfl | rfl | rfl | rfl | rfl
  ·exact⟨_,a1,λv q=>by cases(show fields _=UM v from q)⟩
  ·exact⟨_,a2,λv q=>by cases(show seq _ _=UM v from q)⟩
  ·exact⟨_,a3,λv q=>by cases(show seq _ _=UM v from q)⟩
  ·exact ok.itObj a4
  ·exact ok.itObj a5
 keep:=λi h h' st kk=>by
  obtain⟨a1,a2,⟨x,y,a3⟩,a4,a5⟩:=st;exact⟨kk _ (by simp) _ a1,kk _ (by simp) _ a2,⟨x,y,kk _ (by simp) _ a3⟩,ok.itAt a4 λo e=>kk _ (by simp) o e,ok.itAt a5 λo e=>kk _ (by simp) o e⟩
 item:=by
  intro X hP hw hK hc i aa s U H E I hf st hg;subst hP hw;obtain⟨a1,a2,⟨av,bv,a3⟩,a4,a5⟩:=st;obtain⟨xs,ys,x,y,g1,g2,g3,g4⟩:=hg;obtain⟨ae,r1,t1⟩:=kr.of hK I g1;obtain⟨bu,r2,t2⟩:=kr.of hK I g2;obtain⟨u1,e1,e2⟩:=r1.get g3;obtain⟨u2,e3,e4⟩:=r2.get g4;have hT:s.TypeIs (.ref z) "zip":=⟨_,a1,rfl⟩;unfold Sz;refine a_ (SG (Qr (name:=TX "__next__") hT SY (Qy SY hT F.entry_zip_next (A0 ok D a1 a2 a3 a4 a5 t1 t2 ?_ ?_) (Vm _))))
  case refine_2 =>
   intro non;have f1:ae.toArray[i]?=some u1:=by simpa using e1
   have f2:bu.toArray[i]?=some u2:=by simpa using e3
   rw[f1,f2] at non
   rcases non with non | non<;>cases non
  intro y1 y2 k1 k2 h' ⟨_,b5⟩ b1 b2 ⟨b3,b4⟩ b7;have f1:ae.toArray[i]?=some u1:=by simpa using e1
  have f2:bu.toArray[i]?=some u2:=by simpa using e3
  rw[f1] at k1;cases k1;rw[f2] at k2;cases k2;refine⟨_,rfl,d_ ⟨.ref s.heap.objs.size,rfl,wpAny_letOwnedTupleGo_zip b1 λh2 c1 c2=>?_⟩⟩;have lt:∀{b o},s.heap.get? b=some o->b≠s.heap.objs.size:=λ{b o} e=>Qg (H_ e)
  have gE:=lt a1;have lX:=lt a2;have lY:=lt a3
  have kk:∀b u,b∉[z,TI,TO,i1,i2]->s.heap.get? b=some u->h2.get? b=some u:=λb u hb e=>by
   simp only[E_,SQ,or_false,not_or] at hb;exact c2.extBut _ _ hb.1 (b7 b u ⟨hb.1,hb.2.2.1,hb.2.2.2.1,hb.2.2.2.2⟩ e)
  have pT:Sd h2 s.heap.objs.size u1 u2:=c2.extBut _ _ (Qx gE) b5;have I1:Inv X aa U (upd H s.heap.objs.size (.tup [x,y])) { s with heap:=h2 }:=Em (t':=s.toks) I hf kk (w_ _) ⟨by show 2<=x_;rw[Q7];decide,[u1,u2],.cons e2 (.cons e4 .nil),⟨_,pT,rfl,_,rfl⟩⟩;have fr:=I.hok.fresh (w_ s.heap.objs.size);refine⟨.ref s.heap.objs.size,_,I1,rfl,⟨s.heap.objs.size,x,y,fr,rfl,rfl,λzs hz=>by rw[kr.inj hK I hz g1];exact g3,λzs hz=>by rw[kr.inj hK I hz g2];exact g4⟩,⟨c1,c2.extBut _ _ D.TIz (b7 _ _ ⟨D.TIz,D.TITO,D.TIi1,D.TIi2⟩ a2),⟨u1,u2,c2.extBut _ _ D.TOz b2⟩,ok.itAt b3 λo e=>c2.extBut _ _ D.i1z e,ok.itAt b4 λo e=>c2.extBut _ _ D.i2z e⟩,λb hb=>?_⟩;have j9:=(hf b hb).1
  have nb:b≠s.heap.objs.size:=by
   rw[E_,E_,E_,E_,t_] at hb
   rcases hb with rfl | rfl | rfl | rfl | rfl
   ·exact gE
   ·exact lX
   ·exact lY
   ·exact Qg (ok.itLt a4)
   ·exact Qg (ok.itLt a5)
  rw[rJ nb];exact j9
 done:=by
  intro X hP hw hK hc i aa s U H E I hf st hg;subst hP hw;obtain⟨a1,a2,⟨av,bv,a3⟩,a4,a5⟩:=st;obtain⟨xs,ys,g1,g2,g3⟩:=hg;obtain⟨ae,r1,t1⟩:=kr.of hK I g1;obtain⟨bu,r2,t2⟩:=kr.of hK I g2;have c9:=r1.length;have dH:=r2.length;have hT:s.TypeIs (.ref z) "zip":=⟨_,a1,rfl⟩;unfold Sz;refine a_ (SG (Qr (name:=TX "__next__") hT SY (Qy SY hT F.entry_zip_next (A0 ok D a1 a2 a3 a4 a5 t1 t2 ?_ λ_=>⟨I.ok.hd hc,λh' e hk he=>?_⟩) (Vm _))))
  ·intro y1 y2 k1 k2;have m1:=(Qd.mp k1).1;have m2:=(Qd.mp k2).1;simp at m1 m2;omega
  ·obtain⟨o,ho,ka⟩:=he;refine a_ (RX (T:= "StopIteration") (b:=true) ⟨o,ho,ka⟩ UB ?_);refine d_ ⟨rfl,CA (t':=s.toks) I hf λb u hb e=>?_⟩;simp only[E_,SQ,or_false,not_or] at hb;exact hk b u ⟨hb.1,hb.2.2.1,hb.2.2.2.1,hb.2.2.2.2⟩ e
 self:=λ_ _ _ _ _ st h=>wpAny_pyIter_zip st.1 h
end
section
variable{B:BB}{a b c:Qe}{es:List Qe}{ga gb gc:M D}
noncomputable def iZip(K:PySem.W.Frag)(ta:TA):TI:=λU H R=>ta U H λvs H1=>(∃l1 l2 xs ys,vs=[.ref l1,.ref l2]/\SqL K H1 l1 xs/\SqL K H1 l2 ys/\R (Itz (λH a xs=>SqL K H a xs) l1 l2) H1)\/(∃l1 l2 xs ys,vs=[.ref l1,.ref l2]/\SqT K H1 l1 xs/\SqT K H1 l2 ys/\R (Itz (λH a xs=>SqT K H a xs) l1 l2) H1)
theorem Bv{k:Kd}{rd:Hp->l_->List V->Prop}(ok:KdOk k)(kr:KdRd X.K k rd){H:Hp}{s:c_}{R:It->Hp->Prop}{ys:List V}(I:Inv X aa U H s)(h1:rd H l1 xs)(h2:rd H l2 ys)(q:R (Itz rd l1 l2) H):
  q_ (r_ X.prog X.w) X.A (call (.type "zip") [.ref l1,.ref l2]) (λv s1=>q_ (r_ X.prog X.w) X.A (U4 v) (PIE X aa U (.Tuple bA x1 tp) R) X.xe s1) X.xe s:=by
 obtain⟨ae,r1,t1⟩:=kr.of rfl I h1;obtain⟨bu,r2,t2⟩:=kr.of rfl I h2;refine Gg ok t1 t2 λn h' hn a1 a2 a3 a4 a5 a6=>wpAny_pyIter_zip a1 ?_
 subst hn;have I1:Inv X aa U H { s with heap:=h' }:=I.kept (t':=s.toks) a6;refine⟨s.heap.objs.size+4,[s.heap.objs.size+4,s.heap.objs.size+2,s.heap.objs.size+3,s.heap.objs.size,s.heap.objs.size+1],_,_,H,rfl,I1,LA ok kr (zipApart_new (ok.sqLt t1) (ok.sqLt t2)),⟨a1,a2,⟨_,_,a3⟩,a4,a5⟩,λb hb=>?_,q⟩;rw[E_,E_,E_,E_,t_] at hb;have up:∀n,FpOk X aa H (s.heap.objs.size+n):=λn=>I.fpOk (Q5 _ _) (I.hok.fresh (Q5 _ _))
 rcases hb with rfl | rfl | rfl | rfl | rfl
 ·exact up 4
 ·exact up 2
 ·exact up 3
 ·exact up 0
 ·exact up 1
theorem Jq{p:Pos}(hg:Gl X "zip")(hm:X.mg "zip"=none)(ha:PA X [a,b] ta)(hs:e_ [a,b] X.env=[(false,Qf a X.env),(false,Qf b X.env)]:=by rfl)(ck:e_ [b] X.env=[(false,Qf b X.env)]:=by rfl):
  PI X (.Tuple bA x1 tp) (.Call (.Name "zip" p) [a,b] [] pos) (iZip X.K ta):=by
 intro aa s U H R I h;refine Wg (tf I hg hm boot_zip (O_ (thn (ha pos aa s U H _ I h) λus s1 ⟨vs,H1,I1,r1,q1⟩=>?_) (by rw[hs,ck]) (by rw[ck];rfl)))
 rcases q1 with⟨l1,l2,xs,ys,e,h1,h2,q⟩ | ⟨l1,l2,xs,ys,e,h1,h2,q⟩
 ·subst e;obtain⟨u1,u2,rfl,e1,e2⟩:=r1.two;cases e1;cases e2;exact Bv Dz (Cz _) I1 h1 h2 q
 ·subst e;obtain⟨u1,u2,rfl,e1,e2⟩:=r1.two;cases e1;cases e2;exact Bv CC (Cc _) I1 h1 h2 q
noncomputable def pairsD(xs ys:List D):List D:=(xs.zip ys).map λp=>.tup [p.1,p.2]
noncomputable def zipI(ds:List D):Option (List D):=match ds with
 | [.lst xs,.lst ys]=>some (pairsD xs ys)
 | [.tup xs,.tup ys]=>some (pairsD xs ys)
 | _=>none
theorem Ez{K:PySem.W.Frag}{rd:Hp->l_->List V->Prop}{ys:List V}{es:List D}(mono:∀{H a xs},Same I H->rd I a xs->rd H a xs)(inj:∀{H},Same I H->(∀zs,rd H l1 zs->zs=xs)/\(∀zs,rd H l2 zs->zs=ys)\/True)(h1:rd I l1 xs)(h2:rd I l2 ys)(i1:IsA K I ds xs)(i2:IsA K I es ys):Yields K I (pairsD ds es) (Itz rd l1 l2):=λi H s=>by
 have L1:=i1.length;have L2:=i2.length;refine⟨λd hd=>?_,λhi=>⟨xs,ys,mono s h1,mono s h2,?_⟩⟩
 ·unfold pairsD at hd;obtain⟨q,e1,rfl⟩:=getMap hd;obtain⟨e2,e3⟩:=R4.mp e1;obtain⟨x,f1,f2⟩:=i1.get e2;obtain⟨y,f3,f4⟩:=i2.get e3;refine⟨⟨xs,ys,x,y,mono s h1,mono s h2,f1,f3⟩,λv H2 hy=>?_⟩;obtain⟨p,x',y',g1,g2,g3,g4,g5⟩:=hy;have k1:=g4 xs (mono s h1);have k2:=g5 ys (mono s h2);rw[f1] at k1;cases k1;rw[f3] at k2;cases k2;exact .inr ⟨p,[q.1,q.2],[x,y],rfl,g2,g1,g3,IsA.cons f2 (IsA.cons f4 IsA.nil)⟩
 ·unfold pairsD at hi;rw[s_,VX] at hi;omega
theorem uw{p:Pos}{t:M (List D)}(hg:Gl X "zip")(hm:X.mg "zip"=none)(ha:AD X B [a,b] t)(hs:e_ [a,b] X.env=[(false,Qf a X.env),(false,Qf b X.env)]:=by rfl)(ck:e_ [b] X.env=[(false,Qf b X.env)]:=by rfl):
  ITD X B (.Tuple bA x1 tp) (.Call (.Name "zip" p) [a,b] [] pos) (fn1 zipI t):=PI.imp (Jq hg hm ha hs ck) λU H R q=>by
 obtain⟨G,I,Y,ds,af,r,e1,k⟩:=q;obtain⟨d,ac,e2,e3⟩:=rG e1;obtain⟨e4,rfl⟩:=rW e3;refine⟨G,I,Y,d,_,r,e2,λvs H1 I1 r1 g1 hd=>?_⟩;unfold zipI at e4;split at e4
 ·cases e4;obtain⟨x,y,rfl,hx,hy⟩:=hd.two;obtain⟨l1,xs,rfl,h1,h2⟩:=sd hx;obtain⟨l2,ys,rfl,h3,h4⟩:=sd hy;exact .inl ⟨l1,l2,xs,ys,rfl,(Same.rdK r1.iH h1).sq,(Same.rdK r1.iH h3).sq,k _ _ _ r1 g1 (Ez (λs h=>by rcases h with h | h;exact .inl (Same.rd s h);exact .inr h) (λ_=>.inr trivial) h1.sq h3.sq h2 h4)⟩
 ·cases e4;obtain⟨x,y,rfl,hx,hy⟩:=hd.two;obtain⟨l1,xs,rfl,h1,h2⟩:=rZ hx;obtain⟨l2,ys,rfl,h3,h4⟩:=rZ hy;exact .inr ⟨l1,l2,xs,ys,rfl,Same.sqT r1.iH h1,Same.sqT r1.iH h3,k _ _ _ r1 g1 (Ez (λs h=>Same.sqT s h) (λ_=>.inr trivial) h1 h3 h2 h4)⟩
 ·cases e4
section
variable {k:Kd}
theorem drawsK(ok:KdOk k){prog:A_}{w:I_}(hh:A.handled=none)(it l:l_)(dJ:l≠it)(aj:Array b_):Draws prog w A it [it,l] aj.size (λi v=>aj[i]?=some v) (λi h=>k.it h it l i/\k.sq h l aj) where
 live:=λi h st=>by obtain⟨o,e,_⟩:=ok.itObj st.1;exact⟨o,e⟩
 frame:=λi h h' st kk=>⟨ok.itAt st.1 λo e=>kk _ (by simp) o e,ok.sqAt st.2 λo e=>kk _ (by simp) o e⟩
 item:=λi s Q E hi st hQ=>ok.item st.1 st.2 (x:=aj[i]) (by simp[hi]) λh' h1 h2=>hQ _ h' s.toks (by simp[hi]) ⟨h1,ok.sqAt st.2 λo e=>h2.extBut _ _ dJ e⟩ h2
 done:=λs Q E st hE=>ok.stop hh st.1 st.2 (by simp) hE
theorem Nj(ok:KdOk k)(l:l_)(aj:Array b_):
  Meets (Rr.«enumerate.__new__» ⟨[.type "enumerate", .ref l],[]⟩) (λ_ R s=>k.sq s.heap l aj ∧
   R (.ok (.ret (.ref (s.heap.push { cls:=.type k.nm,data:=.fields #[.ref l,.int 0 0] }).objs.size)))
    { s with heap:=(s.heap.push { cls:=.type k.nm,data:=.fields #[.ref l,.int 0 0] }).push { cls:=.type "enumerate", data:=.fields #[.none,.bool false,.ref s.heap.objs.size,T_ 0,.none,.none] } }):=
 .of_wp λprog w A R s h=>by
  obtain⟨hp,gn,dw,tk,os⟩:=s;obtain⟨hl,h⟩:=h;have gD:=sub_enumerate;have hL:k.sq (c_.heap ⟨hp,gn,dw,tk,os⟩) l aj:=hl
  wp_walk using ok.iter hL
  refine wpAny_stack_any λframes=>d_ ?_
  split
  next c _ _ _ _ _=>cases c == type "enumerate"<;>(wp_walk using ok.iter hL;exact⟨_,rfl,h⟩)
  next=>wp_walk using ok.iter hL;exact⟨_,rfl,h⟩
end
end
section
variable{prog:A_}{w:I_}{E:b_->c_->Prop}{s:c_}{k:Kd}
noncomputable abbrev en1(k:Kd)(h:L_)(l:l_):L_:=h.push { cls:=.type k.nm,data:=.fields #[.ref l,.int 0 0] }
noncomputable abbrev en2(k:Kd)(h:L_)(l:l_):L_:=(en1 k h l).push { cls:=.type "enumerate", data:=.fields #[.none,.bool false,.ref h.objs.size,T_ 0,.none,.none] }
theorem Ms(ok:KdOk k){l:l_}{Q:b_->c_->Prop}(hL:k.sq s.heap l aj)(made:∀n g,n=s.heap.objs.size->IsEnum g (n+1) n 0 .none->k.it g n l 0->(∀b o,s.heap.get? b=some o->g.get? b=some o)->Q (.ref (n+1)) { s with heap:=g }):
  q_ (r_ prog w) A (call (type "enumerate") ([l].map b_.ref)) Q E s:=by
 have da:(en1 k s.heap l).objs.size=s.heap.objs.size+1:=RJ ..;have iE:(en2 k s.heap l).get? (en1 k s.heap l).objs.size=some _:=z_ _ rfl;rw[da] at iE;refine callType_new F.called_enumerate (by decide) (F.typeCall_enumerate_1 _) (F.newCall_enumerate_1 _) (λobj=>F.args_object_init_2 obj _) F.entry_enumerate_new (Nj ok l aj) ⟨hL,?_⟩;have put:Q (.ref (s.heap.objs.size+1)) { s with heap:=en2 k s.heap l }:=made _ _ rfl iE (ok.itAt ok.new λo e=>f_ _ e) λb o x=>f_ _ (f_ _ x)
 rw[←da] at put iE;exact⟨⟨_,iE,rfl⟩,put⟩
end
section
variable{B:BB}{a b c:Qe}{es:List Qe}{ga gb gc:M D}{k:Kd}
noncomputable def Ite(rd:Hp->l_->List V->Prop)(l:l_):It:=
 ⟨λi H=>∃xs x,rd H l xs/\xs[i]?=some x,λi H v H'=>∃p x,H p=none/\v=.ref p/\H'=upd H p (.tup [.int i,x])/\(∀xs,rd H l xs->xs[i]?=some x),λi H=>∃xs,rd H l xs/\xs.length<=i⟩
theorem KU{P:A_}{w:I_}{K:PySem.W.Frag}{rd:Hp->l_->List V->Prop}(ok:KdOk k)(kr:KdRd K k rd){it l:l_}(kc:z≠it)(lZ:l≠it)(oT:z≠l):
  Turn P w K (.Tuple bA x1 tp) (Ite rd l) [z,it] z (λi h=>(∃old,IsEnum h z it i old)/\k.it h it l i) where
 mem:=by simp
 obj:=λi h st b hb=>by
  obtain⟨⟨old,a1⟩,a2⟩:=st;rw[E_,t_] at hb
  rcases hb with rfl | rfl
  ·exact⟨_,a1,λv q=>by cases(show fields _=UM v from q)⟩
  ·exact ok.itObj a2
 keep:=λi h h' st kk=>by
  obtain⟨⟨old,a1⟩,a2⟩:=st;exact⟨⟨old,kk _ (by simp) _ a1⟩,ok.itAt a2 λo e=>kk _ (by simp) o e⟩
 item:=by
  intro X hP hw hK hc i aa s U H E I hf st hg;subst hP hw;obtain⟨⟨old,a1⟩,a2⟩:=st;obtain⟨xs,x,g1,g3⟩:=hg;obtain⟨ae,r1,t1⟩:=kr.of hK I g1;obtain⟨u1,e1,e2⟩:=r1.get g3
  have aR:i < ae.toArray.size:=by
   have:=(m_.mp e1).1;simpa using this
  have D:=drawsK ok (prog:=X.prog) (w:=X.w) (A:=X.A.in1) (I.ok.hd hc) it l lZ ae.toArray;refine wpAny_pyNext_enum_itemD D a1 ⟨a2,t1⟩ aR kc (by simp[kc,oT]) λy h' tk b0 b1 b2 b3 b4 b5=>?_
  have hy:y=u1:=by
   have eN:ae.toArray[i]?=some u1:=by simpa using e1
   have l7:ae.toArray[i]?=some y:=b0;rw[eN] at l7;cases l7;rfl
  subst hy;refine⟨.ref s.heap.objs.size,rfl,wpAny_letOwnedTupleGo_enum b1 λh2 c1 c2=>?_⟩;have gE:z≠s.heap.objs.size:=Qg (H_ a1);have gF:it≠s.heap.objs.size:=Qg (ok.itLt a2)
  have kk:∀b u,b∉[z,it]->s.heap.get? b=some u->h2.get? b=some u:=λb u hb e=>by
   simp only[E_,SQ,or_false,not_or] at hb;exact c2.extBut _ _ hb.1 (b5 b u hb.1 hb.2 e)
  have pT:=c2.extBut _ _ (Qx gE) b3;have I1:Inv X aa U (upd H s.heap.objs.size (.tup [.int i,x])) { s with heap:=h2,toks:=tk+1 }:=Em (t':=tk+1) I hf kk (w_ _) ⟨by show 2<=x_;rw[Q7];decide,[.int i tk,y],.cons ⟨_,rfl⟩ (.cons e2 .nil),⟨_,pT,rfl,_,rfl⟩⟩;have fr:=I.hok.fresh (w_ s.heap.objs.size);refine⟨.ref s.heap.objs.size,_,I1,rfl,⟨s.heap.objs.size,x,fr,rfl,rfl,λzs hz=>by rw[kr.inj hK I hz g1];exact g3⟩,⟨⟨y,c1⟩,ok.itAt b2.1 λo e=>c2.extBut _ _ kc.symm e⟩,λb hb=>?_⟩;have j9:=(hf b hb).1
  have nb:b≠s.heap.objs.size:=by
   rw[E_,t_] at hb
   rcases hb with rfl | rfl
   ·exact gE
   ·exact gF
  rw[rJ nb];exact j9
 done:=by
  intro X hP hw hK hc i aa s U H E I hf st hg;subst hP hw;obtain⟨⟨old,a1⟩,a2⟩:=st;obtain⟨xs,g1,g3⟩:=hg;obtain⟨ae,r1,t1⟩:=kr.of hK I g1;have c9:=r1.length;have hT:s.TypeIs (.ref z) "enumerate":=⟨_,a1,rfl⟩;have hx:ae.toArray[i]?=none:=by simp;omega
  unfold Sz;refine a_ (SG (Qr (name:=TX "__next__") hT Ur (Qy Ur hT F.entry_enumerate_next (a_ (RD (a:=(b_.ref z,[])) rfl (a_ (Rs (i:=2) a1 rfl (x:=.ref it) rfl ?_)))) (F.args_enumerate_next_1 _))));refine a_ (ok.stop (I.ok.hd hc) a2 t1 hx λh' x dZ dy=>?_);obtain⟨o,ho,ka⟩:=dy;refine a_ (RX (T:= "StopIteration") (b:=true) ⟨o,ho,ka⟩ UB ?_);refine d_ ⟨rfl,CA (t':=s.toks) I hf λb u hb e=>?_⟩;simp only[E_,SQ,or_false,not_or] at hb;exact dZ b u hb.2 e
 self:=λ_ _ _ _ _ st h=>by obtain⟨⟨old,a1⟩,_⟩:=st;exact Vn a1 h
noncomputable def iEnum(K:PySem.W.Frag)(ta:TA):TI:=λU H R=>ta U H λvs H1=>(∃l xs,vs=[.ref l]/\SqL K H1 l xs/\R (Ite (λH a xs=>SqL K H a xs) l) H1)\/(∃l xs,vs=[.ref l]/\SqT K H1 l xs/\R (Ite (λH a xs=>SqT K H a xs) l) H1)
theorem DS{rd:Hp->l_->List V->Prop}(ok:KdOk k)(kr:KdRd X.K k rd){H:Hp}{s:c_}{R:It->Hp->Prop}{l:l_}(I:Inv X aa U H s)(h1:rd H l xs)(q:R (Ite rd l) H):
  q_ (r_ X.prog X.w) X.A (call (.type "enumerate") [.ref l]) (λv s1=>q_ (r_ X.prog X.w) X.A (U4 v) (PIE X aa U (.Tuple bA x1 tp) R) X.xe s1) X.xe s:=by
 obtain⟨ae,r1,t1⟩:=kr.of rfl I h1;refine Ms ok t1 λn h' hn a1 a4 a6=>Vn a1 ?_
 subst hn;have I1:Inv X aa U H { s with heap:=h' }:=I.kept (t':=s.toks) a6;have lt:=ok.sqLt t1;refine⟨s.heap.objs.size+1,[s.heap.objs.size+1,s.heap.objs.size],_,_,H,rfl,I1,KU ok kr (Nat.succ_ne_self _) (Qg lt) (Te (Sn lt)),⟨⟨_,a1⟩,a4⟩,λb hb=>?_,q⟩;rw[E_,t_] at hb;have up:∀n,FpOk X aa H (s.heap.objs.size+n):=λn=>I.fpOk (Q5 _ _) (I.hok.fresh (Q5 _ _))
 rcases hb with rfl | rfl
 ·exact up 1
 ·exact up 0
theorem Jz{p:Pos}(hg:Gl X "enumerate")(hm:X.mg "enumerate"=none)(ha:PA X [a] ta)(hs:e_ [a] X.env=[(false,Qf a X.env)]:=by rfl):
  PI X (.Tuple bA x1 tp) (.Call (.Name "enumerate" p) [a] [] pos) (iEnum X.K ta):=by
 intro aa s U H R I h;refine Wg (tf I hg hm boot_enumerate (O_ (thn (ha pos aa s U H _ I h) λus s1 ⟨vs,H1,I1,r1,q1⟩=>?_) hs rfl))
 rcases q1 with⟨l1,xs,e,h1,q⟩ | ⟨l1,xs,e,h1,q⟩
 ·subst e;obtain⟨u1,rfl,e1⟩:=r1.one;cases e1;exact DS Dz (Cz _) I1 h1 q
 ·subst e;obtain⟨u1,rfl,e1⟩:=r1.one;cases e1;exact DS CC (Cc _) I1 h1 q
noncomputable def numD:Nat->List D->List D
 | _,[]=>[]
 | n,d::ds=>.tup [.int n,d]::numD (n+1) ds
theorem vI:∀{ds:List D}{n i:Nat}{d:D},(numD n ds)[i]?=some d->∃x,ds[i]?=some x/\d=.tup [.int ((n+i:Nat):Int),x]
 | [],n,i,d,h=>by rw[numD] at h;simp at h
 | c::ds,n,0,d,h=>by rw[numD] at h;simp at h;exact⟨c,rfl,h.symm⟩
 | c::ds,n,i+1,d,h=>by
  rw[numD] at h;obtain⟨x,e1,e2⟩:=vI (i:=i) (by simpa using h);refine⟨x,by simpa using e1,?_⟩;rw[e2,show n+1+i=n+(i+1) from by omega]
theorem A4:∀(ds:List D) (n:Nat),(numD n ds).length=ds.length
 | [],n=>by rw[numD]
 | c::ds,n=>by rw[numD,Qi,Qi,A4 ds]
noncomputable def enumI(ds:List D):Option (List D):=match ds with
 | [.lst xs]=>some (numD 0 xs)
 | [.tup xs]=>some (numD 0 xs)
 | _=>none
theorem En{K:PySem.W.Frag}{rd:Hp->l_->List V->Prop}{l:l_}(mono:∀{H a xs},Same I H->rd I a xs->rd H a xs)(h1:rd I l xs)(i1:IsA K I ds xs):Yields K I (numD 0 ds) (Ite rd l):=λi H s=>by
 refine⟨λd hd=>?_,λhi=>⟨xs,mono s h1,?_⟩⟩
 ·obtain⟨y,e1,rfl⟩:=vI hd;obtain⟨x,f1,f2⟩:=i1.get e1;refine⟨⟨xs,x,mono s h1,f1⟩,λv H2 hy=>?_⟩;obtain⟨p,x',g1,g2,g3,g4⟩:=hy;have k1:=g4 xs (mono s h1);rw[f1] at k1;cases k1;refine .inr ⟨p,_,[.int i,x],rfl,g2,g1,g3,IsA.cons ?_ (IsA.cons f2 IsA.nil)⟩;rw[VY];exact Is.int _
 ·rw[A4,i1.length] at hi;exact hi
theorem y9{p:Pos}{t:M (List D)}(hg:Gl X "enumerate")(hm:X.mg "enumerate"=none)(ha:AD X B [a] t)(hs:e_ [a] X.env=[(false,Qf a X.env)]:=by rfl):
  ITD X B (.Tuple bA x1 tp) (.Call (.Name "enumerate" p) [a] [] pos) (fn1 enumI t):=PI.imp (Jz hg hm ha hs) λU H R q=>by
 obtain⟨G,I,Y,ds,af,r,e1,k⟩:=q;obtain⟨d,ac,e2,e3⟩:=rG e1;obtain⟨e4,rfl⟩:=rW e3;refine⟨G,I,Y,d,_,r,e2,λvs H1 I1 r1 g1 hd=>?_⟩;unfold enumI at e4;split at e4
 ·cases e4;obtain⟨x,rfl,hx⟩:=hd.one;obtain⟨l1,xs,rfl,h1,h2⟩:=sd hx;exact .inl ⟨l1,xs,rfl,(Same.rdK r1.iH h1).sq,k _ _ _ r1 g1 (En (λs h=>by rcases h with h | h;exact .inl (Same.rd s h);exact .inr h) h1.sq h2)⟩
 ·cases e4;obtain⟨x,rfl,hx⟩:=hd.one;obtain⟨l1,xs,rfl,h1,h2⟩:=rZ hx;exact .inr ⟨l1,xs,rfl,Same.sqT r1.iH h1,k _ _ _ r1 g1 (En (λs h=>Same.sqT s h) h1 h2)⟩
 ·cases e4
noncomputable def blsD:List D->Option (List Bool)
 | []=>some []
 | .bl b::ds=>match blsD ds with
  | some bs=>some (b::bs)
  | none=>none
 | _=>none
theorem yY:∀{ds:List D}{bs:List Bool},blsD ds=some bs->ds=bs.map .bl
 | [],bs,h=>by rw[blsD] at h;cases h;rfl
 | .bl b::ds,bs,h=>by
  rw[blsD] at h;cases e:blsD ds with
  | none=>rw[e] at h;cases h
  | some cs=>rw[e] at h;cases h;rw[yY e];rfl
 | .non::_,_,h=>by cases h
 | .int _::_,_,h=>by cases h
 | .str _::_,_,h=>by cases h
 | .tup _::_,_,h=>by cases h
 | .lst _::_,_,h=>by cases h
theorem yc{K:PySem.W.Frag}{I:Hp}:∀{bs:List Bool}{xs:List V},IsA K I (bs.map .bl) xs->xs=bs.map .bl
 | [],xs,h=>h.nil_inv
 | b::bs,xs,h=>by
  obtain⟨x,r,rfl,h1,h2⟩:=h.cons_inv;rw[sK h1,yc h2];rfl
theorem yf:∀{bs:List Bool}{us:List b_},Vals (bs.map .bl) us->us=bs.map .bool
 | [],us,h=>by cases h;rfl
 | b::bs,us,h=>by
  cases h with
  | cons r t=>rw[yf t];cases r;rfl
theorem LD(bs:List Bool):(Qw bs.length).all (λi=>bs.getD i true)=bs.all id:=by
 induction bs with
 | nil=>rfl
 | cons b bs ih =>
  rw[Qi,RN,QY,List.all_map,QY]
  congr 1
theorem HU(bs:List Bool):(Qw bs.length).any (λi=>bs.getD i true)=bs.any id:=by
 induction bs with
 | nil=>rfl
 | cons b bs ih =>
  rw[Qi,RN,R6,List.any_map,R6]
  congr 1
theorem Lb(hc:X.calm=true):CallR X (.builtin "all") (λxs H Q=>∃(p:l_) (bs:List Bool),xs=[.ref p]/\SqL X.K H p (bs.map .bl)/\Q (.bl (bs.all id)) H):=by
 intro aa s U H xs us Q I r h;obtain⟨p,bs,rfl,hq,q⟩:=h;obtain⟨u,rfl,ru⟩:=vals1 r;cases ru;obtain⟨ae,rv,t,hz⟩:=I.list hq;have:=yf rv;subst this;have lt:p < s.heap.objs.size:=by obtain⟨_,e,_⟩:=t.isList;exact H_ e
 refine call_all_walk (Rt t.isList ?_);refine⟨s.heap.objs.size,_,_,_,_,_,λi=>bs.getD i true,rfl,Vb (A:=X.A.in1) (I.ok.hd hc) s.heap.objs.size p (Qg lt) _,⟨⟨_,z_ _ rfl,rfl,rfl⟩,t.isList.push _⟩,?_,?_⟩
 ·intro i v s' Q' E' hv hQ;have bO:(bs.map b_.bool)[i]?=some v:=by simpa using hv
  obtain⟨b,e1,rfl⟩:=getMap bO;have hQ:Q' (bs.getD i true) s':=hQ;rw[h_,e1] at hQ;exact Qz hQ
 ·intro h' tk kk;have e1:(bs.map b_.bool).toArray.size=bs.length:=by simp
  rw[e1,LD];refine⟨.bl (bs.all id),H,I.kept λb o e=>kk b o (by simp only[t_];exact Qg (H_ e)) (f_ _ e),rfl,q⟩
theorem Fb(hc:X.calm=true):CallR X (.builtin "any") (λxs H Q=>∃(p:l_) (bs:List Bool),xs=[.ref p]/\SqL X.K H p (bs.map .bl)/\Q (.bl (bs.any id)) H):=by
 intro aa s U H xs us Q I r h;obtain⟨p,bs,rfl,hq,q⟩:=h;obtain⟨u,rfl,ru⟩:=vals1 r;cases ru;obtain⟨ae,rv,t,hz⟩:=I.list hq;have:=yf rv;subst this;have lt:p < s.heap.objs.size:=by obtain⟨_,e,_⟩:=t.isList;exact H_ e
 refine call_any_walk (Rt t.isList ?_);refine⟨s.heap.objs.size,_,_,_,_,_,λi=>bs.getD i true,rfl,Vb (A:=X.A.in1) (I.ok.hd hc) s.heap.objs.size p (Qg lt) _,⟨⟨_,z_ _ rfl,rfl,rfl⟩,t.isList.push _⟩,?_,?_⟩
 ·intro i v s' Q' E' hv hQ;have bO:(bs.map b_.bool)[i]?=some v:=by simpa using hv
  obtain⟨b,e1,rfl⟩:=getMap bO;have hQ:Q' (bs.getD i true) s':=hQ;rw[h_,e1] at hQ;exact Qz hQ
 ·intro h' tk kk;have e1:(bs.map b_.bool).toArray.size=bs.length:=by simp
  rw[e1,HU];refine⟨.bl (bs.any id),H,I.kept λb o e=>kk b o (by simp only[t_];exact Qg (H_ e)) (f_ _ e),rfl,q⟩
noncomputable def allF(ds:List D):Option D:=match ds with
 | [.lst xs]=>match blsD xs with
  | some bs=>some (.bl (bs.all id))
  | none=>none
 | _=>none
noncomputable def anyF(ds:List D):Option D:=match ds with
 | [.lst xs]=>match blsD xs with
  | some bs=>some (.bl (bs.any id))
  | none=>none
 | _=>none
theorem DE{p:Pos}{t:M (List D)}(hc:X.calm=true)(hg:Gl X "all")(hm:X.mg "all"=none)(ha:AD X B [e] t)(he:e_ [e] X.env=(false,Qf e X.env)::e_ [] X.env:=by rfl)(aF:(Qk pos (e_ [] X.env)).any (·.1)=false:=by rfl):
  ED X B (.Call (.Name "all" p) [e] [] pos) (fn1 allF t):=vc (Lb hc) (λds d e B G I H U Y xs Q r h k=>by
 unfold allF at e;split at e
 ·split at e
  ·rename_i bs eb;cases e;have:=yY eb;subst this;obtain⟨x,rfl,hx⟩:=h.one;obtain⟨q,zs,rfl,h3,h4⟩:=sd hx;have:=yc h4;subst this;exact⟨q,bs,rfl,(Same.rdK r.iH h3).sq,k.now r (Is.bl _)⟩
  ·cases e
 ·cases e) hg hm boot_all ha (by decide) (by decide) he aF
theorem Mc{p:Pos}{t:M (List D)}(hc:X.calm=true)(hg:Gl X "any")(hm:X.mg "any"=none)(ha:AD X B [e] t)(he:e_ [e] X.env=(false,Qf e X.env)::e_ [] X.env:=by rfl)(aF:(Qk pos (e_ [] X.env)).any (·.1)=false:=by rfl):
  ED X B (.Call (.Name "any" p) [e] [] pos) (fn1 anyF t):=vc (Fb hc) (λds d e B G I H U Y xs Q r h k=>by
 unfold anyF at e;split at e
 ·split at e
  ·rename_i bs eb;cases e;have:=yY eb;subst this;obtain⟨x,rfl,hx⟩:=h.one;obtain⟨q,zs,rfl,h3,h4⟩:=sd hx;have:=yc h4;subst this;exact⟨q,bs,rfl,(Same.rdK r.iH h3).sq,k.now r (Is.bl _)⟩
  ·cases e
 ·cases e) hg hm boot_any ha (by decide) (by decide) he aF
noncomputable def reprF(ds:List D):Option D:=match ds with
 | [.bl b]=>some (.str (if b then "True" else "False"))
 | _=>none
end
theorem CompScope.of{cy sc:S_}{N N':List Str}(h:decide (sc.kind=.function/\(∀y∈sc.names,y.2≠.cell)/\(∀y∈sc.names,y.2=.local->sc.names.lookup y.1=some .local)/\(∀y∈sc.names,y.2=.free->cy.names.lookup y.1=some .cell\/cy.names.lookup y.1=some .free)/\N'.Nodup/\N'.length=m+N.length ∧
   (∀p∈(N'.drop m).zip N,((relab sc cy).names.lookup p.1=none)\/(p.1=p.2/\(relab sc cy).names.lookup p.1≠some .local)))=true):CompScope cy sc N N' m:=by
 obtain⟨h1,h2,h3,h4,h5,h6,h7⟩:=of_decide_eq_true h;exact⟨h1,h2,h3,h4,h5,h6,h7⟩
theorem tG{P:A_}{w:I_}{K:PySem.W.Frag}:FnOk P w K mg base CX0 k f fd ps (spD K λ_=>none):=by
 have no:∀vs H Q E,¬spD K (λ_=>none) vs H Q E:=λvs H Q E h=>by
  obtain⟨_,_,_,_,_,_,_,h,_⟩:=h;cases h
 exact⟨λvs H Q E h=>absurd h (no vs H Q E),λA outer s H args us vs Q E _ _ _ _ h=>absurd h (no vs H Q E)⟩
theorem Gc{K:PySem.W.Frag}{H:Hp}{g:List R->Option (R×List R)}(ly:RdK K H a (ns.map V.int))(hg:∃rs,g [.val (.lst (ns.map D.int))]=some (.val (.bl true),rs)):spD K g [.ref a] H (λv _=>v=.bl true) λ_ _ _=>False:=by
 obtain⟨rs,hg⟩:=hg
 have l9:∀ns:List Int,IsA K H (ns.map D.int) (ns.map V.int):=λns=>by
  induction ns with
  | nil=>exact IsA.nil
  | cons n ns ih=>exact IsA.cons (Is.int n) ih
 refine⟨H,H,[.val (.lst (ns.map D.int))],.val (.bl true),rs,?_,rfl,hg,λv H' I' r g' hv=>sK (K:=K) (I:=I') hv⟩;refine⟨Same.refl _,Same.refl _,rfl,λi r e=>?_,λi j r r' v e e' m=>?_,λi ds e=>rfl⟩
 ·match i,e with
  | 0,e=>cases e;exact⟨_,rfl,Is.lst ly (l9 ns)⟩
 ·match i,e with
  | 0,e=>cases e;cases m
theorem Gh{P:A_}{w:I_}{K:PySem.W.Frag}{mb:Str->Option b_}{CX:CXT}{sp:Sp}(KX:K.In aB.heap)(gy:aB.heap.Ns QV mg)(hb:aB.heap.Ns VJ mb)(oU:∀x:Str,x ≠ "__name__"->mb x=Q2 x)(fq:aB.heap.NoLimit)(hg:aB.gens=#[])(ha:aB.heap.get? a=some { cls:=.type "list", data:=.seq vs.toArray })(hi:VF vs ns)(hl:ns.length<=x_)(hr:Room k UN)(F:∀base:L_,K.In base->base.Ns QV mg->FnOk P w K mg base CX k fa fd [x] sp)(kf:∀(s:c_) (u:b_),Vf s fd ⟨[u],[]⟩ [(x,u)])(dX:∀H:Hp,Only H->RdK K H a (ns.map V.int)->sp [.ref a] H (λv _=>v=.bl true) λ_ _ _=>False)(kh:∀H e s',CX [] H aB (λ_ _ _=>False) e s'->False):
  Sk (r_ P w) UN (.call (.ref fa) ⟨[.ref a],[]⟩) (λr s'=>r=.ok (.ret (.bool true))/\OldK aB.heap s'.heap/\s'.os=aB.os/\Ts s'.gens) aB:=by
 have rv:=Dx hi;have ma:=hi.length
 -- from an abstract heap in which nothing but the script may be cT
 have jE:∀H:Hp,Only H->RdK K H a (ns.map V.int)->HOk P w H aB.heap->(∀b,H b≠none->b=a)->(H a≠none->K.lookup a=none) →
   Sk (r_ P w) UN (.call (.ref fa) ⟨[.ref a],[]⟩) (λr s'=>r=.ok (.ret (.bool true))/\OldK aB.heap s'.heap/\s'.os=aB.os/\Ts s'.gens) aB:=by
  intro H hO hS hok hA hK;have ef:∀{b:l_}{o:Obj},aB.heap.get? b=some o->H b=none->(hidT aB.heap H).get? b=some o:=λe n=>Ll e n
  have fW:∀{b:l_}{o:Obj}{es:Array DictEntry}{ep:Nat},aB.heap.get? b=some o->o.data=.dict es ep->H b=none:=λ{b o es ep} e d=>by
   cases q:H b with
   | none=>rfl
   | some u =>
    have e':b=a:=hA b (by rw[q];simp);subst e';rw[ha] at e;cases e;have d':seq vs.toArray _=Data.dict es ep:=d;cases d'
  have iF:∀{b:l_}{m:Str->Option b_},aB.heap.Ns b m->(hidT aB.heap H).Ns b m:=λ{b m} ⟨o,es,ep,e,d,r⟩=>⟨o,es,ep,ef e (fW e d),d,r⟩
  have md:K.In (hidT aB.heap H):=λb o e=>ef (KX b o e) (by
   cases q:H b with
   | none=>rfl
   | some u =>
    have e':b=a:=hA b (by rw[q];simp);subst e'
    rw[hK (by rw[q];simp)] at e;cases e)
  have hM:Mod K mg (hidT aB.heap H):=⟨md,iF gy,⟨mb,iF hb,oU⟩,let ⟨mc,h1,h2⟩:=fq;⟨mc,iF h1,h2⟩⟩;have e0:Env0 P w K mg (hidT aB.heap H) UN [] aB H:=⟨rfl,hM,λb o e=>Gx e,Vk (FF _ _),trivial,λb hb=>absurd (show b∈([]:List l_) from hb) (by simp),hok,.of_eq hg⟩;refine RV ((F _ md (iF gy)).run UN [] aB H ⟨[.ref a],[]⟩ [.ref a] [.ref a] _ _ hr e0 (kf aB (.ref a)) (.cons rfl .nil) (dX H hO hS)) λr s' h=>?_
  cases r with
  | error e=>exact(kh H e s' h).elim
  | ok fl =>
   cases fl with
   | next=>exact V8 h
   | brk=>exact V8 h
   | cont=>exact V8 h
   | ret u =>
    obtain⟨v,H',os,bare,un,me,r',q⟩:=h;have q':v=.bl true:=q;subst q';obtain rfl:u=b_.bool true:=r';refine⟨rfl,OldK.of_keep λb o e=>?_,os,bare⟩;cases q:H b with
    | none=>exact un.keep b o e q (by intro z;exact absurd (show b∈([]:List l_) from z) (by simp)) (by simp)
    | some u =>
     rcases hO b with z | ⟨ob,xs,z⟩
     ·rw[q] at z;cases z
     ·have z2:=un.frzs b ob _ z;obtain⟨e1,_⟩:=hok b _ z;obtain⟨e2,_⟩:=me b _ z2;rw[e] at e1;cases e1;exact e2
 cases hk:K.lookup a with
 | some o =>
  -- the script is one of the module's own objects
  have e:=KX a o hk;rw[ha] at e;cases e;refine jE (λ_=>none) (λ_=>.inl rfl) (.inr ⟨vs,_,hk,rv,by rw[ma];exact hl⟩) (λb u z=>by have z':(none:Option HO)=some u:=z;cases z') (λb z=>absurd rfl z) λz=>absurd rfl z
 | none =>
  refine jE (λb=>if b=a then some (.frz { cls:=.type "list", data:=.seq vs.toArray } (.lst (ns.map V.int))) else none) (λb=>?_) (.inl (.inr ⟨{ cls:=.type "list", data:=.seq vs.toArray },if_pos rfl⟩)) (λb u z=>?_) (λb z=>?_) λ_=>hk
  ·by_cases hb:b=a
   ·exact .inr ⟨_,_,if_pos hb⟩
   ·exact .inl (if_neg hb)
  ·by_cases hb:b=a
   ·have z':=(if_pos hb).symm.trans z;cases z';subst hb;exact⟨ha,by rw[s_];exact hl,vs,_,rv,ha⟩
   ·have z':=(if_neg hb).symm.trans z;cases z'
  ·by_cases hb:b=a
   ·exact hb
   ·exact absurd (if_neg hb) z
theorem Kl{l:PySem.W.OpenLaw}{q:A_}{XP:(Str->Option b_)->L_->Prop}{YP:I_->L_->Prop}{d:DefRec}{K:Params->PySem.W.Frag}{CX:I_->CXT}{sp:I_->Sp}(hn:l.most=some n)(db:n<=x_)(ge:d.params.defaults=[])(hr:Room k UN)(hY:∀(w:I_) (h:L_),YP w h->(K w.params).In h)(F:∀(w:I_) (mg:Str->Option b_) (fa:l_) (h:L_),(K w.params).In h->h.Ns QV mg->mg d.name=some (.ref fa) →
   ∃fd:Rp,(∀(s:c_) (u:b_),Vf s fd ⟨[u],[]⟩ [(x,u)]) ∧
    ∀base:L_,(K w.params).In base->base.Ns QV mg->FnOk l.prog w (K w.params) mg base (CX w) k fa fd [x] (sp w))(dX:∀(w:I_) (H:Hp) (a:l_) (ns:List Int),ns.length<=n->Only H->RdK (K w.params) H a (ns.map V.int)->sp w [.ref a] H (λv _=>v=.bl true) λ_ _ _=>False)(kh:∀(w:I_) (H:Hp) (s:c_) (e:b_) (s':c_),CX w [] H s (λ_ _ _=>False) e s'->False):
  PySem.W.WalkO q cw XP YP l.row.toRowW d [] (λf vs=>PySem.call f vs):=by
 refine Att.HJ hn ge λw s₀ aB mg mb fa o pm cd bL a vs ns G rC ho hd cu gf gj eK aR hg=>?_
 have KX:=hY w _ rC;obtain⟨fd,hb,hF⟩:=F w mg fa _ KX G.T.g gf;exact Gh KX G.T.g G.T.b G.T.builtins G.T.nolimit hg gj eK (y_ aR db) hr hF hb (λH hO hS=>dX w H a ns aR hO hS) λH e s'=>kh w H aB e s'
noncomputable def un1{α:Type}(F:D->Option α)(g:M D):M α:=bnd g λd=>lft (F d)
inductive Ki where
 | iT | sT | bT | tT | lT
noncomputable def Ki.nm:Ki->String
 | .iT => "int"
 | .sT => "str"
 | .bT => "bool"
 | .tT => "tuple"
 | .lT => "list"
noncomputable def isiB:Ki->D->Bool
 | .iT,.int _=>true
 | .iT,.bl _=>true
 | .sT,.str _=>true
 | .bT,.bl _=>true
 | .tT,.tup _=>true
 | .lT,.lst _=>true
 | _,_=>false
noncomputable def isiF(k:Ki)(d:D):Option D:=some (.bl (isiB k d))
section
variable{B:BB}{ga:M D}
theorem Il{k:Ki}{h:L_}{ae:Array b_}{prog:A_}{w:I_}{E:b_->c_->Prop}{s:c_}{Q:b_->c_->Prop}(hl:s.heap.IsList a ae)(q:∀t,Q (.bool (isiB k (.lst ds))) { s with toks:=t }):q_ (r_ prog w) A (call (.builtin "isinstance") [.ref a,.type k.nm]) Q E s:=by
 cases k
 ·exact PySem.IsiPair.isList_int hl (λ_ _ z=>z) (q _)
 ·exact PySem.IsiPair.isList_str hl (λ_ _ z=>z) (q _)
 ·exact PySem.IsiPair.isList_bool hl (λ_ _ z=>z) (q _)
 ·exact PySem.IsiPair.isList_tuple hl (λ_ _ z=>z) (q _)
 ·exact PySem.IsiPair.isList_list hl (λ_ _ z=>z) (q _)
theorem NE{k:Ki}{h:L_}{ae:Array b_}{prog:A_}{w:I_}{E:b_->c_->Prop}{s:c_}{Q:b_->c_->Prop}(hl:s.heap.IsTuple a ae)(q:∀t,Q (.bool (isiB k (.tup ds))) { s with toks:=t }):q_ (r_ prog w) A (call (.builtin "isinstance") [.ref a,.type k.nm]) Q E s:=by
 cases k
 ·exact PySem.IsiPair.isTuple_int hl (λ_ _ z=>z) (q _)
 ·exact PySem.IsiPair.isTuple_str hl (λ_ _ z=>z) (q _)
 ·exact PySem.IsiPair.isTuple_bool hl (λ_ _ z=>z) (q _)
 ·exact PySem.IsiPair.isTuple_tuple hl (λ_ _ z=>z) (q _)
 ·exact PySem.IsiPair.isTuple_list hl (λ_ _ z=>z) (q _)
theorem J0(k:Ki):CallR X (.builtin "isinstance") (λxs H Q=>∃d x,xs=[x,.ty k.nm]/\Is X.K H d x/\Q (.bl (isiB k d)) H):=by
 intro aa s U H xs us Q I r h;obtain⟨d,x,rfl,hd,q⟩:=h;cases r with
 | cons rx r =>
  cases r with
  | cons rt r =>
   cases r;cases rt;have fin:∀t,EP X aa U Q (.bool (isiB k d)) { s with toks:=t }:=λt=>⟨.bl _,H,I.tok _,rfl,q⟩
   cases d with
   | non =>
    cases(show x=.non from by rw[Is] at hd;exact hd)
    cases rx;cases k
    ·exact PySem.IsiPair.NoneType_int (fin _)
    ·exact PySem.IsiPair.NoneType_str (fin _)
    ·exact PySem.IsiPair.NoneType_bool (fin _)
    ·exact PySem.IsiPair.NoneType_tuple (fin _)
    ·exact PySem.IsiPair.NoneType_list (fin _)
   | bl b =>
    cases sK hd;cases rx;cases k
    ·exact bool_int (fin _)
    ·exact bool_str (fin _)
    ·exact bool_bool (fin _)
    ·exact PySem.IsiPair.bool_tuple (fin _)
    ·exact bool_list (fin _)
   | int i =>
    cases rM hd;obtain⟨t,rfl⟩:=rx;cases k
    ·exact PySem.IsiPair.int_int (fin _)
    ·exact int_str (fin _)
    ·exact int_bool (fin _)
    ·exact int_tuple (fin _)
    ·exact int_list (fin _)
   | str y =>
    cases(show x=.str y from by rw[Is] at hd;exact hd)
    obtain⟨t,rfl⟩:=rx;cases k
    ·exact str_int (fin _)
    ·exact str_str (fin _)
    ·exact str_bool (fin _)
    ·exact str_tuple (fin _)
    ·exact str_list (fin _)
   | tup ds =>
    obtain⟨a,xs,rfl,h1,h2⟩:=rZ hd;cases rx;obtain⟨ae,_,t,_⟩:=I.tuple h1;exact NE (h:=s.heap) t fin
   | lst ds =>
    obtain⟨a,xs,rfl,h1,h2⟩:=sd hd;cases rx;obtain⟨ae,_,t,_⟩:=I.list h1.sq;exact Il (h:=s.heap) t.isList fin
theorem LF{k:Ki}:∀U H Q,tD X.K B (un1 (isiF k) ga) U H Q->tCB (λxs H Q=>∃d x,xs=[x,.ty k.nm]/\Is X.K H d x/\Q (.bl (isiB k d)) H) (tCons (tD X.K B ga) (tCons (tC (.ty k.nm)) tNil)) U H Q:=λU H Q q=>by
 obtain⟨G,I,Y,d,af,r,e1,k⟩:=q;obtain⟨d1,ac,e2,e3⟩:=rG e1;obtain⟨e4,rfl⟩:=rW e3;cases e4;exact⟨G,I,Y,d1,_,r,e2,λv H1 I1 r1 g1 h1=>⟨d1,v,rfl,h1.mono r1.iH,k _ _ _ r1 g1 (Is.bl _)⟩⟩
theorem v3{k:Ki}{t:Str}{p:Pos}(hv:Q2 t=some (.type k.nm))(hn:t ≠ "__name__")(hd:(t == ("__debug__":Str))=false)(hg:Gl X "isinstance")(hm:X.mg "isinstance"=none)(cA:Gl X t)(bP:X.mg t=none)(ha:ED X B e ga)(he:e_ [e,.Name t p2] X.env=(false,Qf e X.env)::e_ [.Name t p2] X.env:=by rfl)(ca:e_ [.Name t p2] X.env=(false,Qf (.Name t p2) X.env)::e_ [] X.env:=by rfl)(aF:(Qk pos (e_ [.Name t p2] X.env)).any (·.1)=false:=by rfl):
  ED X B (.Call (.Name "isinstance" p) [e,.Name t p2] [] pos) (un1 (isiF k) ga):=
 PE.imp (xq (J0 k) hg hm boot_isinstance (sY ha (sY (GK (v:=.ty k.nm) cA bP hv rfl hn hd) vP ca) he) (by decide) (by decide) he aF) LF
theorem z7{p:Pos}(hg:Gl X "isinstance")(hm:X.mg "isinstance"=none)(cA:Gl X "int")(bP:X.mg "int"=none)(ha:ED X B e ga)(he:e_ [e,.Name "int" p2] X.env=(false,Qf e X.env)::e_ [.Name "int" p2] X.env:=by rfl)(ca:e_ [.Name "int" p2] X.env=(false,Qf (.Name "int" p2) X.env)::e_ [] X.env:=by rfl)(aF:(Qk pos (e_ [.Name "int" p2] X.env)).any (·.1)=false:=by rfl):
  ED X B (.Call (.Name "isinstance" p) [e,.Name "int" p2] [] pos) (un1 (isiF .iT) ga):=v3 (k:=.iT) boot_int (by decide) (by decide) hg hm cA bP ha he ca aF
theorem HK{p:Pos}(hg:Gl X "isinstance")(hm:X.mg "isinstance"=none)(cA:Gl X "str")(bP:X.mg "str"=none)(ha:ED X B e ga)(he:e_ [e,.Name "str" p2] X.env=(false,Qf e X.env)::e_ [.Name "str" p2] X.env:=by rfl)(ca:e_ [.Name "str" p2] X.env=(false,Qf (.Name "str" p2) X.env)::e_ [] X.env:=by rfl)(aF:(Qk pos (e_ [.Name "str" p2] X.env)).any (·.1)=false:=by rfl):
  ED X B (.Call (.Name "isinstance" p) [e,.Name "str" p2] [] pos) (un1 (isiF .sT) ga):=v3 (k:=.sT) boot_str (by decide) (by decide) hg hm cA bP ha he ca aF
theorem wA{p:Pos}(hg:Gl X "isinstance")(hm:X.mg "isinstance"=none)(cA:Gl X "bool")(bP:X.mg "bool"=none)(ha:ED X B e ga)(he:e_ [e,.Name "bool" p2] X.env=(false,Qf e X.env)::e_ [.Name "bool" p2] X.env:=by rfl)(ca:e_ [.Name "bool" p2] X.env=(false,Qf (.Name "bool" p2) X.env)::e_ [] X.env:=by rfl)(aF:(Qk pos (e_ [.Name "bool" p2] X.env)).any (·.1)=false:=by rfl):
  ED X B (.Call (.Name "isinstance" p) [e,.Name "bool" p2] [] pos) (un1 (isiF .bT) ga):=v3 (k:=.bT) boot_bool (by decide) (by decide) hg hm cA bP ha he ca aF
theorem BX{p:Pos}(hg:Gl X "isinstance")(hm:X.mg "isinstance"=none)(cA:Gl X "tuple")(bP:X.mg "tuple"=none)(ha:ED X B e ga)(he:e_ [e,.Name "tuple" p2] X.env=(false,Qf e X.env)::e_ [.Name "tuple" p2] X.env:=by rfl)(ca:e_ [.Name "tuple" p2] X.env=(false,Qf (.Name "tuple" p2) X.env)::e_ [] X.env:=by rfl)(aF:(Qk pos (e_ [.Name "tuple" p2] X.env)).any (·.1)=false:=by rfl):
  ED X B (.Call (.Name "isinstance" p) [e,.Name "tuple" p2] [] pos) (un1 (isiF .tT) ga):=v3 (k:=.tT) boot_tuple (by decide) (by decide) hg hm cA bP ha he ca aF
theorem Ck{p:Pos}(hg:Gl X "isinstance")(hm:X.mg "isinstance"=none)(cA:Gl X "list")(bP:X.mg "list"=none)(ha:ED X B e ga)(he:e_ [e,.Name "list" p2] X.env=(false,Qf e X.env)::e_ [.Name "list" p2] X.env:=by rfl)(ca:e_ [.Name "list" p2] X.env=(false,Qf (.Name "list" p2) X.env)::e_ [] X.env:=by rfl)(aF:(Qk pos (e_ [.Name "list" p2] X.env)).any (·.1)=false:=by rfl):
  ED X B (.Call (.Name "isinstance" p) [e,.Name "list" p2] [] pos) (un1 (isiF .lT) ga):=v3 (k:=.lT) boot_list (by decide) (by decide) hg hm cA bP ha he ca aF
noncomputable def negI(d:D):Option D:=match d with
 | .int i=>some (.int (-i))
 | _=>none
theorem Js:∀U H Q,tD X.K B (un1 negI ga) U H Q->tUn (rU λi=>.int (-i)) (tD X.K B ga) U H Q:=λU H Q q=>by
 obtain⟨G,I,Y,d,af,r,e1,k⟩:=q;obtain⟨d1,ac,e2,e3⟩:=rG e1;obtain⟨e4,rfl⟩:=rW e3;unfold negI at e4;split at e4
 ·cases e4;exact⟨G,I,Y,_,_,r,e2,λv H1 I1 r1 g1 h1=>⟨_,rM h1,k _ _ _ r1 g1 (Is.int _)⟩⟩
 ·cases e4
theorem AJ(ha:ED X B e ga):ED X B (.UnaryOp .USub e pos) (un1 negI ga):=PE.imp (Hn MR ha) Js
end
end DL
namespace PySem.SeqAt
def RcLtAt(A:Q6)(s:c_)(y x:b_)(b:Bool):Prop:=
 ∀(prog:A_) (w:I_) (E:b_->c_->Prop) (Q:b_->c_->Prop),Q (.bool b) s->q_ (r_ prog w) A (richCompare .Lt y x) Q E s
noncomputable def ltFrom(e lt:Nat->Bool)(d:Bool):List Nat->Bool
 | []=>d
 | i::r=>if e i then ltFrom e lt d r else lt i
theorem Ld(u v:l_)(us vs:Array b_)(p q:Nat)(du dv:Option l_)(ku kv:Array (Option b_))(e lt:Nat->Bool):
  Meets (Rr.«tuple.__lt__» ⟨[.ref u,.ref v],[]⟩) (λA aZ s=>(s.heap.get? u=some ⟨.type "tuple", du,.seq us p,ku⟩/\s.heap.get? v=some ⟨.type "tuple", dv,.seq vs q,kv⟩) ∧
    (∀j (h1:j < us.size) (h2:j < vs.size),V6 A.in1 s us[j] vs[j] (e j)/\(e j=false->RcLtAt A.in1 s us[j] vs[j] (lt j)))/\aZ (.ok (.ret (.bool (ltFrom e lt (decide (us.size < vs.size)) (Qw (min us.size vs.size)))))) s):=
 .of_wp λprog w A aZ s given=>by
  obtain⟨hp,gn,dw,tk,os⟩:=s;obtain⟨⟨gu,gv⟩,gG,mf⟩:=given;obtain⟨gI,hs⟩:∃gI:Nat->Prop,gI=λi=>aZ (.ok (.ret (.bool (ltFrom e lt (decide (us.size < vs.size)) ((Qw (min us.size vs.size)).drop i))))) ⟨hp,gn,dw,tk,os⟩:=⟨_,rfl⟩
  have jC:=AutoSeq1.sub_tuple_tuple;have len:(us.toList.zip vs.toList).length=min us.size vs.size:=by rw[VX];rfl
  wp_walk using TK gu,TK gv,wpAny_forIn_list _ (λleft eM now=>eM.1=none/\now=⟨hp,gn,dw,tk,os⟩/\∃i,left=(us.toList.zip vs.toList).drop i/\gI i) _
  case turn =>
   rintro⟨y,x⟩ left eM now ⟨aV,rfl,i,aW,say⟩
   have here:i < min us.size vs.size:=by
    rw[←len];exact Nat.lt_of_not_le λno=>by rw[So no] at aW;exact List.cons_ne_nil _ _ aW
   have k1:i < us.size:=by omega
   have k2:i < vs.size:=by omega
   have cut:=P_ (l:=us.toList.zip vs.toList) (i:=i) (len▸here);rw[←aW,List.getElem_zip] at cut;obtain⟨yx,tail⟩:=List.cons.inj cut;obtain⟨rfl,rfl⟩:=Prod.mk.inj yx;rw[hs] at say;have jF:=P_ (l:=Qw (min us.size vs.size)) (i:=i) (by simpa using here);rw[TH] at jF;rw[jF,ltFrom] at say;have two:=gG i k1 k2;refine a_ (two.1 prog w _ _ ?_);cases like:e i with
   | true =>
    rw[like,if_pos rfl] at say
    wp_walk
    exact⟨rfl,rfl,i+1,tail,by rw[hs];exact say⟩
   | false =>
    rw[like,if_neg j_] at say;refine a_ (Va (a_ (two.2 like prog w _ _ ?_)))
    wp_walk
    exact⟨_,rfl,say⟩
  case fin =>
   rintro⟨eM,_⟩ now ⟨aV,rfl,i,aW,say⟩;cases aV
   have ft:min us.size vs.size<=i:=by
    rw[←len];exact UC.mp aW.symm
   rw[hs] at say;rw[So (by simpa using ft),ltFrom] at say
   wp_walk
   exact⟨_,rfl,by simpa[Rr.Tuple.tupleCompareSizes] using say⟩
  case h=>exact⟨rfl,rfl,0,rfl,by rw[hs];exact mf⟩
theorem RcLtAt.tuples{s:c_}{u v:l_}{us vs:Array b_}{e lt:Nat->Bool}(hu:s.heap.IsTuple u us)(hv:s.heap.IsTuple v vs)(room:A.units < Q8)(gG:∀j (h1:j < us.size) (h2:j < vs.size),V6 A.in1 s us[j] vs[j] (e j)/\(e j=false->RcLtAt A.in1 s us[j] vs[j] (lt j))):RcLtAt A s (.ref u) (.ref v) (ltFrom e lt (decide (us.size < vs.size)) (Qw (min us.size vs.size))):=by
 obtain⟨⟨_,du,_,ku⟩,gu,rfl,p,rfl⟩:=hu;obtain⟨⟨_,dv,_,kv⟩,gv,rfl,q,rfl⟩:=hv;exact λprog w E Q h=>richCompare_meets_room (op:=.Lt) ⟨_,gu,rfl⟩ ⟨_,gv,rfl⟩ F.slot_tuple_lt F.entry_tuple_lt (F.args_tuple_lt_2 _ _) (Ld u v us vs p q du dv ku kv e lt) ⟨⟨gu,gv⟩,gG,b_.noConfusion,h⟩ room
theorem RcLtAt.int_int{s:c_}(a:Int)(t:Tok)(b:Int)(u:Tok):RcLtAt A s (.int a t) (.int b u) (decide (a < b)):=λprog w E Q h=>PyProof.Rows.lt_int h
end PySem.SeqAt
namespace DL
open PySem PySem.Spec PyProof.Rows L2
section
variable{B:BB}{a b c:Qe}{es:List Qe}
noncomputable def rngV(n:Nat):List V:=(Qw n).map λ(k:Nat)=>V.int (0+(k:Int))
theorem Aq:∀{xs:List V}{us:List b_},xs.length=us.length->(∀(i:Nat) x u,xs[i]?=some x->us[i]?=some u->RelV x u)->Vals xs us
 | [],[],_,_=>.nil
 | [],_::_,h,_=>by cases h
 | _::_,[],h,_=>by cases h
 | x::xs,u::us,h,k=>.cons (k 0 x u rfl rfl) (Aq (RY h) λi y v e f=>k (i+1) y v e f)
theorem JH{p:Pos}(hc:X.calm=true)(hl:Gl X "list")(ki:X.mg "list"=none)(hg:Gl X "range")(hm:X.mg "range"=none)(ha:PA X [a] ta)(hs:e_ [a] X.env=[(false,Qf a X.env)]:=by rfl)(ck:e_ [.Call (.Name "range" p2) [a] [] cH] X.env=[(false,Qf (.Call (.Name "range" p2) [a] [] cH) X.env)]:=by rfl):
  PE X (.Call (.Name "list" p) [.Call (.Name "range" p2) [a] [] cH] [] pos) (λU H Q=>ta U H λvs H1=>∃j:Int,vs=[.int j]/\-1000000<=j/\j<=1000000/\∀l,H1 l=none->Q (.ref l) (upd H1 l (.lst (rngV j.toNat)))):=by
 intro aa s U H Q I h;refine Wg (tf I hl ki boot_list (O_ ?_ ck rfl));rw[ck];refine Tg (Wg (tf I hg hm VN (O_ (thn (ha cH aa s U H _ I h) λus s1 ⟨vs,H1,I1,r1,q1⟩=>?_) hs rfl)));obtain⟨j,rfl,q1,q2,q⟩:=q1;obtain⟨u,rfl,t,rfl⟩:=vals1 r1;refine call_range_1 (Tt ?_);have size:rangeSize 0 j 1=j.toNat:=by rw[rangeSize_one];split<;>omega
 refine call_list_range (I1.ok.hd hc) (IsRange.new ..) (small_one (by decide) (by decide) (by omega) (by omega)) size (by omega) λg tk ag c' keep aW aj=>?_
 refine⟨.ref _,_,I1.laid (t':=tk) (λb o e=>keep b o (f_ _ e)) ?_ (o:=.lst (rngV j.toNat)) ⟨?_,ag.toList,c',?_,aW⟩,rfl,q _ ?_⟩
 ·exact SM (by show _ < (L_.push _ _).objs.size;rw[RJ];exact S6 _)
 ·show(rngV j.toNat).length<=x_;rw[rngV,s_,S5,Q7];omega
 ·refine Aq (by rw[rngV,s_,S5,QC,aj.1]) λi x u e f=>?_
  rw[Uq] at f;obtain⟨t',rfl⟩:=aj.2 i u f;obtain⟨k,e1,rfl⟩:=getMap e;obtain⟨k1,k2⟩:=m_.mp e1;rw[TH] at k2;subst k2;exact⟨t',by simp⟩
 ·refine I1.hok.fresh (SM ?_);show _ < (L_.push _ _).objs.size;rw[RJ];exact S6 _
theorem MD{K:PySem.W.Frag}(n:Nat):IsA K I (rngD 0 n) (rngV n):=by
 unfold rngD rngV
 induction Qw n with
 | nil=>exact IsA.nil
 | cons k ks ih=>exact IsA.cons (Is.int _) ih
theorem DD{p:Pos}{t:M (List D)}(hc:X.calm=true)(hl:Gl X "list")(ki:X.mg "list"=none)(hg:Gl X "range")(hm:X.mg "range"=none)(ha:AD X B [a] t)(hs:e_ [a] X.env=[(false,Qf a X.env)]:=by rfl)(ck:e_ [.Call (.Name "range" p2) [a] [] cH] X.env=[(false,Qf (.Call (.Name "range" p2) [a] [] cH) X.env)]:=by rfl):
  EO X B (.Call (.Name "list" p) [.Call (.Name "range" p2) [a] [] cH] [] pos) (fn1 rngI1 t):=PE.imp (JH hc hl ki hg hm ha hs ck) λU H Q q=>by
 obtain⟨G,I,Y,ds,af,r,e1,k⟩:=q;obtain⟨d,ac,e2,e3⟩:=rG e1;obtain⟨e4,rfl⟩:=rW e3;obtain⟨j,rfl,⟨h1,h2⟩,rfl⟩:=AW e4;refine⟨G,I,Y,_,_,r,e2,λvs H1 I1 r1 g1 hd=>?_⟩;obtain⟨x,rfl,hx⟩:=hd.one;exact⟨j,by rw[rM hx],h1,h2,λl hl=>(k.after g1).new r1 hl (MD _)⟩
end
section
variable{prog:A_}{w:I_}{E:b_->c_->Prop}{s:c_}
def SlotAt(P:Nat->b_->Prop)(bt:Nat->Nat->Bool)(j:Nat)(cells:Array b_):Prop:=match j with
 | 0=>cells=#[]
 | j+1=>∃b,cells=#[b,b]/\P (R9 bt j) b
theorem Nd{it:l_}{wr:List l_}{P:Nat->b_->Prop}{St:Nat->L_->Prop}{Fit:c_->Prop}{aZ:Result->c_->Prop}(W:Walks prog w A.in1 it fp wr n P St)(jG:S∉fp)(VV:∀s,Fit s->∀i j vi vj,P i vi->P j vj->PySem.SeqAt.RcLtAt A.in1 s vi vj (bt i j))(stay:∀s h' tk,Fit s->(∀b o,b∉wr->b≠S->s.heap.get? b=some o->h'.get? b=some o)->Fit { s with heap:=h',toks:=tk })(gJ:0 < n)(fin:∀v s,P (R9 bt (n - 1)) v->Fit s->aZ (.ok (.ret v)) s):∀(left:Nat) (s:c_) (cells:Array b_) (c j:Nat),j+left=n->St j s.heap->Fit s->SlotAt P bt j cells->s.heap.get? S=some { cls:=.type "list", dict:=none,data:=.seq cells c,slots:=#[] } →
   Sk (r_ prog w) A (.builtin "min.loop" ⟨[.ref it,.none,.ref S],[]⟩) aZ s:=by
 have apart:S∉wr:=λh=>jG (W.sub _ h)
 have eS:∀{g:L_}{f:Obj->Obj}{b:l_}{o:Obj},b≠S->g.get? b=some o->(g.update S f).get? b=some o:=λne e=>(Qc _ _ (Qx ne)).trans e
 have cn:(toString "min"++toString ".loop":String) = "min.loop":=by decide
 intro left
 induction left with
 | zero =>
  intro s cells c j len st kj fu slot;obtain⟨m,rfl⟩:∃m,j=m+1:=⟨j - 1,by omega⟩;obtain⟨b,rfl,fv⟩:=fu;refine Rb F.entry_min_loop ?_;rw[RK RB _];refine a_ (m:=seqItems? (.ref S)) (QT slot rfl (a_ (m:=tryCatch (Sz (.ref it)) _) (UD (W.done s _ _ (len▸st) λg tk kk=>?_))));refine a_ (m:=updateSeq S λ_=>#[]) (R_ (kk S _ apart slot) rfl (a_ (SO (d_ (fin b _ (by rw[←len];exact fv) (stay s _ tk kj λx o n1 n2 e=>eS n2 (kk x o n1 e)))))))
 | succ left ih =>
  intro s cells c j len st kj fu slot;refine Rb F.entry_min_loop ?_;rw[RK RB _];refine a_ (m:=seqItems? (.ref S)) (QT slot rfl (a_ (m:=tryCatch (Sz (.ref it)) _) (UD (W.item j s _ _ (by omega) st λv g tk kl iG kk=>?_))));have de:=kk S _ apart slot;have gK:=stay s g tk kj λx o n1 _ e=>kk x o n1 e
  have next:∀(f:Obj->Obj) (cR:Array b_) (c':Nat),(g.update S f).get? S=some { cls:=.type "list", dict:=none,data:=.seq cR c',slots:=#[] }->SlotAt P bt (j+1) cR →
    Sk (r_ prog w) A (.builtin "min.loop" ⟨[.ref it,.none,.ref S],[]⟩) aZ { s with heap:=g.update S f,toks:=tk }:=λf cR c' here is =>
   ih _ cR c' (j+1) (by omega) (W.frame _ _ _ iG λb hb o e=>eS (λz=>jG (z▸hb)) e) (stay { s with heap:=g,toks:=tk } _ tk gK λx o _ n2 e=>eS n2 e) is here
  cases j with
  | zero =>
   cases fu;refine a_ (m:=updateSeq S λ_=>#[v,v]) (R_ de rfl ?_);rw[cn];exact d_ ⟨Rg RB _,next _ _ _ (QH _ de rfl) ⟨v,rfl,kl⟩⟩
  | succ m =>
   obtain⟨b,rfl,fv⟩:=fu;refine a_ (m:=tryCatch (S4 [v,v] (richCompare .Lt v b >>= _)) _) (UD (Qv (a_ (VV _ gK (m+1) (R9 bt m) v b kl fv prog w _ _ (a_ (Qv (Qz (a_ (SO (d_ ?_))))))))));cases hb:bt (m+1) (R9 bt m) with
   | true =>
    rw[if_pos rfl];refine a_ (R_ de rfl (a_ (SO ?_)));rw[cn];exact d_ ⟨Rg RB _,next _ _ _ (QH _ de rfl) ⟨v,rfl,by rw[R9,hb];exact kl⟩⟩
   | false =>
    rw[if_neg j_];refine a_ (SO ?_);rw[cn];exact d_ ⟨Rg RB _,ih _ _ c (m+2) (by omega) iG gK ⟨b,rfl,by rw[R9,hb];exact fv⟩ de⟩
theorem DB(bt:Nat->Nat->Bool):∀k,R9 bt k<=k
 | 0=>w_ _
 | k+1=>by
  rw[R9];split
  ·exact w_ _
  ·exact Nat.le_succ_of_le (DB bt k)
theorem Kv{p:l_}{Q:b_->c_->Prop}(hh:A.handled=none)(L:s.heap.IsList p aj)(gJ:0 < aj.size)(VV:∀h' tk,(∀b o,s.heap.get? b=some o->h'.get? b=some o)->∀i j vi vj,aj[i]?=some vi->aj[j]?=some vj->PySem.SeqAt.RcLtAt A.in1 { s with heap:=h',toks:=tk } vi vj (bt i j))(fin:∀v h' tk,aj[R9 bt (aj.size - 1)]?=some v->(∀b o,s.heap.get? b=some o->h'.get? b=some o)->Q v { s with heap:=h',toks:=tk }):q_ (r_ prog w) A (call (.builtin "min") [.ref p]) Q E s:=by
 have low:p < s.heap.objs.size:=by obtain⟨_,e,_⟩:=L;exact H_ e
 refine call_function_tree F.kind_min F.plain_min F.entry_min (F.args_min1 _) ?_;refine a_ (RD (a:=[none,none]) rfl (a_ (d_ (a_ (Rt L (a_ (Qh ?_)))))));have cn:(toString "min"++toString ".loop":String) = "min.loop":=by decide
 rw[cn];have W:=Vb (prog:=prog) (w:=w) (A:=A.in1) hh s.heap.objs.size p (Qg low) aj;have da:∀o:Obj,(s.heap.push o).objs.size=s.heap.objs.size+1:=λo=>RJ ..
 refine d_ ⟨Rg RB _,Nd (Fit:=λs'=>∃h' tk,s'={ s with heap:=h',toks:=tk }/\∀b o,s.heap.get? b=some o->h'.get? b=some o) (bt:=bt) W ?_ ?_ ?_ gJ ?_ aj.size _ #[] 0 0 (VY _) ⟨⟨_,f_ _ (z_ _ rfl),rfl,rfl⟩,(L.push _).push _⟩ ⟨_,_,rfl,λb o e=>f_ _ (f_ _ e)⟩ rfl (z_ _ rfl)⟩
 ·rw[da];intro z;rw[E_,t_] at z
  rcases z with z | z
  ·exact absurd z (Nat.succ_ne_self _)
  ·exact absurd z (Te (Sn low))
 ·rintro _ ⟨g,tk,rfl,keep⟩ i j vi vj hi hj;exact VV g tk keep i j vi vj hi hj
 ·rintro _ h' tk ⟨g,iI,rfl,keep⟩ k;refine⟨h',tk,rfl,λb o e=>k b o (λz=>?_) (λz=>?_) (keep b o e)⟩
  ·rw[t_] at z;exact Qg (H_ e) z
  ·rw[da] at z;have:=H_ e;rw[z] at this;exact absurd this (Nat.not_lt.mpr (VE _))
 ·rintro v _ hv ⟨g,tk,rfl,keep⟩;exact fin v g tk hv keep
end
section
variable{B:BB}{a b c:Qe}{es:List Qe}{kr:Nat}
noncomputable def prD(p:Int×Int):D:=.tup [.int p.1,.int p.2]
noncomputable def ltP(p q:Int×Int):Bool:=if p.1 == q.1 then decide (p.2 < q.2) else decide (p.1 < q.1)
noncomputable def prsD:List D->Option (List (Int×Int))
 | []=>some []
 | .tup [.int a,.int b]::ds=>match prsD ds with
  | some ps=>some ((a,b)::ps)
  | none=>none
 | _=>none
theorem MU:∀(ds:List D) (ps:List (Int×Int)),prsD ds=some ps->ds=ps.map prD:=by
 intro ds
 fun_induction prsD ds with
 | case1=>intro ps h;cases h;rfl
 | case2 a b ds qs e ih=>intro ps h;cases h;rw[ih qs e];rfl
 | case3 a b ds e ih=>intro ps h;cases h
 | case4 ds=>intro ps h;cases h
noncomputable def btP(ps:List (Int×Int))(i j:Nat):Bool:=ltP (ps.getD i (0,0)) (ps.getD j (0,0))
noncomputable def minP(ps:List (Int×Int)):Int×Int:=ps.getD (R9 (btP ps) (ps.length - 1)) (0,0)
open PySem.SeqAt in
theorem Mg{s:c_}{u v:l_}{p q:Int×Int}{t1 t2 t3 t4:Tok}(room:A.units < Q8)(hu:s.heap.IsTuple u #[.int p.1 t1,.int p.2 t2])(hv:s.heap.IsTuple v #[.int q.1 t3,.int q.2 t4]):RcLtAt A s (.ref u) (.ref v) (ltP p q):=by
 have:=RcLtAt.tuples (e:=λk=>if k=0 then p.1 == q.1 else p.2 == q.2) (lt:=λk=>if k=0 then decide (p.1 < q.1) else decide (p.2 < q.2)) hu hv room (λj h1 h2=>?_)
 ·have e:ltFrom (λk=>if k=0 then p.1 == q.1 else p.2 == q.2) (λk=>if k=0 then decide (p.1 < q.1) else decide (p.2 < q.2)) (decide (2 < 2)) [0,1]=ltP p q:=by
   simp only[ltFrom,ltP];by_cases z:p.1=q.1
   ·by_cases z2:p.2=q.2<;>simp[z,z2]
   ·simp[z]
  rw[←e];exact this
 ·match j,h1,h2 with
  | 0,_,_=>exact⟨V6.int_int _ _ _ _,λ_=>RcLtAt.int_int _ _ _ _⟩
  | 1,_,_=>exact⟨V6.int_int _ _ _ _,λ_=>RcLtAt.int_int _ _ _ _⟩
  | k+2,h,_=>exact absurd h (by simp)
theorem Lx(hc:X.calm=true)(hu:X.A.units+100 < Q8):CallR X (.builtin "min") (λxs H Q=>∃(p:l_) (zs:List V) (ps:List (Int×Int)),xs=[.ref p]/\SqL X.K H p zs/\ps≠[]/\zs.length=ps.length ∧
  (∀(i:Nat) z,zs[i]?=some z->∃q,z=.ref q/\SqT X.K H q [.int (ps.getD i (0,0)).1,.int (ps.getD i (0,0)).2])/\∀z,zs[R9 (btP ps) (ps.length - 1)]?=some z->Q z H):=by
 intro aa s U H xs us Q I r h;obtain⟨p,zs,ps,rfl,hq,ne,len,gx,q⟩:=h;obtain⟨u,rfl,ru⟩:=vals1 r;cases ru;obtain⟨ae,rv,t,hz⟩:=I.list hq;have ln:=rv.length;have sz:ae.toArray.size=ps.length:=by rw[o_,←ln,len]
 have tup:∀i v,ae.toArray[i]?=some v->∃q t1 t2,v=.ref q/\s.heap.IsTuple q #[.int (ps.getD i (0,0)).1 t1,.int (ps.getD i (0,0)).2 t2]:=λi v hv=>by
  have bO:ae[i]?=some v:=by simpa using hv
  have hi:i < zs.length:=by rw[ln];exact(m_.mp bO).1
  obtain⟨q,e1,e2⟩:=gx i zs[i] (g_ hi);obtain⟨w,e3,e4⟩:=rv.get (g_ hi);rw[bO] at e3;cases e3;rw[e1] at e4;cases e4;obtain⟨bu,r2,t2,_⟩:=I.tuple e2;obtain⟨u1,u2,rfl,⟨k1,rfl⟩,⟨k2,rfl⟩⟩:=r2.two;exact⟨q,k1,k2,rfl,t2⟩
 refine Kv (bt:=btP ps) (I.ok.hd hc) t.isList (by rw[sz];exact Tj.mpr ne) (λg tk keep i j vi vj hi hj=>?_) λv g tk hv keep=>?_
 ·obtain⟨q1,t1,t2,rfl,T1⟩:=tup i vi hi;obtain⟨q2,t3,t4,rfl,T2⟩:=tup j vj hj;have up:∀{q:l_}{us:Array b_},s.heap.IsTuple q us->g.IsTuple q us:=λT=>by obtain⟨o,e,r⟩:=T;exact⟨o,keep _ o e,r⟩
  exact Mg (by show X.A.units+1 < Q8;omega) (up T1) (up T2)
 ·rw[sz] at hv;have bO:ae[R9 (btP ps) (ps.length - 1)]?=some v:=by simpa using hv
  have hi:R9 (btP ps) (ps.length - 1) < zs.length:=by rw[ln];exact(m_.mp bO).1
  obtain⟨w,e3,e4⟩:=rv.get (g_ hi);rw[bO] at e3;cases e3;exact⟨_,H,I.kept keep,e4,q _ (g_ hi)⟩
noncomputable def minlF(ds:List D):Option D:=match ds with
 | [.lst xs]=>match prsD xs with
  | some (p::ps)=>some (prD (minP (p::ps)))
  | _=>none
 | _=>none
theorem MG{p:Pos}{t:M (List D)}(hc:X.calm=true)(hr:Room kr X.A)(hg:Gl X "min")(hm:X.mg "min"=none)(ha:AD X B [e] t)(he:e_ [e] X.env=(false,Qf e X.env)::e_ [] X.env:=by rfl)(aF:(Qk pos (e_ [] X.env)).any (·.1)=false:=by rfl):
  ED X B (.Call (.Name "min" p) [e] [] pos) (fn1 minlF t):=vc (Lx hc (hu100 hr)) (λds d e B G I H U Y xs Q r h k=>by
 unfold minlF at e;split at e
 ·split at e
  ·rename_i p1 ps eb;cases e;have:=MU _ _ eb;subst this;obtain⟨x,rfl,hx⟩:=h.one;obtain⟨q,zs,rfl,h3,h4⟩:=sd hx;have L:=h4.length;rw[s_] at L
   have jH:∀(i:Nat) z,zs[i]?=some z->Is X.K I (prD ((p1::ps).getD i (0,0))) z:=λi z hz=>by
    have hi:i < (p1::ps).length:=by rw[L];exact(m_.mp hz).1
    obtain⟨z',e1,e2⟩:=h4.get (i:=i) (d:=prD (p1::ps)[i]) (by rw[u_,g_ hi];rfl);rw[hz] at e1;cases e1;rw[h_,g_ hi];exact e2
   refine⟨q,zs,p1::ps,rfl,(Same.rdK r.iH h3).sq,by simp,L.symm,λi z hz=>?_,λz hz=>k.now r (jH _ z hz)⟩;obtain⟨q2,ys,rfl,e1,e2⟩:=rZ (jH i z hz);obtain⟨y1,y2,rfl,f1,f2⟩:=e2.two;rw[rM f1,rM f2] at e1;exact⟨q2,rfl,Same.sqT r.iH e1⟩
  ·cases e
 ·cases e) hg hm boot_min ha (by decide) (by decide) he aF
end
end DL
namespace DL
open PySem PySem.W PyProof.Rows
structure Ord(lt:Nat->Nat->Bool):Prop where
 as:∀a b,lt a b=true->lt b a=false
 tr:∀a b c,lt b a=false->lt c b=false->lt c a=false
section
variable{lt:Nat->Nat->Bool}{s:c_}
def askIn(n:Nat)(lt:Nat->Nat->Bool):Nat->Nat->(Bool->c_->Prop)->c_->Prop:=λi j C s=>i < n/\j < n/\C (lt i j) s
noncomputable def gt(p:Array Nat)(i:Nat):Nat:=p.getD i 0
def Pm(n:Nat)(p:Array Nat):Prop:=p.Perm (Qw n).toArray
def Dn(lt:Nat->Nat->Bool)(p:Array Nat)(m:Nat):Prop:=∀i j,i < j->j < m->lt (gt p i) (gt p j)=false
def Up(lt:Nat->Nat->Bool)(p:Array Nat)(m:Nat):Prop:=∀i j,i < j->j < m->lt (gt p j) (gt p i)=false
def Eqs(lt:Nat->Nat->Bool)(p:Array Nat)(a b:Nat):Prop:=∀i j,a<=i->i < b->a<=j->j < b->lt (gt p i) (gt p j)=false
theorem Pm.size{p:Array Nat}(h:Pm n p):p.size=n:=by
 have:=h.size_eq;simpa using this
theorem Pm.bd{p:Array Nat}(h:Pm n p)(pos:0 < n)(i:Nat):gt p i < n:=by
 unfold gt;by_cases hi:i < p.size
 ·have:p[i]∈(Qw n).toArray:=h.mem_iff.mp (RP hi);rw[Wh,dif_pos hi];simpa using this
 ·rw[Wh,dif_neg hi];exact pos
theorem wJ{p:Array Nat}:gt p i=p[i]?.getD 0:=by
 unfold gt;exact Rk ..
theorem ua{p:Array Nat}(hj:j<=p.size)(k:Nat):gt (Vo p i j) k=if i<=k/\k < j then gt p (i+j - 1 - k) else gt p k:=by
 rw[wJ,wJ,wJ];unfold Vo;rw[getElem?_mirror_all hj];split<;>rfl
theorem CZ{p:Array Nat}{cz d:Nat}(hs:cz < p.size)(hd:d<=cz)(k:Nat):gt (bubble p cz d) k=if k=cz - d then gt p cz else if cz - d < k/\k<=cz then gt p (k - 1) else gt p k:=by
 simp only[wJ];rw[getElem?_bubble hs d hd];split
 ·rfl
 ·split<;>rfl
theorem Pm.rev{p:Array Nat}(h:Pm n p)(i j:Nat):Pm n (Vo p i j):=trans (mirror_perm _ _ _ _) h
theorem w4{α:Type}{mh:Nat->Nat->(Bool->c_->Prop)->c_->Prop}{Q:α->c_->Prop}{P:α->Prop}(hc:∀i j C,i < n->j < n->C (lt i j) s->mh i j C s)(hq:∀a,P a->Q a s):∀t:KasT α,t.kasWp (askIn n lt) (λa _=>P a) s->t.kasWp mh Q s
 | .ret a,h=>hq a h
 | .ask i j k,⟨h1,h2,h3⟩=>hc i j _ h1 h2 (w4 hc hq (k (lt i j)) h3)
theorem vG{α Z:Type}{t:KasT α}{f:α->KasT Z}{P:α->Prop}{Q:Z->Prop}(h:t.kasWp (askIn n lt) (λa _=>P a) s)(k:∀a,P a->(f a).kasWp (askIn n lt) (λb _=>Q b) s):(t.bind f).kasWp (askIn n lt) (λb _=>Q b) s:=by
 rw[KasT.kasWp_bind];exact w4 (λi j C h1 h2 h3=>⟨h1,h2,h3⟩) (λa ha=>k a ha) t h
variable (O:Ord lt)(two:2<=n)
include O
theorem Ord.irr(a:Nat):lt a a=false:=by
 cases h:lt a a with
 | false=>rfl
 | true=>rw[←h];exact O.as a a h
theorem Ord.lt_le{a b c:Nat}(h1:lt a b=true)(h2:lt c b=false):lt a c=true:=by
 cases h:lt a c with
 | true=>rfl
 | false =>
  -- c<=a,b<=c
  have:=O.tr b c a h2 h;rw[this] at h1;cases h1
include two
theorem AU{p:Array Nat}(hp:Pm n p):∀(f m:Nat),1<=m->(kas_asc p f m).kasWp (askIn n lt) (λm' _=>m<=m'/\m'<=m+f/\(∀k,m<=k->k < m'->lt (gt p k) (gt p (k - 1))=false)/\(m' < m+f->lt (gt p m') (gt p (m' - 1))=true)) s
 | 0,m,_=>by
  rw[kas_asc];exact⟨w_ _,w_ _,λk h1 h2=>by omega,λh=>by omega⟩
 | f+1,m,hm=>by
  rw[kas_asc];refine⟨hp.bd (by omega) m,hp.bd (by omega) (m - 1),?_⟩;cases h:lt (p.getD m 0) (p.getD (m - 1) 0) with
  | true =>
   dsimp only;rw[if_pos rfl];exact⟨w_ _,by omega,λk h1 h2=>by omega,λ_=>h⟩
  | false =>
   dsimp only;rw[if_neg j_];refine w4 (λi j C h1 h2 h3=>⟨h1,h2,h3⟩) (λm' h'=>?_) _ (AU hp f (m+1) (by omega));obtain⟨a1,a2,a3,a4⟩:=h';refine⟨by omega,by omega,λk h1 h2=>?_,λh'=>a4 (by omega)⟩;by_cases z:k=m
   ·rw[z];exact h
   ·exact a3 k (by omega) h2
omit two in
theorem Up.of_steps{p:Array Nat}{m':Nat}(hm:Up lt p m)(st:∀k,m<=k->k < m'->1<=k->lt (gt p k) (gt p (k - 1))=false):Up lt p m':=by
 intro i j
 induction j with
 | zero=>intro h;omega
 | succ j ih =>
  intro dz hj;by_cases z:j+1 < m
  ·exact hm i (j+1) dz z
  ·have s1:=st (j+1) (by omega) hj (by omega);rw[Nat.add_sub_cancel] at s1;by_cases e:i=j
   ·rw[e];exact s1
   ·exact O.tr _ _ _ (ih (by omega) (by omega)) s1
omit two O in
theorem Dn.up{p:Array Nat}{m:Nat}(hm:m<=p.size)(h:Dn lt p m):Up lt (Vo p 0 m) m:=by
 intro i j dz hj;rw[ua hm,ua hm,if_pos ⟨Qp _,hj⟩,if_pos ⟨Qp _,by omega⟩];exact h _ _ (by omega) (by omega)
omit two O in
theorem Dn.turn{p:Array Nat}{a:Nat}(hm:m<=p.size)(h:Dn lt p m)(e:Eqs lt p a m):Dn lt (Vo p a m) m:=by
 intro i j dz hj;rw[ua hm,ua hm];by_cases h1:a<=i
 ·rw[if_pos ⟨h1,by omega⟩,if_pos ⟨by omega,hj⟩];exact e _ _ (by omega) (by omega) (by omega) (by omega)
 ·rw[if_neg (by omega)];by_cases h2:a<=j
  ·rw[if_pos ⟨h2,hj⟩];exact h _ _ (by omega) (by omega)
  ·rw[if_neg (by omega)];exact h _ _ dz hj
omit two in
theorem Dn.next{p:Array Nat}(h:Dn lt p m)(hm:1<=m)(st:lt (gt p (m - 1)) (gt p m)=false):Dn lt p (m+1):=by
 intro i j dz hj;by_cases z:j < m
 ·exact h i j dz z
 ·have:j=m:=by omega
  subst this;by_cases e:i=j - 1
  ·rw[e];exact st
  ·exact O.tr _ _ _ st (h i (j - 1) (by omega) (by omega))
theorem xS:∀(f:Nat) (p:Array Nat) (m q:Nat),Pm n p->1<=m->m+f<=n->q < m->Dn lt p m->Eqs lt p (m - (q+1)) m →
  (kas_desc f p m q).kasWp (askIn n lt) (λr _=>Pm n r.1/\1<=r.2.1/\r.2.1<=n/\r.2.2 < r.2.1/\Dn lt r.1 r.2.1/\Eqs lt r.1 (r.2.1 - (r.2.2+1)) r.2.1) s
 | 0,p,m,q,hp,h1,h2,h3,h4,h5=>by
  rw[kas_desc];exact⟨hp,h1,(by show m<=n;omega),h3,h4,h5⟩
 | f+1,p,m,q,hp,h1,h2,h3,h4,h5=>by
  rw[kas_desc]
  have one:∀(p':Array Nat),Pm n p'->Eqs lt p' (m+1 - (0+1)) (m+1):=λp' _ i j a b c d=>by
   have:i=m:=by omega
   have:j=m:=by omega
   subst i;subst j;exact O.irr _
  refine⟨hp.bd (by omega) m,hp.bd (by omega) (m - 1),?_⟩;cases h:lt (p.getD m 0) (p.getD (m - 1) 0) with
  | true =>
   dsimp only;rw[if_pos rfl];have st:lt (gt p (m - 1)) (gt p m)=false:=O.as _ _ h;split
   ·have sz:m<=p.size:=by rw[hp.size];omega
    refine xS f _ (m+1) 0 (hp.rev _ _) (by omega) (by omega) (by omega) (Dn.next O (h4.turn sz h5) h1 ?_) (one _ (hp.rev _ _));rw[ua sz,ua sz,if_pos ⟨by omega,by omega⟩,if_neg (by omega)];refine O.tr _ _ _ st ?_;exact h5 _ _ (by omega) (by omega) (by omega) (by omega)
   ·exact xS f _ (m+1) 0 hp (by omega) (by omega) (by omega) (Dn.next O h4 h1 st) (one _ hp)
  | false =>
   dsimp only;rw[if_neg j_];refine⟨hp.bd (by omega) (m - 1),hp.bd (by omega) m,?_⟩;cases h':lt (p.getD (m - 1) 0) (p.getD m 0) with
   | true =>
    dsimp only;rw[if_pos rfl];exact⟨hp,h1,(by show m<=n;omega),h3,h4,h5⟩
   | false =>
    dsimp only;rw[if_neg j_];refine xS f p (m+1) (q+1) hp (by omega) (by omega) (by omega) (Dn.next O h4 h1 h') λi j a b c d=>?_
    have up:∀i,m - (q+1)<=i->i < m->lt (gt p i) (gt p m)=false:=λi x y=>O.tr _ _ _ h' (h5 i (m - 1) x y (by omega) (by omega))
    have dn:∀i,m - (q+1)<=i->i < m->lt (gt p m) (gt p i)=false:=λi x y=>O.tr _ _ _ (h5 (m - 1) i (by omega) (by omega) x y) h
    by_cases zi:i=m
    ·by_cases zj:j=m
     ·rw[zi,zj];exact O.irr _
     ·rw[zi];exact dn j (by omega) (by omega)
    ·by_cases zj:j=m
     ·rw[zj];exact up i (by omega) (by omega)
     ·exact h5 i j (by omega) (by omega) (by omega) (by omega)
theorem BY{p:Array Nat}(hp:Pm n p)(h1:1<=m)(h2:m<=n)(h:Dn lt p m):(kas_tail3 m n p).kasWp (askIn n lt) (λr _=>1<=r.1/\r.1<=n/\Pm n r.2/\Up lt r.2 r.1) s:=by
 unfold kas_tail3;refine vG (AU O two (hp.rev 0 m) (n - m) m h1) λm' ⟨a1,a2,a3,_⟩=>?_
 have up:=h.up (by rw[hp.size];exact h2);exact⟨by omega,by omega,hp.rev 0 m,Up.of_steps O up λk x y _=>a3 k x y⟩
theorem A7{p:Array Nat}(hp:Pm n p)(h1:1<=m)(h2:m < n)(h:Dn lt p (m+1)):(kas_descPart m n p).kasWp (askIn n lt) (λr _=>1<=r.1/\r.1<=n/\Pm n r.2/\Up lt r.2 r.1) s:=by
 unfold kas_descPart;refine vG (xS O two (n - (m+1)) p (m+1) 0 hp (by omega) (by omega) (by omega) h λi j a b c d=>?_) λr ⟨b1,b2,b3,b4,b5,b6⟩=>?_
 ·have:i=m:=by omega
  have:j=m:=by omega
  subst i;subst j;exact O.irr _
 ·split
  ·exact BY O two (b1.rev _ _) b2 b3 (b5.turn (by rw[b1.size];exact b3) b6)
  ·exact BY O two b1 b2 b3 b5
theorem Lo{p:Array Nat}(hp:Pm n p):(kas_count n p).kasWp (askIn n lt) (λr _=>1<=r.1/\r.1<=n/\Pm n r.2/\Up lt r.2 r.1) s:=by
 unfold kas_count;refine vG (AU O two hp (n - 1) 1 (w_ _)) λm ⟨a1,a2,a3,a4⟩=>?_
 have up1:Up lt p m:=Up.of_steps O (m:=1) (λi j x y=>by omega) λk x y z=>a3 k x y
 split
 ·exact⟨a1,by omega,hp,up1⟩
 ·rename_i ne;have ne:m≠n:=by simpa using ne
  have fw:=a4 (by omega);split
  ·refine⟨hp.bd (by omega) 0,hp.bd (by omega) (m - 1),?_⟩;cases h:lt (p.getD 0 0) (p.getD (m - 1) 0) with
   | true =>
    dsimp only;rw[if_pos rfl];exact⟨a1,by omega,hp,up1⟩
   | false =>
    dsimp only;rw[if_neg j_]
    have all:Eqs lt p 0 m:=λi j x1 x2 y1 y2=>by
     -- the first is not VV than the fw,and they rise
     have l0:∀i,i < m->lt (gt p i) (gt p 0)=false:=λi x=>by
      by_cases z:i=0
      ·rw[z];exact O.irr _
      ·exact up1 0 i (by omega) x
     have lz:∀j,j < m->lt (gt p (m - 1)) (gt p j)=false:=λj x=>by
      by_cases z:j=m - 1
      ·rw[z];exact O.irr _
      ·exact up1 j (m - 1) (by omega) (by omega)
     -- i against j: i<=fw<=first<=j,whichever
     have f1:lt (gt p i) (gt p (m - 1))=false:=O.tr _ _ _ h (l0 i x2);exact O.tr _ _ _ (lz j y2) f1
    have sz:m<=p.size:=by rw[hp.size];omega
    have all2:Dn lt (Vo p 0 m) m:=Dn.turn sz (λi j x y=>all i j (Qp _) (by omega) (Qp _) y) all;refine A7 O two (hp.rev _ _) a1 (by omega) (Dn.next O all2 a1 ?_);rw[ua sz,ua sz,if_pos ⟨Qp _,by omega⟩,if_neg (by omega)];refine O.tr _ _ _ (O.as _ _ fw) ?_;exact all _ _ (Qp _) (by omega) (Qp _) (by omega)
  ·have:m=1:=by omega
   subst this;exact A7 O two hp (w_ _) (by omega) (Dn.next O (λi j x y=>by omega) (w_ _) (O.as _ _ fw))
theorem zw{p:Array Nat}{k:Nat}(hp:Pm n p)(hk:k < n)(up:Up lt p k):∀(f l r:Nat),l<=r->r<=k->r - l<=f->(∀i,i < l->lt (gt p k) (gt p i)=false)->(∀i,r<=i->i < k->lt (gt p k) (gt p i)=true) →
  (kas_place p k f l r).kasWp (askIn n lt) (λl' _=>l'<=k/\(∀i,i < l'->lt (gt p k) (gt p i)=false)/\∀i,l'<=i->i < k->lt (gt p k) (gt p i)=true) s
 | 0,l,r,h1,h2,h3,h4,h5=>by
  rw[kas_place];exact⟨by omega,h4,λi x y=>h5 i (by omega) y⟩
 | f+1,l,r,h1,h2,h3,h4,h5=>by
  rw[kas_place];split
  ·exact⟨by omega,h4,λi x y=>h5 i (by omega) y⟩
  ·refine⟨hp.bd (by omega) k,hp.bd (by omega) _,?_⟩;cases h:lt (p.getD k 0) (p.getD ((l+r) / 2) 0) with
   | true =>
    dsimp only;rw[if_pos rfl];refine zw hp hk up f l ((l+r) / 2) (by omega) (by omega) (by omega) h4 λi x y=>?_
    by_cases z:i=(l+r) / 2
    ·rw[z];exact h
    ·exact O.lt_le h (up _ _ (by omega) y)
   | false =>
    dsimp only;rw[if_neg j_];refine zw hp hk up f ((l+r) / 2+1) r (by omega) (by omega) (by omega) (λi x=>?_) h5;by_cases z:i=(l+r) / 2
    ·rw[z];exact h
    ·exact O.tr _ _ _ (up i ((l+r) / 2) (by omega) (by omega)) h
theorem DR:∀(f:Nat) (p:Array Nat) (k:Nat),Pm n p->Up lt p k->1<=k->k+f=n->(kas_bin f p k).kasWp (askIn n lt) (λp' _=>Pm n p'/\Up lt p' n) s
 | 0,p,k,hp,up,h1,h2=>by
  rw[kas_bin];have:k=n:=by omega
  subst this;exact⟨hp,up⟩
 | f+1,p,k,hp,up,h1,h2=>by
  rw[kas_bin];refine vG (zw O two hp (by omega) up k 0 k (Qp _) (w_ _) (by omega) (λi h=>by omega) λi x y=>by omega) λl ⟨c1,c2,c3⟩=>?_
  refine DR f _ (k+1) (trans (bubble_perm _ _ _) hp) (λi j dz hj=>?_) (by omega) (by omega);have hk:k < p.size:=by rw[hp.size];omega
  rw[CZ hk (by omega),CZ hk (by omega),show k - (k - l)=l by omega];by_cases j1:j=l
  ·rw[if_pos j1,if_neg (by omega),if_neg (by omega)];exact c2 i (by omega)
  ·rw[if_neg j1];by_cases j2:l < j/\j<=k
   ·rw[if_pos j2];by_cases i1:i=l
    ·rw[if_pos i1];exact O.as _ _ (c3 (j - 1) (by omega) (by omega))
    ·rw[if_neg i1];by_cases i2:l < i/\i<=k
     ·rw[if_pos i2];exact up _ _ (by omega) (by omega)
     ·rw[if_neg i2];exact up _ _ (by omega) (by omega)
   ·rw[if_neg j2,if_neg (by omega),if_neg (by omega)];exact up _ _ dz (by omega)
theorem Fe:(kas_sort n).kasWp (askIn n lt) (λp _=>Pm n p/\Up lt p n) s:=by
 unfold kas_sort;refine vG (Lo O two (p:=(Qw n).toArray) (Array.Perm.refl _)) λr ⟨a1,a2,a3,a4⟩=>?_
 split
 ·refine DR O two _ _ _ a3 ?_ (by omega) (by omega);rw[Nat.max_eq_left a1];exact a4
 ·have:r.1=n:=by omega
  rw[this] at a4;exact⟨a3,a4⟩
end
end DL
namespace DL
open PySem PySem.W PySem.Spec PyProof.Rows
section
variable{prog:A_}{w:I_}{E:b_->c_->Prop}{s:c_}
noncomputable def byP(vs:List b_)(p:Array Nat):List b_:=p.toList.map λi=>vs.getD i b_.none
theorem H0(vs:List b_):byP vs (Qw vs.length).toArray=vs:=by
 unfold byP;refine List.ext_getElem (by simp) λi h1 h2=>?_
 simp[h2]
theorem Fd{p:Array Nat}(h:Pm vs.length p):(byP vs p).length=vs.length:=by
 unfold byP;rw[s_,QC,h.size]
def KeptBut(a:l_)(h h':L_):Prop:=∀b o,b≠a->h.get? b=some o->h'.get? b=some o
theorem MX{e:Nat}{κ:SortKind}{lt:Nat->Nat->Bool}{P:PySem.Fin->c_->Prop}(ho:s.heap.get? a=some (SC "list" vs.toArray e))(iJ:vs.length < 64)(O:Ord lt)(kind:∀h' Q,KeptBut a s.heap h'->2<=vs.length->Q κ { s with heap:=h' }->q_ (r_ prog w) A (keyKind' vs.toArray) Q E { s with heap:=h' })(VV:∀h' i j C,KeptBut a s.heap h'->i < vs.length->j < vs.length->C (lt i j) { s with heap:=h' }->q_ (r_ prog w) A (keyLt' κ (vs.getD i b_.none) (vs.getD j b_.none)) C (λ_ _=>False) { s with heap:=h' })(fin:∀p h' c,Pm vs.length p->Up lt p vs.length->KeptBut a s.heap h'->h'.get? a=some (SC "list" (byP vs p).toArray c)->P (.done (.ret .none)) { s with heap:=h' }):
  q_ (r_ prog w) A (Rr.«list.sort» ⟨[.ref a],[]⟩) P E s:=by
 have line:64<=x_:=by rw[Q7];decide
 obtain⟨g1,km⟩:∃g1,g1=s.heap.update a (Ue λ_=>(#[]:Array b_)):=⟨_,rfl⟩;obtain⟨e1,o1⟩:∃e1,g1.get? a=some (SC "list" #[] e1):=⟨_,by rw[km];exact get?_update_seq ho _⟩;have k1:KeptBut a s.heap g1:=λb o ne x=>by rw[km];exact(Qc _ _ (Qx ne)).trans x
 obtain⟨g2,ko⟩:∃g2,g2=(g1.push (SC "tuple" vs.toArray 0)).push (SC "list" #[] 0):=⟨_,rfl⟩;have o2:g2.get? a=some (SC "list" #[] e1):=by rw[ko];exact f_ _ (f_ _ o1)
 have k2:KeptBut a s.heap g2:=λb o ne x=>by rw[ko];exact f_ _ (f_ _ (k1 b o ne x))
 have jI:∀kq,(2<=vs.length->kq=κ)->q_ (r_ prog w) A ((if vs.toArray.size < 2 then pure () else sortRuns').run (SortSt.mk' kq (vs.toArray.zip vs.toArray) #[] 7 none))
   (λr s'=>s'={ s with heap:=g2 }/\∃p,Pm vs.length p/\Up lt p vs.length/\(arrOf r.2).map (·.2)=(byP vs p).toArray/\failedOf r.2=none) E { s with heap:=g2 }:=λkq oV=>by
  rcases Tk vs.length 2 with eT | big
  ·rw[if_pos (by rw[o_];exact eT)];refine d_ ⟨rfl,(Qw vs.length).toArray,Array.Perm.refl _,λi j x y=>by omega,?_,rfl⟩;rw[H0];show((vs.toArray.zip vs.toArray).map (·.2))=_;refine Array.ext (by simp) λi h1 h2=>by simp
  ·rw[if_neg (by rw[o_];omega),oV big];refine kat_run (ks:=vs) (vs:=vs) (G:=λp s'=>(Pm vs.length p/\Up lt p vs.length)/\s'={ s with heap:=g2 }) (Q:=λst s'=>s'={ s with heap:=g2 }/\∃p,Pm vs.length p/\Up lt p vs.length/\(arrOf st).map (·.2)=(byP vs p).toArray/\failedOf st=none) rfl big iJ ?_ ?_
   ·rintro p st s' hz kt aV ⟨⟨hp,up⟩,rfl⟩;exact⟨rfl,p,hp,up,kat_snds rfl kt,aV⟩
   ·exact w4 (P:=λp=>Pm vs.length p/\Up lt p vs.length) (λi j C h1 h2 h3=>VV g2 i j C k2 h1 h2 h3) (λp hp=>⟨hp,rfl⟩) _ (Fe O big)
 rw[list_sort_plain];refine a_ (listItems_at ho rfl (a_ (listUpdate_at ho rfl ?_ (by rw[o_];omega) (Qp _))));rw[←km];refine a_ (seqEpoch_at o1 rfl (a_ (wpAny_newTuple (a_ (wpAny_newList (Qv ?_) (Qp _))) (by show vs.length<=_;omega))));show q_ (r_ prog w) A _ P E { s with heap:=(g1.push (SC "tuple" vs.toArray 0)).push (SC "list" #[] 0) };rw[←ko];dsimp only
 rcases Tk vs.length 2 with eT | big
 all_goals
  first
   | (rw[if_pos (by rw[o_];exact eT)];refine a_ (d_ ?_);have step:=jI general' λh=>by omega)
   | (rw[if_neg (by rw[o_];omega)];refine a_ (kind g2 _ k2 big ?_);have step:=jI κ λ_=>rfl)
  refine a_ (Qs step (λr s' h=>?_) λ_ _ x=>x);obtain⟨rfl,p,hp,up,kt,aV⟩:=h;rw[kt,aV];refine a_ (seqEpoch_at o2 rfl (a_ (listUpdate_at o2 rfl ?_ (Qp _) ?_)))
  ·dsimp only;rw[bne_self_eq_false,if_neg j_];exact d_ (fin p _ _ hp up (λb o ne x=>(Qc _ _ (Qx ne)).trans (k2 b o ne x)) (get?_update_seq o2 λ_=>(byP vs p).toArray))
  ·show(byP vs p).toArray.size<=_;rw[o_,Fd hp];omega
theorem zI{l:l_}{κ:SortKind}{lt:Nat->Nat->Bool}{Q:b_->c_->Prop}(iJ:vs.length < 64)(O:Ord lt)(gL:∀Q':List b_->c_->Prop,(∀h' tk,(∀b o,s.heap.get? b=some o->h'.get? b=some o)->s.heap.objs.size<=h'.objs.size->Q' vs { s with heap:=h',toks:=tk })->q_ (r_ prog w) A.in1 (Wb (.ref l)) Q' E s)(kind:∀h' tk Q,(∀b o,s.heap.get? b=some o->h'.get? b=some o)->2<=vs.length->Q κ { s with heap:=h',toks:=tk }->q_ (r_ prog w) A.in1.in1 (keyKind' vs.toArray) Q (λ_ _=>False) { s with heap:=h',toks:=tk })(VV:∀h' tk i j C,(∀b o,s.heap.get? b=some o->h'.get? b=some o)->i < vs.length->j < vs.length->C (lt i j) { s with heap:=h',toks:=tk }->q_ (r_ prog w) A.in1.in1 (keyLt' κ (vs.getD i b_.none) (vs.getD j b_.none)) C (λ_ _=>False) { s with heap:=h',toks:=tk })(fin:∀p h' tk D c,Pm vs.length p->Up lt p vs.length->(∀b o,s.heap.get? b=some o->h'.get? b=some o)->s.heap.objs.size<=D->h'.get? D=some (SC "list" (byP vs p).toArray c)->Q (.ref D) { s with heap:=h',toks:=tk }):
  q_ (r_ prog w) A (call (.builtin "sorted") [b_.ref l]) Q E s:=by
 have line:64<=x_:=by rw[Q7];decide
 refine Calls.call_function_entry kind_sorted plain_sorted entry_sorted (args_sorted1 _) ?_;refine a_ (m:=checkCount "sorted" 1 1 _) (d_ (a_ (gL _ λg tk kg above=>a_ (wpAny_newList ?_ (by omega)))));have aW:(g.push (SC "list" vs.toArray 0)).get? g.objs.size=some (SC "list" vs.toArray 0):=z_ _ rfl
 have old:∀(h':L_),KeptBut g.objs.size (g.push (SC "list" vs.toArray 0)) h'->∀b o,s.heap.get? b=some o->h'.get? b=some o:=λh' k b o x =>
  k b o (Qg (J_ (H_ x) above)) (f_ _ (kg b o x))
 refine a_ (Qv (Qy PyProof.Rows.slot_list_sort ⟨_,aW,rfl⟩ PyProof.Rows.entry_list_sort ?_ (args_list_sort _)));refine MX (s:={ s with heap:=g.push (SC "list" vs.toArray 0),toks:=tk }) (lt:=lt) (κ:=κ) aW iJ O (λh' Q' k two q=>Qs (kind h' tk Q' (old h' k) two q) (λ_ _ x=>x) λ_ _ x=>x.elim) (λh' i j C k=>VV h' tk i j C (old h' k)) λp h' c hp up k here=>?_
 exact⟨_,rfl,d_ ⟨_,rfl,fin p h' tk _ c hp up (old h' k) above here⟩⟩
end
end DL
namespace DL
open PySem PySem.W PySem.Spec PyProof.Rows L2
noncomputable def rk:D->Nat
 | .non=>0
 | .bl _=>1
 | .int _=>2
 | .str _=>3
 | .tup _=>4
 | .lst _=>5
noncomputable def cI(a b:Int):Ordering:=if a < b then .lt else if b < a then .gt else .eq
mutual
noncomputable def cO:D->D->Ordering
 | .int a,.int b=>cI a b
 | .tup xs,.tup ys=>cOA xs ys
 | a,b=>cI (rk a) (rk b)
noncomputable def cOA:List D->List D->Ordering
 | [],[]=>.eq
 | [],_::_=>.lt
 | _::_,[]=>.gt
 | x::xs,y::ys=>(cO x y).then (cOA xs ys)
end
theorem u0(a b:Int):cI b a=(cI a b).swap:=by
 unfold cI;by_cases h1:a < b
 ·rw[if_pos h1,if_neg (by omega),if_pos h1];rfl
 ·by_cases h2:b < a
  ·rw[if_pos h2,if_neg h1,if_pos h2];rfl
  ·rw[if_neg h2,if_neg h1,if_neg h1,if_neg h2];rfl
theorem BC{a b:D}(h:rk a≠rk b):cO a b=cI (rk a) (rk b):=by
 cases a<;>cases b<;>first | rfl | (exact absurd rfl h) | (simp[cO];done)
mutual
theorem Ad:∀a b:D,cO b a=(cO a b).swap
 | .int a,b=>by
  cases b<;>simp only[cO]<;>exact u0 _ _
 | .tup xs,b=>by
  cases b<;>simp only[cO]<;>first | exact u0 _ _ | exact B0 _ _
 | .non,b=>by cases b<;>simp only[cO]<;>exact u0 _ _
 | .bl _,b=>by cases b<;>simp only[cO]<;>exact u0 _ _
 | .str _,b=>by cases b<;>simp only[cO]<;>exact u0 _ _
 | .lst _,b=>by cases b<;>simp only[cO]<;>exact u0 _ _
theorem B0:∀xs ys:List D,cOA ys xs=(cOA xs ys).swap
 | [],[]=>by simp[cOA]
 | [],_::_=>by simp[cOA]
 | _::_,[]=>by simp[cOA]
 | x::xs,y::ys=>by
  rw[cOA,cOA,Ad x y,B0 xs ys];cases cO x y<;>rfl
end
noncomputable def dl(a b:D):Bool:=cO a b == .lt
noncomputable def dlA(xs ys:List D):Bool:=cOA xs ys == .lt
theorem Av(a b:Int):(cI a b == Ordering.lt)=decide (a < b):=by
 unfold cI;by_cases h1:a < b
 ·rw[if_pos h1];simp[h1]
 ·rw[if_neg h1];split<;>simp[h1]
theorem tY{a b:Int}:dl (.int a) (.int b)=decide (a < b):=by
 unfold dl;rw[cO,Av]
theorem vv{xs:List D}:dl (.tup xs) (.tup ys)=dlA xs ys:=by
 unfold dl dlA;rw[cO]
theorem wP:dlA [] []=false:=by unfold dlA;simp[cOA]
theorem vn{y:D}:dlA [] (y::ys)=true:=by unfold dlA;simp[cOA]
theorem we{y:D}:dlA (y::ys) []=false:=by unfold dlA;simp[cOA]
theorem v9{x y:D}{xs:List D}:dlA (x::xs) (y::ys)=(dl x y||(!dl y x&&dlA xs ys)):=by
 unfold dlA dl;rw[cOA,Ad x y];cases cO x y<;>simp[Ordering.then,Ordering.swap]
theorem Bl{a b:D}(h:rk a < rk b):dl a b=true:=by
 unfold dl;rw[BC (Qg h),Av];simp;omega
theorem Hz{a b:D}(h:rk b < rk a):dl a b=false:=by
 unfold dl;rw[BC (Te h),Av];simp;omega
theorem xz{a b:D}(h:rk a=rk b)(h1:rk a≠2)(h2:rk a≠4):dl a b=false:=by
 unfold dl;cases a<;>cases b<;>first | (simp[rk] at h;done) | (exact absurd rfl h1) | (exact absurd rfl h2) | (simp[cO,cI,rk];done)
mutual
theorem vY:∀a b c:D,dl b a=false->dl c b=false->dl c a=false:=λa b c h1 h2=>by
 have r1:rk a<=rk b:=TY λh=>by rw[Bl h] at h1;cases h1
 have r2:rk b<=rk c:=TY λh=>by rw[Bl h] at h2;cases h2
 rcases Tk (rk a) (rk c) with h | h
 ·exact Hz h
 ·have e1:rk b=rk a:=by omega
  have e2:rk c=rk a:=by omega
  match a,b,c with
  | .int a,.int b,.int c =>
   rw[tY] at h1 h2 ⊢;simp at h1 h2 ⊢;omega
  | .tup xs,.tup ys,.tup zs =>
   rw[vv] at h1 h2 ⊢;exact EQ xs ys zs h1 h2
  | .non,_,_=>exact xz e2 (by rw[e2];decide) (by rw[e2];decide)
  | .bl _,_,_=>exact xz e2 (by rw[e2];simp[rk]) (by rw[e2];simp[rk])
  | .str _,_,_=>exact xz e2 (by rw[e2];simp[rk]) (by rw[e2];simp[rk])
  | .lst _,_,_=>exact xz e2 (by rw[e2];simp[rk]) (by rw[e2];simp[rk])
termination_by a b c=>sizeOf a+sizeOf b+sizeOf c
decreasing_by all_goals (simp_wf;omega)
theorem EQ:∀xs ys zs:List D,dlA ys xs=false->dlA zs ys=false->dlA zs xs=false
 | [],_,[],_,_=>wP
 | [],_,z::zs,_,_=>we
 | x::xs,[],_,h1,_=>by rw[vn] at h1;cases h1
 | x::xs,y::ys,[],_,h2=>by rw[vn] at h2;cases h2
 | x::xs,y::ys,z::zs,h1,h2=>by
  simp only[v9,UE,Us,Bool.not_eq_false'] at h1 h2 ⊢;obtain⟨a1,a2⟩:=h1;obtain⟨b1,b2⟩:=h2;refine⟨vY x y z a1 b1,?_⟩;cases hx:dl x z with
  | true=>exact .inl rfl
  | false =>
   right
   rcases a2 with a2 | a2
   ·have:=vY y z x b1 hx;rw[a2] at this;cases this
   ·rcases b2 with b2 | b2
    ·have:=vY z x y hx a1;rw[b2] at this;cases this
    ·exact EQ xs ys zs a2 b2
termination_by xs ys zs=>sizeOf xs+sizeOf ys+sizeOf zs
decreasing_by all_goals (simp_wf;omega)
end
theorem E6(a b:D)(h:dl a b=true):dl b a=false:=by
 unfold dl at h ⊢;rw[Ad a b];cases e:cO a b<;>rw[e] at h<;>first | rfl | (cases h;done)
theorem As(ds:List D):Ord λi j=>dl (ds.getD i .non) (ds.getD j .non):=⟨λa b h=>E6 _ _ h,λa b c h1 h2=>vY _ _ _ h1 h2⟩
mutual
noncomputable def cmB:D->D->Bool
 | .int _,.int _=>true
 | .tup xs,.tup ys=>cmA xs ys
 | _,_=>false
noncomputable def cmA:List D->List D->Bool
 | x::xs,y::ys=>cmB x y&&cmA xs ys
 | _,_=>true
end
mutual
theorem uT:∀a b:D,cmB a b=true->deq a b=(!dl a b&&!dl b a)
 | .int a,.int b,_=>by
  rw[tY,tY];by_cases h:a=b
  ·simp[deq,h]
  ·rcases Int.lt_or_gt_of_ne h with h' | h'
   ·simp[deq,h,h']
   ·simp[deq,h,h']
 | .tup xs,.tup ys,h=>by
  rw[cmB] at h;rw[deq,vv,vv];exact E5 xs ys h
 | .non,_,h=>by simp[cmB] at h
 | .bl _,_,h=>by simp[cmB] at h
 | .str _,_,h=>by simp[cmB] at h
 | .lst _,_,h=>by simp[cmB] at h
 | .int _,.non,h=>by simp[cmB] at h
 | .int _,.bl _,h=>by simp[cmB] at h
 | .int _,.str _,h=>by simp[cmB] at h
 | .int _,.tup _,h=>by simp[cmB] at h
 | .int _,.lst _,h=>by simp[cmB] at h
 | .tup _,.non,h=>by simp[cmB] at h
 | .tup _,.bl _,h=>by simp[cmB] at h
 | .tup _,.str _,h=>by simp[cmB] at h
 | .tup _,.int _,h=>by simp[cmB] at h
 | .tup _,.lst _,h=>by simp[cmB] at h
theorem E5:∀xs ys:List D,cmA xs ys=true->deqA xs ys=(!dlA xs ys&&!dlA ys xs)
 | [],[],_=>by simp[deqA,wP]
 | [],_::_,_=>by simp[deqA,vn,we]
 | _::_,[],_=>by simp[deqA,vn,we]
 | x::xs,y::ys,h=>by
  rw[cmA,Qn] at h;rw[deqA,uT x y h.1,E5 xs ys h.2,v9,v9];cases h1:dl x y<;>cases h2:dl y x<;>simp
end
mutual
theorem vC:∀a b:D,cmB a b=true->deq a b=true->a=b
 | .int a,.int b,_,h=>by simp[deq] at h;rw[h]
 | .tup xs,.tup ys,c,h=>by
  rw[cmB] at c;rw[deq] at h;rw[EY xs ys c h]
 | .non,_,h,_=>by simp[cmB] at h
 | .bl _,_,h,_=>by simp[cmB] at h
 | .str _,_,h,_=>by simp[cmB] at h
 | .lst _,_,h,_=>by simp[cmB] at h
 | .int _,.non,h,_=>by simp[cmB] at h
 | .int _,.bl _,h,_=>by simp[cmB] at h
 | .int _,.str _,h,_=>by simp[cmB] at h
 | .int _,.tup _,h,_=>by simp[cmB] at h
 | .int _,.lst _,h,_=>by simp[cmB] at h
 | .tup _,.non,h,_=>by simp[cmB] at h
 | .tup _,.bl _,h,_=>by simp[cmB] at h
 | .tup _,.str _,h,_=>by simp[cmB] at h
 | .tup _,.int _,h,_=>by simp[cmB] at h
 | .tup _,.lst _,h,_=>by simp[cmB] at h
theorem EY:∀xs ys:List D,cmA xs ys=true->deqA xs ys=true->xs=ys
 | [],[],_,_=>rfl
 | [],_::_,_,h=>by simp[deqA] at h
 | _::_,[],_,h=>by simp[deqA] at h
 | x::xs,y::ys,c,h=>by
  rw[cmA,Qn] at c;rw[deqA,Qn] at h;rw[vC x y c.1 h.1,EY xs ys c.2 h.2]
end
open PySem.SeqAt in
theorem Dg(e lt:Nat->Bool)(d:Bool)(f:Nat->Nat):∀l:List Nat,ltFrom e lt d (l.map f)=ltFrom (λi=>e (f i)) (λi=>lt (f i)) d l
 | []=>rfl
 | i::l=>by rw[D_,ltFrom,ltFrom,Dg e lt d f l]
open PySem.SeqAt in
theorem DH:∀xs ys:List D,cmA xs ys=true->ltFrom (λj=>deq (xs.getD j .non) (ys.getD j .non)) (λj=>dl (xs.getD j .non) (ys.getD j .non)) (decide (xs.length < ys.length)) (Qw (min xs.length ys.length))=dlA xs ys
 | [],[],_=>by simp[ltFrom,wP]
 | [],_::_,_=>by simp[ltFrom,vn]
 | _::_,[],_=>by simp[ltFrom,we]
 | x::xs,y::ys,c=>by
  rw[cmA,Qn] at c;have ih:=DH xs ys c.2;rw[Qi,Qi,Nat.succ_min_succ,RN,ltFrom,Dg,v9]
  have e:ltFrom (λi=>deq ((x::xs).getD i.succ .non) ((y::ys).getD i.succ .non)) (λi=>dl ((x::xs).getD i.succ .non) ((y::ys).getD i.succ .non)) (decide (xs.length+1 < ys.length+1)) (Qw (min xs.length ys.length))=dlA xs ys:=by
   rw[←ih]
   congr 1
   simp
  rw[e];show(if deq x y=true then dlA xs ys else dl x y)=_;rw[uT x y c.1];cases h1:dl x y<;>cases h2:dl y x<;>simp
theorem Bg:∀(xs ys:List D),cmA xs ys=true->∀j,j < xs.length->j < ys.length->cmB (xs.getD j .non) (ys.getD j .non)=true
 | [],_,_,j,h,_=>by simp at h
 | _::_,[],_,j,_,h=>by simp at h
 | x::xs,y::ys,c,j,h1,h2=>by
  rw[cmA,Qn] at c;cases j with
  | zero=>exact c.1
  | succ j=>exact Bg xs ys c.2 j (by simpa using h1) (by simpa using h2)
section
variable{H:Hp}{s:c_}
open PySem.SeqAt in
theorem L'(I:Inv X aa U H s):∀(n:Nat) (A:Q6),A.units+n < Q8->∀(a b:D) (x y:V) (u v:b_),dep a<=n->cmB a b=true->Is X.K H a x->Is X.K H b y->RelV x u->RelV y v->RcLtAt A s u v (dl a b):=by
 intro n
 induction n with
 | zero =>
  intro A hu a b x y u v hd c ha hb ru rv;cases a<;>cases b<;>simp[cmB] at c
  ·rename_i i j;rw[rM ha] at ru;rw[rM hb] at rv;obtain⟨t1,rfl⟩:=ru;obtain⟨t2,rfl⟩:=rv;rw[tY];exact RcLtAt.int_int _ _ _ _
  ·rw[dep] at hd;omega
 | succ n ih =>
  intro A hu a b x y u v hd c ha hb ru rv;cases a<;>cases b<;>simp[cmB] at c
  ·rename_i i j;rw[rM ha] at ru;rw[rM hb] at rv;obtain⟨t1,rfl⟩:=ru;obtain⟨t2,rfl⟩:=rv;rw[tY];exact RcLtAt.int_int _ _ _ _
  ·rename_i ds es;have eO:A.in1.units+n < Q8:=by show A.units+1+n < Q8;omega
   obtain⟨p,xs,rfl,h1,h2⟩:=rZ ha;obtain⟨q,ys,rfl,h3,h4⟩:=rZ hb;cases ru;cases rv;obtain⟨ae,r1,t1,_⟩:=I.tuple h1;obtain⟨bu,r2,t2,_⟩:=I.tuple h3;have l1:ae.toArray.size=ds.length:=by rw[o_,←r1.length,h2.length]
   have l2:bu.toArray.size=es.length:=by rw[o_,←r2.length,h4.length]
   have two:∀j (g1:j < ae.toArray.size) (g2:j < bu.toArray.size),V6 A.in1 s ae.toArray[j] bu.toArray[j] (deq (ds.getD j .non) (es.getD j .non))/\(deq (ds.getD j .non) (es.getD j .non)=false->RcLtAt A.in1 s ae.toArray[j] bu.toArray[j] (dl (ds.getD j .non) (es.getD j .non))):=λj g1 g2=>by
    obtain⟨v1,q1,q2⟩:=h2.getU r1 g1;obtain⟨v2,q3,q4⟩:=h4.getU r2 g2
    have m1:ds.getD j .non∈ds:=by
     rw[h_,g_ (by omega)];exact Qt _
    have k1:=tz m1;rw[dep] at hd;exact⟨(vg I n A.in1 eO _ _ _ _ _ _ (.inl (by omega)) q2 q4 q1 q3).2.1,λ_=>ih A.in1 eO _ _ _ _ _ _ (by omega) (Bg ds es c j (by omega) (by omega)) q2 q4 q1 q3⟩
   have R1:=RcLtAt.tuples (A:=A) t1 t2 (by omega) two;rw[l1,l2,DH ds es c] at R1;rw[vv];exact R1
end
end DL
namespace DL
open PySem PySem.W PySem.Spec PyProof.Rows L2
noncomputable def leD(a b:D):Bool:=!dl b a
noncomputable def sortD(ds:List D):List D:=ds.mergeSort leD
theorem IU(a b c:D)(h1:leD a b=true)(h2:leD b c=true):leD a c=true:=by
 unfold leD at *;simp only[Ug] at *;exact vY a b c h1 h2
theorem FM(a b:D):(leD a b||leD b a)=true:=by
 unfold leD;cases h:dl b a with
 | false=>rfl
 | true=>rw[E6 b a h];rfl
theorem uC(ds:List D):(sortD ds).Perm ds:=Tl ds leD
theorem tZ(ds:List D):(sortD ds).Pairwise λa b=>leD a b=true:=List.pairwise_mergeSort IU FM ds
theorem wE:∀(l m:List D),l.Perm m->(l.Pairwise λa b=>leD a b=true)->(m.Pairwise λa b=>leD a b=true)->(∀a∈l,∀b∈l,leD a b=true->leD b a=true->a=b)->l=m
 | [],m,p,_,_,_=>by rw[List.nil_perm.mp p]
 | a::l,[],p,_,_,_=>by have:=p.length_eq;simp at this
 | a::l,b::m,p,h1,h2,an=>by
  have e:a=b:=by
   have ia:a∈b::m:=p.mem_iff.mp k_;have ib:b∈a::l:=p.mem_iff.mpr k_
   rcases E_.mp ia with h | h
   ·exact h
   ·rcases E_.mp ib with h' | h'
    ·exact h'.symm
    ·exact an a k_ b ib ((SH.mp h1).1 b h') ((SH.mp h2).1 a h)
  subst e;rw[wE l m ((List.perm_cons a).mp p) (SH.mp h1).2 (SH.mp h2).2 λx hx y hy=>an x (i_ _ hx) y (i_ _ hy)]
noncomputable def permD(p:Array Nat)(ds:List D):List D:=p.toList.map λi=>ds.getD i .non
noncomputable def permV(p:Array Nat)(zs:List V):List V:=p.toList.map λi=>zs.getD i .non
noncomputable def cmAll(ds:List D):Bool:=ds.all λa=>ds.all λb=>cmB a b
theorem MM{p:Array Nat}(hp:Pm ds.length p)(up:Up (λi j=>dl (ds.getD i .non) (ds.getD j .non)) p ds.length)(cm:cmAll ds=true):permD p ds=sortD ds:=by
 have pm:(permD p ds).Perm ds:=by
  have h1:p.toList.Perm (Qw ds.length):=by
   have:=RT.mp hp;simpa using this
  have h2:=h1.map λi=>ds.getD i .non
  have h3:((Qw ds.length).map λi=>ds.getD i .non)=ds:=by
   refine List.ext_getElem (by simp) λi h1 h2=>?_
   simp[h2]
  rw[h3] at h2;exact h2
 have iK:∀a∈permD p ds,∀b∈permD p ds,cmB a b=true:=λa ha b hb=>by
  have:=v_.mp cm a (pm.mem_iff.mp ha);exact v_.mp this b (pm.mem_iff.mp hb)
 refine wE _ _ (pm.trans (uC ds).symm) ?_ (tZ ds) λa ha b hb h1 h2=>?_
 ·rw[Tq];intro i j hi hj dz;unfold permD at hi hj ⊢;rw[s_,QC,hp.size] at hi hj;have:=up i j dz hj;simp only[Tv,UF];unfold gt at this;rw[Wh,dif_pos (by rw[hp.size];exact hj),Wh,dif_pos (by rw[hp.size];exact hi)] at this;unfold leD;rw[Ug];exact this
 ·have c:=iK a ha b hb;refine vC a b c ?_;rw[uT a b c];unfold leD at h1 h2;rw[h1,h2];rfl
section
variable{H:Hp}{s:c_}
noncomputable def fstI:D->Bool
 | .tup (.int _::_)=>true
 | _=>false
noncomputable def fstT:D->Bool
 | .tup (.tup _::_)=>true
 | _=>false
noncomputable def isInt:D->Bool
 | .int _=>true
 | _=>false
theorem Bs(I:Inv X aa U H s){prog:A_}{w:I_}{n:Nat}{b fin:Bool}{Q:Bool->c_->Prop}(hu:A.units+n < Q8):∀(ds es:List D) (xs ys:List V) (us vs:List b_) (i:Nat),IsA X.K H ds xs->IsA X.K H es ys->Vals xs us->Vals ys vs →
  depA ds<=n->cmA ds es=true->fin=decide (ds.length < es.length)->(b=true->i=0->∀d e r r',ds=d::r->es=e::r'->isInt d=true/\isInt e=true)->Q (dlA ds es) s->KatLex prog w A b fin Q (us.zip vs) i s
 | [],es,xs,ys,us,vs,i,h1,h2,h3,h4,hd,c,hf,fl,q=>by
  have:=h1.nil_inv;subst this;cases h3;rw[List.zip_nil_left];refine kat_nil ?_;rw[hf];cases es with
  | nil=>rw[wP] at q;exact q
  | cons e es=>rw[vn] at q;simpa using q
 | d::ds,[],xs,ys,us,vs,i,h1,h2,h3,h4,hd,c,hf,fl,q=>by
  have:=h2.nil_inv;subst this;cases h4;rw[List.zip_nil_right];refine kat_nil ?_;rw[hf];rw[we] at q;simpa using q
 | d::ds,e::es,xs,ys,us,vs,i,h1,h2,h3,h4,hd,c,hf,fl,q=>by
  obtain⟨x,xr,rfl,a1,a2⟩:=h1.cons_inv;obtain⟨y,yr,rfl,b1,b2⟩:=h2.cons_inv;cases h3 with
  | cons r1 r2 =>
   cases h4 with
   | cons s1 s2 =>
    rename_i u oW v oX;rw[depA] at hd;rw[cmA,Qn] at c;rw[v9] at q;have eq:=(vg I n A hu d e x y u v (.inl (by omega)) a1 b1 r1 s1).2.1;have lt:=L' I n A hu d e x y u v (by omega) c.1 a1 b1 r1 s1;have ed:=uT d e c.1;rw[QN];refine kat_cons (eq prog w _ _ (kat_go (λh=>kat_yes ?_) λh=>kat_no ?_))
    ·refine Bs I hu ds es xr yr oW oX (i+1) a2 b2 r2 s2 (by omega) c.2 (by rw[hf];simp) (λ_ z=>by omega) ?_;rw[h] at ed;have ed:=ed.symm;simp only[Qn,Ug] at ed;rw[ed.1,ed.2] at q;simpa using q
    ·have q':Q (dl d e) s:=by
      rw[h] at ed;cases h1:dl d e with
      | true=>rw[h1] at q;simpa using q
      | false =>
       rw[h1] at ed q;cases h2:dl e d with
       | true=>rw[h2] at q;simpa using q
       | false=>rw[h2] at ed;cases ed
     by_cases z:b=true/\i=0
     ·obtain⟨zb,zi⟩:=z;obtain⟨f1,f2⟩:=fl zb zi d e ds es rfl rfl;subst zb;subst zi;cases d<;>simp[isInt] at f1
      cases e<;>simp[isInt] at f2
      rw[rM a1] at r1;rw[rM b1] at s1;obtain⟨t1,rfl⟩:=r1;obtain⟨t2,rfl⟩:=s1;show q_ _ _ (oneLt' true _ _) _ _ _;rw[←keyLt'_oneType];rw[tY] at q';exact kat_lt_int q'
     ·have:(b&&i == 0)=false:=by
       cases b
       ·rfl
       ·simp at z ⊢;exact z
      rw[this];exact kat_one _ _ (lt prog w _ _ q')
theorem at_k(h:IsA X.K H ds zs)(r:Vals zs vs)(hk:k < vs.length):∃x,Is X.K H (ds.getD k .non) x/\RelV x (vs.getD k .none)/\ds.getD k .non∈ds/\zs[k]?=some x:=by
 have l1:=h.length;have l2:=r.length;have kw:k < ds.length:=by omega
 obtain⟨x,e1,e2⟩:=h.get (g_ kw);obtain⟨u,e3,e4⟩:=r.get e1;refine⟨x,?_,?_,?_,e1⟩
 ·rw[h_,g_ kw];exact e2
 ·rw[h_,e3];exact e4
 ·rw[h_,g_ kw];exact Qt _
theorem zC(I:Inv X aa U H s)(prog:A_)(w:I_)(P:D->Bool)(T:b_)(hP:∀d,P d=true->∃f r,d=.tup (f::r)/\∀x u,Is X.K H f x->RelV x u->VZ (r_ prog w) s.heap (V' u) T):
  ∀(ds:List D) (zs:List V) (vs:List b_),IsA X.K H ds zs->Vals zs vs->ds.all P=true->∃fs,KatTups s.heap vs fs/\fs.length=vs.length/\∀v∈fs,VZ (r_ prog w) s.heap (V' v) T
 | [],zs,vs,h,r,_=>by
  have:=h.nil_inv;subst this;cases r;exact⟨[],KatTups.nil,rfl,λv hv=>nomatch hv⟩
 | d::ds,zs,vs,h,r,ok=>by
  obtain⟨x,zr,rfl,h1,h2⟩:=h.cons_inv;rw[QY,Qn] at ok;cases r with
  | cons r1 r2 =>
   obtain⟨fs,k1,k2,k3⟩:=zC I prog w P T hP ds zr _ h2 r2 ok.2;obtain⟨f,aE,rfl,look⟩:=hP d ok.1;obtain⟨a,ys,rfl,g1,g2⟩:=rZ h1;cases r1;obtain⟨ae,q1,q2,_⟩:=I.tuple g1;obtain⟨y,yr,rfl,g3,g4⟩:=g2.cons_inv;cases q1 with
   | cons q3 q4 =>
    obtain⟨o,e1,e2,n,e3⟩:=q2;refine⟨_::fs,KatTups.cons e1 e2 e3 rfl k1,by simp[k2],λv hv=>?_⟩
    rcases E_.mp hv with rfl | hv
    ·exact look y _ g3 q3
    ·exact k3 v hv
def SortOk(ds:List D):Prop:=ds.length < 64/\cmAll ds=true/\depA ds<=50/\(ds.all isInt=true\/ds.all fstI=true\/ds.all fstT=true)
theorem Dh(hu:X.A.units+100 < Q8){l:l_}{Q:VK}(I:Inv X aa U H s)(ha:IsA X.K H ds zs)(rv:Vals zs ae)(ok:SortOk ds)(gL:∀Q':List b_->c_->Prop,(∀h' tk,(∀b o,s.heap.get? b=some o->h'.get? b=some o)->s.heap.objs.size<=h'.objs.size->Q' ae { s with heap:=h',toks:=tk })->q_ (r_ X.prog X.w) X.A.in1 (Wb (.ref l)) Q' X.xe s)(k:∀l q,Pm ds.length q->permD q ds=sortD ds->H l=none->Q (.ref l) (upd H l (.lst (permV q zs)))):q_ (r_ X.prog X.w) X.A (call (.builtin "sorted") [.ref l]) (EP X aa U Q) X.xe s:=by
 obtain⟨iJ,cm,dp,kd⟩:=ok;have l1:=ha.length;have l2:=rv.length;have n1:ae.length=ds.length:=by omega
 have mn:∀i j,i < ae.length->j < ae.length->cmB (ds.getD i .non) (ds.getD j .non)=true:=λi j hi hj=>by
  obtain⟨_,_,_,mi,_⟩:=at_k ha rv hi;obtain⟨_,_,_,mj,_⟩:=at_k ha rv hj;exact v_.mp (v_.mp cm _ mi) _ mj
 have aZ:∀q h' tk D c,Pm ae.length q->Up (λi j=>dl (ds.getD i .non) (ds.getD j .non)) q ae.length->(∀b o,s.heap.get? b=some o->h'.get? b=some o)->s.heap.objs.size<=D->h'.get? D=some (SC "list" (byP ae q).toArray c)->EP X aa U Q (.ref D) { s with heap:=h',toks:=tk }:=λq h' tk D c hp up keep above here=>by
  rw[n1] at hp up
  have hv:Vals (permV q zs) (byP ae q):=by
   refine Aq (by simp[permV,byP]) λi x u e1 e2=>?_
   obtain⟨j,f1,rfl⟩:=getMap e1;obtain⟨j',f2,rfl⟩:=getMap e2;rw[f1] at f2;cases f2
   have hj:j < ds.length:=by
    have h1:j∈q.toList:=B_ f1;have h2:=(RT.mp hp).mem_iff.mp h1;simpa using h2
   obtain⟨x,_,e4,_,e5⟩:=at_k ha rv (k:=j) (by omega);rw[h_,e5];exact e4
  refine⟨.ref D,_,I.laid (t':=tk) keep above (o:=.lst (permV q zs)) ⟨?_,byP ae q,c,hv,here⟩,rfl,k D q hp (MM hp up cm) (I.hok.fresh above)⟩;show(permV q zs).length<=x_;rw[permV,s_,QC,hp.size,Q7];omega
 have gM:∀(b:Bool) (P:D->Bool),(∀d,P d=true->∃f r,d=.tup (f::r)/\(b=true->isInt f=true))->ds.all P=true->∀h' tk i j C,(∀b o,s.heap.get? b=some o->h'.get? b=some o)->i < ae.length->j < ae.length->C (dl (ds.getD i .non) (ds.getD j .non)) { s with heap:=h',toks:=tk } →
   q_ (r_ X.prog X.w) X.A.in1.in1 (keyLt' (tuples' b) (ae.getD i b_.none) (ae.getD j b_.none)) C (λ_ _=>False) { s with heap:=h',toks:=tk }:=λb P hP all h' tk i j C keep hi hj hc=>by
  have I':Inv X aa U H { s with heap:=h',toks:=tk }:=I.kept (t':=tk) keep;obtain⟨x,a1,a2,a3,_⟩:=at_k ha rv hi;obtain⟨y,b1,b2,b3,_⟩:=at_k ha rv hj;have cc:=mn i j hi hj;have dq:=tz a3;obtain⟨f1,r1,e1,g1⟩:=hP _ (v_.mp all _ a3);obtain⟨f2,r2,e2,g2⟩:=hP _ (v_.mp all _ b3);rw[e1] at a1 cc hc dq;rw[e2] at b1 cc hc;obtain⟨pa,xs,rfl,x1,x2⟩:=rZ a1;obtain⟨pb,ys,rfl,y1,y2⟩:=rZ b1;generalize ae.getD i b_.none=ui at a2;generalize ae.getD j b_.none=uj at b2;cases a2;cases b2;obtain⟨us,q1,q2,_⟩:=I'.tuple x1;obtain⟨vs,q3,q4,_⟩:=I'.tuple y1;obtain⟨oa,m1,m2,na,m3⟩:=q2;obtain⟨ob,m4,m5,nb,m6⟩:=q4;rw[vv] at hc;rw[cmB] at cc;rw[dep] at dq;refine kat_lt m1 m3 m4 m6 (Bs I' (n:=50) (by show X.A.units+1+1+50 < Q8;omega) _ _ xs ys _ _ 0 x2 y2 q1 q3 (by omega) cc ?_ (λzb _ d e rr qU z1 z2=>?_) hc)
  ·have:=x2.length;have:=y2.length;have:=q1.length;have:=q3.length;simp only[o_]
   congr 1
   apply propext
   constructor<;>intro _<;>omega
  ·cases z1;cases z2;exact⟨g1 zb,g2 zb⟩
 rcases kd with kd | kd | kd
 ·-- bI numbers
  have kx:∀k,k < ae.length->∃i t,ae.getD k b_.none=.int i t/\ds.getD k .non=.int i:=λk hk=>by
   obtain⟨x,a1,a2,a3,_⟩:=at_k ha rv hk;have:=v_.mp kd _ a3;cases e:ds.getD k .non<;>rw[e] at this a1<;>simp[isInt] at this
   rw[rM a1] at a2;obtain⟨t,a2⟩:=a2;exact⟨_,t,a2,rfl⟩
  refine zI (κ:=oneType') (lt:=λi j=>dl (ds.getD i .non) (ds.getD j .non)) (by omega) (As ds) gL (λh' tk Q' keep two q=>?_) (λh' tk i j C keep hi hj hc=>?_) aZ
  ·refine kas_kind (T:=.type "int") two (λv hv=>?_) (by decide) (by decide) q;obtain⟨k,hk,rfl⟩:=Sq hv;obtain⟨i,t,e,_⟩:=kx k hk;rw[h_,g_ hk] at e
   change ae[k]=_ at e
   rw[e];exact VZ.now
  ·obtain⟨a,t1,e1,f1⟩:=kx i hi;obtain⟨b,t2,e2,f2⟩:=kx j hj;rw[f1,f2,tY] at hc;rw[e1,e2];exact kat_lt_int hc
 ·-- tuples that begin with a bI number
  refine zI (κ:=tuples' true) (lt:=λi j=>dl (ds.getD i .non) (ds.getD j .non)) (by omega) (As ds) gL (λh' tk Q' keep two q=>?_) (λh' tk i j C keep hi hj hc=>gM true fstI (λd hd=>?_) kd h' tk i j C keep hi hj hc) aZ
  ·have I':Inv X aa U H { s with heap:=h',toks:=tk }:=I.kept (t':=tk) keep
   obtain⟨fs,k1,k2,k3⟩:=zC I' X.prog X.w fstI (.type "int") (λd hd=>by
    unfold fstI at hd;split at hd
    ·refine⟨_,_,rfl,λx u hx hr=>?_⟩;rw[rM hx] at hr;obtain⟨t,rfl⟩:=hr;exact VZ.now
    ·cases hd) ds zs ae ha rv kd
   exact kat_kind k1 (by omega) k3 (by decide) q
  ·unfold fstI at hd;split at hd
   ·exact⟨_,_,rfl,λ_=>rfl⟩
   ·cases hd
 ·-- tuples that begin with a tuple
  refine zI (κ:=tuples' false) (lt:=λi j=>dl (ds.getD i .non) (ds.getD j .non)) (by omega) (As ds) gL (λh' tk Q' keep two q=>?_) (λh' tk i j C keep hi hj hc=>gM false fstT (λd hd=>?_) kd h' tk i j C keep hi hj hc) aZ
  ·have I':Inv X aa U H { s with heap:=h',toks:=tk }:=I.kept (t':=tk) keep
   obtain⟨fs,k1,k2,k3⟩:=zC I' X.prog X.w fstT (.type "tuple") (λd hd=>by
    unfold fstT at hd;split at hd
    ·refine⟨_,_,rfl,λx u hx hr=>?_⟩;obtain⟨a,ys,rfl,g1,g2⟩:=rZ hx;cases hr;obtain⟨bu,q1,q2,_⟩:=I'.tuple g1;obtain⟨o,e1,e2,n,e3⟩:=q2;have look:VZ (r_ X.prog X.w) h' (V' (.ref a)) o.cls:=(VZ.ld e1).andThen .now;rw[e2] at look;exact look
    ·cases hd) ds zs ae ha rv kd
   exact kat_kind k1 (by omega) k3 (by decide) q
  ·unfold fstT at hd;split at hd
   ·exact⟨_,_,rfl,λh=>by cases h⟩
   ·cases hd
theorem KQ(hu:X.A.units+100 < Q8):CallR X (.builtin "sorted") (λxs H Q=>∃(p:l_) (zs:List V) (ds:List D),xs=[.ref p]/\SqL X.K H p zs/\IsA X.K H ds zs/\SortOk ds/\∀l q,Pm ds.length q->permD q ds=sortD ds->H l=none->Q (.ref l) (upd H l (.lst (permV q zs)))):=by
 intro aa s U H xs us Q I r h;obtain⟨p,zs,ds,rfl,hq,ha,ok,k⟩:=h;obtain⟨u,rfl,ru⟩:=vals1 r;cases ru;obtain⟨ae,rv,t,hz⟩:=I.list hq;have l1:=ha.length;have l2:=rv.length;have line:64<=x_:=by rw[Q7];decide
 refine Dh hu I ha rv ok (λQ' q=>collect_list t.isList (q _ s.toks (λb o x=>?_) ?_) (by have:=ok.1;omega)) k
 ·exact(Qc _ _ (Qx (Qg (H_ x)))).trans (f_ _ x)
 ·rw[L_.size_update,size_push'];exact VE _
end
section
variable{B:BB}{kr:Nat}
noncomputable def sortF(ds:List D):Option (List D):=match ds with
 | [.lst xs]=>if xs.length < 64/\cmAll xs=true/\depA xs<=50/\(xs.all isInt=true\/xs.all fstI=true\/xs.all fstT=true) then some (sortD xs) else none
 | _=>none
theorem IsA.perm{K:PySem.W.Frag}{q:Array Nat}(h:IsA K I ds zs)(hp:Pm ds.length q):IsA K I (permD q ds) (permV q zs):=by
 have low:∀j∈q.toList,j < ds.length:=λj hj=>by
  have:=(RT.mp hp).mem_iff.mp hj;simpa using this
 unfold permD permV;clear hp;generalize q.toList=js at low
 induction js with
 | nil=>exact IsA.nil
 | cons j js ih =>
  rw[D_,D_];refine IsA.cons ?_ (ih λi hi=>low i (i_ _ hi));have hj:=low j k_;obtain⟨x,e1,e2⟩:=h.get (g_ hj);rw[h_,h_,e1,g_ hj];exact e2
theorem vF{p:Pos}{t:M (List D)}(hr:Room kr X.A)(hg:Gl X "sorted")(hm:X.mg "sorted"=none)(ha:AD X B [e] t)(he:e_ [e] X.env=(false,Qf e X.env)::e_ [] X.env:=by rfl)(aF:(Qk pos (e_ [] X.env)).any (·.1)=false:=by rfl):
  EO X B (.Call (.Name "sorted" p) [e] [] pos) (fn1 sortF t):=LB (KQ (hu100 hr)) (λds d e B G I H U Y xs Q r h k=>by
 unfold sortF at e;split at e
 ·obtain⟨ok,rfl⟩:=sv e;obtain⟨x,rfl,hx⟩:=h.one;obtain⟨q,zs,rfl,h3,h4⟩:=sd hx;refine⟨q,zs,_,rfl,(Same.rdK r.iH h3).sq,h4.mono r.iH,ok,λl q' hp es hl=>?_⟩;refine k.new r hl ?_;rw[←es];exact h4.perm hp
 ·cases e) hg hm boot_sorted ha (by decide) (by decide) he aF
end
end DL
namespace DL
open PySem PySem.SetTable
def Ris(xs:Array Nat):Prop:=∀i j (hi:i < xs.size) (hj:j < xs.size),i < j->xs[i] < xs[j]
theorem za{xs:Array Nat}(R:Ris xs)(j:Nat):∀(f lo hi:Nat),hi<=xs.size->lo<=hi->hi - lo<=f->(∀i (h:i < xs.size),i < lo->xs[i] < j)->(∀i (h:i < xs.size),hi<=i->j<=xs[i]) →
  (Sx.go xs j f lo hi<=xs.size/\(∀i (h:i < xs.size),i < Sx.go xs j f lo hi->xs[i] < j)/\∀i (h:i < xs.size),Sx.go xs j f lo hi<=i->j<=xs[i])
 | 0,lo,hi,h1,h2,h3,h4,h5=>by
  rw[Sx.go];exact⟨by omega,h4,λi h x=>h5 i h (by omega)⟩
 | f+1,lo,hi,h1,h2,h3,h4,h5=>by
  rw[Sx.go];split
  ·have hm:(lo+hi) / 2 < xs.size:=by omega
   have e:xs.getD ((lo+hi) / 2) j=xs[(lo+hi) / 2]:=by rw[Wh,dif_pos hm];rfl
   dsimp only;rw[e];split
   ·rename_i lt;refine za R j f ((lo+hi) / 2+1) hi h1 (by omega) (by omega) (λi h x=>?_) h5;by_cases z:i=(lo+hi) / 2
    ·subst z;exact lt
    ·exact Nat.lt_trans (R i _ h hm (by omega)) lt
   ·rename_i mq;refine za R j f lo ((lo+hi) / 2) (by omega) (by omega) (by omega) h4 λi h x=>?_
    by_cases z:i=(lo+hi) / 2
    ·subst z;omega
    ·have:=R _ i hm h (by omega);omega
  ·exact⟨by omega,h4,λi h x=>h5 i h (by omega)⟩
theorem xF{xs:Array Nat}(R:Ris xs)(j:Nat):Sx xs j<=xs.size/\(∀i (h:i < xs.size),i < Sx xs j->xs[i] < j)/\∀i (h:i < xs.size),Sx xs j<=i->j<=xs[i]:=
 za R j xs.size 0 xs.size (w_ _) (Qp _) (w_ _) (λi h x=>by omega) λi h x=>by omega
theorem JF{xs:Array Nat}(R:Ris xs)(h:i < xs.size):Sx xs xs[i]=i:=by
 obtain⟨b1,b2,b3⟩:=xF R xs[i]
 rcases SJ (Sx xs xs[i]) i with l | l | l
 ·have:=b3 (Sx xs xs[i]) (by omega) (w_ _);have:=R _ i (by omega) h l;omega
 ·exact l
 ·have:=b2 i h l;omega
section
variable {t:QI}
theorem BS(R:Ris t.place)(h:i < t.place.size):t.slot t.place[i]=.live i:=by
 unfold slot;dsimp only;rw[JF R h,n_ h];simp
theorem IE(R:Ris t.place)(hd:t.dummies=#[])(h:j∉t.place):t.slot j=.empty:=by
 unfold slot;dsimp only
 have e:¬(t.place[Sx t.place j]? == some j)=true:=by
  intro z;have z:t.place[Sx t.place j]?=some j:=by simpa using z
  exact h (Sy z)
 rw[if_neg e];unfold has;rw[hd];simp
noncomputable def hd(m i p:Nat):Probe:=⟨i,RL m i - i,i,p,none⟩
noncomputable def adv(m:Nat)(p:Probe):Probe:=match p with
 | ⟨j,k+1,i,q,d⟩=>⟨j+1,k,i,q,d⟩
 | ⟨_,0,i,q,d⟩=>⟨(Wc m i q).1,RL m (Wc m i q).1 - (Wc m i q).1,(Wc m i q).1,(Wc m i q).2,d⟩
noncomputable def pth(m:Nat)(h:Int):Nat->Probe
 | 0=>hd m (UR h % (m+1)) (UR h)
 | k+1=>adv m (pth m h k)
theorem EB(h:Int)(k:Nat):t.advance (pth t.mask h k)=pth t.mask h (k+1):=by
 rw[pth]
 rcases pth t.mask h k with⟨j,more,i,q,d⟩
 cases more<;>rfl
theorem Dv(m:Nat)(h:Int):∀k,(pth m h k).dummy=none
 | 0=>rfl
 | k+1=>by
  have ih:=Dv m h k;rw[pth]
  revert ih
  rcases pth m h k with⟨j,more,i,q,d⟩
  intro ih;cases more<;>exact ih
noncomputable def sl(m:Nat)(h:Int)(k:Nat):Nat:=(pth m h k).j
theorem yd{m:Nat}{h:Int}{c i p:Nat}(e:pth m h c=hd m i p):∀d,d<=RL m i - i->pth m h (c+d)=⟨i+d,RL m i - i - d,i,p,none⟩
 | 0,_=>e
 | d+1,cr=>by
  have ih:=yd e d (by omega);rw[←Nat.add_assoc,pth,ih];obtain⟨k,hk⟩:∃k,RL m i - i - d=k+1:=⟨RL m i - i - d - 1,by omega⟩;rw[hk,show RL m i - i - (d+1)=k by omega];rfl
theorem B2{c p:Nat}(e:pth m h c=hd m i p):pth m h (c+(RL m i - i)+1)=hd m (Wc m i p).1 (Wc m i p).2:=by
 have:=yd e (RL m i - i) (w_ _);rw[pth,this,Nat.sub_self];rfl
theorem LU(m i:Nat):RL m i - i<=9:=by
 unfold RL;split<;>omega
noncomputable def lp(m:Nat):Nat->Nat->Nat->Nat×Nat
 | 0,i,p=>(i,p)
 | n+1,i,p=>lp m n (Wc m i p).1 (Wc m i p).2
theorem Dd{m:Nat}{h:Int}:∀(n c i p:Nat),pth m h c=hd m i p->∃c',c<=c'/\c'<=c+10*n/\pth m h c'=hd m (lp m n i p).1 (lp m n i p).2
 | 0,c,i,p,e=>⟨c,w_ _,by omega,e⟩
 | n+1,c,i,p,e=>by
  obtain⟨c',h1,h2,h3⟩:=Dd n _ _ _ (B2 e);have:=LU m i;exact⟨c',by omega,by omega,h3⟩
theorem EF(m:Nat):∀(a b i p:Nat),lp m (a+b) i p=lp m b (lp m a i p).1 (lp m a i p).2
 | 0,b,i,p=>by rw[VY];rfl
 | a+1,b,i,p=>by rw[Nat.succ_add,lp,EF m a b];rfl
theorem C'(m:Nat):∀(n i p:Nat),(lp m n i p).2=p / 32 ^ n
 | 0,i,p=>by simp[lp]
 | n+1,i,p=>by
  rw[lp,C' m n];show(p / 32) / 32 ^ n=_;rw[Nat.div_div_eq_div_mul,Nat.pow_succ,Nat.mul_comm]
theorem BU{m:Nat}:∀(n i p:Nat),i < m+1->(lp m n i p).1 < m+1
 | 0,i,p,h=>h
 | n+1,i,p,h=>by
  rw[lp];exact BU n _ _ (Wd _ (V0 _))
theorem NI(h:Int):UR h < 2 ^ 64:=by
 unfold UR;have h1:=Sr h (b:=2 ^ 64) (by decide);have h2:=Tw h (b:=2 ^ 64) (by decide);omega
def Round(m:Nat):Prop:=∀i,i < m+1->∀j,j < m+1->∃n,n < m+1/\(lp m n i 0).1=j
theorem round7:Round 7:=by
 have:∀i,i < 8->∀j,j < 8->∃n,n < 8/\(lp 7 n i 0).1=j:=by decide +kernel
 exact this
theorem round31:Round 31:=by
 have:∀i,i < 32->∀j,j < 32->∃n,n < 32/\(lp 31 n i 0).1=j:=by decide +kernel
 exact this
theorem Ca(R:Round m)(h:Int)(hj:j < m+1):∃n,n < m+14/\(lp m n (UR h % (m+1)) (UR h)).1=j:=by
 have p0:(lp m 13 (UR h % (m+1)) (UR h)).2=0:=by
  rw[C'];refine Nat.div_eq_of_lt (J_ (NI h) ?_);decide
 have l0:=BU (m:=m) 13 (UR h % (m+1)) (UR h) (Wd _ (V0 _));obtain⟨n,h1,h2⟩:=R _ l0 j hj;refine⟨13+n,by omega,?_⟩;rw[EF,p0];exact h2
theorem L8(R:Round m)(h:Int)(hj:j < m+1):∃k,k < 10*(m+14)/\sl m h k=j:=by
 obtain⟨n,h1,h2⟩:=Ca R h hj;obtain⟨c,h3,h4,h5⟩:=Dd (m:=m) (h:=h) n 0 _ _ rfl;refine⟨c,by omega,?_⟩;unfold sl;rw[h5];exact h2
end
noncomputable def hA(es:Array (Int×b_))(i:Nat):Int:=(es[i]?.map (·.1)).getD 0
theorem Ev(h:i < es.size):hA es i=es[i].1:=by
 unfold hA;rw[n_ h];rfl
structure TabOk(t:QI)(es:Array (Int×b_)):Prop where
 nd:t.dummies=#[]
 ris:Ris t.place
 sz:t.place.size=es.size
 low:∀i (h:i < t.place.size),t.place[i]<=t.mask
 few:t.place.size<=18/\(t.mask=31\/(t.mask=7/\t.place.size<=4))
 pl:t.plain=true
 reach:∀i (h:i < es.size) (h':i < t.place.size),∃k,sl t.mask es[i].1 k=t.place[i]/\∀k',k' < k->sl t.mask es[i].1 k'∈t.place
theorem yJ:∀(n:Nat) (l:List Nat),(∀j,j < n->j∈l)->n<=l.length
 | 0,_,_=>Qp _
 | n+1,l,h=>by
  have:=yJ n (l.erase n) λj hj=>(List.mem_erase_of_ne (by omega)).mpr (h j (by omega))
  rw[TM (h n (by omega))] at this;have:0 < l.length:=List.length_pos_of_mem (h n (by omega));omega
section
variable{t:QI}
theorem TabOk.round(T:TabOk t es):Round t.mask:=by
 rcases T.few.2 with h | h
 ·rw[h];exact round31
 ·rw[h.1];exact round7
theorem TabOk.free(T:TabOk t es)(h:Int):∃K,K < 10*(t.mask+14)/\sl t.mask h K∉t.place/\∀k,k < K->sl t.mask h k∈t.place:=by
 have ex:∃k,k < 10*(t.mask+14)/\sl t.mask h k∉t.place:=by
  apply SZ
  intro no
  have:t.mask+1<=t.place.toList.length:=yJ (t.mask+1) _ λj hj=>by
   obtain⟨k,k1,k2⟩:=L8 T.round h hj
   apply SZ
   intro nj;exact no ⟨k,k1,by rw[k2];simpa using nj⟩
  rw[QC] at this;have:=T.few;omega
 obtain⟨k,k1,k2⟩:=ex
 induction k using Nat.strongRecOn with
 | ind k ih =>
  by_cases z:∃k',k' < k/\sl t.mask h k'∉t.place
  ·obtain⟨k',a,b⟩:=z;exact ih k' a (by omega) b
  ·refine⟨k,k1,k2,λk' bD=>?_⟩
   apply SZ
   intro nj;exact z ⟨k',bD,nj⟩
theorem Dj(h:i<=m):i+(RL m i - i)<=m:=by
 unfold RL;split<;>omega
theorem wG(m:Nat)(h:Int):∀k,(pth m h k).j+(pth m h k).more<=m/\(pth m h k).i<=m
 | 0=>by
  have:UR h % (m+1)<=m:=Vp (Wd _ (V0 _));exact⟨Dj this,this⟩
 | k+1=>by
  have ih:=wG m h k;rw[pth]
  revert ih
  rcases pth m h k with⟨j,more,i,q,d⟩
  intro ih;cases more with
  | zero =>
   have:(Wc m i q).1<=m:=Vp (Wd _ (V0 _));exact⟨Dj this,this⟩
  | succ more =>
   dsimp only at ih;exact⟨by show j+1+more<=m;omega,ih.2⟩
theorem Lk{xs:Array Nat}(h:j∈xs):∃i,∃h:i < xs.size,xs[i]=j:=by
 obtain⟨i,hi,e⟩:=SR h;exact⟨i,hi,e⟩
theorem Ee(T:TabOk t es){h:Int}{K:Nat}(hK:sl t.mask h K∉t.place)(hk:∀k,k < K->sl t.mask h k∈t.place):∀(f k:Nat),k<=K->K - k < f →
  (∃k' i,∃hi:i < es.size,∃bC:i < t.place.size,k<=k'/\k' < K/\t.place[i]=sl t.mask h k'/\es[i].1=h/\Tn t (hA es) h f (pth t.mask h k)=some (.candidate (sl t.mask h k') i (pth t.mask h (k'+1))) ∧
   ∀bw,k<=bw->bw < k'->∀j (hj:j < es.size) (br:j < t.place.size),t.place[j]=sl t.mask h bw->es[j].1≠h) ∨
  (Tn t (hA es) h f (pth t.mask h k)=some (.empty (sl t.mask h K) none)/\∀bw,k<=bw->bw < K->∀j (hj:j < es.size) (br:j < t.place.size),t.place[j]=sl t.mask h bw->es[j].1≠h)
 | 0,k,h1,h2=>by omega
 | f+1,k,h1,h2=>by
  by_cases z:k=K
  ·subst z;right;refine⟨?_,λbw a b=>by omega⟩;rw[Tn,show(pth t.mask h k).j=sl t.mask h k from rfl,IE T.ris T.nd hK,Dv]
  ·obtain⟨i,hi,e⟩:=Lk (hk k (by omega));have cp:i < es.size:=by rw[←T.sz];exact hi
   have st:t.slot (pth t.mask h k).j=.live i:=by
    rw[show(pth t.mask h k).j=t.place[i] from e.symm];exact BS T.ris hi
   have only:∀j (br:j < t.place.size),t.place[j]=sl t.mask h k->j=i:=λj br ej=>by
    rcases SJ j i with l | l | l
    ·have:=T.ris j i br hi l;omega
    ·exact l
    ·have:=T.ris i j hi br l;omega
   by_cases same:es[i].1=h
   ·left;refine⟨k,i,cp,hi,w_ _,by omega,e,same,?_,λbw a b=>by omega⟩;rw[Tn,st];dsimp only;rw[Ev cp,same,if_pos (by simp),EB];rfl
   ·have go:Tn t (hA es) h (f+1) (pth t.mask h k)=Tn t (hA es) h f (pth t.mask h (k+1)):=by
     rw[Tn,st];dsimp only;rw[Ev cp,if_neg (by simpa using same),EB]
    rw[go]
    have here:∀j (hj:j < es.size) (br:j < t.place.size),t.place[j]=sl t.mask h k->es[j].1≠h:=λj hj br ej=>by
     have:=only j br ej;subst this;exact same
    rcases Ee T hK hk f (k+1) (by omega) (by omega) with⟨k',i',a1,a2,a3,a4,a5,a6,a7,a8⟩ | ⟨a1,a2⟩
    ·refine .inl ⟨k',i',a1,a2,by omega,a4,a5,a6,a7,λbw b1 b2 j hj br ej=>?_⟩;by_cases z':bw=k
     ·subst z';exact here j hj br ej
     ·exact a8 bw (by omega) b2 j hj br ej
    ·refine .inr ⟨a1,λbw b1 b2 j hj br ej=>?_⟩;by_cases z':bw=k
     ·subst z';exact here j hj br ej
     ·exact a2 bw (by omega) b2 j hj br ej
theorem va{α:Type}{xs:Array α}{p:Nat}(hp:p<=xs.size)(x:α)(i:Nat):(QJ xs p x)[i]?=if i < p then xs[i]? else if i=p then some x else xs[i - 1]?:=by
 unfold QJ;rw[Array.getElem?_append,Array.size_push,S7];have e:min p xs.size - 0=p:=by omega
 rw[e];by_cases h1:i < p
 ·rw[if_pos (by omega),if_pos h1,US,S7,e,if_neg (by omega),Uh,if_pos (by omega),VY]
 ·rw[if_neg h1];by_cases h2:i=p
  ·rw[if_pos (by omega),if_pos h2,US,S7,e,if_pos h2]
  ·rw[if_neg (by omega),if_neg h2,Uh];by_cases h3:i - (p+1) < min xs.size xs.size - p
   ·rw[if_pos h3]
    congr 1
    omega
   ·rw[if_neg h3]
    symm
    rw[RI];omega
theorem yG{α:Type}{xs:Array α}{p:Nat}(hp:p<=xs.size)(x:α):(QJ xs p x).size=xs.size+1:=by
 unfold QJ;rw[Array.size_append,Array.size_push,S7,S7];omega
theorem E1{α:Type}{xs:Array α}{p:Nat}(hp:p<=xs.size)(x y:α):y∈QJ xs p x↔y=x\/y∈xs:=by
 constructor
 ·intro h;obtain⟨i,e⟩:=RZ.mp h;rw[va hp] at e;split at e
  ·exact .inr (Sy e)
  ·split at e
   ·cases e;exact .inl rfl
   ·exact .inr (Sy e)
 ·rintro(rfl | h)
  ·refine RZ.mpr ⟨p,?_⟩;rw[va hp,if_neg (by omega),if_pos rfl]
  ·obtain⟨i,e⟩:=RZ.mp h;by_cases z:i < p
   ·exact RZ.mpr ⟨i,by rw[va hp,if_pos z];exact e⟩
   ·exact RZ.mpr ⟨i+1,by rw[va hp,if_neg (by omega),if_neg (by omega)];exact e⟩
theorem K'(T:TabOk t es){x:b_}{K:Nat}(hK:sl t.mask h K∉t.place)(hk:∀k,k < K->sl t.mask h k∈t.place):
  let q:=t.put (sl t.mask h K)
  q.1.dummies=#[]/\Ris q.1.place/\q.1.place.size=(QJ es q.2 (h,x)).size/\(∀i (h:i < q.1.place.size),q.1.place[i]<=q.1.mask)/\q.1.mask=t.mask/\q.1.plain=t.plain/\q.1.led=t.led/\q.1.moves=t.moves/\q.1.place.size=t.place.size+1/\q.2<=es.size ∧
   (∀i (h1:i < (QJ es q.2 (h,x)).size) (h2:i < q.1.place.size),∃k,sl q.1.mask (QJ es q.2 (h,x))[i].1 k=q.1.place[i]/\∀k',k' < k->sl q.1.mask (QJ es q.2 (h,x))[i].1 k'∈q.1.place):=by
 intro q;obtain⟨b1,b2,b3⟩:=xF T.ris (sl t.mask h K);have q2:q.2=Sx t.place (sl t.mask h K):=rfl;have q1:q.1.place=QJ t.place (Sx t.place (sl t.mask h K)) (sl t.mask h K):=rfl;have hp:q.2<=es.size:=by rw[q2,←T.sz];exact b1
 have nh:has t.dummies (sl t.mask h K)=false:=by rw[T.nd];rfl
 have qd:q.1.dummies=#[]:=by
  show(if has t.dummies (sl t.mask h K)=true then _ else t.dummies)=_;rw[nh,if_neg j_];exact T.nd
 have get:∀i (h2:i < q.1.place.size),(i < q.2/\∃hi:i < t.place.size,q.1.place[i]=t.place[i])\/(i=q.2/\q.1.place[i]=sl t.mask h K)\/(q.2 < i/\∃hi:i - 1 < t.place.size,q.1.place[i]=t.place[i - 1]):=λi h2=>by
  have e:=va (x:=sl t.mask h K) b1 i;rw[←q1,←q2,n_ h2] at e;by_cases z1:i < q.2
  ·rw[if_pos z1] at e;obtain⟨hi,e⟩:=Qd.mp e.symm;exact .inl ⟨z1,hi,e.symm⟩
  ·rw[if_neg z1] at e;by_cases z2:i=q.2
   ·rw[if_pos z2] at e;exact .inr (.inl ⟨z2,Qb e⟩)
   ·rw[if_neg z2] at e;obtain⟨hi,e⟩:=Qd.mp e.symm;exact .inr (.inr ⟨by omega,hi,e.symm⟩)
 have sz:q.1.place.size=t.place.size+1:=by rw[q1];exact yG b1 _
 have ne:∀i (hi:i < t.place.size),t.place[i]≠sl t.mask h K:=λi hi z=>hK (by rw[←z];exact RP hi)
 refine⟨qd,?_,by rw[sz,yG hp,T.sz],?_,rfl,rfl,rfl,rfl,sz,hp,?_⟩
 ·intro i j hi hj lt
  rcases get i hi with⟨a1,a2,a3⟩ | ⟨a1,a3⟩ | ⟨a1,a2,a3⟩<;>rcases get j hj with⟨c1,c2,c3⟩ | ⟨c1,c3⟩ | ⟨c1,c2,c3⟩
  ·rw[a3,c3];exact T.ris i j a2 c2 lt
  ·rw[a3,c3];exact b2 i a2 (by omega)
  ·rw[a3,c3];have:=b2 i a2 (by omega);have:=b3 (j - 1) c2 (by omega);omega
  ·omega
  ·omega
  ·rw[a3,c3];have:=b3 (j - 1) c2 (by omega);have:=ne (j - 1) c2;omega
  ·omega
  ·omega
  ·rw[a3,c3];exact T.ris (i - 1) (j - 1) a2 c2 (by omega)
 ·intro i hi;show _<=t.mask
  rcases get i hi with⟨a1,a2,a3⟩ | ⟨a1,a3⟩ | ⟨a1,a2,a3⟩
  ·rw[a3];exact T.low _ _
  ·rw[a3];have:=(wG t.mask h K).1;unfold sl;omega
  ·rw[a3];exact T.low _ _
 ·intro i h1 h2;have dB:∀y,y∈t.place->y∈q.1.place:=λy hy=>by rw[q1];exact(E1 b1 _ _).mpr (.inr hy)
  have e:=va (x:=(h,x)) hp i;rw[n_ h1] at e;show ∃k,sl t.mask _ k=_/\∀k',k' < k->sl t.mask _ k'∈_
  rcases get i h2 with⟨a1,a2,a3⟩ | ⟨a1,a3⟩ | ⟨a1,a2,a3⟩
  ·rw[if_pos a1] at e;obtain⟨hi,e⟩:=Qd.mp e.symm;obtain⟨k,k1,k2⟩:=T.reach i hi a2;rw[←e,a3];exact⟨k,k1,λk' bD=>dB _ (k2 k' bD)⟩
  ·rw[if_neg (by omega),if_pos a1] at e;rw[Qb e,a3];exact⟨K,rfl,λk' bD=>dB _ (hk k' bD)⟩
  ·rw[if_neg (by omega),if_neg (by omega)] at e;obtain⟨hi,e⟩:=Qd.mp e.symm;obtain⟨k,k1,k2⟩:=T.reach (i - 1) hi a2;rw[←e,a3];exact⟨k,k1,λk' bD=>dB _ (k2 k' bD)⟩
end
noncomputable def tak(o:Array (Option Nat))(j:Nat):Bool:=(o.getD j (some 0)).isSome
theorem CQ{m:Nat}{o:Array (Option Nat)}{h:Int}:∀(f c i p:Nat),pth m h c=hd m i p →
  (∃k,c<=k/\SK m o f i p=some (sl m h k)/\tak o (sl m h k)=false/\∀k',c<=k'->k' < k->tak o (sl m h k')=true)\/(∀n,n < f->tak o (lp m n i p).1=true)
 | 0,c,i,p,e=>.inr λn h=>by omega
 | f+1,c,i,p,e=>by
  have run:=λd cr=>yd e d cr
  have aW:∀d,d<=RL m i - i->sl m h (c+d)=i+d:=λd cr=>by unfold sl;rw[run d cr]
  have up:i<=RL m i:=by unfold RL;split<;>omega
  rw[SK];cases hf:(Qw (RL m i+1 - i)).find? λk=>(o.getD (i+k) (some 0)).isNone with
  | some d =>
   obtain⟨d1,d2,d3⟩:=List.find?_range_eq_some.mp hf;rw[Rm] at d2;left;refine⟨c+d,by omega,?_,?_,λk' a b=>?_⟩
   ·dsimp only;rw[aW d (by omega)]
   ·rw[aW d (by omega)];unfold tak;cases x:o.getD (i+d) (some 0) with
    | none=>rfl
    | some v=>rw[x] at d1;cases d1
   ·obtain⟨d',rfl⟩:∃d',k'=c+d':=⟨k' - c,by omega⟩;rw[aW d' (by omega)];have:=d3 d' (by omega);unfold tak;cases x:o.getD (i+d') (some 0) with
    | none=>rw[x] at this;cases this
    | some v=>rfl
  | none =>
   have no:=List.find?_range_eq_none.mp hf
   have all:∀k',c<=k'->k' < c+(RL m i - i)+1->tak o (sl m h k')=true:=λk' a b=>by
    obtain⟨d',rfl⟩:∃d',k'=c+d':=⟨k' - c,by omega⟩;rw[aW d' (by omega)];have:=no d' (by omega);unfold tak;cases x:o.getD (i+d') (some 0) with
    | none=>rw[x] at this;cases this
    | some v=>rfl
   dsimp only
   rcases CQ (o:=o) f _ _ _ (B2 e) with⟨k,k1,k2,k3,k4⟩ | aE
   ·left;refine⟨k,by omega,k2,k3,λk' a b=>?_⟩;by_cases z:k' < c+(RL m i - i)+1
    ·exact all k' a z
    ·exact k4 k' (by omega) b
   ·right;intro n hn;cases n with
    | zero =>
     have:=all c (w_ _) (by omega);rw[←Nat.add_zero c,aW 0 (by omega)] at this;exact this
    | succ n =>
     rw[lp];exact aE n (by omega)
theorem wu:∀(k:Nat) (l:List Nat),l.Nodup->(∀x∈l,x < k)->l.length<=k
 | 0,l,_,h=>by
  cases l with
  | nil=>exact w_ _
  | cons x l=>exact absurd (h x k_) (UG _)
 | k+1,l,nd,h=>by
  by_cases z:k∈l
  ·have:=wu k (l.erase k) (nd.erase k) λx hx=>by
    have h1:=h x (List.mem_of_mem_erase hx)
    have h2:x≠k:=λe=>by
     subst e;exact(V1.not_mem_erase nd) hx
    omega
   rw[TM z] at this;omega
  ·have:=wu k l nd λx hx=>by
    have h1:=h x hx;have h2:x≠k:=λe=>z (e▸hx)
    omega
   omega
structure Laid(m:Nat)(hs:List Int)(o:Array (Option Nat))(k:Nat):Prop where
 sz:o.size=m+1
 old:∀(j v:Nat),o[j]?=some (some v)->v < k
 one:∀(j j' v:Nat),o[j]?=some (some v)->o[j']?=some (some v)->j=j'
 way:∀(v:Nat),v < k->∃(j c:Nat),o[j]?=some (some v)/\sl m (hs.getD v 0) c=j/\∀c',c' < c->tak o (sl m (hs.getD v 0) c')=true
theorem Laid.room{hs:List Int}{o:Array (Option Nat)}(L:Laid m hs o k)(hk:k<=m):∃j,j < m+1/\tak o j=false:=by
 apply SZ
 intro no
 have all:∀j,j < m+1->∃v,o[j]?=some (some v):=λj hj=>by
  have t:tak o j=true:=by
   cases x:tak o j with
   | true=>rfl
   | false=>exact absurd ⟨j,hj,x⟩ no
  unfold tak at t;rw[Wh,dif_pos (by rw[L.sz];exact hj)] at t;rw[n_ (by rw[L.sz];exact hj)];cases x:o[j]'(by rw[L.sz];exact hj) with
  | none=>simp[x] at t
  | some v=>exact⟨v,rfl⟩
 have nd:((Qw (m+1)).map λj=>((o[j]?).bind id).getD 0).Nodup:=by
  unfold V1;rw[Vq];refine imp_of_mem ?_ List.nodup_range;intro a b ha hb ne e;obtain⟨v,hv⟩:=all a (Rm.mp ha);obtain⟨v',bO⟩:=all b (Rm.mp hb);rw[hv,bO] at e;have e:v=v':=e;subst e;exact ne (L.one a b v hv bO)
 have:=wu k _ nd λx hx=>by
  obtain⟨j,hj,rfl⟩:=F_.mp hx;obtain⟨v,hv⟩:=all j (Rm.mp hj);rw[hv];exact L.old j v hv
 rw[s_,S5] at this;omega
theorem Laid.step(R:Round m){hs:List Int}{o:Array (Option Nat)}(L:Laid m hs o k)(hk:k<=m):∃j,SK m o (V2 m) (UR (hs.getD k 0) % (m+1)) (UR (hs.getD k 0))=some j/\Laid m hs (o.setIfInBounds j (some k)) (k+1):=by
 rcases CQ (m:=m) (o:=o) (h:=hs.getD k 0) (V2 m) 0 _ _ rfl with⟨K,_,k2,k3,k4⟩ | full
 ·refine⟨_,k2,?_⟩
  have hj:sl m (hs.getD k 0) K < o.size:=by
   rw[L.sz];have:=(wG m (hs.getD k 0) K).1;unfold sl;omega
  have free:o[sl m (hs.getD k 0) K]?=some none:=by
   unfold tak at k3;rw[Rk,n_ hj] at k3;rw[n_ hj];cases x:o[sl m (hs.getD k 0) K] with
   | none=>rfl
   | some v=>rw[x] at k3;cases k3
  have get:∀i,(o.setIfInBounds (sl m (hs.getD k 0) K) (some k))[i]?=if sl m (hs.getD k 0) K=i then some (some k) else o[i]?:=λi=>by
   rw[Array.getElem?_setIfInBounds];split
   ·rename_i e;subst e;simp[hj]
   ·rfl
  have more:∀i,tak o i=true->tak (o.setIfInBounds (sl m (hs.getD k 0) K) (some k)) i=true:=λi hi=>by
   unfold tak at hi ⊢;rw[Rk] at hi ⊢;rw[get];split
   ·rfl
   ·exact hi
  refine⟨by rw[Array.size_setIfInBounds];exact L.sz,λj v e=>?_,λj j' v e e'=>?_,λv hv=>?_⟩
  ·rw[get] at e;split at e
   ·cases e;omega
   ·have:=L.old j v e;omega
  ·rw[get] at e e';split at e
   ·cases e;split at e'
    ·omega
    ·have:=L.old j' k e';omega
   ·split at e'
    ·cases e';have:=L.old j k e;omega
    ·exact L.one j j' v e e'
  ·by_cases z:v=k
   ·subst z;exact⟨_,K,by rw[get,if_pos rfl],rfl,λc' aM=>more _ (k4 c' (Qp _) aM)⟩
   ·obtain⟨j,c,e1,e2,e3⟩:=L.way v (by omega);refine⟨j,c,?_,e2,λc' aM=>more _ (e3 c' aM)⟩;rw[get,if_neg ?_]
    ·exact e1
    ·intro e;subst e;rw[free] at e1;cases e1
 ·obtain⟨j,hj,tj⟩:=L.room hk;obtain⟨n,n1,n2⟩:=Ca R (hs.getD k 0) hj;have:=full n (by unfold V2;omega);rw[n2,tj] at this;cases this
theorem Hm(R:Round m)(hs:List Int)(hm:hs.length<=m):∃o,layClean m hs.toArray=some o/\Laid m hs o hs.length:=by
 unfold layClean;rw[←Array.foldl_toList]
 have aT:∀(l pre:List Int) (o:Array (Option Nat)),hs=pre++l->Laid m hs o pre.length->∃o',List.foldl (λag h=>do
   let (owner,k) ←ag
   let j ←SK m owner (V2 m) (UR h % (m+1)) (UR h)
   pure (owner.setIfInBounds j (some k),k+1)) (some (o,pre.length)) l=some (o',hs.length)/\Laid m hs o' hs.length:=by
  intro l
  induction l with
  | nil =>
   intro pre o e L;rw[Q0] at e;subst e;exact⟨o,rfl,L⟩
  | cons h l ih =>
   intro pre o e L;have gk:hs.getD pre.length 0=h:=by rw[e,h_];simp
   have lk:pre.length<=m:=by
    have:=congrArg length e;simp at this;omega
   obtain⟨j,j1,j2⟩:=L.step R lk;rw[gk] at j1;obtain⟨o',h1,h2⟩:=ih (pre++[h]) (o.setIfInBounds j (some pre.length)) (by rw[e];simp) (by simpa using j2);refine⟨o',?_,h2⟩;rw[SE,←h1]
   congr 1
   show(SK m o (V2 m) (UR h % (m+1)) (UR h)).bind _=_;rw[j1];simp
 have aV:∀(j v:Nat),(Array.replicate (m+1) (none:Option Nat))[j]?=some (some v)->False:=λj v e=>by
  rw[Array.getElem?_replicate] at e;split at e
  ·cases e
  ·cases e
 obtain⟨o',h1,h2⟩:=aT hs [] (Array.replicate (m+1) none) rfl ⟨by simp,λj v e=>(aV j v e).elim,λj j' v e=>(aV j v e).elim,λv hv=>absurd hv (UG _)⟩
 exact⟨o',by
  have:=congrArg (Option.map (·.1)) h1
  exact this,h2⟩
theorem Gd(few:es.size<=18)(finger moves:Nat)(led:Bool):∃t bQ,laid 31 finger moves led true (es.map (·.1))=some (t,bQ)/\(bQ.filterMap (es[·]?)).size=es.size/\TabOk t (bQ.filterMap (es[·]?))/\t.mask=31/\t.led=led ∧
  (∀x,x∈bQ.filterMap (es[·]?)↔x∈es):=by
 obtain⟨o,h1,L⟩:=Hm round31 (es.map (·.1)).toList (by simp;omega);rw[Array.toArray_toList] at h1;have nl:(es.map (·.1)).toList.length=es.size:=by simp
 rw[nl] at L;obtain⟨live,dL⟩:∃live:List (Nat×Nat),live=(Qw 32).filterMap λj=>(o.getD j none).map (j,·):=⟨_,rfl⟩
 have mem:∀j v,(j,v)∈live↔o[j]?=some (some v):=λj v=>by
  rw[dL,Tf];constructor
  ·rintro⟨a,ha,e⟩;rw[Rk] at e;cases x:o[a]? with
   | none=>rw[x] at e;cases e
   | some w =>
    rw[x] at e;cases w with
    | none=>cases e
    | some w=>cases e;exact x
  ·intro e;have:=(Qd.mp e).1;refine⟨j,Rm.mpr (by rw[L.sz] at this;exact this),?_⟩;rw[Rk,e];rfl
 have ris:live.Pairwise λa b=>a.1 < b.1:=by
  rw[dL,List.pairwise_filterMap];refine TF.imp ?_ List.pairwise_lt_range;intro a b lt x hx y hy;cases e:o.getD a none with
  | none=>rw[e] at hx;cases hx
  | some v =>
   rw[e] at hx;cases hx;cases e':o.getD b none with
   | none=>rw[e'] at hy;cases hy
   | some v'=>rw[e'] at hy;cases hy;exact lt
 have mr:(live.map (·.2)).Nodup:=by
  unfold V1;rw[Vq];refine imp_of_mem ?_ ris;intro a b ha hb lt e;have h1:=(mem a.1 a.2).mp ha;have h2:=(mem b.1 b.2).mp hb;rw[e] at h1;have:=L.one _ _ _ h1 h2;omega
 have lo:live.length=es.size:=by
  refine Nat.le_antisymm ?_ ?_
  ·have:=wu es.size (live.map (·.2)) mr λx hx=>by
    obtain⟨q,hq,rfl⟩:=F_.mp hx;exact L.old q.1 q.2 ((mem _ _).mp hq)
   simpa using this
  ·have:=yJ es.size (live.map (·.2)) λv hv=>by
    obtain⟨j,c,e,_⟩:=L.way v hv;exact F_.mpr ⟨(j,v),(mem j v).mpr e,rfl⟩
   simpa using this
 have low:∀q∈live,q.2 < es.size:=λq hq=>L.old q.1 q.2 ((mem _ _).mp hq)
 have aZ:((live.map (·.2)).toArray.filterMap (es[·]?)).toList=live.map λq=>es[q.2]?.getD (0,b_.none):=by
  rw[Array.toList_filterMap];show(live.map (·.2)).filterMap (es[·]?)=_;clear lo mr ris mem dL
  induction live with
  | nil=>rfl
  | cons q live ih =>
   have hq:=low q k_;rw[D_,Tb,n_ hq,D_,n_ hq];rw[ih λq hq=>low q (i_ _ hq)];rfl
 refine⟨{ mask:=31,place:=(live.map (·.1)).toArray,dummies:=#[],finger,led,moves,plain:=true },(live.map (·.2)).toArray,?_,?_,?_,rfl,rfl,λx=>?_⟩
 ·unfold laid;rw[h1];show some _=some _;rw[dL]
 ·rw[←QC,aZ,s_,lo]
 ·have oY:((live.map (·.2)).toArray.filterMap (es[·]?)).size=live.length:=by rw[←QC,aZ,s_]
  have oZ:∀i (h1:i < ((live.map (·.2)).toArray.filterMap (es[·]?)).size) (h2:i < live.length),((live.map (·.2)).toArray.filterMap (es[·]?))[i]=es[live[i].2]?.getD (0,b_.none):=λi h1 h2=>by
   rw[←UF]
   have:((live.map (·.2)).toArray.filterMap (es[·]?)).toList[i]'(by rw[QC];exact h1)=(live.map λq=>es[q.2]?.getD (0,b_.none))[i]'(by simpa using h2):=by
    congr 1
   rw[this,Tv]
  refine⟨rfl,λi j hi hj lt=>?_,?_,λi hi=>?_,⟨?_,.inl rfl⟩,rfl,λi h1 h2=>?_⟩
  ·simp at hi hj;simp only[SS,Tv];exact(Tq.mp ris) i j hi hj lt
  ·rw[oY];simp
  ·simp at hi;simp only[SS,Tv];have:=(mem live[i].1 live[i].2).mp (Qt hi);have:=(Qd.mp this).1;rw[L.sz] at this;show _<=31;omega
  ·simp;omega
  ·have kz:i < live.length:=by simpa using h2
   rw[oZ i h1 kz];simp only[SS,Tv];have m1:=(mem live[i].1 live[i].2).mp (Qt kz);have v1:=low live[i] (Qt kz);obtain⟨j,c,e1,e2,e3⟩:=L.way live[i].2 v1;have:j=live[i].1:=L.one _ _ _ e1 m1;subst this
   have hh:(es.map (·.1)).toList.getD live[i].2 0=es[live[i].2].1:=by
    rw[h_];simp[v1]
   rw[hh] at e2 e3;rw[n_ v1];refine⟨c,e2,λc' aM=>?_⟩;have tk:=e3 c' aM;unfold tak at tk;have lt:=(wG 31 es[live[i].2].1 c').1;have lt:sl 31 es[live[i].2].1 c' < o.size:=by rw[L.sz];unfold sl;omega
   rw[Wh,dif_pos lt] at tk;show sl 31 es[live[i].2].1 c'∈_;cases x:o[sl 31 es[live[i].2].1 c'] with
   | none=>simp[x] at tk
   | some v =>
    have:(sl 31 es[live[i].2].1 c',v)∈live:=(mem _ _).mpr (by rw[n_ lt,x]);simp only[List.mem_toArray,F_];exact⟨_,this,rfl⟩
 ·rw[←UH,aZ,F_];constructor
  ·rintro⟨q,hq,rfl⟩;rw[n_ (low q hq)];exact RP _
  ·intro hx;obtain⟨v,hv,rfl⟩:=SR hx;obtain⟨j,c,e,_⟩:=L.way v hv;refine⟨(j,v),(mem j v).mpr e,?_⟩;dsimp only;rw[n_ hv];rfl
end DL
namespace DL
open PySem PySem.W PySem.Spec PyProof.Rows L2
mutual
def KV(h:L_):D->b_->Prop
 | .int i,u=>∃t,u=.int i t
 | .tup ds,u=>∃a o ae e,u=.ref a/\h.get? a=some o/\o.cls=.type "tuple"/\o.data=.seq (ae:List b_).toArray e/\KVs h ds ae
 | _,_=>False
def KVs(h:L_):List D->List b_->Prop
 | [],[]=>True
 | d::ds,u::us=>KV h d u/\KVs h ds us
 | _,_=>False
end
mutual
noncomputable def kyB:D->Bool
 | .int _=>true
 | .tup ds=>kyA ds
 | _=>false
noncomputable def kyA:List D->Bool
 | []=>true
 | d::ds=>kyB d&&kyA ds
end
section
variable{H:Hp}{s:c_}
mutual
theorem yk(I:Inv X aa U H s):∀(d:D) (x:V) (u:b_),kyB d=true->Is X.K H d x->RelV x u->KV s.heap d u
 | .int i,x,u,_,h,r=>by
  rw[rM h] at r;obtain⟨t,rfl⟩:=r;rw[KV];exact⟨t,rfl⟩
 | .tup ds,x,u,ky,h,r=>by
  obtain⟨a,xs,rfl,h1,h2⟩:=rZ h;cases r;obtain⟨ae,r1,t1,_⟩:=I.tuple h1;obtain⟨o,e1,e2,n,e3⟩:=t1;rw[kyB] at ky;rw[KV];exact⟨a,o,ae,n,rfl,e1,e2,e3,Di I ds xs ae ky h2 r1⟩
 | .non,_,_,ky,_,_=>by simp[kyB] at ky
 | .bl _,_,_,ky,_,_=>by simp[kyB] at ky
 | .str _,_,_,ky,_,_=>by simp[kyB] at ky
 | .lst _,_,_,ky,_,_=>by simp[kyB] at ky
theorem Di(I:Inv X aa U H s):∀(ds:List D) (xs:List V) (us:List b_),kyA ds=true->IsA X.K H ds xs->Vals xs us->KVs s.heap ds us
 | [],xs,us,_,h,r=>by
  have:=h.nil_inv;subst this;cases r;rw[KVs];trivial
 | d::ds,xs,us,ky,h,r=>by
  obtain⟨x,xr,rfl,h1,h2⟩:=h.cons_inv;cases r with
  | cons r1 r2 =>
   rw[kyA,Qn] at ky;rw[KVs];exact⟨yk I d x _ ky.1 h1 r1,Di I ds xr _ ky.2 h2 r2⟩
end
end
section
variable {prog:A_}{w:I_}{E:b_->c_->Prop}
mutual
noncomputable def hD:D->Int
 | .int i=>hashInt i
 | .tup ds=>reduceHash (tupleHashOf (hDs ds))
 | _=>0
noncomputable def hDs:List D->List Int
 | []=>[]
 | d::ds=>hD d::hDs ds
end
mutual
theorem Bc:∀(d:D) (u:b_) (A:Q6) (s:c_) (Q:Int->c_->Prop),KV s.heap d u->A.units+dep d < Q8->(∀tk,Q (hD d) { s with toks:=tk })->q_ (r_ prog w) A (pyHash u) Q E s
 | .int i,u,A,s,Q,x,hu,q=>by
  rw[KV] at x;obtain⟨t,rfl⟩:=x;exact wpAny_pyHash_int (by have:=q (s.toks+1);rw[hD] at this;exact this)
 | .tup ds,u,A,s,Q,x,hu,q=>by
  rw[KV] at x;obtain⟨a,o,ae,e,rfl,x1,x2,x3,x4⟩:=x;rw[dep] at hu;refine pyHash_slot (T:= "tuple") ⟨o,x1,x2⟩ Vr F.entry_tuple_hash (F.args_tuple_hash_1 _) (beq_builtin_none _) (.inr (by omega)) ?_;refine a_ (m:=tupleItemsOf (.ref a)) (wpAny_tupleItemsOf x1 x3 (a_ ?_));rw[←Ui];refine DK ds ae A.in1 s #[] _ x4 (by show A.units+1+_ < _;omega) λtk b hb=>?_
  refine a_ (m:=mkInt (tupleHashOf b.toList)) (wpAny_mkInt (d_ ⟨_,_,rfl,?_⟩));rw[hb];have:=q (tk+1);rw[hD] at this;exact this
 | .non,_,_,_,_,x,_,_=>by simp[KV] at x
 | .bl _,_,_,_,_,x,_,_=>by simp[KV] at x
 | .str _,_,_,_,_,x,_,_=>by simp[KV] at x
 | .lst _,_,_,_,_,x,_,_=>by simp[KV] at x
theorem DK:∀(ds:List D) (us:List b_) (A:Q6) (s:c_) (b:Array Int) (Q:Array Int->c_->Prop),KVs s.heap ds us->A.units+depA ds < Q8->(∀tk b',b'.toList=b.toList++hDs ds->Q b' { s with toks:=tk }) →
  q_ (r_ prog w) A (forIn us b λx r=>do let h ←pyHash x;pure unit;pure (VU (r.push h))) Q E s
 | [],us,A,s,b,Q,x,hu,q=>by
  cases us with
  | cons u us=>simp[KVs] at x
  | nil =>
   rw[S'];exact d_ (q s.toks b (by simp[hDs]))
 | d::ds,us,A,s,b,Q,x,hu,q=>by
  cases us with
  | nil=>simp[KVs] at x
  | cons u us =>
   rw[KVs] at x;rw[depA] at hu;rw[Sc];refine a_ (a_ (Bc d u A s _ x.1 (by omega) λtk=>a_ (d_ (d_ ?_))));exact DK ds us A { s with toks:=tk } _ Q x.2 (by omega) λiI b' hb=>q iI b' (by rw[hb,hDs];simp)
end
mutual
theorem ya:∀(d:D) (u:b_) (n:Nat) (A:Q6) (s:c_) (Q:Bool->c_->Prop),KV s.heap d u->dep d<=n->Q true s->q_ (r_ prog w) A (eqIsQuiet n u) Q E s
 | .int i,u,n,A,s,Q,x,hn,q=>by
  rw[KV] at x;obtain⟨t,rfl⟩:=x;exact RD (eqIsQuiet_byValue n rfl) q
 | .tup ds,u,n,A,s,Q,x,hn,q=>by
  rw[KV] at x;obtain⟨a,o,ae,e,rfl,x1,x2,x3,x4⟩:=x;rw[dep] at hn;obtain⟨n,rfl⟩:∃k,n=k+1:=⟨n - 1,by omega⟩;have hT:s.TypeIs (.ref a) "tuple":=⟨o,x1,x2⟩;unfold eqIsQuiet;refine a_ (SX hT F.slot_tuple_eq.lookup ?_);refine a_ (m:=isInstance (.ref a) (.type "tuple")) (RX hT isSubtype_tuple_tuple ?_);simp only[SL,R8,if_false];refine a_ (QT x1 x3 (a_ ?_));show q_ _ _ (forIn ae.toArray _ _) _ _ s;rw[←Ui];refine DC ds ae n A s _ x4 (by omega) ?_;exact d_ q
 | .non,_,_,_,_,_,x,_,_=>by simp[KV] at x
 | .bl _,_,_,_,_,_,x,_,_=>by simp[KV] at x
 | .str _,_,_,_,_,_,x,_,_=>by simp[KV] at x
 | .lst _,_,_,_,_,_,x,_,_=>by simp[KV] at x
theorem DC:∀(ds:List D) (us:List b_) (n:Nat) (A:Q6) (s:c_) (Q:Option Bool×PUnit->c_->Prop),KVs s.heap ds us->depA ds<=n->Q (none,()) s →
  q_ (r_ prog w) A (forIn us (none,()) λy r=>do
   let __do_lift ←eqIsQuiet n y
   if(!__do_lift)=true then pure (UI (some false,())) else do pure unit;pure (VU (none,()))) Q E s
 | [],us,n,A,s,Q,x,hn,q=>by
  cases us with
  | cons u us=>simp[KVs] at x
  | nil =>
   rw[S'];exact d_ q
 | d::ds,us,n,A,s,Q,x,hn,q=>by
  cases us with
  | nil=>simp[KVs] at x
  | cons u us =>
   rw[KVs] at x;rw[depA] at hn;rw[Sc];refine a_ (a_ (ya d u n A s _ x.1 (by omega) ?_));rw[if_neg (by simp)];refine a_ (d_ (d_ ?_));exact DC ds us n A s Q x.2 (by omega) q
end
mutual
theorem yT:∀(d:D) (u:b_) (n:Nat) (A:Q6) (s:c_) (Q:Bool->c_->Prop),KV s.heap d u->dep d<=n->Q false s->q_ (r_ prog w) A (Ss n u) Q E s
 | .int i,u,n,A,s,Q,x,hn,q=>by
  rw[KV] at x;obtain⟨t,rfl⟩:=x;unfold Ss;exact d_ q
 | .tup ds,u,n,A,s,Q,x,hn,q=>by
  rw[KV] at x;obtain⟨a,o,ae,e,rfl,x1,x2,x3,x4⟩:=x;rw[dep] at hn;obtain⟨n,rfl⟩:∃k,n=k+1:=⟨n - 1,by omega⟩;have look:VZ (r_ prog w) s.heap (V' (.ref a)) o.cls:=(VZ.ld x1).andThen .now;rw[x2] at look;unfold Ss;refine a_ (look.here ?_);dsimp only;rw[if_pos (by decide)];refine a_ (d_ ?_);simp only[SL,R8,if_false];refine a_ (QT x1 x3 (a_ ?_));show q_ _ _ (forIn ae.toArray _ _) _ _ s;rw[←Ui];refine Cb ds ae n A s _ x4 (by omega) ?_;exact d_ q
 | .non,_,_,_,_,_,x,_,_=>by simp[KV] at x
 | .bl _,_,_,_,_,_,x,_,_=>by simp[KV] at x
 | .str _,_,_,_,_,_,x,_,_=>by simp[KV] at x
 | .lst _,_,_,_,_,_,x,_,_=>by simp[KV] at x
theorem Cb:∀(ds:List D) (us:List b_) (n:Nat) (A:Q6) (s:c_) (Q:Option Bool×PUnit->c_->Prop),KVs s.heap ds us->depA ds<=n->Q (none,()) s →
  q_ (r_ prog w) A (forIn us (none,()) λy r=>do
   let __do_lift ←Ss n y
   if __do_lift=true then pure (UI (some true,())) else do pure unit;pure (VU (none,()))) Q E s
 | [],us,n,A,s,Q,x,hn,q=>by
  cases us with
  | cons u us=>simp[KVs] at x
  | nil =>
   rw[S'];exact d_ q
 | d::ds,us,n,A,s,Q,x,hn,q=>by
  cases us with
  | nil=>simp[KVs] at x
  | cons u us =>
   rw[KVs] at x;rw[depA] at hn;rw[Sc];refine a_ (a_ (yT d u n A s _ x.1 (by omega) ?_));rw[if_neg j_];refine a_ (d_ (d_ ?_));exact Cb ds us n A s Q x.2 (by omega) q
end
mutual
theorem Bp:∀(d:D) (u:b_) (n:Nat) (A:Q6) (s:c_) (Q:Bool->c_->Prop),KV s.heap d u->dep d<=n->Q true s->q_ (r_ prog w) A (Tx n u) Q E s
 | .int i,u,n,A,s,Q,x,hn,q=>by
  rw[KV] at x;obtain⟨t,rfl⟩:=x;unfold Tx;exact d_ q
 | .tup ds,u,n,A,s,Q,x,hn,q=>by
  rw[KV] at x;obtain⟨a,o,ae,e,rfl,x1,x2,x3,x4⟩:=x;rw[dep] at hn;obtain⟨n,rfl⟩:∃k,n=k+1:=⟨n - 1,by omega⟩;have hT:s.TypeIs (.ref a) "tuple":=⟨o,x1,x2⟩;unfold Tx;refine a_ (SX hT Vr.lookup ?_);refine a_ (m:=seqItems? (.ref a)) (QT x1 x3 (a_ ?_));show q_ _ _ (forIn ae.toArray _ _) _ _ s;rw[←Ui];refine Dy ds ae n A s _ x4 (by omega) ?_;exact d_ q
 | .non,_,_,_,_,_,x,_,_=>by simp[KV] at x
 | .bl _,_,_,_,_,_,x,_,_=>by simp[KV] at x
 | .str _,_,_,_,_,_,x,_,_=>by simp[KV] at x
 | .lst _,_,_,_,_,_,x,_,_=>by simp[KV] at x
theorem Dy:∀(ds:List D) (us:List b_) (n:Nat) (A:Q6) (s:c_) (Q:Option Bool×PUnit->c_->Prop),KVs s.heap ds us->depA ds<=n->Q (none,()) s →
  q_ (r_ prog w) A (forIn us (none,()) λy r=>do
   let __do_lift ←Tx n y
   if(!__do_lift)=true then pure (UI (some false,())) else do pure unit;pure (VU (none,()))) Q E s
 | [],us,n,A,s,Q,x,hn,q=>by
  cases us with
  | cons u us=>simp[KVs] at x
  | nil =>
   rw[S'];exact d_ q
 | d::ds,us,n,A,s,Q,x,hn,q=>by
  cases us with
  | nil=>simp[KVs] at x
  | cons u us =>
   rw[KVs] at x;rw[depA] at hn;rw[Sc];refine a_ (a_ (Bp d u n A s _ x.1 (by omega) ?_));rw[if_neg (by simp)];refine a_ (d_ (d_ ?_));exact Dy ds us n A s Q x.2 (by omega) q
end
end
end DL
namespace DL
open PySem PySem.W PySem.Spec PyProof.Rows L2 PySem.SetTable
section
variable{prog:A_}{w:I_}{E:b_->c_->Prop}{s:c_}
theorem TabOk.fits{t:QI}(T:TabOk t es):t.fits es.size=true:=by
 have:=T.few;have:=T.sz;unfold QI.fits QI.fill;rw[T.nd];simp[T.sz];omega
theorem TabOk.gave{t:QI}(T:TabOk t es):t.gaveWay=false:=by
 unfold gaveWay
 rcases T.few.2 with h | h
 ·rw[h];decide
 ·rw[h.1];decide
theorem Mw{o:Obj}{t:QI}(ho:s.heap.get? a=some o)(eh:o.data=.set es ep t)(T:TabOk t es){x:b_}(gN:∀i (hi:i < es.size),∃b,es[i].2=.ref b)(eq:∀i (hi:i < es.size),es[i].1=h->PySem.SeqAt.EqAt A s es[i].2 x (eqf i))(seen:t.led=false->∀Q:Bool->c_->Prop,Q false s->q_ (r_ prog w) A (Su x ((es.filter (·.1 == h)).toList.map (·.2))) Q E s){K:Nat}(hK:sl t.mask h K∉t.place)(hk:∀k,k < K->sl t.mask h k∈t.place)(a9:K < 10*(t.mask+14)){Q:SetFound->c_->Prop}(kA:∀i (hi:i < es.size),es[i].1=h->eqf i=true->Q (.there none) s)(free:(∀i (hi:i < es.size),es[i].1=h->eqf i=false)->Q (.free (sl t.mask h K) false) s):
  ∀(f k:Nat) (bK:Option Probe),k<=K->K - k < f->bK.getD (t.probeStart h)=pth t.mask h k->(∀bw,bw < k->∀j (hj:j < es.size) (br:j < t.place.size),t.place[j]=sl t.mask h bw->es[j].1=h->eqf j=false) →
   q_ (r_ prog w) A (setSearchFrom a x h true f bK) Q E s:=by
 intro f
 induction f with
 | zero=>intro k bK h1 h2;omega
 | succ f ih =>
  intro k bK h1 h2 hs ft;unfold setSearchFrom;refine a_ (QA ho eh T.fits ?_);dsimp only;rw[T.gave,if_neg j_]
  have pr:∀m,Tn t (hA es) h (10*V2 t.mask) (pth t.mask h k)=some m->t.probe (W.hashAt es) h (bK.getD (t.probeStart h))=some m:=λm e=>by
   rw[hs];exact e
  rcases Ee T hK hk (10*V2 t.mask) k h1 (by unfold V2;omega) with⟨k',i,hi,bC,a1,a2,a3,a4,a5,a6⟩ | ⟨a1,a2⟩
  ·have e:=pr _ a5
   change t.probe _ h _=_ at e
   have e':t.probe (λi=>(es[i]?.map (·.1)).getD 0) h (bK.getD (t.probeStart h))=some (.candidate (sl t.mask h k') i (pth t.mask h (k'+1))):=e;show q_ _ _ (match t.probe (λi=>(es[i]?.map (·.1)).getD 0) h (bK.getD (t.probeStart h)) with | some met=>_ | _=>_) _ _ _;rw[e'];dsimp only;obtain⟨b,eb⟩:=gN i hi;have gi:es[i]?=some es[i]:=n_ hi;have o0:t.slot (sl t.mask h k')=.live i:=by rw[←a3];exact BS T.ris bC
   have mw:=eq i hi a4;rw[eb] at mw;have ask:t.led=true\/t.led=false:=by cases t.led<;>simp
   rcases ask with led | led
   all_goals
    first
     | (rw[led,SL,if_neg j_])
     | (rw[led,Bool.not_false,if_pos rfl];refine a_ (seen led _ ?_);rw[if_neg j_])
    rw[gi];dsimp only;rw[eb];refine a_ (Qv (mw prog w _ _ (a_ (QA ho eh T.fits ?_))));dsimp only;cases c:eqf i with
    | true =>
     rw[if_pos (by rfl)];exact d_ (kA i hi a4 c)
    | false =>
     rw[if_neg (by decide)];have sm:t.sameMemory t.moves t.mask=some true:=by unfold sameMemory;simp
     rw[sm];dsimp only;rw[if_pos rfl,o0];dsimp only;rw[gi];dsimp only;rw[eb];refine a_ (wpAny_isSame_ref_self (a_ (d_ ?_)));rw[if_pos rfl];dsimp only;rw[if_neg j_];refine ih (k'+1) _ (by omega) (by omega) rfl λbw b1 j hj br ej hh=>?_
     by_cases z1:bw < k
     ·exact ft bw z1 j hj br ej hh
     ·by_cases z2:bw=k'
      ·have:j=i:=by
        rw[z2,←a3] at ej
        rcases SJ j i with l | l | l
        ·have:=T.ris j i br bC l;omega
        ·exact l
        ·have:=T.ris i j bC br l;omega
       subst this;exact c
      ·exact absurd hh (a6 bw (by omega) (by omega) j hj br ej)
  ·have e':t.probe (λi=>(es[i]?.map (·.1)).getD 0) h (bK.getD (t.probeStart h))=some (.empty (sl t.mask h K) none):=pr _ a1;show q_ _ _ (match t.probe (λi=>(es[i]?.map (·.1)).getD 0) h (bK.getD (t.probeStart h)) with | some met=>_ | _=>_) _ _ _;rw[e'];dsimp only;refine d_ (free λi hi hh=>?_);have bC:i < t.place.size:=by rw[T.sz];exact hi
   obtain⟨c,c1,c2⟩:=T.reach i hi bC;rw[hh] at c1 c2
   have cK:c < K:=by
    rcases SJ c K with l | l | l
    ·exact l
    ·subst l;exact absurd (by rw[c1];exact RP bC) hK
    ·exact absurd (c2 K l) hK
   by_cases z:c < k
   ·exact ft c z i hi bC c1.symm hh
   ·exact absurd hh (a2 c (by omega) cK i hi bC c1.symm)
end
section
variable{prog:A_}{w:I_}{E:b_->c_->Prop}{s:c_}
def SetAt(h:L_)(a:l_)(led:Bool)(es:Array (Int×b_)):Prop:=∃o ep t,h.get? a=some o/\o.cls=.type "set"/\o.data=.set es ep t/\TabOk t es/\t.led=led
theorem Bf{h:L_}{o:Obj}{es':Array (Int×b_)}{t t':QI}(ho:h.get? a=some o)(hd:o.data=.set es ep t):(h.update a (putSet es' t')).get? a=some { o with data:=.set es' (ep+1) t' }:=by
 have e:=putSet_of es' t' hd;have:=QH (putSet es' t') ho (by rw[e];rfl);rw[e] at this;exact this
theorem MA{led:Bool}{Q:Bool->c_->Prop}(S:SetAt s.heap a led es)(few:(∀i (hi:i < es.size),es[i].1=h->eqf i=false)->es.size<=17)(gN:∀i (hi:i < es.size),∃b,es[i].2=.ref b)(eq:∀i (hi:i < es.size),es[i].1=h->PySem.SeqAt.EqAt A s es[i].2 (.ref b) (eqf i))(seen:∀Q:Bool->c_->Prop,Q false s->q_ (r_ prog w) A (Su (.ref b) ((es.filter (·.1 == h)).toList.map (·.2))) Q E s)(value:∀Q:Bool->c_->Prop,Q true s->q_ (r_ prog w) A (Tx 8 (.ref b)) Q E s)(old:∀i (hi:i < es.size),es[i].1=h->eqf i=true->Q false s)(new:(∀i (hi:i < es.size),es[i].1=h->eqf i=false)->∀h' es',SetAt h' a led es'->(∀e,e∈es'↔e=(h,.ref b)\/e∈es)->es'.size=es.size+1->KeptBut a s.heap h'->Q true { s with heap:=h' }):
  q_ (r_ prog w) A (setAddHashed a (.ref b) h) Q E s:=by
 have line:64<=x_:=by rw[Q7];decide
 obtain⟨o,ep,t,ho,hc,eh,T,tl⟩:=S;obtain⟨K,k1,k2,k3⟩:=T.free h;have fits:=T.fits;unfold setAddHashed;refine Qv ?_;unfold setAddHashedIn;refine a_ (QA ho eh fits ?_);dsimp only;rw[if_neg (by simp[byScan,b_.scannable])];unfold setSearch;refine a_ (Mw ho eh T gN eq (λ_=>seen) k2 k3 k1 (λi hi hh ee=>?_) (λaV=>?_) 100000 0 none (Qp _) ?_ rfl λbw z=>by omega)
 ·exact d_ (old i hi hh ee)
 ·have few:=few aV;dsimp only;refine a_ (QA ho eh fits ?_);dsimp only;obtain⟨p1,p2,p3,p4,p5,p6,p7,p8,p9,kB,my⟩:=K' T (h:=h) (x:=.ref b) k2 k3;obtain⟨q,o3⟩:∃q,q=t.put (sl t.mask h K):=⟨_,rfl⟩;rw[←o3] at p1 p2 p3 p4 p5 p6 p7 p8 p9 kB my ⊢;rw[p6,T.pl,if_pos rfl];refine a_ (value _ ?_);rw[if_pos rfl];have cB:(QJ es q.2 (h,b_.ref b)).size=es.size+1:=yG kB _;refine a_ (Vs ho eh ?_ (by rw[cB];omega));have g1:=Bf (es':=QJ es q.2 (h,b_.ref b)) (t':=q.1) ho eh;have cC:KeptBut a s.heap (s.heap.update a (putSet (QJ es q.2 (h,b_.ref b)) q.1)):=λc u ne e=>(Qc _ _ (Qx ne)).trans e
  have dB:∀e,e∈QJ es q.2 (h,b_.ref b)↔e=(h,.ref b)\/e∈es:=λe=>E1 kB _ e
  obtain⟨h1,o4⟩:∃h1,h1=s.heap.update a (putSet (QJ es q.2 (h,b_.ref b)) q.1):=⟨_,rfl⟩;rw[←o4] at g1 cC ⊢
  have fill:q.1.fill=es.size+1:=by
   unfold QI.fill;rw[p1,p9,T.sz];rfl
  by_cases full:q.1.tooFull=true
  ·-- laid anew: five things,32 places
   have m7:t.mask=7/\es.size+1=5:=by
    unfold tooFull at full;rw[fill,p5] at full;simp only[ge_iff_le,decide_eq_true_eq] at full;have:=T.few;have:=T.sz
    rcases this with x
    rcases T.few.2 with m | m
    ·rw[m] at full;omega
    ·rw[m.1] at full;omega
   rw[if_pos (by simp[full])];unfold setRelay
   have kC:q.1.fits (QJ es q.2 (h,b_.ref b)).size=true:=by
    unfold QI.fits;rw[fill,cB,p5,m7.1,p9,T.sz];simp;omega
   refine a_ (a_ (QA (s:={ s with heap:=h1 }) g1 rfl kC ?_));dsimp only;have sa:sizeAbove (grown (es.size+1))=32:=by rw[m7.2];decide
   rw[sa,if_neg (by omega)];obtain⟨t2,bQ,l1,l2,l3,l4,l5,l6⟩:=Gd (es:=QJ es q.2 (h,b_.ref b)) (by rw[cB];omega) q.1.finger (q.1.movedTo 31) q.1.led
   have cx:q.1.relaid ((QJ es q.2 (h,b_.ref b)).map (·.1)) (grown (es.size+1))=some (t2,bQ):=by
    unfold relaid;rw[sa,p6,T.pl];exact l1
   rw[cx];refine a_ (RD (a:=(bQ.filterMap ((QJ es q.2 (h,b_.ref b))[·]?),t2)) ?_ ?_)
   ·show(if((bQ.filterMap ((QJ es q.2 (h,b_.ref b))[·]?)).size != (QJ es q.2 (h,b_.ref b)).size)=true then _ else pure _)=_;rw[l2,bne_self_eq_false,if_neg j_]
   ·dsimp only;refine Vs g1 rfl ?_ (by rw[l2,cB];omega);refine d_ (new aV _ _ ⟨_,_,t2,Bf g1 rfl,hc,rfl,l3,by rw[l5,p7,tl]⟩ (λe=>(l6 e).trans (dB e)) (by rw[l2,cB]) λc u ne e=>(Qc _ _ (Qx ne)).trans (cC c u ne e))
  ·rw[if_neg (by simp[full])];refine d_ (new aV h1 _ ⟨_,_,q.1,g1,hc,rfl,⟨p1,p2,p3,p4,?_,by rw[p6];exact T.pl,my⟩,by rw[p7,tl]⟩ dB cB cC);unfold tooFull at full;rw[fill,p5] at full;simp only[ge_iff_le,decide_eq_true_eq] at full;have:=T.sz;rw[p9,p5];refine⟨by omega,?_⟩
   rcases T.few.2 with m | m
   ·exact .inl m
   ·refine .inr ⟨m.1,?_⟩;rw[m.1] at full;omega
 ·rcases T.few.2 with m | m
  ·rw[m] at k1;omega
  ·rw[m.1] at k1;omega
end
noncomputable def dstep(ag:List D)(d:D):List D:=if ag.any (λe=>deq e d)=true then ag else ag++[d]
noncomputable def dd(ds:List D):List D:=ds.foldl dstep []
theorem Nv(ag:List D)(d:D):ag.length<=(dstep ag d).length:=by
 unfold dstep;split
 ·exact w_ _
 ·simp
theorem CT:∀(ds ag:List D),ag.length<=(ds.foldl dstep ag).length
 | [],ag=>w_ _
 | d::ds,ag=>y_ (Nv ag d) (CT ds _)
theorem GE(ds:List D)(h:i < ds.length):dd (ds.take (i+1))=dstep (dd (ds.take i)) ds[i]:=by
 unfold dd;rw[QK,S8,g_ h];rfl
theorem NF(ds:List D)(i:Nat):(dd (ds.take i)).length<=(dd ds).length:=by
 unfold dd
 conv=>rhs;rw[←Rh i ds,S8]
 exact CT _ _
theorem BI{d:D}:∀(ds ag:List D),d∈ds.foldl dstep ag->d∈ag\/d∈ds
 | [],ag,h=>.inl h
 | e::ds,ag,h=>by
  rcases BI ds _ h with h | h
  ·unfold dstep at h;split at h
   ·exact .inl h
   ·rcases K_.mp h with h | h
    ·exact .inl h
    ·exact .inr (by rw[t_.mp h];exact k_)
  ·exact .inr (i_ _ h)
theorem vL(h:d∈dd ds):d∈ds:=by
 rcases BI ds [] h with h | h
 ·cases h
 ·exact h
section
variable{H:Hp}{s0 s:c_}{prog:A_}{w:I_}{E:b_->c_->Prop}
def Stn(X:Cx)(H:Hp)(e:Int×b_)(d:D):Prop:=e.1=hD d/\∃x,Is X.K H d x/\RelV x e.2
def EsOk(X:Cx)(H:Hp)(es:Array (Int×b_))(L:List D):Prop:=es.size=L.length/\(∀e∈es,∃d∈L,Stn X H e d)/\∀d∈L,∃e∈es,Stn X H e d
noncomputable def isT:D->Bool
 | .tup _=>true
 | _=>false
theorem wz{x:V}(ht:isT d=true)(h:Is X.K H d x)(r:RelV x u):∃b,x=.ref b/\u=.ref b:=by
 cases d<;>simp[isT] at ht
 obtain⟨a,xs,rfl,h1,h2⟩:=rZ h;cases r;exact⟨a,rfl,rfl⟩
theorem Stn.det(I:Inv X aa U H s){e:Int×b_}{d':D}(h:isT d=true)(h':isT d'=true)(x:Stn X H e d)(y:Stn X H e d'):d=d':=by
 obtain⟨_,v,a1,a2⟩:=x;obtain⟨_,v',b1,b2⟩:=y;obtain⟨b,rfl,e1⟩:=wz h a1 a2;obtain⟨b',rfl,e2⟩:=wz h' b1 b2;rw[e1] at e2;cases e2;exact vz I a1 b1
theorem Lc{x:b_}(hx:KV s.heap d x)(dx:dep d<=8):∀(ys:List b_) (Q:Bool->c_->Prop),(∀y∈ys,∃e,KV s.heap e y/\dep e<=8)->Q false s->q_ (r_ prog w) A (Su x ys) Q E s:=by
 intro ys Q hy q;unfold Su;refine a_ ?_
 have aT:∀(ys:List b_) (R:Option Bool×PUnit->c_->Prop) (body:b_->Option Bool×PUnit->Sem (ForInStep (Option Bool×PUnit))),(∀y∈ys,∀R':ForInStep (Option Bool×PUnit)->c_->Prop,R' (.yield (none,())) s->q_ (r_ prog w) A (body y (none,())) R' E s)->R (none,()) s →
   q_ (r_ prog w) A (forIn ys (none,()) body) R E s:=by
  intro ys R body hb r
  induction ys with
  | nil=>rw[S'];exact d_ r
  | cons y ys ih =>
   rw[Sc];exact a_ (hb y k_ _ (ih λz hz=>hb z (i_ _ hz)))
 refine aT ys _ _ (λy o5 R' r'=>?_) (d_ q);obtain⟨e,ky,ke⟩:=hy y o5;dsimp only;split
 all_goals
  split
  ·exact d_ r'
  ·refine a_ (ya d _ 8 A s _ hx dx ?_);rw[if_neg (by simp)];refine a_ (ya e _ 8 A s _ ky ke ?_);rw[if_neg (by simp)];refine a_ (yT d _ 8 A s _ hx dx ?_);rw[if_neg j_];refine a_ (yT e _ 8 A s _ ky ke ?_);rw[if_neg j_];exact d_ r'
end
section
variable{H:Hp}{s0 s:c_}{prog:A_}{w:I_}{E:b_->c_->Prop}
def Ext(s0 s:c_):Prop:=∃h tk,s={ s0 with heap:=h,toks:=tk }/\∀b o,s0.heap.get? b=some o->h.get? b=some o
theorem Ext.inv(I:Inv X aa U H s0)(e:Ext s0 s):Inv X aa U H s:=by
 obtain⟨h,tk,rfl,k⟩:=e;exact I.kept (t':=tk) k
theorem Ext.next(e:Ext s0 s)(k:∀b o,b < s0.heap.objs.size->s.heap.get? b=some o->h'.get? b=some o):Ext s0 { s with heap:=h',toks:=tk }:=by
 obtain⟨h,t,rfl,k0⟩:=e;exact⟨h',tk,rfl,λb o x=>k b o (H_ x) (k0 b o x)⟩
def SetOk(ds:List D):Prop:=cmAll ds=true/\ds.all kyB=true/\ds.all isT=true/\depA ds<=8/\(dd ds).length<=18
theorem SetAt.kept{h:L_}{led:Bool}(S:SetAt h a led es)(k:∀o,h.get? a=some o->h'.get? a=some o):SetAt h' a led es:=by
 obtain⟨o,ep,t,r1,r2⟩:=S;exact⟨o,ep,t,k _ r1,r2⟩
theorem Stn.up{J:Hp}(hJ:∀d x,Is X.K J d x->Is X.K H d x){e:Int×b_}{d:D}(h:Stn X J e d):Stn X H e d:=by
 obtain⟨h1,x,h2,h3⟩:=h;exact⟨h1,x,hJ _ _ h2,h3⟩
theorem F5(I0:Inv X aa U H s0){It:l_}(hS:s0.heap.objs.size<=S)(o6:s0.heap.objs.size<=It){P:Nat->b_->Prop}{St:Nat->L_->Prop}(W:Walks prog w A.in1 It fp [It] n P St)(mz:S∉fp)(hJ:∀d x,Is X.K J d x->Is X.K H d x)(ha:IsA X.K J ds zs)(ok:SetOk ds)(hn:n=ds.length)(hP:∀i v,P i v->∃x,zs[i]?=some x/\RelV x v)(hu:A.units+20 < Q8){led:Bool}{R:Result->c_->Prop}:
  ∀(k i:Nat) (s:c_),n - i=k->i<=n->Ext s0 s->St i s.heap->(∃es,SetAt s.heap S led es/\EsOk X J es (dd (ds.take i))) →
   (∀s' es,Ext s0 s'->SetAt s'.heap S led es->EsOk X J es (dd ds)->R (.ok (.ret .none)) s') →
   Sk (r_ prog w) A (.builtin "set.update.loop" ⟨[.ref S,.ref It],[]⟩) R s:=by
 obtain⟨cm,ky,ti,dp,few⟩:=ok;have mB:S≠It:=λe=>mz (by rw[e];exact W.sub It k_)
 have nb:∀b,b < s0.heap.objs.size->b∉[It]:=λb hb h=>by
  rw[t_.mp h] at hb;exact absurd o6 (Nat.not_le.mpr hb)
 have o7:∀b,b < s0.heap.objs.size->b≠S:=λb hb h=>by
  rw[h] at hb;exact absurd hS (Nat.not_le.mpr hb)
 intro k
 induction k with
 | zero =>
  intro i s hk hi ex st gO r;obtain⟨es,s1,s2⟩:=gO;have:i=n:=by omega
  subst this;refine Rb T3 ?_;rw[RK RC _];refine a_ (m:=Sz (.ref It)) (W.done s _ _ st λh' tk keep=>d_ ?_);rw[hn,Qu] at s2;exact r _ es (ex.next λb o hb x=>keep b o (nb b hb) x) (s1.kept λo x=>keep S o (by simpa using mB) x) s2
 | succ k ih =>
  intro i s hk hi ex st gO r;obtain⟨es,s1,s2⟩:=gO;have lt:i < ds.length:=by omega
  refine Rb T3 ?_;rw[RK RC _];refine a_ (m:=Sz (.ref It)) (W.item i s _ _ (by omega) st λv h1 o8 pv iG cC=>?_);obtain⟨x,e1,rv⟩:=hP i v pv;obtain⟨x',eN,hx⟩:=ha.get (g_ lt);rw[e1] at eN;cases eN;have dm:ds[i]∈ds:=Qt lt;have td:isT ds[i]=true:=v_.mp ti _ dm;have mC:dep ds[i]<=8:=y_ (tz dm) dp;obtain⟨b,rfl,rfl⟩:=wz td hx rv;have kD:∀tk,Ext s0 { s with heap:=h1,toks:=tk }:=λtk=>ex.next λb o hb x=>cC b o (nb b hb) x
  have mD:SetAt h1 S led es:=s1.kept λo x=>cC S o (by simpa using mB) x
  have I1:=(kD o8).inv I0;have kE:=yk I1 _ _ _ (v_.mp ky _ dm) (hJ _ _ hx) rv;refine a_ (m:=S4 [.ref b] (setAdd S (.ref b))) (Qv ?_);unfold setAdd;refine Qv (a_ (Bc _ _ _ _ _ kE (by show A.units+1+_ < _;omega) λtk=>?_));have I2:=(kD tk).inv I0
  have ch:∀k,∃d',∀hk:k < es.size,d'∈dd (ds.take i)/\Stn X J es[k] d':=λk=>by
   by_cases hk:k < es.size
   ·obtain⟨d',m,q⟩:=s2.2.1 es[k] (RP hk);exact⟨d',λ_=>⟨m,q⟩⟩
   ·exact⟨.non,λh=>absurd h hk⟩
  have gP:∀k (hk:k < es.size),(ch k).choose∈dd (ds.take i)/\Stn X J es[k] (ch k).choose:=λk hk=>(ch k).choose_spec hk
  have sub:∀d'∈dd (ds.take i),d'∈ds:=λd' h=>Ro (vL h)
  have o9:∀d'∈dd (ds.take i),cmB d' ds[i]=true:=λd' h=>v_.mp (v_.mp cm _ (sub d' h)) _ dm
  have eP:∀d'∈dd (ds.take i),isT d'=true:=λd' h=>v_.mp ti _ (sub d' h)
  have jJ:∀d'∈dd (ds.take i),dep d'<=8:=λd' h=>y_ (tz (sub d' h)) dp
  have pd:∀d'∈dd (ds.take i),∀e,Stn X J e d'->KV h1 d' e.2:=λd' h e q=>by
   obtain⟨_,y,q1,q2⟩:=q;exact yk I2 _ _ _ (v_.mp ky _ (sub d' h)) (hJ _ _ q1) q2
  have aV:(∀k (hk:k < es.size),es[k].1=hD ds[i]->deq (ch k).choose ds[i]=false)->(dd (ds.take i)).any (λe=>deq e ds[i])=false:=λhz=>by
   rw[Tz];intro h;obtain⟨d',m,q⟩:=QW.mp h;obtain⟨e,m1,q1⟩:=s2.2.2 d' m;obtain⟨k,hk,rfl⟩:=SR m1;have same:=Stn.det I2 (eP _ (gP k hk).1) (eP _ m) ((gP k hk).2.up hJ) (q1.up hJ);have pe:=vC _ _ (o9 d' m) q;have:=hz k hk (by rw[q1.1,pe]);rw[same,q] at this;cases this
  have step:dd (ds.take (i+1))=dstep (dd (ds.take i)) ds[i]:=GE ds lt
  have cont:∀h2 es',KeptBut S h1 h2->SetAt h2 S led es'->EsOk X J es' (dd (ds.take (i+1)))->Sk (r_ prog w) A (.builtin "set.update.loop" ⟨[.ref S,.ref It],[]⟩) R { s with heap:=h2,toks:=tk }:=λh2 es' kb sa eo=>by
   refine ih (i+1) _ (by omega) (by omega) ((kD tk).next (tk:=tk) λb o hb x=>kb b o (o7 b hb) x) (W.frame _ _ _ iG λb hb o x=>kb b o (λe=>mz (e▸hb)) x) ⟨es',sa,eo⟩ r
  refine MA (s:={ s with heap:=h1,toks:=tk }) (led:=led) (es:=es) (eqf:=λk=>deq (ch k).choose ds[i]) mD (λhz=>?_) (λk hk=>?_) (λk hk _=>?_) (λQ q=>?_) (λQ q=>Bp _ _ 8 _ _ _ kE mC q) (λk hk hh ee=>?_) λhz h2 es' sa mem sz kb=>?_
  ·have l1:=NF ds (i+1);rw[step,dstep,if_neg (by rw[aV hz];exact j_),p_,Sv,←s2.1] at l1;omega
  ·obtain⟨m,_,y,q1,q2⟩:=gP k hk;obtain⟨b',_,e⟩:=wz (eP _ m) q1 q2;exact⟨b',e⟩
  ·obtain⟨m,_,y,q1,q2⟩:=gP k hk;exact(vg I2 8 A.in1 (by show A.units+1+8 < _;omega) _ _ _ _ _ _ (.inl (jJ _ m)) (hJ _ _ q1) (hJ _ _ hx) q2 rv).2.1
  ·refine Lc (s:={ s with heap:=h1,toks:=tk }) (d:=ds[i]) kE mC _ _ (λy hy=>?_) q;obtain⟨e,m,rfl⟩:=F_.mp hy;have m':e∈es:=(Array.mem_filter.mp (UH.mp m)).1;obtain⟨d',m1,q1⟩:=s2.2.1 e m';exact⟨d',pd d' m1 e q1,jJ d' m1⟩
  ·refine d_ ⟨Rg RC _,cont h1 es (λb o _ x=>x) mD ?_⟩;rw[step,dstep,if_pos (QW.mpr ⟨_,(gP k hk).1,ee⟩)];exact s2
  ·refine d_ ⟨Rg RC _,cont h2 es' kb sa ?_⟩;rw[step,dstep,if_neg (by rw[aV hz];exact j_)];have own:Stn X J (hD ds[i],.ref b) ds[i]:=⟨rfl,_,hx,rv⟩;refine⟨by rw[sz,s2.1];simp,λe he=>?_,λd' cr=>?_⟩
   ·rcases(mem e).mp he with rfl | he
    ·exact⟨_,by simp,own⟩
    ·obtain⟨d',m,q⟩:=s2.2.1 e he;exact⟨d',Q_ _ m,q⟩
   ·rcases K_.mp cr with h | h
    ·obtain⟨e,m,q⟩:=s2.2.2 d' h;exact⟨e,(mem e).mpr (.inr m),q⟩
    ·rw[t_.mp h];exact⟨_,(mem _).mpr (.inl rfl),own⟩
end
theorem EM:Manifest.owners.lookup (String.ofList ['r','o','t','a','r','e','t','i','_','t','e','s'].reverse)=some Manifest.sig_set_iterator:=by kernel_rfl
theorem vf:Slot "set_iterator" "__next__" "set_iterator.__next__":=.of (owner:= "set_iterator") (n:= "__next__") (by rw[typeLookup_type,Ut];kernel_rfl) (by decide +kernel) (by decide +kernel) (by decide +kernel) (by first | exact .inl (by decide +kernel) | exact .inr (by decide +kernel)) (by rw[isSubtype_type];kernel_rfl)
theorem AX:entryFor table "set_iterator.__next__"=some Rr.«set_iterator.__next__»:=entryFor_of_tree (by kernel_rfl)
theorem Ek(a:b_):argsOk "set_iterator.__next__" ⟨[a],[]⟩:=by
 unfold argsOk;rw[signature?_of (id:= "set_iterator.__next__") (n:=['_','_','t','x','e','n','_','_']) (o:=['r','o','t','a','r','e','t','i','_','t','e','s']) (by kernel_rfl) EM]
 kernel_rfl
theorem HM:entryFor table "set.__iter__"=some Rr.«frozenset.__iter__»:=entryFor_alias (id':= "frozenset.__iter__") (by kernel_rfl) rfl (by decide +kernel) (by kernel_rfl)
theorem BD{α:Type}:∀(l:List α) (i:Nat) (h:i < l.length),(l[i]::l.eraseIdx i).Perm l
 | a::l,0,h=>UJ _
 | a::l,i+1,h=>by
  rw[Sh,Uj];exact(swap a _ _).trans ((BD l i (by simpa using h)).cons a)
theorem A6{α:Type}(next:Nat->Nat):∀(f k:Nat) (left:List α) (aZ:Array α),left.length=f->(T4.go next f k left aZ).toList.Perm (aZ.toList++left)
 | 0,k,left,aZ,h=>by
  rw[T4.go,Q1.mp h,Q0]
 | f+1,k,left,aZ,h=>by
  have lt:next k % left.length < left.length:=Wd _ (by omega);rw[T4.go,g_ lt];dsimp only;refine(A6 next f (k+1) _ _ (by rw[List.length_eraseIdx_of_lt lt];omega)).trans ?_;rw[Array.toList_push,Ru];exact List.Perm.append_left _ (BD left _ lt)
theorem Ky{α:Type}(next:Nat->Nat)(xs:Array α):(T4 next xs).toList.Perm xs.toList:=by
 have:=A6 next xs.size 0 xs.toList #[] (by simp);simpa[T4] using this
section
variable{prog:A_}{w:I_}{E:b_->c_->Prop}{s:c_}
noncomputable def byTx(w:I_):Bool:=w.params.followText "set-order"
noncomputable def walkOf(w:I_)(S:l_)(ep:Nat)(es:Array (Int×b_)):Array (Int×b_):=if byTx w=true then T4 (w.params.setOrder S ep) es else es
theorem z5(w:I_)(S:l_)(ep:Nat)(es:Array (Int×b_)):(walkOf w S ep es).toList.Perm es.toList:=by
 unfold walkOf;split
 ·exact Ky _ _
 ·exact UJ _
theorem wL(w:I_)(S:l_)(ep:Nat)(es:Array (Int×b_)):(walkOf w S ep es).size=es.size:=by
 have:=(z5 w S ep es).length_eq;simpa using this
noncomputable def slotAt(w:I_)(t:QI)(k:Nat):Nat:=if byTx w=true then 0 else match k with
 | 0=>0
 | k+1=>t.place.getD k 0+1
def SitAt(h:L_)(I S:l_)(slot k n ep:Nat):Prop:=∃o,h.get? I=some o/\o.cls=.type "set_iterator"/\o.data=.fields #[.int slot 0,.int k 0,.ref S,.int n 0,.int ep 0]
def SetIs(h:L_)(S:l_)(es:Array (Int×b_))(ep:Nat)(t:QI):Prop:=∃o,h.get? S=some o/\o.cls=.type "set"/\o.data=.set es ep t
theorem Kf{w:I_}{t:QI}(T:TabOk t es)(hb:byTx w=false)(hk:k<=es.size):Sx t.place (slotAt w t k)=k:=by
 unfold slotAt;rw[hb,if_neg j_];have sz:=T.sz;cases k with
 | zero =>
  dsimp only;obtain⟨b1,b2,b3⟩:=xF T.ris 0
  rcases Nat.eq_zero_or_pos (Sx t.place 0) with h | h
  ·exact h
  ·have:=b2 0 (by omega) h;omega
 | succ k =>
  dsimp only;have lt:k < t.place.size:=by omega
  rw[Wh,dif_pos lt]
  change Sx t.place (t.place[k]+1)=k+1
  obtain⟨b1,b2,b3⟩:=xF T.ris (t.place[k]+1)
  rcases SJ (Sx t.place (t.place[k]+1)) (k+1) with l | l | l
  ·have:=b3 k lt (by omega);omega
  ·exact l
  ·have h1:k+1 < t.place.size:=by omega
   have:=b2 (k+1) h1 l;have:=T.ris k (k+1) lt h1 (by omega);omega
theorem yD{Q:Bool->c_->Prop}(q:Q (byTx w) s):q_ (r_ prog w) A setsByText Q E s:=a_ (T5 (d_ q))
theorem Cr{t:QI}(T:TabOk t es)(led:t.led=!byTx w)(hS:SetIs s.heap S es ep t)(hk:k<=es.size){Q:Option (b_×Nat)->c_->Prop}(q:Q ((walkOf w S ep es)[k]?.map λe=>(e.2,slotAt w t (k+1))) s):q_ (r_ prog w) A (We S (slotAt w t k) k ep) Q E s:=by
 obtain⟨o,ho,hc,hd⟩:=hS;unfold We;refine a_ (QA ho hd T.fits ?_);dsimp only;refine a_ (yD ?_);cases hb:byTx w with
 | true =>
  rw[if_pos rfl,bne_self_eq_false,if_neg j_];have z:∀k,slotAt w t k=0:=λk=>by unfold slotAt;rw[hb,if_pos rfl]
  rw[z];rw[z] at q;refine a_ ?_;unfold setWalk;refine a_ (QA ho hd T.fits ?_);dsimp only;refine a_ (yD ?_);rw[hb,if_pos rfl];refine a_ (T5 (d_ (d_ ?_)));unfold walkOf at q;rw[hb,if_pos rfl] at q;exact q
 | false =>
  rw[if_neg j_];show q_ _ _ (if(!t.plain&&decide (es.size > 1))=true then _ else _) _ _ _;rw[T.pl,SL,Uu,if_neg j_];refine a_ ?_;show q_ _ _ (if(!t.led&&!es.isEmpty)=true then _ else _) _ _ _;rw[led,hb,Bool.not_false,SL,Uu,if_neg j_];refine d_ (d_ ?_);rw[Kf T hb hk];unfold walkOf at q;rw[hb,if_neg j_] at q;have sz:=T.sz;by_cases lt:k < es.size
  ·have lt':k < t.place.size:=by omega
   rw[n_ lt,n_ lt'];rw[n_ lt] at q;unfold slotAt at q;rw[hb,if_neg j_] at q;simp only[map_some,Wh,lt',dif_pos] at q;exact q
  ·rw[RI (by omega)];rw[RI (by omega)] at q;exact q
end
section
variable{prog:A_}{w:I_}{E:b_->c_->Prop}{s:c_}
theorem A5:Slot "set_iterator" "__iter__" "set_iterator.__iter__":=.of (owner:= "set_iterator") (n:= "__iter__") (by rw[typeLookup_type,Ut];kernel_rfl) (by decide +kernel) (by decide +kernel) (by decide +kernel) (by first | exact .inl (by decide +kernel) | exact .inr (by decide +kernel)) (by rw[isSubtype_type];kernel_rfl)
theorem Go:entryFor table "set_iterator.__iter__"=some Rr.«dict_keyiterator.__iter__»:=entryFor_alias (id':= "dict_keyiterator.__iter__") (by kernel_rfl) rfl (by decide +kernel) (by kernel_rfl)
theorem F0(a:b_):argsOk "set_iterator.__iter__" ⟨[a],[]⟩:=by
 unfold argsOk;rw[signature?_of (id:= "set_iterator.__iter__") (n:=['_','_','r','e','t','i','_','_']) (o:=['r','o','t','a','r','e','t','i','_','t','e','s']) (by kernel_rfl) EM]
 kernel_rfl
theorem SitAt.type{I:l_}{slot:Nat}(h:SitAt s.heap I S slot k n ep):s.TypeIs (.ref I) "set_iterator":=by
 obtain⟨o,h1,h2,_⟩:=h;exact⟨o,h1,h2⟩
theorem SetIs.type{t:QI}(h:SetIs s.heap S es ep t):s.TypeIs (.ref S) "set":=by
 obtain⟨o,h1,h2,_⟩:=h;exact⟨o,h1,h2⟩
theorem Kw{t:QI}(T:TabOk t es)(hS:SetIs s.heap S es ep t){Q:b_->c_->Prop}(q:Q (.ref s.heap.objs.size) { s with heap:=s.heap.push { cls:=.type "set_iterator", data:=.fields #[.int 0 0,.int 0 0,.ref S,.int es.size 0,.int ep 0] } }):q_ (r_ prog w) A (U4 (.ref S)) Q E s:=by
 have hT:=hS.type;obtain⟨o,ho,hc,hd⟩:=hS;refine Vt hT F.slot_set_iter (Qy F.slot_set_iter hT HM ?_ (F.args_set_iter_1 _));refine a_ (m:=slot0 "__iter__" ⟨[.ref S],[]⟩) (a_ (d_ (d_ ?_)));refine a_ (m:=Rr.Frozenset.sizeOf S) (a_ (S2 ho hd T.fits (d_ ?_)));refine a_ (m:=setDrawn S) ?_;unfold setDrawn;refine a_ (QA ho hd T.fits ?_);dsimp only;refine a_ (yD (d_ ?_));have z:(!byTx w&&(!t.plain&&decide (es.size > 1)))=false:=by rw[T.pl];simp
 show q_ _ _ (if(!byTx w&&(!t.plain&&decide (es.size > 1)))=true then _ else _) _ _ _;rw[z,if_neg j_];refine a_ (d_ (a_ ?_));unfold setEpoch;refine a_ (QA ho hd T.fits (d_ ?_));exact a_ (Qh (d_ ⟨_,rfl, "set_iterator", _,⟨_,z_ _ rfl,rfl⟩,vf.lookup,q⟩))
theorem IT(hh:A.handled=none){Q:Option b_->c_->Prop}(q:∀h',(∀b o,s.heap.get? b=some o->h'.get? b=some o)->Q none { s with heap:=h' }):
  q_ (r_ prog w) A (newExc (.type "StopIteration") [] >>= λe=>(raiseNew e:Sem PySem.Fin)) (λ_ _=>False) (λe s'=>q_ (r_ prog w) A (isInstance e (.type "StopIteration")) (λb fE=>b=true/\Q none fE) (λ_ _=>False) s') s:=by
 refine a_ ?_;unfold newExc newTuple;refine a_ (Qh (a_ (m:=Uz _ _) (RD (a:=b_.none) (by first | rfl | (simp only[Uz];rfl)) (Qh ?_ (by size_fits)))) (by size_fits));unfold raiseNew;refine a_ (wpAny_handled ?_);rw[hh];refine a_ (d_ (wpAny_throw ?_));refine RX (T:= "StopIteration") (b:=true) ⟨_,z_ _ rfl,rfl⟩ UB ⟨rfl,q _ λb o x=>?_⟩;exact f_ _ (f_ _ x)
theorem J7{I:l_}{t:QI}(T:TabOk t es)(led:t.led=!byTx w)(hI:SitAt s.heap I S (slotAt w t k) k es.size ep)(hS:SetIs s.heap S es ep t)(hk:k < es.size){Q:Option b_->c_->Prop}(q:∀v h',(walkOf w S ep es)[k]?.map (·.2)=some v->SitAt h' I S (slotAt w t (k+1)) (k+1) es.size ep->KeptBut I s.heap h'->Q (some v) { s with heap:=h' }):q_ (r_ prog w) A (Sz (.ref I)) Q E s:=by
 have hT:=hI.type;obtain⟨o,ho,hc,hd⟩:=hI;obtain⟨oS,kF,pf,kG⟩:=id hS;unfold Sz;refine a_ (SG (Qr (name:=TX "__next__") hT vf (Qy vf hT AX ?_ (Ek _))));refine a_ (m:=slotArgs "__next__" 0 ⟨[.ref I],[]⟩) (d_ ?_);refine a_ (wpAny_fieldsOf ho hd ?_);refine a_ (S2 kF kG T.fits ?_);rw[if_neg (by simp)];dsimp only;have lt:k < (walkOf w S ep es).size:=by rw[wL];exact hk
 refine a_ (m:=We S _ _ _) ?_;simp only[R7];refine Cr T led hS (SM hk) ?_;rw[n_ lt,map_some];dsimp only;refine a_ (Sl ho hd (by simp) ?_);obtain⟨h1,e1⟩:∃h1,h1=s.heap.update I (Obj.mapFields (·.setIfInBounds 0 (T_ ((slotAt w t (k+1):Nat):Int)))):=⟨_,rfl⟩;have kH:=QH (Obj.mapFields (·.setIfInBounds 0 (T_ ((slotAt w t (k+1):Nat):Int)))) ho (Sw (Sm hd _));have kI:=Sm hd (·.setIfInBounds 0 (T_ ((slotAt w t (k+1):Nat):Int)));have k1:KeptBut I s.heap h1:=λb o ne x=>by rw[e1];exact(Qc _ _ (Qx ne)).trans x
 rw[←e1] at kH ⊢;refine a_ (Sl kH kI (by simp) (d_ ⟨_,rfl,d_ (q _ _ (by rw[n_ lt];rfl) ⟨_,QH _ kH (Sw (Sm kI _)),?_,?_⟩ λb o ne x=>(Qc _ _ (Qx ne)).trans (k1 b o ne x))⟩))
 ·exact((Tu ..).trans (Tu ..)).trans hc
 ·rw[Sm kI];simp[T_]
theorem Hh(hh:A.handled=none){I:l_}{t:QI}(T:TabOk t es)(led:t.led=!byTx w)(hI:SitAt s.heap I S (slotAt w t es.size) es.size es.size ep)(hS:SetIs s.heap S es ep t){Q:Option b_->c_->Prop}(q:∀h',KeptBut I s.heap h'->Q none { s with heap:=h' }):q_ (r_ prog w) A (Sz (.ref I)) Q E s:=by
 have hT:=hI.type;obtain⟨o,ho,hc,hd⟩:=hI;obtain⟨oS,kF,pf,kG⟩:=id hS;unfold Sz;refine a_ (SG (Qr (name:=TX "__next__") hT vf (Qy vf hT AX ?_ (Ek _))));refine a_ (m:=slotArgs "__next__" 0 ⟨[.ref I],[]⟩) (d_ ?_);refine a_ (wpAny_fieldsOf ho hd ?_);refine a_ (S2 kF kG T.fits ?_);rw[if_neg (by simp)];dsimp only;refine a_ (m:=We S _ _ _) ?_;simp only[R7];refine Cr T led hS (w_ _) ?_;rw[RI (by rw[wL];exact w_ _),Option.map_none];dsimp only;refine a_ (Sl ho hd (by simp) ?_);refine Qs (IT (A:=A.in1) (s:={ s with heap:=_ }) (Q:=Q) hh λh' keep=>q h' λb o ne x=>keep b o ((Qc _ _ (Qx ne)).trans x)) (λ_ _ x=>x.elim) λe s' h=>?_
 refine a_ (Qs (wpAny_of_in1 h) (λb fE hb=>?_) λ_ _ x=>x.elim);obtain⟨rfl,hq⟩:=hb;exact d_ hq
theorem M1(hh:A.handled=none){I:l_}(ne:S≠I){t:QI}(T:TabOk t es)(led:t.led=!byTx w):
  Walks prog w A I [I,S] [I] es.size (λk v=>(walkOf w S ep es)[k]?.map (·.2)=some v) (λk h=>SitAt h I S (slotAt w t k) k es.size ep/\SetIs h S es ep t) where
 sub:=λb hb=>by
  rw[t_.mp hb];exact k_
 frame:=λk h h' st keep=>by
  obtain⟨⟨o,a1,a2⟩,⟨o',b1,b2⟩⟩:=st;exact⟨⟨o,keep I (by simp) o a1,a2⟩,⟨o',keep S (by simp) o' b1,b2⟩⟩
 item:=λk s Q E hk st q=>J7 T led st.1 st.2 hk λv h' e si kb=>by
  refine q v h' s.toks e ⟨si,?_⟩ λb o nb x=>kb b o (λz=>nb (by rw[z];simp)) x
  obtain⟨o',b1,b2⟩:=st.2;exact⟨o',kb S o' ne b1,b2⟩
 done:=λs Q E st q=>Hh hh T led st.1 st.2 λh' kb=>q h' s.toks λb o nb x=>kb b o (λz=>nb (by rw[z];simp)) x
 self:=λk s Q E st q=>by
  have hT:=st.1.type;exact Vt hT A5 (Qy A5 hT Go (d_ ⟨_,rfl, "set_iterator", _,hT,vf.lookup,q⟩) (F0 _))
end
section
variable{prog:A_}{w:I_}{E:b_->c_->Prop}{s:c_}
theorem FO{xs:Array b_}{ag:Array b_}(h:ItemsOf (λk v=>xs[k]?=some v) ag xs.size):ag=xs:=by
 refine Array.ext h.1 λi h1 h2=>?_
 have:=h.2 i ag[i] (n_ h1)
 change xs[i]?=some ag[i] at this
 rw[n_ h2] at this;exact Eq.symm (Qb this)
theorem HA{Q:Bool->c_->Prop}(hT:s.TypeIs (.ref S) "set")(q:Q false s):q_ (r_ prog w) A (listLengthHint (.ref S)) Q E s:=by
 unfold listLengthHint;refine a_ (SX hT F.slot_set_len.lookup ?_);have sp:splitId "set.__len__"=some ("set", "__len__"):=by decide +kernel
 dsimp only;rw[sp];dsimp only;refine a_ (RX hT sub_set_self ?_);rw[if_neg (by decide)];exact a_ (Vi hT (d_ q))
theorem Jp(hh:A.handled=none){t:QI}(T:TabOk t es)(led:t.led=!byTx w)(hS:SetIs s.heap S es ep t){Q:List b_->c_->Prop}(q:∀h' tk,(∀b o,s.heap.get? b=some o->h'.get? b=some o)->s.heap.objs.size<=h'.objs.size->Q ((walkOf w S ep es).toList.map (·.2)) { s with heap:=h',toks:=tk }):q_ (r_ prog w) A (Wb (.ref S)) Q E s:=by
 have line:64<=x_:=by rw[Q7];decide
 have few:es.size<=18:=by have:=T.few;have:=T.sz;omega
 have mE:S < s.heap.objs.size:=by
  obtain⟨o,ho,_⟩:=hS;exact H_ ho
 unfold Wb;refine a_ (wpAny_runValue (Rb F.entry_proto_collect ?_));rw[RK F.plain_proto_collect _];refine a_ (m:=newList []) (Qh (d_ ⟨Rg Vu _,Rb F.entry_list_iadd ?_⟩));rw[RK Vu _];obtain⟨h1,e1⟩:∃h1,h1=s.heap.push { cls:=.type "list", data:=.seq ([]:List b_).toArray }:=⟨_,rfl⟩;have eU:h1.objs.size=s.heap.objs.size+1:=by rw[e1,RJ]
 have fx:∀b o,s.heap.get? b=some o->h1.get? b=some o:=λb o x=>by rw[e1];exact f_ _ x
 have mF:h1.get? s.heap.objs.size=some { cls:=.type "list", data:=.seq ([]:List b_).toArray }:=by rw[e1];exact z_ _ rfl
 rw[←e1]
 have kJ:SetIs h1 S es ep t:=by
  obtain⟨o,ho,r⟩:=hS;exact⟨o,fx _ _ ho,r⟩
 have fA:s.heap.objs.size≠S:=Te mE;show q_ _ A.in1 (listExtendWith (.ref s.heap.objs.size) (.ref S) (.ref s.heap.objs.size)) _ _ { s with heap:=h1 };unfold listExtendWith;refine a_ (Vi (s:={ s with heap:=h1 }) kJ.type ?_);rw[if_neg (by simp[Rr.List.listSameRef,fA])];refine a_ (Kw (s:={ s with heap:=h1 }) T kJ ?_);obtain⟨I,eI⟩:∃I,I=h1.objs.size:=⟨_,rfl⟩;obtain⟨h2,e2⟩:∃h2,h2=h1.push { cls:=.type "set_iterator", data:=.fields #[.int 0 0,.int 0 0,.ref S,.int es.size 0,.int ep 0] }:=⟨_,rfl⟩;have gQ:∀b o,h1.get? b=some o->h2.get? b=some o:=λb o x=>by rw[e2];exact f_ _ x
 have mG:SitAt h2 I S (slotAt w t 0) 0 es.size ep:=⟨_,by rw[e2,eI];exact z_ _ rfl,rfl,by unfold slotAt;split<;>rfl⟩
 have mH:SetIs h2 S es ep t:=by
  obtain⟨o,ho,r⟩:=kJ;exact⟨o,gQ _ _ ho,r⟩
 show q_ _ _ _ _ _ { s with heap:=h1.push _ };rw[←e2];rw[←eI];refine a_ (Qv (HA (s:={ s with heap:=h2 }) mH.type ?_));rw[if_pos (by decide +kernel)];refine a_ (Va (a_ (m:=Rr.List.listTouch (.ref s.heap.objs.size)) ?_));have jK:=gQ _ _ mF;refine a_ (m:=updateSeq s.heap.objs.size (·.push .none)) (R_ jK rfl ?_ (by simp) (by simp));have jL:=QH (Ue (·.push b_.none)) jK rfl;refine R_ jL rfl ?_ (by show(#[b_.none]:Array b_).size<=_;simp;omega) (by simp);have jM:=QH (Ue (·.pop)) jL rfl;obtain⟨h4,e4⟩:∃h4,h4=((h2.update s.heap.objs.size (Ue (·.push b_.none))).update s.heap.objs.size (Ue (·.pop))):=⟨_,rfl⟩;have fH:KeptBut s.heap.objs.size h2 h4:=λb o ne x=>by rw[e4];exact(Qc _ _ (Qx ne)).trans ((Qc _ _ (Qx ne)).trans x)
 rw[←e4] at jM;show q_ _ _ _ _ _ { s with heap:=L_.update (L_.update h2 _ _) _ _ };rw[←e4];have iL:s.heap.objs.size≠I:=by rw[eI,eU];exact Qg (S6 _)
 have mI:S≠I:=by rw[eI,eU];exact Qg (Sn mE)
 have W:=(M1 (prog:=prog) (w:=w) (A:=A.in1) (ep:=ep) (by exact hh) mI T led).toS;refine d_ ⟨Rg F.plain_extend_loop _,codeAny_extend_loopS W (by omega) s.heap.objs.size (by simp[iL,fA]) _ es.size 0 _ _ _ rfl (Qp _) ?_ jM (ItemsOf.nil _) λs' ag c mv here it=>?_⟩
 ·obtain⟨o,a1,a2⟩:=mG;obtain⟨o',b1,b2⟩:=mH;exact⟨⟨o,fH _ _ (Qx iL) a1,a2⟩,⟨o',fH _ _ (Qx fA) b1,b2⟩⟩
 ·obtain⟨h',g',d',iI,jT⟩:=s';have eg:g'=s.gens:=mv.gens;have ed:d'=s.drawn:=mv.drawn;have eo:jT=s.os:=mv.os;subst eg;subst ed;subst eo;refine a_ (wpAny_load here (d_ ?_));have size:es.size=((walkOf w S ep es).map (·.2)).size:=by rw[Array.size_map,wL]
  have all:ag=(walkOf w S ep es).map (·.2):=FO (by
   rw[←size];refine⟨it.1,λj v hj=>?_⟩;have:=it.2 j v hj;show((walkOf w S ep es).map (·.2))[j]?=some v;rw[Array.getElem?_map]
   exact this)
  have lt':s.heap.objs.size < h'.objs.size:=H_ here;have:=q h' iI (λb o x=>mv.heap b o (λhb=>?_) (fH b o (Qg (H_ x)) (gQ _ _ (fx _ _ x)))) (SM lt')
  ·rw[all];simpa using this
  ·have lb:=H_ x
   rcases E_.mp hb with z | z
   ·exact Qg lb z
   ·rw[t_.mp z,eI,eU] at lb;exact absurd lb (Nat.not_lt.mpr (VE _))
end
section
variable{prog:A_}{w:I_}{E:b_->c_->Prop}{s:c_}
noncomputable def fresh0(w:I_):Obj:={ cls:=.type "set", dict:=none,data:=.set #[] 0 (.fresh 0 0 (!byTx w)) }
theorem Kg(a:b_){Q:b_->c_->Prop}(q:Q (.ref s.heap.objs.size) { s with heap:=s.heap.push (fresh0 w) }):
  Sk (r_ prog w) A (.call (.builtin "set.__new__") ⟨[.type "set", a],[]⟩) (wants Q E) s:=by
 refine codeAny_of_tree (a_ (m:=checkBuiltinCall "set.__new__" ⟨[.type "set", a],[]⟩) (RD (PySem.F.newCall_set_1 a) (d_ ⟨Rg F.plain_set_new _,Rb F.entry_set_new ?_⟩)));rw[RK F.plain_set_new _];unfold Rr.«set.__new__» newClass;have gD:=sub_set_self;obtain⟨hp,g,d,tk,os⟩:=s;dsimp only
 wp_walk
 refine T5 (d_ (a_ (wpAny_alloc (d_ (d_ q)))))
theorem Fi(w:I_):TabOk (.fresh 0 0 (!byTx w)) #[]:=by
 refine⟨rfl,λi j hi=>?_,rfl,λi hi=>?_,⟨Qp _,.inr ⟨rfl,Qp _⟩⟩,rfl,λi hi=>?_⟩
 all_goals exact absurd hi (UG _)
variable{H:Hp}
theorem Hq(I0:Inv X aa U H s)(hh:A.handled=none){l:l_}{aj:List b_}(hl:s.heap.IsList l aj.toArray)(hJ:∀d x,Is X.K J d x->Is X.K H d x)(ha:IsA X.K J ds zs)(hv:Vals zs aj)(ok:SetOk ds)(hu:A.units+50 < Q8){Q:b_->c_->Prop}(q:∀S s' es,Ext s s'->s.heap.objs.size<=S->SetAt s'.heap S (!byTx w) es->EsOk X J es (dd ds)->Q (.ref S) s'):q_ (r_ prog w) A (call (.type "set") [.ref l]) Q E s:=by
 obtain⟨c,tl,qy⟩:=Sf.mro;have pg:=Sf.made;have gD:=Sf.sub;refine wpAny_call (codeAny_of_tree (d_ ⟨Code.quiet_builtin _ (by decide +kernel),Rb F.entry_type_call ?_⟩));rw[Q6.under_plain (weight_type_call_type "set" [.ref l] []) rfl];have h1:=Sf.notType;have h2:=Sf.canCreate;have qV:=PySem.F.typeCall_set_1 (.ref l)
 repeat any_goals first | assumption | wp_step
 refine RV (Kg (w:=w) (.ref l) (E:=E) (Q:=λobj aB=>obj=.ref s.heap.objs.size/\aB={ s with heap:=s.heap.push (fresh0 w) }) ⟨rfl,rfl⟩) λr aB hr=>?_
 rcases r with e | fl
 ·exact hr
 cases fl with
 | ret obj =>
  obtain⟨rfl,rfl⟩:=hr;have hS:(s.heap.push (fresh0 w)).get? s.heap.objs.size=some (fresh0 w):=z_ _ rfl;have hT:c_.TypeIs { s with heap:=s.heap.push (fresh0 w) } (.ref s.heap.objs.size) "set":=⟨_,hS,rfl⟩;have lZ:=Sf.init.lookup;have qW:=Sf.init.bind (.ref s.heap.objs.size)
  repeat any_goals first | assumption | wp_step
  refine RV (codeAny_call_builtin (R:=wants (λr bS=>r=.none/\∃es,Ext s bS/\SetAt bS.heap s.heap.objs.size (!byTx w) es/\EsOk X J es (dd ds)) E) Sf.init.plain F.entry_set_init (check_set_init_1 hT ?_)) λmJ bS eV=>?_
  ·obtain⟨ol,mK,fJ,nl,mL⟩:=hl;have mM:l < s.heap.objs.size:=H_ mK;obtain⟨qz,kK,ph,iM⟩:=ol;simp only at fJ mL;subst fJ;subst mL;have jN:(s.heap.push (fresh0 w)).get? l=some { cls:=.type "list", dict:=kK,data:=.seq aj.toArray nl,slots:=iM }:=f_ _ mK;have qA:=PySem.F.sub_list_set;have qB:=PySem.F.sub_list_frozenset;have dJ:(type "list" == type "dict")=false:=(by decide);have c9:(s.heap.push (fresh0 w)).IsList l aj.toArray:=⟨_,jN,rfl,nl,rfl⟩;obtain⟨h1,e1⟩:∃h1,h1=s.heap.push (fresh0 w):=⟨_,rfl⟩;have eU:h1.objs.size=s.heap.objs.size+1:=by rw[e1,RJ]
   have fx:∀b o,s.heap.get? b=some o->h1.get? b=some o:=λb o x=>by rw[e1];exact f_ _ x
   rw[←e1] at hS jN c9;show q_ _ _ _ _ _ { s with heap:=s.heap.push (fresh0 w) };rw[←e1];have pi:h1.get? s.heap.objs.size=some { cls:=.type "set", dict:=none,data:=.set #[] 0 (.fresh 0 0 (!byTx w)) }:=hS;unfold Rr.«set.__init__» noKeywords updateFrom;generalize hPI:U4=PI
   wp_walk
   subst hPI;refine Rt (s:={ s with heap:=h1 }) c9 (a_ (wpAny_runValue ?_));have iL:l≠h1.objs.size:=by rw[eU];exact Qg (Sn mM)
   refine F5 (s0:=s) (led:=!byTx w) I0 (w_ _) (by rw[eU];exact VE _) (Vb (by exact hh) h1.objs.size l iL aj.toArray) ?_ hJ ha ok (by rw[o_,←hv.length,←ha.length]) (λi v hi=>?_) (by show A.units+1+1+20 < _;omega) _ 0 _ rfl (Qp _) ?_ ?_ ?_ λs' es ex sa eo=>?_
   ·rw[eU];intro hm
    rcases E_.mp hm with z | z
    ·exact absurd z (Qg (S6 _))
    ·exact absurd (t_.mp z) (Te mM)
   ·have bC:aj[i]?=some v:=by simpa using hi
    have li:i < zs.length:=by
     rw[hv.length]
     rcases Tk i aj.length with z | z
     ·exact z
     ·rw[RW z] at bC;cases bC
    obtain⟨u,e3,e4⟩:=hv.get (g_ li);rw[bC] at e3;cases e3;exact⟨_,g_ li,e4⟩
   ·exact⟨_,s.toks,rfl,λb o x=>f_ _ (fx b o x)⟩
   ·exact⟨⟨_,z_ _ rfl,rfl,rfl⟩,c9.push _⟩
   ·refine⟨#[],⟨_,0,_,f_ _ pi,rfl,rfl,Fi w,rfl⟩,rfl,λe he=>?_,λd hd=>?_⟩
    ·simp at he
    ·cases hd
   ·exact d_ (d_ ⟨rfl,es,ex,sa,eo⟩)
  ·rcases mJ with e | kL
   ·exact eV
   ·cases kL with
    | ret r =>
     obtain⟨rfl,es,e1,e2,e3⟩:=eV
     repeat any_goals first | assumption | wp_step
     exact q _ _ es e1 (w_ _) e2 e3
    | _=>exact eV.elim
 | _=>exact hr.elim
end
theorem IsA.up{K:PySem.W.Frag}{J H:Hp}(h:∀d x,Is K J d x->Is K H d x):∀{ds:List D}{zs:List V},IsA K J ds zs->IsA K H ds zs
 | [],zs,a=>by rw[a.nil_inv];exact IsA.nil
 | d::ds,zs,a=>by
  obtain⟨x,r,rfl,h1,h2⟩:=a.cons_inv;exact IsA.cons (h _ _ h1) (IsA.up h h2)
section
variable{H:Hp}{s:c_}
theorem Ae{α:Type}:∀(l m:List α),l.Nodup->(∀x∈l,x∈m)->m.length<=l.length->l.Perm m
 | [],m,_,_,h=>by rw[Q1.mp (Nat.le_zero.mp h)]
 | x::l,m,nd,h,len=>by
  obtain⟨a,b,rfl⟩:=Vc (h x k_);rw[QQ] at nd
  have p:=Ae l (a++b) nd.2 (λy hy=>by
   have:=h y (i_ _ hy)
   rcases K_.mp this with z | z
   ·exact(Q_ _ z)
   ·rcases E_.mp z with z | z
    ·subst z;exact absurd hy nd.1
    ·exact M_ _ z) (by simp at len ⊢;omega)
  exact(p.cons x).trans List.perm_middle.symm
theorem Ds:∀(ds ag:List D),ag.Nodup->(ds.foldl dstep ag).Nodup
 | [],ag,h=>h
 | d::ds,ag,h=>by
  refine Ds ds _ ?_;unfold dstep;split
  ·exact h
  ·rename_i no;rw[S9];refine⟨h,by simp,λa ha b hb e=>?_⟩;rw[t_.mp hb] at e;subst e;exact no (QW.mpr ⟨a,ha,vQ a⟩)
theorem De(ds:List D):(dd ds).Nodup:=Ds ds [] SB
theorem KF{l m:List D}(p:l.Perm m)(cm:cmAll l=true):sortD l=sortD m:=by
 refine wE _ _ ((uC l).trans (p.trans (uC m).symm)) (tZ l) (tZ m) λa ha b hb h1 h2=>?_
 have c:=v_.mp (v_.mp cm a ((uC l).mem_iff.mp ha)) b ((uC l).mem_iff.mp hb);refine vC a b c ?_;rw[uT a b c];unfold leD at h1 h2;rw[h1,h2];rfl
theorem BF{n:Nat}:∀{xs:List D},(∀x∈xs,dep x<=n)->depA xs<=n
 | [],_=>by rw[depA];exact Qp _
 | x::xs,h=>by
  rw[depA];exact Nat.max_le.mpr ⟨h x k_,BF λy hy=>h y (i_ _ hy)⟩
theorem EV{J:Hp}{M:List D}:∀(L:List (Int×b_)),(∀e∈L,∃d∈M,Stn X J e d)->∃ds zs,IsA X.K J ds zs/\Vals zs (L.map (·.2))/\ds.length=L.length/\(∀d∈ds,d∈M)/\∀e∈L,∃d∈ds,Stn X J e d
 | [],_=>⟨[],[],IsA.nil,.nil,rfl,λd hd=>(by cases hd),λe he=>(by cases he)⟩
 | e::L,h=>by
  obtain⟨ds,zs,a1,a2,a3,a4,a5⟩:=EV L λe he=>h e (i_ _ he)
  obtain⟨d,m,q⟩:=h e k_;obtain⟨_,x,q1,q2⟩:=id q;refine⟨d::ds,x::zs,IsA.cons q1 a1,.cons q2 a2,by simp[a3],λd' cr=>?_,λe' dZ=>?_⟩
  ·rcases E_.mp cr with z | z
   ·rw[z];exact m
   ·exact a4 d' z
  ·rcases E_.mp dZ with z | z
   ·rw[z];exact⟨d,k_,q⟩
   ·obtain⟨d',m',q'⟩:=a5 e' z;exact⟨d',i_ _ m',q'⟩
theorem LZ(hu:X.A.units+100 < Q8)(hh:X.A.handled=none)(I:Inv X aa U H s){p:l_}(hJ:∀d x,Is X.K J d x->Is X.K H d x)(hq:SqL X.K H p zs)(ha:IsA X.K J ds zs)(ok:SetOk ds)(kd:ds.all fstI=true\/ds.all fstT=true){Q:VK}(k:∀l et,IsA X.K J (sortD (dd ds)) et->H l=none->Q (.ref l) (upd H l (.lst et))):
  q_ (r_ X.prog X.w) X.A (call (.type "set") [.ref p]) (λv s'=>q_ (r_ X.prog X.w) X.A (call (.builtin "sorted") [v]) (EP X aa U Q) X.xe s') X.xe s:=by
 obtain⟨ae,rv,t,hz⟩:=I.list hq;refine Hq I hh t.isList hJ ha rv ok (by omega) λS s' es ex le sa eo=>?_
 have I':=ex.inv I;obtain⟨cm,ky,ti,dp,few⟩:=ok;obtain⟨o,ep,tb,ho,hc,hd,T,led⟩:=sa
 obtain⟨dY,et,a1,a2,a3,a4,a5⟩:=EV (X:=X) (J:=J) (M:=dd ds) (walkOf X.w S ep es).toList λe he=>eo.2.1 e (by
  have:=(z5 X.w S ep es).mem_iff.mp he
  simpa using this)
 have tt:∀d∈dd ds,isT d=true:=λd hd=>v_.mp ti _ (vL hd)
 have pm:(dd ds).Perm dY:=by
  refine Ae _ _ (De ds) (λd hd=>?_) (by rw[a3,QC,wL,eo.1];exact w_ _);obtain⟨e,m,q⟩:=eo.2.2 d hd;obtain⟨d',m',q'⟩:=a5 e ((z5 X.w S ep es).mem_iff.mpr (by simpa using m));have:=Stn.det I' (tt d hd) (tt d' (a4 d' m')) (q.up hJ) (q'.up hJ);rw[this];exact m'
 have sub:∀d∈dY,d∈ds:=λd hd=>vL (a4 d hd)
 have iK:cmAll dY=true:=v_.mpr λa pj=>v_.mpr λb pk=>v_.mp (v_.mp cm a (sub a pj)) b (sub b pk)
 have po:IsA X.K H dY et:=IsA.up hJ a1;refine Dh hu I' po a2 ⟨by have:=pm.length_eq;omega,iK,y_ (BF λx hx=>tz (sub x hx)) (by omega),?_⟩ (λQ' q=>Jp (A:=X.A.in1) (by exact hh) T led ⟨o,ho,hc,hd⟩ q) λl q hp e hl=>k l _ ?_ hl
 ·rcases kd with z | z
  ·exact .inr (.inl (v_.mpr λx hx=>v_.mp z x (sub x hx)))
  ·exact .inr (.inr (v_.mpr λx hx=>v_.mp z x (sub x hx)))
 ·rw[←KF pm.symm iK,←e];exact a1.perm hp
end
section
variable{B:BB}{kr:Nat}
def rSS(X:Cx)(xs:List V)(H:Hp)(Q:VK):Prop:=∃(p:l_) (zs:List V) (ds:List D) (J:Hp),xs=[.ref p]/\SqL X.K H p zs/\IsA X.K J ds zs/\(∀d x,Is X.K J d x->Is X.K H d x)/\SetOk ds/\(ds.all fstI=true\/ds.all fstT=true) ∧
 ∀l et,IsA X.K J (sortD (dd ds)) et->H l=none->Q (.ref l) (upd H l (.lst et))
theorem MS{p:Pos}{t:TA}(hr:Room kr X.A)(hg:Gl X "sorted")(hm:X.mg "sorted"=none)(kN:Gl X "set")(fL:X.mg "set"=none)(ha:PA X [e] t)(he:e_ [e] X.env=(false,Qf e X.env)::e_ [] X.env:=by rfl)(dZ:e_ [.Call (.Name "set" p') [e] [] aH] X.env=(false,Qf (.Call (.Name "set" p') [e] [] aH) X.env)::e_ [] X.env:=by rfl)(aF:∀pos,(Qk pos (e_ [] X.env)).any (·.1)=false:=by intros;rfl):
  PE X (.Call (.Name "sorted" p) [.Call (.Name "set" p') [e] [] aH] [] pos) (tCB (rSS X) t):=by
 intro aa s U H Q I h;refine RG (tf I hg hm boot_sorted (SA ?_ dZ (aF _)) (by decide) (by decide));rw[dZ];refine Tg (RG (tf I kN fL boot_set (O_ ?_ he (aF _)) (by decide) (by decide)));refine thn (ha aH aa s U H _ I h) λus s1 ⟨vs,H1,I1,r1,p,zs,ds,J,e1,q1,q2,q3,q4,q5,q6⟩=>?_
 subst e1;obtain⟨u,rfl,ru⟩:=vals1 r1;cases ru;exact thn (LZ (hu100 hr) hr.hd I1 q3 q1 q2 q4 q5 q6) λv s2 q=>Tt q
noncomputable def setF(ds:List D):Option (List D):=match ds with
 | [.lst xs]=>if(cmAll xs=true/\xs.all kyB=true/\xs.all isT=true/\depA xs<=8/\(dd xs).length<=18)/\(xs.all fstI=true\/xs.all fstT=true) then some (sortD (dd xs)) else none
 | _=>none
theorem FG{p:Pos}{t:M (List D)}(hr:Room kr X.A)(hg:Gl X "sorted")(hm:X.mg "sorted"=none)(kN:Gl X "set")(fL:X.mg "set"=none)(ha:AD X B [e] t)(he:e_ [e] X.env=(false,Qf e X.env)::e_ [] X.env:=by rfl)(dZ:e_ [.Call (.Name "set" p') [e] [] aH] X.env=(false,Qf (.Call (.Name "set" p') [e] [] aH) X.env)::e_ [] X.env:=by rfl)(aF:∀pos,(Qk pos (e_ [] X.env)).any (·.1)=false:=by intros;rfl):
  EO X B (.Call (.Name "sorted" p) [.Call (.Name "set" p') [e] [] aH] [] pos) (fn1 setF t):=PE.imp (MS hr hg hm kN fL ha he dZ aF) (xW λds d e B G I H U Y xs Q r h k=>by
 unfold setF at e;split at e
 ·obtain⟨ok,rfl⟩:=sv e;obtain⟨x,rfl,hx⟩:=h.one;obtain⟨q,zs,rfl,h3,h4⟩:=sd hx;exact⟨q,zs,_,I,rfl,(Same.rdK r.iH h3).sq,h4,λd x hx=>hx.mono r.iH,ok.1,ok.2,λl et hz hl=>k.new r hl hz⟩
 ·cases e)
end
end DL
namespace DL
open PySem PySem.W PySem.Spec PyProof.Rows L2
section
variable{B:BB}{a:Qe}{ga:M D}{kr:Nat}
noncomputable def inN(neg:Bool)(i:Nat)(g:M D):M D:=bnd g λd=>bnd (look i) λl=>lft (inF neg d l)
theorem K9{K:PySem.W.Frag}:∀U H Q,tD K B (inN neg i ga) U H Q->tOp (rInD K neg) (tD K B ga) (tVar i) U H Q:=λU H Q q=>by
 obtain⟨G,I,Y,d,af,r,e1,k⟩:=q;obtain⟨n,ac,e2,e3⟩:=rG e1;obtain⟨l,ai,e4,e5⟩:=rG e3;obtain⟨e6,rfl⟩:=rW e5;refine⟨G,I,Y,n,ac,r,e2,λv H1 I1 r1 g1 hn=>?_⟩;obtain⟨rfl,p,xs,ds,rfl,f1,f2,f3⟩:=vD e4 r1;obtain⟨hd,rfl⟩:=sv e6;exact⟨.ref p,f1,n,ds,hn.mono r1.iH,.inl (Is.lst (RdK.of f2) (f3.mono r1.iH)),hd,(k.after g1).now r1 (Is.bl _)⟩
theorem G5(hr:Room kr X.A)(ha:ED X B a ga)(hv:PE X (.Name x p1) (tVar i)):TD X B (.Compare a [.NotIn] [.Name x p1] pos) (tst (inN true i ga)):=PT.imp (y8 (AQ (hu100 hr)) ha hv rfl) (vA K9)
end
section
variable{B:BB}{c:Qe}{body:List Qo}{gb:M Fl}
noncomputable def whlS:Nat->M Bool->M Fl->M Fl
 | 0,_,_=>λ_=>none
 | n+1,c,b=>bnd c λk=>if k=true then bnd b λf=>match f with
   | .nx=>whlS n c b
   | .ct=>whlS n c b
   | .bk=>ret .nx
   | .rt r=>ret (.rt r)
  else ret .nx
theorem F8(hp:TQ (r_ X.prog X.w) X.A X.env X.xe)(hc:TD X B c gc)(hb:SDs X B body gb):SD X B (.While c body [] pos) (whlS n gc gb):=PS.imp (Hk hp hc hb) λE U H q=>by
 obtain⟨G,I,Y,f,af,r,e1,k⟩:=q;refine⟨λm U H=>∃I2 ai,Rep X.K B G I2 H U ai/\Grow G I I2/\whlS m gc gb ai=some (f,af),⟨n,I,Y,r,Grow.refl _ _,e1⟩,?_⟩;rintro m aX H2 ⟨I2,ai,r2,g2,e2⟩;cases m with
 | zero=>cases e2
 | succ m =>
  obtain⟨b,aO,e3,e4⟩:=rG e2;refine⟨G,I2,ai,b,aO,r2,e3,λH3 I3 r3 g3=>?_⟩;cases b with
  | true =>
   rw[if_pos rfl] at e4 ⊢;obtain⟨fl,aQ,e5,e6⟩:=rG e4;refine⟨λao H'=>∃I4,Rep X.K B G I4 H' ao aQ/\Grow G I I4/\(fl=.nx\/fl=.ct),λao H' ⟨I4,r4,g4,hf⟩=>⟨m,S6 m,I4,aQ,r4,g4,?_⟩,G,I3,aO,fl,aQ,r3,e5,λdk H5 I5 r5 g5=>?_⟩
   ·rcases hf with rfl | rfl<;>exact e6
   ·have gg:Grow G I I5:=g2.trans (g3.trans g5);cases fl with
    | nx=>exact⟨I5,r5,gg,.inl rfl⟩
    | ct=>exact⟨I5,r5,gg,.inr rfl⟩
    | bk=>cases e6;exact k dk H5 I5 r5 gg
    | rt v=>cases e6;exact k dk H5 I5 r5 gg
  | false =>
   rw[if_neg j_] at e4 ⊢;cases e4;exact k aX H3 I3 r3 (g2.trans g3)
end
section
variable{B:BB}{g:M (List D)}
noncomputable def setY(i:Nat)(g:M (List D)):M Fl:=bnd g λd=>bnd (putS i (.fro d)) λ_=>ret .nx
theorem E4{K:PySem.W.Frag}:∀E U H,tS K B (setY i g) E U H->tAsg (tO K B g) (gName i) E U H:=λE U H q=>by
 obtain⟨G,I,Y,f,af,r,e1,k⟩:=q;obtain⟨d1,ac,e2,e3⟩:=rG e1;obtain⟨d2,ai,e4,e5⟩:=rG e3;cases e5;obtain⟨hl,rfl⟩:=uJ e4;exact⟨G,I,Y,d1,ac,r,e2,λp xs H1 I1 r1 g1 h1 h2 h3 h4 h5=>k _ H1 _ ((r1.freeze h1 h2 h4).store (by rw[r1.len];exact hl) ⟨p,xs,rfl,r9,h3,h5.mono (sy h2 _)⟩ (λm=>nomatch m) (λ_ z=>nomatch z)) (g1.trans (growFreeze h2 h3))⟩
theorem Iy(hN:X.N.Nodup)(he:EO X B e g)(hi:X.N[i]?=some x:=by rfl)(hx:locB X.env.scope x=true:=by rfl)(hs:QZ e (some (.Name x aH)) pos.line X.env=pure false:=by rfl)(hf:fnB X x=true:=by rfl):SD X B (.Assign [.Name x aH] e pos) (setY i g):=PS.imp (v5 hN hi (locI hx) he hs (fnI hf)) E4
noncomputable def froS(j:Nat):M (List D):=λY=>match Y[j]? with
 | some (some (.fro ds))=>some (ds,Y)
 | _=>none
theorem ES(h:froS j Y=some (ds,af)):af=Y/\Y[j]?=some (some (.fro ds)):=by
 unfold froS at h;split at h
 ·rename_i e;cases h;exact⟨rfl,e⟩
 ·cases h
noncomputable def cpS(i j:Nat):M Fl:=bnd (froS j) λd=>bnd (putS i (.fro d)) λ_=>ret .nx
theorem Bk{p:Pos}(hN:X.N.Nodup)(he:PE X (.Name y p) (tVar j))(hi:X.N[i]?=some x:=by rfl)(hx:locB X.env.scope x=true:=by rfl)(hs:QZ (.Name y p) (some (.Name x aH)) pos.line X.env=pure false:=by rfl)(hf:fnB X x=true:=by rfl):SD X B (.Assign [.Name x aH] (.Name y p) pos) (cpS i j):=PS.imp (v5 hN hi (locI hx) he hs (fnI hf)) λE U H q=>by
 obtain⟨G,I,Y,f,af,r,e1,k⟩:=q;obtain⟨d1,ac,e2,e3⟩:=rG e1;obtain⟨d2,ai,e4,e5⟩:=rG e3;cases e5;obtain⟨hl,rfl⟩:=uJ e4;obtain⟨rfl,aW⟩:=ES e2;obtain⟨v,h1,h2⟩:=r.slot j _ aW;exact⟨v,h1,k _ H I (r.store (by rw[r.len];exact hl) h2 (λm=>nomatch m) (λ_ z=>nomatch z)) (Grow.refl _ _)⟩
noncomputable def retY(j:Nat):M Fl:=bnd (froS j) λd=>ret (.rt (.fro d))
theorem Lu{p:Pos}(he:PE X (.Name y p) (tVar j)):SD X B (.Return (some (.Name y p)) pos) (retY j):=PS.imp (xI he) λE U H q=>by
 obtain⟨G,I,Y,f,af,r,e1,k⟩:=q;obtain⟨d1,ac,e2,e3⟩:=rG e1;cases e3;obtain⟨rfl,aW⟩:=ES e2;obtain⟨v,h1,h2⟩:=r.slot j _ aW;exact⟨v,h1,k U H I r (Grow.refl _ _) v h2⟩
end
section
variable{B:BB}{bh:Qe}{N':List Str}
theorem Fh(S:CompScope X.env.scope scope X.N N' m)(hc:X.calm=true)(hN:X.N.Nodup)(hi:ITD X B tg iter it)(hg:∀C s H ex,GD (cxC X scope N' C s H ex) (bUp m B) m tg aG)(ht:∀C s H ex,TDs (cxC X scope N' C s H ex) (bUp m B) aY ts)(he:∀C s H ex,ED (cxC X scope N' C s H ex) (bUp m B) bh el)(bC:X.N[i]?=some y:=by rfl)(hy:X.env.scope.names.lookup y=some .local:=by rfl)(gA:QZ (.ListComp bh [⟨tg,iter,aY,0⟩] scope pos) (some (.Name y py)) cG.line X.env=pure true:=by rfl)(hs:∀x,QP iter X.env x=pure x:=by intros;rfl):SD X B (.Assign [.Name y py] (.ListComp bh [⟨tg,iter,aY,0⟩] scope pos) cG) (setY i (compO m it aG ts el)):=PS.imp (DP (g:=tGD X.K (bUp m B) m aG) (tt:=tTD X.K (bUp m B) ts) (te:=tD X.K (bUp m B) el) S hc hN bC hy hi hg ht he gA hs) λE U H q=>by
 have z:=E4 E U H q;exact zc U H _ z
end
end DL
namespace DL
open PySem
end DL
namespace DL
open PySem PySem.W PySem.Spec PyProof.Rows L2
section
variable{B:BB}{c:Qe}{st:Qo}{ss sa sb body:List Qo}{g h:M Fl}{tc:M Bool}{ga:M D}
@[irreducible] def SI(X:Cx)(B:BB)(st:Qo)(g:M Fl):Prop:=SD X B st g
@[irreducible] def SIs(X:Cx)(B:BB)(ss:List Qo)(g:M Fl):Prop:=SDs X B ss g
theorem rE(k:SD X B st g):SI X B st g:=by unfold SI;exact k
theorem rQ(k:SIs X B ss g):SDs X B ss g:=by unfold SIs at k;exact k
theorem rS:SIs X B [] (ret .nx):=by unfold SIs;exact Hj
theorem rF(k:SI X B st g):SIs X B [st] g:=by unfold SI at k;unfold SIs;exact JQ k
theorem qL(k:SI X B st g)(t:SIs X B ss h):SIs X B (st::ss) (seqS g h):=by unfold SI at k;unfold SIs at t ⊢;exact Fw k t
theorem rR(hc:TD X B c tc)(ha:SIs X B sa g)(hb:SIs X B sb h):SI X B (.If c sa sb pos) (ifS tc g h):=by unfold SIs at ha hb;unfold SI;exact JM hc ha hb
theorem se(hp:TQ (r_ X.prog X.w) X.A X.env X.xe)(hc:X.calm=true)(hi:ITD X B tg iter it)(hg:GD X B m tg aG)(hb:SIs X B body g)(hs:∀x,QP iter X.env x=pure x:=by intros;rfl):SI X B (.For tg iter body [] pos) (forS it aG g):=by unfold SIs at hb;unfold SI;exact Ku hp hc hi hg hb hs
theorem Gj(hp:TQ (r_ X.prog X.w) X.A X.env X.xe)(hc:TD X B c gc)(hb:SIs X B body g):SI X B (.While c body [] pos) (whlS n gc g):=by unfold SIs at hb;unfold SI;exact F8 hp hc hb
theorem rL(hN:X.N.Nodup)(he:ED X B e ga)(hi:X.N[i]?=some x:=by rfl)(hx:locB X.env.scope x=true:=by rfl)(hs:QZ e (some (.Name x aH)) pos.line X.env=pure false:=by rfl)(hf:fnB X x=true:=by rfl):SI X B (.Assign [.Name x aH] e pos) (setV i ga):=by unfold SI;exact KB hN he hi hx hs hf
end
noncomputable def keyP(k:Int×Int):List Key:=[.inl k.1,.inl k.2]
theorem Ai{a b:Int×Int}(h:keyP a=keyP b):a=b:=by
 cases a;cases b;cases h;rfl
noncomputable def putD(kvs:List ((Int×Int)×D))(k:Int×Int)(d:D):List ((Int×Int)×D):=if(kvs.any λkv=>decide (kv.1=k))=true then kvs.map (λkv=>if kv.1=k then(kv.1,d) else kv) else kvs++[(k,d)]
section
variable{K:PySem.W.Frag}
theorem IsK.nil:IsK K I [] []:=⟨rfl,IsA.nil⟩
theorem IsK.cons{p:(Int×Int)×D}{v:V}{kvs:List ((Int×Int)×D)}{xs:List (List Key×V)}(h:Is K I p.2 v)(t:IsK K I kvs xs):IsK K I (p::kvs) ((keyP p.1,v)::xs):=by
 obtain⟨t1,t2⟩:=t;exact⟨by rw[D_,D_,t1];rfl,IsA.cons h t2⟩
theorem IsK.cons_inv{p:(Int×Int)×D}{kvs:List ((Int×Int)×D)}{xs:List (List Key×V)}(h:IsK K I (p::kvs) xs):∃v r,xs=(keyP p.1,v)::r/\Is K I p.2 v/\IsK K I kvs r:=by
 obtain⟨h1,h2⟩:=h;cases xs with
 | nil=>simp at h1
 | cons x r =>
  obtain⟨a,v⟩:=x;simp only[D_,List.cons.injEq] at h1;obtain⟨rfl,h1⟩:=h1;rw[D_,D_] at h2;obtain⟨y,r',e,g1,g2⟩:=h2.cons_inv;cases e;exact⟨v,r,rfl,g1,h1,g2⟩
theorem IsK.nil_inv{xs:List (List Key×V)}(h:IsK K I [] xs):xs=[]:=by
 have:=h.1;simpa using this
theorem IsK.len{kvs:List ((Int×Int)×D)}{xs:List (List Key×V)}(h:IsK K I kvs xs):xs.length=kvs.length:=by
 have:=congrArg length h.1;simpa using this
theorem IsK.any{k:Int×Int}:∀{kvs:List ((Int×Int)×D)}{xs:List (List Key×V)},IsK K I kvs xs->(xs.any λkv=>decide (kv.1=keyP k))=kvs.any λkv=>decide (kv.1=k)
 | [],xs,h=>by rw[h.nil_inv];rfl
 | p::kvs,xs,h=>by
  obtain⟨v,r,rfl,h1,h2⟩:=h.cons_inv;rw[R6,R6,IsK.any h2]
  congr 1
  by_cases e:p.1=k
  ·rw[decide_eq_true e,decide_eq_true (by rw[e])]
  ·rw[decide_eq_false e,decide_eq_false λz=>e (Ai z)]
theorem IsK.repl{k:Int×Int}{d:D}{v:V}(hd:Is K I d v):∀{kvs:List ((Int×Int)×D)}{xs:List (List Key×V)},IsK K I kvs xs->IsK K I (kvs.map λkv=>if kv.1=k then(kv.1,d) else kv) (xs.map λkv=>if kv.1=keyP k then(kv.1,v) else kv)
 | [],xs,h=>by rw[h.nil_inv];exact IsK.nil
 | p::kvs,xs,h=>by
  obtain⟨w,r,rfl,h1,h2⟩:=h.cons_inv;rw[D_,D_];by_cases e:p.1=k
  ·rw[if_pos e,if_pos (by rw[e])];exact IsK.cons hd (IsK.repl hd h2)
  ·rw[if_neg e,if_neg λz=>e (Ai z)];exact IsK.cons h1 (IsK.repl hd h2)
theorem IsK.put{k:Int×Int}{v:V}{kvs:List ((Int×Int)×D)}{xs:List (List Key×V)}(h:IsK K I kvs xs)(hd:Is K I d v):IsK K I (putD kvs k d) (putK xs (keyP k) v):=by
 unfold putD putK;rw[h.any];split
 ·exact h.repl hd
 ·refine⟨by simp[h.1,keyP],?_⟩;rw[Rw,Rw];exact IsA.append h.2 (IsA.cons hd IsA.nil)
end
section
variable{K:PySem.W.Frag}{B:BB}{H:Hp}
theorem Rep.writeK(r:Rep K B G I H U Y){kvs gR:List ((Int×Int)×D)}{p:l_}{ys:List (List Key×V)}(hq:Y[i]?=some (some (.dic kvs)))(hs:U[i]?=some (some (.ref p)))(hd:IsK K I gR ys):
  Rep K B G I (upd H p (.dT ys)) U (Y.set i (some (.dic gR))):=by
 obtain⟨v,e1,e2⟩:=r.slot i _ hq;obtain⟨p',bb,h1,h2,h3,h4,_⟩:=e2;have hp:p'=p:=by rw[hs] at e1;subst h1;cases e1;rfl
 subst hp;have b9:∀(j:Nat) (r':R),j≠i->Y[j]?=some (some r')->r'.ptr=true->U[j]?≠some (some (.ref p')):=λj r' n z m s=>n (r.dist j i r' _ _ z hq m rfl s hs)
 have sI:Same I (upd H p' (.dT ys)):=λb u z=>by
  have ne:b≠p':=λe=>by subst e;rw[h3] at z;cases z
  rw[rJ ne];exact r.iH b u z
 have sG:Same G (upd H p' (.dT ys)):=λb u z=>by
  have ne:b≠p':=λe=>by subst e;rw[h4] at z;cases z
  rw[rJ ne];exact r.gH b u z
 have r1:Rep K B G I (upd H p' (.dT ys)) U (Y.set i none):={
  iH:=sI,gH:=sG,len:=by rw[Sa];exact r.len
  slot:=λj q1 e=>by
   rcases sk e with⟨_,z,_⟩ | ⟨n,z⟩
   ·cases z
   obtain⟨w,e3,e4⟩:=r.slot j q1 z;refine⟨w,e3,?_⟩
   have mt:q1.ptr=true->∀ds,Mt K G I H ds w->Mt K G I (upd H p' (.dT ys)) ds w:=λm ds hh=>by
    obtain⟨p2,dj,g1,g2,g3,g4,g5⟩:=hh;refine⟨p2,dj,g1,?_,g3,g4,g5⟩;have ne:p2≠p':=λz2=>b9 j q1 n z m (by rw[e3,g1,z2])
    rw[rJ ne];exact g2
   cases q1 with
   | val d=>exact e4
   | dic ds =>
    obtain⟨p2,dj,g1,g2,g3,g4,g5⟩:=e4;refine⟨p2,dj,g1,?_,g3,g4,g5⟩;have ne:p2≠p':=λz2=>b9 j _ n z rfl (by rw[e3,g1,z2])
    rw[rJ ne];exact g2
   | own ds=>exact mt rfl ds e4
   | bor ds=>exact mt rfl ds e4
   | fro ds=>exact e4
   | rdc ds=>exact e4
  dist:=(r.forget i).dist
  bor:=(r.forget i).bor }
 have r2:=r1.learn (i:=i) (q:=.dic gR) (v:=.ref p') hs ⟨p',ys,rfl,r9,h3,h4,hd⟩ (λm p2 e j r' n z m' s=>by
  cases e
  rcases sk z with⟨_,z',_⟩ | ⟨_,z'⟩
  ·cases z'
  ·exact b9 j r' n z' m' s) (λds z=>nomatch z)
 rw[VG] at r2;exact r2
end
section
variable (K:PySem.W.Frag)(B:BB)
def KK(G I:Hp)(U:L2.St)(af:Gm)(kvs:List ((Int×Int)×D))(Q:VK):Prop:=∀p xs H' I',Rep K B G I' H' U af->Grow G I I'->H' p=some (.dT xs)->I' p=none->G p=none->Apart U af p->IsK K I' kvs xs->Q (.ref p) H'
noncomputable def tK(g:M (List ((Int×Int)×D))):TE:=λU H Q=>∃G I Y kvs af,Rep K B G I H U Y/\g Y=some (kvs,af)/\KK K B G I U af kvs Q
end
def EK(X:Cx)(B:BB)(e:Qe)(g:M (List ((Int×Int)×D))):Prop:=PE X e (tK X.K B g)
section
variable{B:BB}{k v:Qe}{es:List Qe}{p:Pos}{g:M (List ((Int×Int)×D))}
noncomputable def setK(i:Nat)(g:M (List ((Int×Int)×D))):M Fl:=bnd g λd=>bnd (putS i (.dic d)) λ_=>ret .nx
theorem Kr{K:PySem.W.Frag}:∀E U H,tS K B (setK i g) E U H->tAsg (tK K B g) (gName i) E U H:=λE U H q=>by
 obtain⟨G,I,Y,f,af,r,e1,k⟩:=q;obtain⟨d1,ac,e2,e3⟩:=rG e1;obtain⟨d2,ai,e4,e5⟩:=rG e3;cases e5;obtain⟨hl,rfl⟩:=uJ e4;exact⟨G,I,Y,d1,ac,r,e2,λp xs H1 I1 r1 g1 h1 h2 h3 h4 h5=>k _ H1 _ (r1.store (by rw[r1.len];exact hl) ⟨p,xs,rfl,h1,h2,h3,h5⟩ (λ_ p' z=>by cases z;exact h4) (λ_ z=>nomatch z)) g1⟩
theorem Bm(hN:X.N.Nodup)(he:EK X B e g)(hi:X.N[i]?=some x:=by rfl)(hx:locB X.env.scope x=true:=by rfl)(hs:QZ e (some (.Name x aH)) pos.line X.env=pure false:=by rfl)(hf:fnB X x=true:=by rfl):SD X B (.Assign [.Name x aH] e pos) (setK i g):=PS.imp (v5 hN hi (locI hx) he hs (fnI hf)) Kr
noncomputable def tookK(i:Nat):M (List ((Int×Int)×D)):=λY=>match Y[i]? with
 | some (some (.dic kvs))=>some (kvs,Y.set i none)
 | _=>none
theorem Fy{kvs:List ((Int×Int)×D)}(h:tookK i Y=some (kvs,af)):af=Y.set i none/\Y[i]?=some (some (.dic kvs)):=by
 unfold tookK at h;split at h
 ·rename_i e;cases h;exact⟨rfl,e⟩
 ·cases h
noncomputable def retK(i:Nat):M Fl:=bnd (tookK i) λd=>ret (.rt (.dic d))
theorem Mh(he:PE X (.Name y p) (tVar i)):SD X B (.Return (some (.Name y p)) pos) (retK i):=PS.imp (xI he) λE U H q=>by
 obtain⟨G,I,Y,f,af,r,e1,k⟩:=q;obtain⟨d1,ac,e2,e3⟩:=rG e1;cases e3;obtain⟨rfl,aW⟩:=Fy e2;obtain⟨v,h1,h2⟩:=r.slot i _ aW;obtain⟨p',bb,g1,g2,g3,g4,g5⟩:=h2;refine⟨v,h1,k U H I (r.forget i) (Grow.refl _ _) v ⟨p',bb,g1,g2,g3,g4,λj q z m s=>?_,g5⟩⟩
 rcases sk z with⟨_,z',_⟩ | ⟨n,z'⟩
 ·cases z'
 ·exact n (r.dist j i q _ _ z' aW m rfl s (by rw[h1,g1]))
noncomputable def lookK(i:Nat):M (List ((Int×Int)×D)):=λY=>match Y[i]? with
 | some (some (.dic kvs))=>some (kvs,Y)
 | _=>none
theorem AC{K:PySem.W.Frag}{H:Hp}{kvs:List ((Int×Int)×D)}(h:lookK i Y=some (kvs,af))(r:Rep K B G I H U Y):af=Y/\Y[i]?=some (some (.dic kvs))/\∃p xs,U[i]?=some (some (.ref p))/\H p=some (.dT xs)/\IsK K I kvs xs:=by
 unfold lookK at h;split at h
 ·rename_i e;cases h;obtain⟨v,h1,p,xs,rfl,g1,_,_,g4⟩:=r.slot i _ e;exact⟨rfl,e,p,xs,h1,g1,g4⟩
 ·cases h
end
section
variable{B:BB}{k v b:Qe}{p:Pos}{gb:M D}{kr:Nat}
noncomputable def dlit0:M (List ((Int×Int)×D)):=ret []
theorem Kz:EK X B (.Dict [] [] pos) dlit0:=PE.imp LR λU H Q q p hp=>by
 obtain⟨G,I,Y,kvs,af,r,e1,kk⟩:=q;cases e1;exact kk p [] _ I (r.fresh hp _) (Grow.refl _ _) r9 (r.iFree hp) (r.gFree hp) (r.apart hp) IsK.nil
noncomputable def putPF(n d:D)(kvs:List ((Int×Int)×D)):Option (List ((Int×Int)×D)):=match n with
 | .tup [.int a,.int b]=>if kvs.length < lim then some (putD kvs (a,b) d) else none
 | _=>none
noncomputable def wrK(i:Nat)(F:List ((Int×Int)×D)->Option (List ((Int×Int)×D))):M Fl:=λY=>match Y[i]? with
 | some (some (.dic kvs))=>match F kvs with
  | some es=>some (.nx,Y.set i (some (.dic es)))
  | none=>none
 | _=>none
theorem ME{F:List ((Int×Int)×D)->Option (List ((Int×Int)×D))}{f:Fl}(h:wrK i F Y=some (f,af)):f=.nx/\∃kvs es,Y[i]?=some (some (.dic kvs))/\F kvs=some es/\af=Y.set i (some (.dic es)):=by
 unfold wrK at h;split at h
 ·rename_i kvs e;split at h
  ·rename_i es e2;cases h;exact⟨rfl,kvs,es,e,e2,rfl⟩
  ·cases h
 ·cases h
noncomputable def putP(i:Nat)(gk gv:M D):M Fl:=bnd gv λd=>bnd (lookK i) λ_=>bnd gk λn=>wrK i (putPF n d)
theorem BO(hr:Room kr X.A)(hv:PE X (.Name x p1) (tVar i))(hk:ED X B k gk)(he:ED X B e gv)(hs:QZ e (some (.Subscript (.Name x p1) k aH)) pos.line X.env=pure false:=by rfl):
  SD X B (.Assign [.Subscript (.Name x p1) k aH] e pos) (putP i gk gv):=PS.imp (Kp (Bd hr) hv hk he hs) λE U H q=>by
 obtain⟨G,I,Y,fl,af,r,e1,kk⟩:=q;obtain⟨d,ac,e2,e3⟩:=rG e1;obtain⟨mN,ai,e4,e5⟩:=rG e3;obtain⟨n,aO,e6,e7⟩:=rG e5;obtain⟨rfl,kvs,es,w1,w2,rfl⟩:=ME e7;refine⟨G,I,Y,d,ac,r,e2,λv H1 I1 r1 g1 hd=>?_⟩;obtain⟨rfl,_,a,xs,f1,f2,_⟩:=AC e4 r1;refine⟨_,f1,G,I1,ai,n,aO,r1,e6,λy H2 I2 r2 g2 hn=>?_⟩;obtain⟨u,h1,a',bb,rfl,f5,f6,f7,f8⟩:=r2.slot i _ w1;have hp:a'=a:=by rw[f1] at h1;cases h1;rfl
 subst hp;unfold putPF at w2;split at w2
 ·rename_i m1 m2;obtain⟨c2,rfl⟩:=sv w2;obtain⟨b,ys,rfl,t1,t2⟩:=uO hn;obtain⟨y1,y2,rfl,t3,t4⟩:=t2.two;rw[rM t3,rM t4] at t1;have ln:bb.length < x_:=by rw[f8.len];exact J_ c2 (t9 (w_ _))
  refine⟨a',_,rfl,DPut.t (k:=keyP (m1,m2)) f5 (r2.iH _ _ t1) ln,?_⟩;exact kk U _ I2 (r2.writeK w1 h1 (f8.put (hd.mono g2.up))) (g1.trans g2)
 ·cases w2
end
end DL
namespace DL
open PySem PySem.W PySem.Spec PyProof.Rows L2
open PySem.SeqAt
open PySem.AutoSeq1 (wpAny_loadPart')
open PySem.MeetsSeq PySem.MeetsSeq2 PySem.MeetsSeq3
end DL
namespace DL
open PySem PySem.W PySem.Spec PyProof.Rows L2
noncomputable def altM{α:Type}(a b:M α):M α:=λY=>match a Y with
 | some r=>some r
 | none=>b Y
theorem Bx{α:Type}{a b:M α}{x:α}(h:altM a b Y=some (x,af)):a Y=some (x,af)\/b Y=some (x,af):=by
 unfold altM at h;split at h
 ·rename_i e;cases h;exact .inl e
 ·exact .inr h
section
variable{B:BB}{st:Qo}
theorem vt{a b:M D}(h1:ED X B e a)(h2:ED X B e b):ED X B e (altM a b):=λaa s U H Q I q=>by
 obtain⟨G,I',Y,d,af,r,e1,k⟩:=q
 rcases Bx e1 with e1 | e1
 ·exact h1 aa s U H Q I ⟨G,I',Y,d,af,r,e1,k⟩
 ·exact h2 aa s U H Q I ⟨G,I',Y,d,af,r,e1,k⟩
theorem MY{a b:M Fl}(h1:SD X B st a)(h2:SD X B st b):SD X B st (altM a b):=λaa s U H E I q=>by
 obtain⟨G,I',Y,d,af,r,e1,k⟩:=q
 rcases Bx e1 with e1 | e1
 ·exact h1 aa s U H E I ⟨G,I',Y,d,af,r,e1,k⟩
 ·exact h2 aa s U H E I ⟨G,I',Y,d,af,r,e1,k⟩
end
end DL
namespace DL
open PySem PySem.W PySem.Spec PyProof.Rows L2
open PySem.SeqAt
open PySem.AutoSeq1 (wpAny_loadPart')
open PySem.MeetsSeq PySem.MeetsSeq2 PySem.MeetsSeq3
noncomputable def isStar:Qe->Bool
 | .Starred ..=>true
 | _=>false
theorem M8(h:isStar e=false):e_ (e::aE) env=(false,Qf e env)::e_ aE env:=by
 cases e<;>first | rfl | (simp[isStar] at h)
theorem f'{B:BB}{es:List Qe}{g:M D}{t:M (List D)}(ha:ED X B e g)(hr:AD X B es t)(h:isStar e=false):AD X B (e::es) (consA g t):=IY ha hr (M8 h)
end DL
namespace DL
open PySem PySem.Spec PyProof.Rows L2
noncomputable def kAll(f:Qe->Option (M D)):List Qe->Option (M (List D))
 | []=>some nilA
 | e::es=>match f e with
  | some g=>match kAll f es with
   | some t=>some (consA g t)
   | none=>none
  | none=>none
noncomputable def kM:Nat->Qe->Option (M D)
 | 0,_=>none
 | n+1,e=>match e with
  | .Constant (.int i) _ _=>some (ret (.int i))
  | .Constant (.bool b) _ _=>some (ret (.bl b))
  | .Constant .none _ _=>some (ret .non)
  | .Constant (.str x) _ _=>some (ret (.str x))
  | .UnaryOp .USub a _=>match kM n a with
   | some g=>some (un1 negI g)
   | none=>none
  | .BinOp a .Pow b _=>match kM n a with
   | some g=>match kM n b with
    | some h=>some (op2 powI g h)
    | none=>none
   | none=>none
  | .Tuple es _ _=>match kAll (kM n) es with
   | some t=>some (tupA t)
   | none=>none
  | .List es _=>match kAll (kM n) es with
   | some t=>some (frz (lstA t))
   | none=>none
  | _=>none
section
variable{B:BB}
theorem xP{f:Qe->Option (M D)}(hf:∀e g,f e=some g->ED X B e g/\isStar e=false):∀(es:List Qe) (t:M (List D)),kAll f es=some t->AD X B es t
 | [],t,h=>by cases h;exact gs
 | e::es,t,h=>by
  rw[kAll] at h;split at h
  ·rename_i g hg;split at h
   ·rename_i t' ht;cases h;obtain⟨h1,h2⟩:=hf e g hg;exact f' h1 (xP hf es t' ht) h2
   ·cases h
  ·cases h
theorem vd:∀(n:Nat) (e:Qe) (g:M D),kM n e=some g->ED X B e g/\isStar e=false
 | 0,_,_,h=>by cases h
 | n+1,e,g,h=>by
  unfold kM at h;split at h
  ·cases h;exact⟨gV,rfl⟩
  ·cases h;exact⟨t7,rfl⟩
  ·cases h;exact⟨sC,rfl⟩
  ·cases h;exact⟨sO,rfl⟩
  ·split at h
   ·rename_i g' hg;cases h;exact⟨AJ (vd n _ _ hg).1,rfl⟩
   ·cases h
  ·split at h
   ·rename_i g' hg;split at h
    ·rename_i g2 cA;cases h;exact⟨AR (vd n _ _ hg).1 (vd n _ _ cA).1,rfl⟩
    ·cases h
   ·cases h
  ·split at h
   ·rename_i t ht;cases h;exact⟨rY (xP (vd n) _ _ ht),rfl⟩
   ·cases h
  ·split at h
   ·rename_i t ht;cases h;exact⟨rK (rV (xP (vd n) _ _ ht)),rfl⟩
   ·cases h
  ·cases h
theorem sn{e1 e2 e3 e4:Qe}{es:List Qe}{g1 g2 g3 g4:M D}{t:M (List D)}(h1:ED X B e1 g1)(h2:ED X B e2 g2)(h3:ED X B e3 g3)(h4:ED X B e4 g4)(hr:AD X B es t)(s1:isStar e1=false)(s2:isStar e2=false)(s3:isStar e3=false)(s4:isStar e4=false):AD X B (e1::e2::e3::e4::es) (consA g1 (consA g2 (consA g3 (consA g4 t)))):=
 f' h1 (f' h2 (f' h3 (f' h4 hr s4) s3) s2) s1
theorem ad_k{es:List Qe}{t:M (List D)}(h:kAll (kM 9) es=some t):AD X B es t:=xP (vd 9) es t h
end
end DL
namespace DL
open PySem PySem.W PySem.Spec PyProof.Rows L2 PySem.SetTable
end DL
namespace DL
open PySem PySem.W PySem.Spec PyProof.Rows L2
section
variable{B:BB}{t:M (List D)}
noncomputable def pkF(as:List D)(l:D):Option D:=match as,l with
 | [.int n],.lst ds=>if 0<=n/\n < 1000000 then ds[n.toNat]? else none
 | _,_=>none
noncomputable def ersF(as:List D)(ds:List D):Option (List D):=match as with
 | [.int n]=>some (ds.eraseIdx n.toNat)
 | _=>none
noncomputable def popAt(i:Nat)(t:M (List D)):M D:=mutS i (bnd t λas=>bnd (look i) λl=>bnd (lft (pkF as l)) λd=>bnd (wr i (ersF as)) λ_=>ret d)
theorem IsA.eraseIdx{K:PySem.W.Frag}{I:Hp}:∀{ds:List D}{xs:List V} (n:Nat),IsA K I ds xs->IsA K I (ds.eraseIdx n) (xs.eraseIdx n)
 | [],xs,n,h=>by rw[h.nil_inv];exact IsA.nil
 | d::ds,xs,n,h=>by
  obtain⟨x,r,rfl,h1,h2⟩:=h.cons_inv;cases n with
  | zero=>exact h2
  | succ n=>exact IsA.cons h1 (IsA.eraseIdx n h2)
theorem K5(hv:PE X (.Name x p1) (tVar i))(ha:AD X B [e] t)(bY:TC (.Name x p1) "pop" X.env (Qf (.Name x p1) X.env)=Qf (.Name x p1) X.env:=by rfl)(cY:((Qk aN (e_ [e] X.env)).all (λx=>!x.1)&&(VS aN (Uy [] X.env)).all (λx=>x.1.isSome)&&decide ([e].length+([]:List Uf).length+(if([]:List Uf).isEmpty then 0 else 1) < 30))=true:=by rfl)(bZ:(bp.endLine == aN.line)=true:=by rfl)(eL:e_ [e] X.env=(false,Qf e X.env)::e_ [] X.env:=by rfl)(bJ:(Qk aN (e_ [] X.env)).any (·.1)=false:=by rfl):
  ED X B (.Call (.Attribute (.Name x p1) "pop" bp) [e] [] aN) (popAt i t):=
 PE.imp (yu Uo PySem.F.slot_list_pop PySem.F.type_list_pop Lz hv ha bY cY bZ eL bJ) λU H Q q=>by
  obtain⟨G,I,Y,d,af,r,e1,k⟩:=q;obtain⟨hm,e1⟩:=uH e1;obtain⟨as,gw,f1,f2⟩:=rG e1;obtain⟨p,xs,h1,h2⟩:=t6 hm r;refine⟨_,h1,.inl ⟨rfl,xs,SqL.of h2⟩,G,I,Y,as,gw,r,f1,λvs H1 I1 r1 g1 hd=>?_⟩;obtain⟨l,ac,e2,e3⟩:=rG f2;obtain⟨d',ai,e4,e5⟩:=rG e3;obtain⟨u,aO,e6,e7⟩:=rG e5;obtain⟨e8,rfl⟩:=rW e4;clear e4;cases e7;obtain⟨rfl,p2,dj,ds,rfl,i1,i2,i3⟩:=vD e2 r1;obtain⟨p',bb,cs,es',h4,h5,h6,h7,h8⟩:=xQ e6 r1;have hp:p'=p:=by rw[h1] at h4;cases h4;rfl
  subst hp;have cZ:p2=p':=by rw[h1] at i1;cases i1;rfl
  subst cZ;rw[i2] at h5;cases h5;unfold pkF at e8;split at e8
  ·rename_i n dY eq;cases eq
   have ok:0<=n/\n < 1000000:=by
    rcases Decidable.em (0<=n/\n < 1000000) with z | z
    ·exact z
    ·rw[if_neg z] at e8;cases e8
   rw[if_pos ok] at e8;obtain⟨y,rfl,hy⟩:=hd.one;rw[rM hy];obtain⟨v,hv1,hv2⟩:=i3.get e8;cases h7;have lt:n.toNat < dj.length:=(m_.mp hv1).1;exact⟨p2,dj,n,n.toNat,v,rfl,rfl,i2,Vv (by decide) ok.1,Int.lt_of_lt_of_le ok.2 (by decide),PySem.StrLaws.seqIndex_nonneg ok.1 (by omega),hv1,k v _ I1 (h8 _ (h6.eraseIdx _)) g1 hv2⟩
  ·cases e8
end
section
variable{B:BB}{k v:Qe}{es:List Qe}{p:Pos}{ga gb:M D}{kr:Nat}
noncomputable def ckF(h:List R->Option (R×List R))(ds:List D):Option (List ((Int×Int)×D)):=match h (ds.map .val) with
 | some (.dic d,_)=>some d
 | _=>none
theorem t_ck{K:PySem.W.Frag}{E:XK}{h:List R->Option (R×List R)}{t:M (List D)}:∀U H Q,tK K B (fn1 (ckF h) t) U H Q->tCall (spD K h) [] E (tAD K B t) U H Q:=λU H Q q=>by
 obtain⟨G,I,Y,d,af,r,e1,kk⟩:=q;obtain⟨ds,ac,e2,e3⟩:=rG e1;obtain⟨e4,rfl⟩:=rW e3;refine⟨G,I,Y,ds,_,r,e2,λvs H1 I1 r1 g1 h1=>?_⟩;show spD K h (vs++[]) H1 Q E;rw[Q0];unfold ckF at e4;split at e4
 ·rename_i d' aS e5;cases e4;refine⟨H1,I1,ds.map .val,.dic d,aS,uG r1 h1,uz ds,e5,λv H' I' r' g' hv=>?_⟩;obtain⟨r2,g2⟩:=vJ r1 r' g';obtain⟨q,xs,rfl,b2,b3,b4,b5,b6⟩:=hv;exact kk q xs H' I' r2 (g1.trans g2) b2 b3 (r1.gFree b4) (r1.apart b4) b6
 ·cases e4
theorem M2{h:List R->Option (R×List R)}{t:M (List D)}(F:FnOk X.prog X.w X.K X.mg X.base CX0 kn f fd ps (spD X.K h))(hr:Room kn X.A)(hg:Gl X x)(hm:X.mg x=some (.ref f))(hk:Re X.K (.ref f)=true)(hb:Binds X.K fd ps [])(ha:AD X B (e::es) t)(bf:(x == ("__debug__":Str))=false:=by decide)(he:e_ (e::es) X.env=(false,Qf e X.env)::e_ es X.env:=by rfl)(aF:(Qk pos (e_ es X.env)).any (·.1)=false:=by rfl):
  EK X B (.Call (.Name x p) (e::es) [] pos) (fn1 (ckF h) t):=PE.imp (u6 F hr hg hm hk hb .nil pass0 ha bf he aF) t_ck
noncomputable def valP:List ((Int×Int)×D)->Int×Int->Option D
 | [],_=>none
 | q::r,k=>if q.1=k then some q.2 else valP r k
theorem IsK.valP{K:PySem.W.Frag}{I:Hp}{k:Int×Int}{d:D}:∀{kvs:List ((Int×Int)×D)}{xs:List (List Key×V)},IsK K I kvs xs->valP kvs k=some d->∃v,valV xs (keyP k)=some v/\Is K I d v
 | [],xs,h,e=>by cases e
 | q::kvs,xs,h,e=>by
  obtain⟨v,r,rfl,h1,h2⟩:=h.cons_inv;rw[DL.valP] at e;by_cases z:q.1=k
  ·rw[if_pos z] at e;cases e;exact⟨v,xA (by show keyP q.1=keyP k;rw[z]),h1⟩
  ·rw[if_neg z] at e;rw[wv (λy=>z (Ai y))];exact IsK.valP h2 e
noncomputable def lookR(i:Nat):M (List ((Int×Int)×D)):=λY=>match Y[i]? with
 | some (some (.rdc kvs))=>some (kvs,Y)
 | _=>none
theorem DO{K:PySem.W.Frag}{H:Hp}{kvs:List ((Int×Int)×D)}(h:lookR i Y=some (kvs,af))(r:Rep K B G I H U Y):af=Y/\∃p xs,U[i]?=some (some (.ref p))/\H p=some (.dT xs)/\IsK K I kvs xs:=by
 unfold lookR at h;split at h
 ·rename_i e;cases h;obtain⟨v,h1,p,xs,rfl,g1,g2⟩:=r.slot i _ e;exact⟨rfl,p,xs,h1,r.gH _ _ g1,g2⟩
 ·cases h
noncomputable def getPF(d:D)(kvs:List ((Int×Int)×D)):Option D:=match d with
 | .tup [.int a,.int b]=>valP kvs (a,b)
 | _=>none
noncomputable def getR(i:Nat)(gk:M D):M D:=bnd (lookR i) λ_=>bnd gk λd=>bnd (lookR i) λkvs=>lft (getPF d kvs)
theorem Jb(hr:Room kr X.A)(hv:PE X (.Name x p1) (tVar i))(hk:ED X B k gk)(hs:NoSl k:=by exact λ_ _=>rfl):ED X B (.Subscript (.Name x p1) k pos) (getR i gk):=PE.imp (Fz (Bd hr) hv hk hs) λU H Q q=>by
 obtain⟨G,I,Y,d,af,r,e1,kk⟩:=q;obtain⟨mN,ac,e2,e3⟩:=rG e1;obtain⟨n,ai,e4,e5⟩:=rG e3;obtain⟨kvs,aO,e6,e7⟩:=rG e5;obtain⟨e8,rfl⟩:=rW e7;obtain⟨rfl,a,xs,f1,_,_⟩:=DO e2 r;refine⟨_,f1,G,I,ac,n,ai,r,e4,λy H1 I1 r1 g1 hn=>?_⟩;obtain⟨rfl,a',bb,f4,f5,f6⟩:=DO e6 r1;have hp:a'=a:=by rw[f1] at f4;cases f4;rfl
 subst hp;unfold getPF at e8;split at e8
 ·rename_i m1 m2;obtain⟨b,ys,rfl,t1,t2⟩:=uO hn;obtain⟨y1,y2,rfl,t3,t4⟩:=t2.two;rw[rM t3,rM t4] at t1;obtain⟨v,w1,w2⟩:=f6.valP e8;have dg:=DGet.t (k:=keyP (m1,m2)) f5 (r1.iH _ _ t1);rw[w1] at dg;exact⟨a',v,rfl,dg,kk v H1 I1 r1 g1 w2⟩
 ·cases e8
noncomputable def crF(g:List R->Option (R×List R))(d1 d2:D)(kvs:List ((Int×Int)×D))(ds:List D):Option D:=match g (.val d1::.val d2::.rdc kvs::ds.map .val) with
 | some (.val d,_)=>some d
 | _=>none
noncomputable def callR(i:Nat)(g:List R->Option (R×List R))(ga gb:M D)(t:M (List D)):M D:=bnd ga λd1=>bnd gb λd2=>bnd (lookK i) λ_=>bnd t λds=>bnd (lookK i) λkvs=>lft (crF g d1 d2 kvs ds)
theorem Hu{a b:Qe}{g:List R->Option (R×List R)}{t:M (List D)}(F:FnOk X.prog X.w X.K X.mg X.base CX0 kn f fd ps (spD X.K g))(hr:Room kn X.A)(hg:Gl X x)(hm:X.mg x=some (.ref f))(hk:Re X.K (.ref f)=true)(hb:Binds X.K fd ps [])(h1:ED X B a ga)(h2:ED X B b gb)(hv:PE X (.Name y py) (tVar i))(ha:AD X B es t)(bf:(x == ("__debug__":Str))=false:=by decide)(he:e_ (a::b::.Name y py::es) X.env=(false,Qf a X.env)::e_ (b::.Name y py::es) X.env:=by rfl)(ca:e_ (b::.Name y py::es) X.env=(false,Qf b X.env)::e_ (.Name y py::es) X.env:=by rfl)(pp:e_ (.Name y py::es) X.env=(false,Qf (.Name y py) X.env)::e_ es X.env:=by rfl)(aF:(Qk pos (e_ (b::.Name y py::es) X.env)).any (·.1)=false:=by rfl):ED X B (.Call (.Name x p) (a::b::.Name y py::es) [] pos) (callR i g ga gb t):=
 PE.imp (u6 F hr hg hm hk hb .nil pass0 (sY h1 (sY h2 (sY hv ha pp) ca) he) bf he aF) λU H Q q=>by
 obtain⟨G,I,Y,d,af,r,e1,kk⟩:=q;obtain⟨d1,ac,e2,e3⟩:=rG e1;obtain⟨d2,ai,e4,e5⟩:=rG e3;obtain⟨mN,aO,e6,e7⟩:=rG e5;obtain⟨ds,aQ,e8,e9⟩:=rG e7;obtain⟨kvs,dG,f1,f2⟩:=rG e9;obtain⟨f3,rfl⟩:=rW f2;refine⟨G,I,Y,d1,ac,r,e2,λv1 H1 I1 r1 g1 hv1=>⟨G,I1,ac,d2,ai,r1,e4,λv2 H2 I2 r2 g2 hv2=>?_⟩⟩;obtain⟨rfl,_,a',bb,s1,_,_⟩:=AC e6 r2;refine⟨_,s1,G,I2,aO,ds,aQ,r2,e8,λvs H3 I3 r3 g3 pq=>?_⟩;obtain⟨rfl,_,a2,xs,s2,p2,p3⟩:=AC f1 r3;have hp:a2=a':=by rw[s1] at s2;cases s2;rfl
 subst hp;show spD X.K g ((v1::v2::.ref a2::vs)++[]) H3 Q _;rw[Q0];unfold crF at f3;split at f3
 ·rename_i d' aS f4;cases f3;have rv:=uG r3 pq;have i1:=(hv1.mono g2.up).mono g3.up;have i2:=hv2.mono g3.up;refine⟨H3,I3,.val d1::.val d2::.rdc kvs::ds.map .val,.val d,aS,?_,by rw[QY,QY,QY,uz];rfl,f4,λv H' I' r' g' hv=>?_⟩
  ·have pt:∀{j:Nat}{q:R},((R.val d1::.val d2::.rdc kvs::ds.map .val).map some)[j]?=some (some q)->q.ptr=false:=λ{j q} e=>by
    match j,e with
    | 0,e=>cases e;rfl
    | 1,e=>cases e;rfl
    | 2,e=>cases e;rfl
    | j+3,e =>
     have e9:((ds.map R.val).map some)[j]?=some (some q):=e;obtain⟨z,y1,y2⟩:=getMap e9;cases y2;obtain⟨d,y3,rfl⟩:=getMap y1;rfl
   exact {
    iH:=r3.iH,gH:=Same.refl _
    len:=by have:=rv.len;simp only[D_,Qi] at this ⊢;omega
    slot:=λj q e=>by
     match j,e with
     | 0,e=>cases e;exact⟨_,rfl,i1⟩
     | 1,e=>cases e;exact⟨_,rfl,i2⟩
     | 2,e=>cases e;exact⟨_,rfl,a2,xs,rfl,p2,p3⟩
     | j+3,e =>
      obtain⟨w,e4,e5⟩:=rv.slot j q (by simpa using e);exact⟨w,by simpa using e4,e5⟩
    dist:=λj l q q' w z1 z2 m m' _ _=>by rw[pt z1] at m;cases m
    bor:=λj es e=>rfl }
  ·obtain⟨r5,g5⟩:=vJ r3 r' g';exact kk v H' I' r5 (((g1.trans g2).trans g3).trans g5) hv
 ·cases f3
end
end DL
namespace DL
open PySem L2
variable {α Z:Type}
def wp(m:M α)(Y:Gm)(Q:α->Gm->Prop):Prop:=∃a af,m Y=some (a,af)/\Q a af
def wpF(g:List R->Option (R×List R))(rs:List R)(Q:R->List R->Prop):Prop:=∃r aS,g rs=some (r,aS)/\Q r aS
def wpB(g:List R->Option (R×List R))(c ds:List D)(Q:R->List D->Prop):Prop:=∃r c',bcF g c ds=some (r,c')/\Q r c'
section
variable{Q:α->Gm->Prop}{QD:D->Gm->Prop}{QL:List D->Gm->Prop}{QB:Bool->Gm->Prop}{QS:Fl->Gm->Prop}{QU:Unit->Gm->Prop}
theorem wp.mono{m:M α}{Q':α->Gm->Prop}(h:wp m Y Q)(f:∀a Y,Q a Y->Q' a Y):wp m Y Q':=by
 obtain⟨a,af,e,q⟩:=h;exact⟨a,af,e,f _ _ q⟩
@[simp ↓] theorem tP{a:α}:wp (ret a) Y Q↔Q a Y:=by
 constructor
 ·rintro⟨b,af,e,q⟩;cases e;exact q
 ·intro q;exact⟨_,_,rfl,q⟩
@[simp ↓] theorem sf{Z:Type}{m:M Z}{f:Z->M α}:wp (bnd m f) Y Q↔wp m Y λb ac=>wp (f b) ac Q:=by
 constructor
 ·rintro⟨a,af,e,q⟩;obtain⟨b,ac,e1,e2⟩:=rG e;exact⟨b,ac,e1,a,af,e2,q⟩
 ·rintro⟨b,ac,e1,a,af,e2,q⟩;exact⟨a,af,by unfold bnd;rw[e1];exact e2,q⟩
@[simp ↓] theorem NN{a:α}:wp (lft (some a)) Y Q↔Q a Y:=by
 constructor
 ·rintro⟨b,af,e,q⟩;cases e;exact q
 ·intro q;exact⟨_,_,rfl,q⟩
theorem zJ{o:Option α}{a:α}(h:o=some a):wp (lft o) Y Q↔Q a Y:=by rw[h,NN]
@[simp ↓] theorem O6:wp (nm i) Y QD↔match Y[i]? with
  | some (some (.val d))=>QD d Y
  | some (some (.own ds))=>QD (.lst ds) (Y.set i (some (.val (.lst ds))))
  | some (some (.fro ds))=>QD (.lst ds) Y
  | _=>False:=by
 unfold wp nm
 rcases e:Y[i]? with _ | _ | r
 ·simp
 ·simp
 ·cases r<;>simp<;>exact⟨λ⟨_,_,⟨h1,h2⟩,q⟩=>by subst h1;subst h2;exact q,λq=>⟨_,_,⟨rfl,rfl⟩,q⟩⟩
@[simp ↓] theorem Pq{F:D->D->Option α}{a b:M D}:wp (op2 F a b) Y Q↔wp a Y λx ac=>wp b ac λy ai=>wp (lft (F x y)) ai Q:=by simp[op2]
@[simp ↓] theorem N6{F:List D->Option α}{t:M (List D)}:wp (fn1 F t) Y Q↔wp t Y λds ac=>wp (lft (F ds)) ac Q:=by simp[fn1]
@[simp ↓] theorem O4:wp nilA Y QL↔QL [] Y:=by simp[nilA]
@[simp ↓] theorem PL{g:M D}{t:M (List D)}:wp (consA g t) Y QL↔wp g Y λd ac=>wp t ac λds ai=>QL (d::ds) ai:=by simp[consA]
@[simp ↓] theorem Ot{t:M (List D)}:wp (tupA t) Y QD↔wp t Y λds ac=>wp (lft (if ds.length<=lim then some (.tup ds) else none)) ac QD:=by simp[tupA]
@[simp ↓] theorem NW{t:M (List D)}:wp (lstA t) Y QL↔wp t Y λds ac=>wp (lft (if ds.length<=lim then some ds else none)) ac QL:=by simp[lstA]
@[simp ↓] theorem Nk{t:M (List D)}:wp (frz t) Y QD↔wp t Y λds ac=>QD (.lst ds) ac:=by simp[frz]
@[simp ↓] theorem Pv{g:M D}:wp (tst g) Y QB↔wp g Y λd ac=>wp (lft (asB d)) ac QB:=by simp[tst]
@[simp] theorem P7{b:Bool}:asB (.bl b)=some b:=rfl
@[simp] theorem Oz{b:Int}:asI (.int b)=some b:=rfl
@[simp ↓] theorem Pe{F:D->D->Option D}{a b c:M D}:wp (chn F F' a b c) Y QD↔wp a Y λx ac=>wp b ac λy ai=>wp (lft (F x y)) ai λz aO=>wp (lft (asB z)) aO λk aQ=>if k=true then wp c aQ λw dG=>wp (lft (F' y w)) dG QD else QD (.bl false) aQ:=by
 simp only[chn,sf]
 constructor<;>(intro h;refine h.mono λx ac h=>h.mono λy ai h=>h.mono λz aO h=>h.mono λk aQ h=>?_)<;>(cases k<;>simpa using h)
@[simp ↓] theorem Oi{a b:M Bool}:wp (andT a b) Y QB↔wp a Y λk ac=>if k=true then wp b ac QB else QB false ac:=by
 simp only[andT,sf]
 constructor<;>(intro h;refine h.mono λk ac h=>?_)<;>(cases k<;>simpa using h)
@[simp ↓] theorem OS{a b:M Bool}:wp (orT a b) Y QB↔wp a Y λk ac=>if k=true then QB true ac else wp b ac QB:=by
 simp only[orT,sf]
 constructor<;>(intro h;refine h.mono λk ac h=>?_)<;>(cases k<;>simpa using h)
@[simp ↓] theorem OO{a:M Bool}:wp (notT a) Y QB↔wp a Y λk ac=>QB (!k) ac:=by simp[notT]
@[simp ↓] theorem Os{a b:M D}:wp (andV a b) Y QD↔wp a Y λd ac=>wp (lft (asB d)) ac λk ai=>if k=true then wp b ai QD else QD (.bl false) ai:=by
 simp only[andV,sf]
 constructor<;>(intro h;refine h.mono λd ac h=>h.mono λk ai h=>?_)<;>(cases k<;>simpa using h)
@[simp ↓] theorem Oy{c:M Bool}{a b:M D}:wp (ifV c a b) Y QD↔wp c Y λk ac=>if k=true then wp a ac QD else wp b ac QD:=by
 simp only[ifV,sf]
 constructor<;>(intro h;refine h.mono λk ac h=>?_)<;>(cases k<;>simpa using h)
theorem Cj{a b:M Fl}:wp (seqS a b) Y QS↔wp a Y λf ac=>match f with
  | .nx=>wp b ac QS
  | .rt r=>QS (.rt r) ac
  | .bk=>QS .bk ac
  | .ct=>QS .ct ac:=by
 simp only[seqS,sf]
 constructor<;>(intro h;refine h.mono λf ac h=>?_)<;>(cases f<;>simpa using h)
@[simp ↓] theorem Oj{a:M D}:wp (dropS a) Y QS↔wp a Y λ_ ac=>QS .nx ac:=by simp[dropS]
@[simp ↓] theorem Ov{a:M D}:wp (retS a) Y QS↔wp a Y λd ac=>QS (.rt (.val d)) ac:=by simp[retS]
@[simp ↓] theorem Pb{a:M (List D)}:wp (retO a) Y QS↔wp a Y λd ac=>QS (.rt (.own d)) ac:=by simp[retO]
@[simp ↓] theorem BW{c:M Bool}{a b:M Fl}:wp (ifS c a b) Y QS↔wp c Y λk ac=>if k=true then wp a ac QS else wp b ac QS:=by
 simp only[ifS,sf]
 constructor<;>(intro h;refine h.mono λk ac h=>?_)<;>(cases k<;>simpa using h)
@[simp ↓] theorem LK:wp (putS i q) Y QU↔i < Y.length/\QU () (Y.set i (some q)):=by
 unfold wp putS;constructor
 ·rintro⟨a,af,e,h⟩;obtain⟨h1,h2⟩:=sv e;cases h2;exact⟨h1,h⟩
 ·rintro⟨h1,h2⟩;exact⟨(),_,by rw[if_pos h1],h2⟩
@[simp ↓] theorem Pf:wp (tgN i d) Y QU↔i < Y.length/\QU () (Y.set i (some (.val d))):=by simp[tgN]
@[simp ↓] theorem Oq:wp (tgNil []) Y QU↔QU () Y:=by simp[tgNil]
@[simp ↓] theorem Oe{f:D->M Unit}{t:List D->M Unit}:wp (tgCons f t (d::ds)) Y QU↔wp (f d) Y λ_ ac=>wp (t ds) ac QU:=by simp[tgCons]
@[simp ↓] theorem O3{t:List D->M Unit}:wp (tgTup n t (.tup ds)) Y QU↔ds.length=n/\wp (t ds) Y QU:=by
 unfold tgTup;by_cases h:ds.length=n
 ·simp[h]
 ·simp only[h,if_false,false_and,iff_false];rintro⟨_,_,e,_⟩;cases e
@[simp ↓] theorem OC{g:M D}{f:D->M Unit}:wp (asgS g f) Y QS↔wp g Y λd ac=>wp (f d) ac λ_ ai=>QS .nx ai:=by simp[asgS]
@[simp ↓] theorem tR{g:M D}:wp (setV i g) Y QS↔wp g Y λd ac=>i < ac.length/\QS .nx (ac.set i (some (.val d))):=by simp[setV]
@[simp ↓] theorem N5{g:M (List D)}:wp (setO i g) Y QS↔wp g Y λd ac=>i < ac.length/\QS .nx (ac.set i (some (.own d))):=by simp[setO]
@[simp ↓] theorem uB{m:M α}:wp (mutS i m) Y Q↔isMut Y i=true/\wp m Y Q:=by
 unfold mutS wp;by_cases h:isMut Y i=true
 ·simp[h]
 ·simp[h]
@[simp ↓] theorem P3:wp (wr i F) Y QU↔match Y[i]? with
  | some (some (.own ds))=>∃es,F ds=some es/\QU () (Y.set i (some (.own es)))
  | some (some (.bor ds))=>∃es,F ds=some es/\QU () (Y.set i (some (.bor es)))
  | _=>False:=by
 unfold wp wr
 rcases e:Y[i]? with _ | _ | r
 ·simp
 ·simp
 ·cases r with
  | val d=>simp
  | fro d=>simp
  | rdc d=>simp
  | dic d=>simp
  | own ds =>
   rcases he:F ds with _ | es
   ·simp[he]
   ·simp[he];exact⟨λ⟨_,q⟩=>q,λq=>⟨(),q⟩⟩
  | bor ds =>
   rcases he:F ds with _ | es
   ·simp[he]
   ·simp[he];exact⟨λ⟨_,q⟩=>q,λq=>⟨(),q⟩⟩
@[simp ↓] theorem OY{g:M D}:wp (appS i g) Y QS↔isMut Y i=true/\wp g Y λd ac=>wp (wr i (appF d)) ac λ_ ai=>QS .nx ai:=by simp only[appS,uB,sf,tP]
@[simp ↓] theorem P9{g:M D}:wp (extS i g) Y QS↔isMut Y i=true/\wp g Y λd ac=>wp (wr i (extF d)) ac λ_ ai=>QS .nx ai:=by simp only[extS,uB,sf,tP]
@[simp ↓] theorem OT{gi:M D}:wp (stS i gi gv) Y QS↔wp gv Y λd ac=>isMut ac i=true/\wp gi ac λn ai=>wp (lft (asI n)) ai λk aO=>wp (wr i (stF k d)) aO λ_ aQ=>QS .nx aQ:=by simp only[stS,uB,sf,tP]
@[simp ↓] theorem OF:wp (look i) Y QD↔match Y[i]? with
  | some (some (.own ds))=>QD (.lst ds) Y
  | some (some (.bor ds))=>QD (.lst ds) Y
  | _=>False:=by
 unfold wp look
 rcases e:Y[i]? with _ | _ | r
 ·simp
 ·simp
 ·cases r<;>simp<;>exact⟨λ⟨_,_,⟨h1,h2⟩,q⟩=>by subst h1;subst h2;exact q,λq=>⟨_,_,⟨rfl,rfl⟩,q⟩⟩
@[simp ↓] theorem OG{g:M D}:wp (atN i g) Y QD↔isMut Y i=true/\wp g Y λn ac=>wp (look i) ac λl ai=>wp (lft (ixF l n)) ai QD:=by simp only[atN,uB,sf]
@[simp ↓] theorem N3:wp (lenN i) Y QD↔wp (look i) Y λl ai=>wp (lft (lenF [l])) ai QD:=by simp only[lenN,sf]
@[simp ↓] theorem N2{g:M D}:wp (cmpN neg i g) Y QD↔isMut Y i=true/\wp g Y λn ac=>wp (look i) ac λl ai=>wp (lft (eqF neg l n)) ai QD:=by simp only[cmpN,uB,sf]
@[simp ↓] theorem P6{g:M D}{QO:Option Int->Gm->Prop}:wp (prt g) Y QO↔wp g Y λd ac=>wp (lft (asI d)) ac λi ai=>QO (some i) ai:=by simp[prt]
@[simp ↓] theorem OR{F:D->Option Int->Option Int->Option α}{g:M D}:wp (sl3 F g gl gh) Y Q↔wp g Y λd ac=>wp gl ac λl ai=>wp gh ai λh aO=>wp (lft (F d l h)) aO Q:=by simp[sl3]
@[simp ↓] theorem Kx{g:M D}:wp (itS g) Y QL↔wp g Y λd ac=>wp (lft (seqI d)) ac QL:=by simp[itS]
@[simp ↓] theorem AY:wp (forS it aG body) Y QS↔wp it Y λds ac=>wp (forM aG body ds) ac QS:=by simp[forS]
@[simp ↓] theorem Pr{g:List R->Option (R×List R)}{t:M (List D)}{QR:R->Gm->Prop}:wp (callB i g t) Y QR↔isMut Y i=true/\wp t Y λds ac=>match ac[i]? with
  | some (some (.own c))=>wpB g c ds λr c'=>QR r (ac.set i (some (.own c')))
  | some (some (.bor c))=>wpB g c ds λr c'=>QR r (ac.set i (some (.bor c')))
  | _=>False:=by
 simp only[callB,uB,sf];refine and_congr_right λ_=>?_
 have aT:∀(ds:List D) (ac:Gm),wp (λY:Gm=>match Y[i]? with
   | some (some (.own c))=>match bcF g c ds with
    | some (r,c')=>some (r,Y.set i (some (.own c')))
    | none=>none
   | some (some (.bor c))=>match bcF g c ds with
    | some (r,c')=>some (r,Y.set i (some (.bor c')))
    | none=>none
   | _=>none) ac QR↔(match ac[i]? with
  | some (some (.own c))=>wpB g c ds λr c'=>QR r (ac.set i (some (.own c')))
  | some (some (.bor c))=>wpB g c ds λr c'=>QR r (ac.set i (some (.bor c')))
  | _=>False):=by
  intro ds ac;unfold wp wpB;dsimp only
  rcases e:ac[i]? with _ | _ | r
  ·simp
  ·simp
  ·cases r with
   | val d=>simp
   | fro d=>simp
   | rdc d=>simp
   | dic d=>simp
   | own c =>
    rcases he:bcF g c ds with _ | ⟨r,c'⟩
    ·simp[he]
    ·simp only[he];constructor
     ·rintro⟨a,b,h,q⟩;cases h;exact⟨_,_,rfl,q⟩
     ·rintro⟨a,b,h,q⟩;cases h;exact⟨_,_,rfl,q⟩
   | bor c =>
    rcases he:bcF g c ds with _ | ⟨r,c'⟩
    ·simp[he]
    ·simp only[he];constructor
     ·rintro⟨a,b,h,q⟩;cases h;exact⟨_,_,rfl,q⟩
     ·rintro⟨a,b,h,q⟩;cases h;exact⟨_,_,rfl,q⟩
 constructor
 ·intro h;exact h.mono λds ac h=>(aT ds ac).mp h
 ·intro h;exact h.mono λds ac h=>(aT ds ac).mpr h
@[simp ↓] theorem PV{g:List R->Option (R×List R)}{t:M (List D)}:wp (cbV i g t) Y QD↔wp (callB i g t) Y λr ac=>wp (lft (asV r)) ac QD:=by simp only[cbV,sf]
@[simp ↓] theorem OH{g:List R->Option (R×List R)}{t:M (List D)}:wp (cbO i g t) Y QL↔wp (callB i g t) Y λr ac=>wp (lft (asO r)) ac QL:=by simp only[cbO,sf]
@[simp] theorem P5:asV (.val d)=some d:=rfl
@[simp] theorem OJ{d:List D}:asO (.own d)=some d:=rfl
theorem CI(J:Nat->Gm->Prop)(h0:J 0 Y)(hs:∀(i:Nat) (d:D) (Y:Gm),ds[i]?=some d->J i Y->wp (aG d) Y λ_ ac=>wp body ac λf ai=>match f with
   | .nx=>J (i+1) ai
   | .ct=>J (i+1) ai
   | .bk=>QS .nx ai
   | .rt r=>QS (.rt r) ai)(hd:∀Y,J ds.length Y->QS .nx Y):wp (forM aG body ds) Y QS:=by
 have aT:∀(n:Nat) (es:List D) (Y:Gm) (i:Nat),es.length=n->ds.drop i=es->i<=ds.length->J i Y->wp (forM aG body es) Y QS:=by
  intro n
  induction n with
  | zero =>
   intro es Y i hl he hi hj;have:es=[]:=Q1.mp hl;subst this
   have cp:i=ds.length:=by
    have:=congrArg length he;rw[RS] at this;simp at this;omega
   subst cp;exact⟨_,_,rfl,hd Y hj⟩
  | succ n ih =>
   intro es Y i hl he hi hj;cases es with
   | nil=>simp at hl
   | cons d es =>
    have bF:i < ds.length:=by
     have:=congrArg length he;rw[RS,Qi] at this;omega
    have ca:ds.drop i=ds[i]::ds.drop (i+1):=P_ bF;rw[ca] at he;injection he with e1 e2
    have cr:ds[i]?=some d:=by rw[g_ bF,e1]
    have step:=hs i d Y cr hj;rw[forM,sf];refine step.mono λ_ ac h1=>?_
    rw[sf];refine h1.mono λf ai h2=>?_
    cases f with
    | nx=>exact ih es ai (i+1) (by simpa using hl) e2 bF h2
    | ct=>exact ih es ai (i+1) (by simpa using hl) e2 bF h2
    | bk=>exact⟨_,_,rfl,h2⟩
    | rt r=>exact⟨_,_,rfl,h2⟩
 exact aT ds.length ds Y 0 rfl rfl (Qp _) h0
theorem Eu{rs:List R}{QR:R->List R->Prop}(hl:rs.length=ar)(h:wp body (rs.map some++Ql (n - rs.length) none) λf af=>∃r,flR f=some r/\∃l,fin rs af=some l/\QR r l):wpF (fnD n ar body) rs QR:=by
 obtain⟨f,af,e,r,e1,l,e2,q⟩:=h;refine⟨r,l,?_,q⟩;unfold fnD;rw[if_pos hl];unfold fnD1;rw[e];simp only[e1,e2]
theorem Jl{g:List R->Option (R×List R)}(h:wpF g (ds.map .val) λr _=>r=.val d):cvF g ds=some d:=by
 obtain⟨r,aS,e,rfl⟩:=h;unfold cvF;rw[e]
theorem LC{g:List R->Option (R×List R)}{P:List D->Prop}(h:wpF g (ds.map .val) λr _=>∃d,r=.own d/\P d):∃d,coF g ds=some d/\P d:=by
 obtain⟨r,aS,e,d,rfl,hp⟩:=h;exact⟨d,by unfold coF;rw[e],hp⟩
theorem JO{g:List R->Option (R×List R)}{c:List D}{QR:R->List D->Prop}(h:wpF g (.bor c::ds.map .val) λr aS=>∃c' t,aS=.bor c'::t/\QR r c'):wpB g c ds QR:=by
 obtain⟨r,aS,e,c',t,rfl,q⟩:=h;exact⟨r,c',by unfold bcF;rw[e],q⟩
end
end DL
namespace DL
open PySem L2
section
variable{α:Type}{Q:α->Gm->Prop}{QD:D->Gm->Prop}{QL:List D->Gm->Prop}{i j:Int}
@[simp ↓] theorem tU{c:Prop}[Decidable c]{a:α}:wp (lft (if c then some a else none)) Y Q↔c/\Q a Y:=by
 by_cases h:c
 ·simp[h]
 ·simp only[h,if_false,false_and,iff_false];rintro⟨_,_,e,_⟩;cases e
@[simp ↓] theorem NT:wp (λ_=>(none:Option (α×Gm))) Y Q↔False:=by
 simp only[iff_false];rintro⟨_,_,e,_⟩;cases e
@[simp] theorem PC:subI (.int i) (.int j)=some (.int (i - j)):=rfl
@[simp] theorem O2:addF (.int i) (.int j)=some (.int (i+j)):=rfl
@[simp] theorem f_lt:ltI (.int i) (.int j)=some (.bl (decide (i < j))):=rfl
@[simp] theorem f_le:leI (.int i) (.int j)=some (.bl (decide (i<=j))):=rfl
@[simp] theorem f_gt:gtI (.int i) (.int j)=some (.bl (decide (j < i))):=rfl
@[simp] theorem f_ge:geI (.int i) (.int j)=some (.bl (decide (j<=i))):=rfl
@[simp ↓] theorem ON:wp (lft (modI (.int i) (.int j))) Y QD↔0 < j/\QD (.int (i % j)) Y:=by simp[modI,intF]
@[simp ↓] theorem N1:wp (lft (divI (.int i) (.int j))) Y QD↔(0 < j/\j < 2 ^ 200)/\QD (.int (i / j)) Y:=by simp only[divI,intF,decide_eq_true_eq,tU]
@[simp ↓] theorem PB:wp (lft (mulI (.int i) (.int j))) Y QD↔((-(2 ^ 64) < i/\i < 2 ^ 64)\/(-(2 ^ 64) < j/\j < 2 ^ 64))/\QD (.int (i*j)) Y:=by simp only[mulI,intF,decide_eq_true_eq,tU]
@[simp ↓] theorem O8:wp (lft (powI (.int i) (.int j))) Y QD↔(0<=j/\j<=1000000/\i.natAbs < 2 ^ 64)/\QD (.int (i ^ j.toNat)) Y:=by simp only[powI,intF,decide_eq_true_eq,tU]
@[simp] theorem NX:ixF (.lst ds) (.int i)=atI ds i:=rfl
@[simp] theorem P0:ixF (.tup ds) (.int i)=atI ds i:=rfl
theorem sV{α:Type}{ds:List α}:atI ds (n:Int)=ds[n]?:=by
 unfold atI ixN;rw[if_pos (by omega)];by_cases h:(n:Int) < ds.length
 ·rw[if_pos h];simp
 ·rw[if_neg h];have:ds.length<=n:=by omega
  simp[RW this]
@[simp] theorem Oo{α:Type}{a:α}{ds:List α}:atI (a::ds) 0=some a:=by
 rw[show(0:Int)=((0:Nat):Int) from rfl,sV];rfl
@[simp] theorem Pa{α:Type}{a b:α}{ds:List α}:atI (a::b::ds) 1=some b:=by
 rw[show(1:Int)=((1:Nat):Int) from rfl,sV];rfl
@[simp] theorem Pi{α:Type}{a b c:α}{ds:List α}:atI (a::b::c::ds) 2=some c:=by
 rw[show(2:Int)=((2:Nat):Int) from rfl,sV];rfl
theorem zN{α:Type}{ds:List α}{i:Int}(h0:0<=i)(h1:i < ds.length):∃a,atI ds i=some a/\a∈ds:=by
 obtain⟨n,rfl⟩:=Q9 h0;have h:n < ds.length:=by omega
 exact⟨ds[n],by rw[sV,g_ h],Qt h⟩
@[simp] theorem NZ{a b:D}:stF 1 d (a::b::ds)=some (a::d::ds):=by
 unfold stF ixN;rw[if_pos (by omega),if_pos (by simp;omega)];rfl
@[simp] theorem Pp{a b c:D}:stF 2 d (a::b::c::ds)=some (a::b::d::ds):=by
 unfold stF ixN;rw[if_pos (by omega),if_pos (by simp;omega)];rfl
@[simp] theorem PX:lenF [.lst ds]=some (.int ds.length):=rfl
@[simp] theorem OZ:lenF [.tup ds]=some (.int ds.length):=rfl
@[simp] theorem OE:minF [.int i,.int j]=some (.int (min i j)):=by
 unfold minF;dsimp only;congr 2;split<;>omega
@[simp] theorem Ob:maxF [.int i,.int j]=some (.int (max i j)):=by
 unfold maxF;dsimp only;congr 2;split<;>omega
@[simp] theorem PH:tupF [.lst ds]=some (.tup ds):=rfl
@[simp] theorem PK:tupF [.tup ds]=some (.tup ds):=rfl
@[simp] theorem Od:lstF [.lst ds]=some ds:=rfl
@[simp] theorem NQ:lstF [.tup ds]=some ds:=rfl
@[simp] theorem Hs:seqI (.lst ds)=some ds:=rfl
@[simp] theorem N0:seqI (.tup ds)=some ds:=rfl
@[simp] theorem OM{b:Bool}:reprF [.bl b]=some (.str (if b then "True" else "False")):=rfl
@[simp] theorem OW{lo:Option Int}:slF (.lst ds) lo hi=some (.lst (cutD ds lo hi)):=rfl
@[simp] theorem O1{xs:List D}:zipI [.lst xs,.lst ys]=some (pairsD xs ys):=rfl
@[simp] theorem On{xs:List D}:zipI [.tup xs,.tup ys]=some (pairsD xs ys):=rfl
@[simp] theorem PF{xs:List D}:enumI [.lst xs]=some (numD 0 xs):=rfl
@[simp] theorem Pt{xs:List D}:enumI [.tup xs]=some (numD 0 xs):=rfl
@[simp ↓] theorem O7:wp (lft (rngI1 [.int j])) Y QL↔(-1000000<=j/\j<=1000000)/\QL (rngD 0 j.toNat) Y:=by simp only[rngI1,tU]
@[simp ↓] theorem PJ:wp (lft (rngI2 [.int i,.int j])) Y QL↔((-1000000<=i/\i<=1000000)/\-1000000<=j/\j<=1000000)/\QL (rngD i (j - i).toNat) Y:=by simp only[rngI2,tU]
@[simp ↓] theorem Ps{a b:D}:wp (lft (eqF neg a b)) Y QD↔(dep a<=100\/dep b<=100)/\QD (.bl (if neg then !deq a b else deq a b)) Y:=by simp only[eqF,tU]
@[simp ↓] theorem PM{xs:List D}:wp (lft (catF (.lst xs) (.lst ys))) Y QL↔xs.length+ys.length<=lim/\QL (xs++ys) Y:=by simp only[catF,tU]
@[simp ↓] theorem OB{xs:List D}:wp (lft (addF (.tup xs) (.tup ys))) Y QD↔xs.length+ys.length<=lim/\QD (.tup (xs++ys)) Y:=by simp only[addF,tU]
@[simp] theorem O'{Y:Gm}(h:Y[k]?=some (some (.own ds))):isMut Y k=true:=by unfold isMut;rw[h];rfl
@[simp] theorem Pl{a:Int}:dep (.int a)=0:=by simp[dep]
@[simp] theorem N7{a:Bool}:dep (.bl a)=0:=by simp[dep]
@[simp] theorem Ol{a:Str}:dep (.str a)=0:=by simp[dep]
@[simp] theorem N9:dep (.lst [])=1:=by simp[dep,depA]
@[simp] theorem O0{a b:Bool}:deq (.bl a) (.bl b)=(a == b):=by simp[deq]
@[simp] theorem PU{a b:Str}:deq (.str a) (.str b)=(a == b):=by simp[deq]
@[simp] theorem sx{a b:Int}:deq (.int a) (.int b)=(a == b):=by simp[deq]
@[simp] theorem Px:deq (.lst ds) (.lst [])=ds.isEmpty:=by cases ds<;>simp[deq,deqA]
@[simp] theorem OP{a b:Bool}:deq (.str (if a then "True" else "False")) (.str (if b then "True" else "False"))=(a == b):=by cases a<;>cases b<;>decide
@[simp] theorem EU:lim=1000000:=rfl
theorem xG{d:Nat}:HT.sIx n d (some (k:Int))=min k n:=by
 show(if(k:Int) < 0 then((k:Int)+(n:Int)).toNat else min (k:Int).toNat n)=min k n;rw[if_neg (by omega),R7]
theorem A1:cutD ds none (some (n:Int))=ds.take n:=by
 unfold cutD;rw[xG,HT.xt];simp
theorem wW:cutD ds (some (n:Int)) none=ds.drop n:=by
 unfold cutD;rw[xG,HT.xt,Uk (by simp)];by_cases h:n<=ds.length
 ·rw[Nat.min_eq_left h]
 ·rw[Nat.min_eq_right (by omega),RH (w_ _),RH (by omega)]
theorem Dp(h:n < ds.length):slF (.tup ds) none (some (n:Int))=some (.tup (ds.take n)):=by
 unfold slF;dsimp only;rw[xG,HT.xt,if_neg (by omega),A1]
theorem Do(h:0 < ds.length)(h1:0 < n):slF (.tup ds) (some (n:Int)) none=some (.tup (ds.drop n)):=by
 unfold slF;dsimp only;rw[xG,HT.xt,if_neg (by omega),wW]
@[simp] theorem Pw{P:List D->Prop}:(∃es,appF d ds=some es/\P es)↔ds.length < 1000000/\P (ds++[d]):=by
 unfold appF;rw[EU];by_cases h:ds.length < 1000000<;>simp[h]
@[simp] theorem Ow{xs:List D}{P:List D->Prop}:(∃es,extF (.lst xs) ds=some es/\P es)↔ds.length+xs.length<=1000000/\P (ds++xs):=by
 unfold extF;rw[EU];by_cases h:ds.length+xs.length<=1000000<;>simp[h]
theorem qw{a b:M Fl}{QS:Fl->Gm->Prop}(h:∀K:Fl->Gm->Prop,(∀ac,wp b ac QS->K .nx ac)->(∀r ac,QS (.rt r) ac->K (.rt r) ac)->wp a Y K):wp (seqS a b) Y QS:=by
 rw[Cj];exact h _ (λ_ h=>h) (λ_ _ h=>h)
theorem uV{a b:M Fl}{QS:Fl->Gm->Prop}(P:Gm->Prop)(h:∀K:Fl->Gm->Prop,(∀ac,P ac->K .nx ac)->(∀r ac,QS (.rt r) ac->K (.rt r) ac)->wp a Y K)(h2:∀ac,P ac->wp b ac QS):wp (seqS a b) Y QS:=by
 rw[Cj];exact h _ (λ_ p=>h2 _ p) (λ_ _ h=>h)
theorem sj{QS:Fl->Gm->Prop}(J:Nat->Gm->Prop)(h0:J 0 Y)(hs:∀(i:Nat) (d:D) (Y:Gm),ds[i]?=some d->J i Y->∀K:Fl->Gm->Prop,(∀ai,J (i+1) ai->K .nx ai)->(∀ai,J (i+1) ai->K .ct ai)->(∀ai,QS .nx ai->K .bk ai)->(∀r ai,QS (.rt r) ai->K (.rt r) ai)->wp (aG d) Y λ_ ac=>wp body ac K)(hd:∀Y,J ds.length Y->QS .nx Y):wp (forM aG body ds) Y QS:=
 CI J h0 (λi d Y h j=>hs i d Y h j _ (λ_ h=>h) (λ_ h=>h) (λ_ h=>h) (λ_ _ h=>h)) hd
theorem sP{rs:List R}{QR:R->List R->Prop}(hl:rs.length=ar)(h:∀K:Fl->Gm->Prop,(∀r af,(∃l,fin rs af=some l/\QR r l)->K (.rt r) af)->(∀af,(∃l,fin rs af=some l/\QR (.val .non) l)->K .nx af)->wp body (rs.map some++Ql (n - rs.length) none) K):wpF (fnD n ar body) rs QR:=
 Eu hl (h _ (λr _ h=>⟨r,rfl,h⟩) (λ_ h=>⟨_,rfl,h⟩))
theorem vb{c:List D}{QR:R->List D->Prop}(hl:ds.length+1=ar)(h:∀K:Fl->Gm->Prop,(∀r c' af,(∃t,fin (ds.map .val) af=some t)->QR r c'->K (.rt r) (some (.bor c')::af))->(∀c' af,(∃t,fin (ds.map .val) af=some t)->QR (.val .non) c'->K .nx (some (.bor c')::af))->wp body ((.bor c::ds.map .val).map some++Ql (n - (ds.length+1)) none) K):wpB (fnD n ar body) c ds QR:=by
 refine JO (sP (by simpa using hl) λK k1 k2=>?_);refine(by simpa using h K (λr c' af ⟨t,e⟩ q=>k1 r _ ⟨_,by simp[fin,e],c',t,rfl,q⟩) (λc' af ⟨t,e⟩ q=>k2 _ ⟨_,by simp[fin,e],c',t,rfl,q⟩))
theorem Bn{α:Type}(xs:List α)(f:α->D)(p:α->Bool)(v:α->D)(h:wp it Y λds ac=>ds=xs.map f/\xs.length<=1000000/\(∀x∈xs,∀cs:Gm,cs.length=m->wp (aG (f x)) (cs++ac) λ_ ai=>wp ts ai λb aO=>b=p x/\(if b=true then wp el aO λy aQ=>y=v x/\∃cD,cD.length=m/\aQ=cD++ac else ∃cD,cD.length=m/\aO=cD++ac)) ∧
   QL ((xs.filter p).map v) ac):wp (compO m it aG ts el) Y QL:=by
 unfold compO;rw[sf];refine h.mono λds ac ⟨fG,hl,hp,hq⟩=>?_
 subst fG;rw[if_pos (by simpa using hl)]
 have aT:∀(es:List α) (cs:Gm),(∀d∈es,d∈xs)->cs.length=m->∃cD,cD.length=m/\compM aG ts el (es.map f) (cs++ac)=some ((es.filter p).map v,cD++ac):=by
  intro es
  induction es with
  | nil=>intro cs _ hc;exact⟨cs,hc,rfl⟩
  | cons d es ih =>
   intro cs hm hc;obtain⟨u,ai,e1,b,aO,e2,hb,h3⟩:=hp d (hm d k_) cs hc;have fL:∀d∈es,d∈xs:=λd hd=>hm d (i_ _ hd)
   cases b with
   | false =>
    rw[if_neg j_] at h3;obtain⟨cD,aM,rfl⟩:=h3;obtain⟨kO,dD,e3⟩:=ih cD fL aM;refine⟨kO,dD,?_⟩;rw[D_,compM];unfold bnd;simp only[e1,e2,R8,if_false];rw[e3,Si,←hb];simp
   | true =>
    rw[if_pos rfl] at h3;obtain⟨x,aQ,e4,rfl,cD,aM,rfl⟩:=h3;obtain⟨kO,dD,e3⟩:=ih cD fL aM;refine⟨kO,dD,?_⟩;rw[D_,compM];unfold bnd;simp only[e1,e2,if_true,e4];rw[e3,Si,←hb];rfl
 obtain⟨cD,aM,e⟩:=aT xs (Ql m none) (λ_ h=>h) (by simp);refine⟨_,_,?_,hq⟩;unfold inC;rw[e];simp[aM,List.drop_append]
theorem sB{α:Type}(xs:List α)(f:α->D)(p:α->Bool)(v:α->D)(h:wp it Y λds ac=>ds=xs.map f/\xs.length<=1000000/\(∀x∈xs,∀a,wp (aG (f x)) (a::ac) λ_ ai=>wp ts ai λb aO=>b=p x/\(if b=true then wp el aO λy aQ=>y=v x/\∃a',aQ=a'::ac else ∃a',aO=a'::ac)) ∧
   QL ((xs.filter p).map v) ac):wp (compO 1 it aG ts el) Y QL:=by
 refine Bn xs f p v (h.mono λds ac ⟨h1,h2,h3,h4⟩=>⟨h1,h2,λx hx cs hc=>?_,h4⟩);obtain⟨a,rfl⟩:=List.length_eq_one_iff.mp hc;refine(h3 x hx a).mono λ_ ai h=>h.mono λb aO ⟨h5,h6⟩=>⟨h5,?_⟩
 cases b with
 | true=>simp only[if_true] at h6 ⊢;exact h6.mono λy aQ ⟨h7,a',h8⟩=>⟨h7,[a'],rfl,h8⟩
 | false=>simp only[R8,if_false] at h6 ⊢;obtain⟨a',h8⟩:=h6;exact⟨[a'],rfl,h8⟩
theorem t5{α:Type}(xs:List α)(f:α->D)(p:α->Bool)(v:α->D)(h:wp it Y λds ac=>ds=xs.map f/\xs.length<=1000000/\(∀x∈xs,∀a b,wp (aG (f x)) (a::b::ac) λ_ ai=>wp ts ai λb aO=>b=p x/\(if b=true then wp el aO λy aQ=>y=v x/\∃a' b',aQ=a'::b'::ac else ∃a' b',aO=a'::b'::ac)) ∧
   QL ((xs.filter p).map v) ac):wp (compO 2 it aG ts el) Y QL:=by
 refine Bn xs f p v (h.mono λds ac ⟨h1,h2,h3,h4⟩=>⟨h1,h2,λx hx cs hc=>?_,h4⟩)
 obtain⟨a,b,rfl⟩:∃a b,cs=[a,b]:=by
  match cs,hc with
  | [a,b],_=>exact⟨a,b,rfl⟩
 refine(h3 x hx a b).mono λ_ ai h=>h.mono λb aO ⟨h5,h6⟩=>⟨h5,?_⟩
 cases b with
 | true=>simp only[if_true] at h6 ⊢;exact h6.mono λy aQ ⟨h7,a',b',h8⟩=>⟨h7,[a',b'],rfl,h8⟩
 | false=>simp only[R8,if_false] at h6 ⊢;obtain⟨a',b',h8⟩:=h6;exact⟨[a',b'],rfl,h8⟩
theorem sw(hl:ds.length=ar)(h:∀K:Fl->Gm->Prop,(∀af,(∃l,fin (ds.map .val) af=some l)->K (.rt (.val d)) af)->(∀af,d=.non->(∃l,fin (ds.map .val) af=some l)->K .nx af)->wp body ((ds.map .val).map some++Ql (n - ds.length) none) K):cvF (fnD n ar body) ds=some d:=by
 refine Jl (sP (by simpa using hl) λK k1 k2=>?_);have:=h K (λaf ⟨l,e⟩=>k1 _ _ ⟨l,e,rfl⟩) (λaf hd ⟨l,e⟩=>k2 _ ⟨l,e,by rw[hd]⟩);simpa using this
theorem BV{α:Type}{f:α->Bool}{xs:List α}:blsD (xs.map λx=>.bl (f x))=some (xs.map f):=by
 induction xs with
 | nil=>rfl
 | cons x xs ih=>simp only[D_,blsD,ih]
theorem Dm{α:Type}{f:α->Bool}{xs:List α}:allF [.lst (xs.map λx=>.bl (f x))]=some (.bl (xs.all f)):=by
 unfold allF;simp only[BV];simp[SU]
theorem Im{α:Type}{f:α->Bool}{xs:List α}:anyF [.lst (xs.map λx=>.bl (f x))]=some (.bl (xs.any f)):=by
 unfold anyF;simp only[BV];simp[SU]
theorem uS{α Z:Type}{f:α->D}{g:Z->D}{xs:List α}{ys:List Z}:pairsD (xs.map f) (ys.map g)=(xs.zip ys).map λq=>.tup [f q.1,g q.2]:=by
 unfold pairsD
 induction xs generalizing ys with
 | nil=>rfl
 | cons x xs ih =>
  cases ys with
  | nil=>rfl
  | cons y ys=>simp only[D_,QN,ih]
end
section
variable{α:Type}{Q:α->Gm->Prop}{QD:D->Gm->Prop}{QL:List D->Gm->Prop}{i j:Int}
@[simp ↓] theorem Pd{i:Nat}{g:M D}:wp (inN neg i g) Y QD↔wp g Y λd ac=>wp (look i) ac λl ai=>wp (lft (inF neg d l)) ai QD:=by simp only[inN,sf]
theorem IG{xs:List D}(h:SetOk xs)(k:xs.all fstI=true\/xs.all fstT=true):setF [.lst xs]=some (sortD (dd xs)):=by
 unfold setF;exact if_pos ⟨h,k⟩
theorem Al{xs:List D}(h:SortOk xs):sortF [.lst xs]=some (sortD xs):=by
 unfold sortF;exact if_pos h
theorem Mr(ds:List D):∀d∈ds,(dd ds).any (λe=>deq e d)=true:=by
 have aT:∀(ds ag:List D),(∀d,ag.any (λe=>deq e d)=true->(ds.foldl dstep ag).any (λe=>deq e d)=true)/\∀d∈ds,(ds.foldl dstep ag).any (λe=>deq e d)=true:=by
  intro ds
  induction ds with
  | nil=>exact λag=>⟨λd h=>h,λd h=>by cases h⟩
  | cons c ds ih =>
   intro ag;obtain⟨h1,h2⟩:=ih (dstep ag c)
   have st:∀d,ag.any (λe=>deq e d)=true->(dstep ag c).any (λe=>deq e d)=true:=λd h=>by
    unfold dstep;split
    ·exact h
    ·rw[List.any_append,h];rfl
   refine⟨λd h=>h1 d (st d h),λd h=>?_⟩
   rcases E_.mp h with rfl | h
   ·refine h1 d ?_;unfold dstep;split
    ·assumption
    ·rw[List.any_append];simp[vQ]
   ·exact h2 d h
 exact(aT ds []).2
theorem BN(ds:List D):(dd ds).length<=ds.length:=by
 have aT:∀(ds ag:List D),(ds.foldl dstep ag).length<=ag.length+ds.length:=by
  intro ds
  induction ds with
  | nil=>exact λag=>w_ _
  | cons c ds ih =>
   intro ag;have:=ih (dstep ag c)
   have:(dstep ag c).length<=ag.length+1:=by
    unfold dstep;split
    ·omega
    ·simp
   rw[SE,Qi];omega
 have:=aT ds [];simpa[dd] using this
end
end DL
namespace DL
theorem w6{α:Type}:∀(l m:List α),l.Nodup->(∀x∈l,x∈m)->l.length<=m.length
 | [],m,_,_=>Qp _
 | x::l,m,nd,h=>by
  obtain⟨a,b,rfl⟩:=Vc (h x k_);rw[QQ] at nd
  have:=w6 l (a++b) nd.2 (λy hy=>by
   have:=h y (i_ _ hy)
   rcases K_.mp this with z | z
   ·exact(Q_ _ z)
   ·rcases E_.mp z with z | z
    ·subst z;exact absurd hy nd.1
    ·exact(M_ _ z))
  simp at this ⊢;omega
theorem uN{os:List D}(hl:ds.length=ar)(h:∀K:Fl->Gm->Prop,(∀af,(∃l,fin (ds.map .val) af=some l)->K (.rt (.own os)) af)->wp body ((ds.map .val).map some++Ql (n - ds.length) none) K):coF (fnD n ar body) ds=some os:=by
 have w:wpF (fnD n ar body) (ds.map .val) λr _=>r=.own os:=sP (by simpa using hl) λK k1 _=>by
  have:=h K (λaf ⟨l,e⟩=>k1 _ _ ⟨l,e,rfl⟩);simpa using this
 obtain⟨r,aS,e,rfl⟩:=w;unfold coF;rw[e]
section
variable{QS:Fl->Gm->Prop}{QL:List D->Gm->Prop}
@[simp ↓] theorem OX:wp (froS j) Y QL↔match Y[j]? with
  | some (some (.fro ds))=>QL ds Y
  | _=>False:=by
 unfold wp froS
 rcases e:Y[j]? with _ | _ | r
 ·simp
 ·simp
 ·cases r<;>simp<;>exact⟨λ⟨_,_,⟨h1,h2⟩,q⟩=>by subst h1;subst h2;exact q,λq=>⟨_,_,⟨rfl,rfl⟩,q⟩⟩
@[simp ↓] theorem Py{g:M (List D)}:wp (setY i g) Y QS↔wp g Y λd ac=>i < ac.length/\QS .nx (ac.set i (some (.fro d))):=by simp[setY]
@[simp ↓] theorem NS:wp (cpS i j) Y QS↔wp (froS j) Y λd ac=>i < ac.length/\QS .nx (ac.set i (some (.fro d))):=by simp only[cpS,sf,LK,tP]
@[simp ↓] theorem O9:wp (retY j) Y QS↔wp (froS j) Y λd ac=>QS (.rt (.fro d)) ac:=by simp only[retY,sf,tP]
theorem CY{c:M Bool}{b:M Fl}(J:Nat->Gm->Prop)(hs:∀(m:Nat) (Y:Gm),J m Y->wp c Y λk ac=>if k=true then ∃m',m=m'+1/\∀K:Fl->Gm->Prop,(∀ai,J m' ai->K .nx ai)->(∀ai,J m' ai->K .ct ai)->(∀ai,QS .nx ai->K .bk ai)->(∀r ai,QS (.rt r) ai->K (.rt r) ai)->wp b ac K else QS .nx ac):
  ∀(n m:Nat) (Y:Gm),m < n->J m Y->wp (whlS n c b) Y QS:=by
 intro n
 induction n with
 | zero=>intro m Y h;omega
 | succ n ih =>
  intro m Y h j;rw[whlS,sf];refine(hs m Y j).mono λk ac q=>?_
  cases k with
  | false=>rw[if_neg j_] at q ⊢;rw[tP];exact q
  | true =>
   rw[if_pos rfl] at q ⊢;obtain⟨m',rfl,q⟩:=q;rw[sf];refine q _ (λai j2=>?_) (λai j2=>?_) (λai z=>?_) λr ai z=>?_
   ·exact ih m' ai (by omega) j2
   ·exact ih m' ai (by omega) j2
   ·exact(tP).mpr z
   ·exact(tP).mpr z
theorem Kt{os:List D}(hl:ds.length=ar)(no:noLA os=true)(h:∀K:Fl->Gm->Prop,(∀af,(∃l,fin (ds.map .val) af=some l)->K (.rt (.fro os)) af)->wp body ((ds.map .val).map some++Ql (n - ds.length) none) K):coF (fnD n ar body) ds=some os:=by
 have w:wpF (fnD n ar body) (ds.map .val) λr _=>r=.fro os:=sP (by simpa using hl) λK k1 _=>by
  have:=h K (λaf ⟨l,e⟩=>k1 _ _ ⟨l,e,rfl⟩);simpa using this
 obtain⟨r,aS,e,rfl⟩:=w;unfold coF;rw[e];exact if_pos no
end
end DL
namespace Own
open PySem PySem.Spec PyProof.Rows L2 DL
noncomputable def At:M Fl:=
 (forS (itS (nm 0)) (tgN 1)
  (ifS (tst (op2 (eqF true) (fn1 lenF (consA (nm 1) nilA)) (fn1 lenF (consA (op2 ixF (nm 0) (ret (.int 0))) nilA))))
  (λ_=>none) (ret .nx)))
noncomputable def sR:List R->Option (R×List R):=fnD 2 1 At
noncomputable def zW:M Fl:=
 (seqS (dropS (fn1 (cvF sR) (consA (frz (lstA (consA (nm 0) (consA (nm 1) nilA)))) nilA)))
  (retS (fn1 allF (consA (frz (compO 2 (fn1 zipI (consA (nm 0) (consA (nm 1) nilA))) (tgTup 2 (tgCons (tgN 0) (tgCons (tgN 1) tgNil))) (ret true) (chn leI leI (op2 ixF (nm 0) (ret (.int 0))) (nm 1) (op2 ixF (nm 0) (ret (.int 1)))))) nilA))))
noncomputable def ut:List R->Option (R×List R):=fnD 2 2 zW
noncomputable def yL:M Fl:=
 (seqS (dropS (fn1 (cvF sR) (consA (frz (lstA (consA (nm 0) (consA (nm 1) nilA)))) nilA)))
  (retS (fn1 allF (consA (frz (compO 2 (fn1 zipI (consA (nm 0) (consA (nm 1) nilA))) (tgTup 2 (tgCons (tgN 0) (tgCons (tgN 1) tgNil))) (ret true) (andV (op2 leI (op2 ixF (nm 0) (ret (.int 0))) (op2 ixF (nm 1) (ret (.int 0)))) (op2 leI (op2 ixF (nm 1) (ret (.int 1))) (op2 ixF (nm 0) (ret (.int 1))))))) nilA))))
noncomputable def vN:List R->Option (R×List R):=fnD 2 2 yL
noncomputable def yU:M Fl:=
 (seqS (dropS (fn1 (cvF sR) (consA (frz (lstA (consA (nm 0) (consA (nm 1) nilA)))) nilA)))
  (seqS (setO 2 (lstA nilA))
  (seqS (forS (fn1 zipI (consA (nm 0) (consA (nm 1) nilA))) (tgTup 2 (tgCons (tgN 3) (tgCons (tgN 4) tgNil)))
  (seqS (setV 5 (fn1 maxF (consA (op2 ixF (nm 3) (ret (.int 0))) (consA (op2 ixF (nm 4) (ret (.int 0))) nilA))))
  (seqS (setV 6 (fn1 minF (consA (op2 ixF (nm 3) (ret (.int 1))) (consA (op2 ixF (nm 4) (ret (.int 1))) nilA))))
  (seqS (ifS (tst (op2 gtI (nm 5) (nm 6)))
  (retS (ret .non)) (ret .nx))
  (appS 2 (tupA (consA (nm 5) (consA (nm 6) nilA))))))))
  (retS (fn1 tupF (consA (nm 2) nilA))))))
noncomputable def xf:List R->Option (R×List R):=fnD 7 2 yU
noncomputable def AM:M Fl:=
 (retS (fn1 anyF (consA (frz (compO 1 (itS (nm 0)) (tgN 0) (ret true) (andV (op2 (eqF true) (nm 0) (nm 2)) (fn1 (cvF vN) (consA (nm 0) (consA (nm 2) nilA)))))) nilA)))
noncomputable def xj:List R->Option (R×List R):=fnD 2 2 AM
noncomputable def yw:M Fl:=
 (seqS (dropS (fn1 (cvF sR) (consA (nm 0) nilA)))
  (seqS (setV 1 (frz (fn1 setF (consA (nm 0) nilA))))
  (retO (compO 1 (itS (nm 1)) (tgN 0) (notT (tst (fn1 (cvF xj) (consA (nm 2) (consA (nm 0) nilA))))) (nm 0)))))
noncomputable def vo:List R->Option (R×List R):=fnD 2 1 yw
noncomputable def xU:M Fl:=
 (seqS (setO 2 (lstA nilA))
  (seqS (forS (fn1 enumI (consA (nm 1) nilA)) (tgTup 2 (tgCons (tgN 3) (tgCons (tgN 4) tgNil)))
  (forS (itS (nm 0)) (tgN 5)
  (seqS (ifS (tst (op2 ltI (op2 ixF (nm 4) (ret (.int 0))) (op2 ixF (op2 ixF (nm 5) (nm 3)) (ret (.int 0)))))
  (appS 2 (tupA (consA (nm 3) (consA (op2 subI (op2 ixF (op2 ixF (nm 5) (nm 3)) (ret (.int 0))) (ret (.int 1))) nilA)))) (ret .nx))
  (ifS (tst (op2 ltI (op2 ixF (op2 ixF (nm 5) (nm 3)) (ret (.int 1))) (op2 ixF (nm 4) (ret (.int 1)))))
  (appS 2 (tupA (consA (nm 3) (consA (op2 ixF (op2 ixF (nm 5) (nm 3)) (ret (.int 1))) nilA)))) (ret .nx)))))
  (retS (fn1 minlF (consA (nm 2) nilA)))))
noncomputable def xB:List R->Option (R×List R):=fnD 6 2 xU
noncomputable def xY:M Fl:=
 (seqS (setV 3 (sl3 slF (nm 0) (ret none) (prt (nm 1))))
  (seqS (setV 4 (sl3 slF (nm 0) (prt (op2 addF (nm 1) (ret (.int 1)))) (ret none)))
  (seqS (setV 5 (op2 ixF (op2 ixF (nm 0) (nm 1)) (ret (.int 0))))
  (seqS (setV 6 (op2 ixF (op2 ixF (nm 0) (nm 1)) (ret (.int 1))))
  (retS (tupA (consA (op2 addF (op2 addF (nm 3) (tupA (consA (tupA (consA (nm 5) (consA (nm 2) nilA))) nilA))) (nm 4)) (consA (op2 addF (op2 addF (nm 3) (tupA (consA (tupA (consA (op2 addF (nm 2) (ret (.int 1))) (consA (nm 6) nilA))) nilA))) (nm 4)) nilA))))))))
noncomputable def wo:List R->Option (R×List R):=fnD 7 3 xY
noncomputable def wC(g:List R->Option (R×List R)):M Fl:=
 (seqS (setV 3 (frz (compO 1 (itS (nm 1)) (tgN 0) (tst (op2 (isNF true) (fn1 (cvF xf) (consA (op2 ixF (nm 1) (nm 0)) (consA (nm 3) nilA))) (ret .non))) (nm 0))))
  (seqS (ifS (tst (op2 (eqF false) (fn1 lenF (consA (nm 3) nilA)) (ret (.int 0))))
  (retS (tupA (consA (ret (.str "out")) (consA (fn1 tupF (consA (frz (compO 1 (itS (nm 2)) (tgN 0) (ret true) (op2 ixF (nm 0) (ret (.int 0))))) nilA)) nilA)))) (ret .nx))
  (seqS (forS (itS (nm 3)) (tgN 4)
  (ifS (tst (fn1 (cvF vN) (consA (op2 ixF (nm 0) (nm 4)) (consA (nm 2) nilA))))
  (retS (tupA (consA (ret (.str "in")) (consA (tupA (consA (ret (.str "by")) (consA (nm 4) nilA))) nilA)))) (ret .nx)))
  (seqS (setV 5 (fn1 (cvF xB) (consA (frz (compO 1 (itS (nm 3)) (tgN 0) (ret true) (op2 ixF (nm 1) (nm 0)))) (consA (nm 2) nilA))))
  (seqS (setV 6 (fn1 (cvF wo) (consA (nm 2) (consA (op2 ixF (nm 5) (ret (.int 0))) (consA (op2 ixF (nm 5) (ret (.int 1))) nilA)))))
  (seqS (setV 7 (fn1 (cvF g) (consA (nm 0) (consA (nm 3) (consA (op2 ixF (nm 6) (ret (.int 0))) nilA)))))
  (seqS (ifS (tst (op2 (eqF false) (op2 ixF (nm 7) (ret (.int 0))) (ret (.str "out"))))
  (retS (nm 7)) (ret .nx))
  (seqS (setV 8 (fn1 (cvF g) (consA (nm 0) (consA (nm 3) (consA (op2 ixF (nm 6) (ret (.int 1))) nilA)))))
  (seqS (ifS (tst (op2 (eqF false) (op2 ixF (nm 8) (ret (.int 0))) (ret (.str "out"))))
  (retS (nm 8)) (ret .nx))
  (retS (tupA (consA (ret (.str "in")) (consA (tupA (consA (ret (.str "cut")) (consA (op2 ixF (nm 5) (ret (.int 0))) (consA (op2 ixF (nm 5) (ret (.int 1))) (consA (op2 ixF (nm 7) (ret (.int 1))) (consA (op2 ixF (nm 8) (ret (.int 1))) nilA)))))) nilA)))))))))))))
noncomputable def ur:Nat->List R->Option (R×List R)
 | 0=>λ_=>none
 | k+1=>fnD 9 3 (wC (ur k))
noncomputable def y6:M Fl:=
 (seqS (dropS (fn1 (cvF sR) (consA (frz (op2 catF (frz (lstA (consA (nm 1) nilA))) (nm 0))) nilA)))
  (retS (fn1 (cvF (ur 40)) (consA (nm 0) (consA (frz (fn1 rngI1 (consA (fn1 lenF (consA (nm 0) nilA)) nilA))) (consA (nm 1) nilA))))))
noncomputable def vp:List R->Option (R×List R):=fnD 2 2 y6
noncomputable def xl:M Fl:=
 (seqS (setY 1 (fn1 (coF vo) (consA (nm 0) nilA)))
  (seqS (cpS 2 1)
  (seqS (forS (itS (nm 1)) (tgN 3)
  (seqS (setY 4 (compO 1 (itS (nm 2)) (tgN 0) (tst (op2 (eqF true) (nm 0) (nm 4))) (nm 0)))
  (ifS (tst (op2 (eqF false) (op2 ixF (fn1 (cvF vp) (consA (nm 4) (consA (nm 3) nilA))) (ret (.int 0))) (ret (.str "in"))))
  (cpS 2 4) (ret .nx))))
  (retY 2))))
noncomputable def wO:List R->Option (R×List R):=fnD 5 1 xl
noncomputable def zZ:M Fl:=
 (ifS (notT (tst (chn leI ltI (ret (.int 0)) (nm 1) (op2 ixF (nm 0) (ret (.int 0))))))
  (λ_=>none) (ret .nx))
noncomputable def uI:List R->Option (R×List R):=fnD 2 2 zZ
noncomputable def Ah:M Fl:=
 (seqS (dropS (fn1 (cvF uI) (consA (nm 0) (consA (nm 1) nilA))))
  (retO (fn1 sortF (consA (frz (compO 1 (itS (op2 ixF (nm 0) (ret (.int 1)))) (tgN 0) (tst (op2 (inF false) (nm 2) (nm 0))) (ifV (tst (op2 (eqF false) (op2 ixF (nm 0) (ret (.int 0))) (nm 2))) (op2 ixF (nm 0) (ret (.int 1))) (op2 ixF (nm 0) (ret (.int 0)))))) nilA))))
noncomputable def vk:List R->Option (R×List R):=fnD 2 2 Ah
noncomputable def xu(g:List R->Option (R×List R)):M Fl:=
 (seqS (ifS (tst (op2 (eqF false) (nm 2) (nm 3)))
  (retO (lstA (consA (nm 2) nilA))) (ret .nx))
  (seqS (forS (itS (frz (fn1 (coF vk) (consA (nm 0) (consA (nm 2) nilA))))) (tgN 4)
  (ifS (tst (op2 (eqF true) (nm 4) (nm 1)))
  (seqS (setV 5 (altM (frz (fn1 (coF g) (consA (nm 0) (consA (nm 2) (consA (nm 4) (consA (nm 3) nilA)))))) (fn1 (cvF g) (consA (nm 0) (consA (nm 2) (consA (nm 4) (consA (nm 3) nilA)))))))
  (ifS (tst (op2 (isNF true) (nm 5) (ret .non)))
  (retO (op2 catF (frz (lstA (consA (nm 2) nilA))) (nm 5))) (ret .nx))) (ret .nx)))
  (retS (ret .non))))
noncomputable def ug:Nat->List R->Option (R×List R)
 | 0=>λ_=>none
 | k+1=>fnD 6 4 (xu (ug k))
noncomputable def z9:M Fl:=
 (seqS (dropS (fn1 (cvF uI) (consA (nm 0) (consA (nm 1) nilA))))
  (seqS (dropS (fn1 (cvF uI) (consA (nm 0) (consA (nm 2) nilA))))
  (altM (retO (fn1 (coF (ug 21)) (consA (nm 0) (consA (ret .non) (consA (nm 1) (consA (nm 2) nilA)))))) (retS (fn1 (cvF (ug 21)) (consA (nm 0) (consA (ret .non) (consA (nm 1) (consA (nm 2) nilA)))))))))
noncomputable def vw:List R->Option (R×List R):=fnD 3 3 z9
noncomputable def zT:M Fl:=
 (seqS (ifS (tst (op2 (eqF false) (nm 0) (ret (.str "spare"))))
  (retO (fn1 (coF wO) (consA (nm 1) nilA))) (ret .nx))
  (retO (fn1 (coF vo) (consA (nm 1) nilA))))
noncomputable def xR:List R->Option (R×List R):=fnD 2 2 zT
noncomputable def z8:M Fl:=
 (retO (compO 1 (itS (nm 0)) (tgN 0) (ret true) (op2 ixF (nm 0) (ret (.int 1)))))
noncomputable def u5:List R->Option (R×List R):=fnD 1 1 z8
noncomputable def xo(g:List R->Option (R×List R)):M Fl:=
 (seqS (setO 5 (fn1 (coF u5) (consA (frz (compO 1 (itS (nm 1)) (tgN 0) (tst (op2 (eqF false) (op2 ixF (nm 0) (ret (.int 0))) (nm 5))) (nm 0))) nilA)))
  (seqS (forS (itS (frz (fn1 (coF vk) (consA (nm 0) (consA (nm 4) nilA))))) (tgN 6)
  (ifS (tst (op2 (eqF true) (nm 6) (nm 3)))
  (extS 5 (frz (fn1 (coF g) (consA (nm 0) (consA (nm 1) (consA (nm 2) (consA (nm 4) (consA (nm 6) nilA)))))))) (ret .nx)))
  (retO (fn1 (coF xR) (consA (nm 2) (consA (nm 5) nilA))))))
noncomputable def vh:Nat->List R->Option (R×List R)
 | 0=>λ_=>none
 | k+1=>fnD 7 5 (xo (vh k))
noncomputable def yt:M Fl:=
 (retO (compO 1 (itS (frz (fn1 (coF (vh 20)) (consA (nm 0) (consA (nm 1) (consA (nm 2) (consA (nm 3) (consA (nm 4) nilA)))))))) (tgN 0) (tst (fn1 (cvF ut) (consA (nm 0) (consA (nm 6) nilA)))) (nm 0)))
noncomputable def v6:List R->Option (R×List R):=fnD 6 6 yt
noncomputable def wB(g:List R->Option (R×List R)):M Fl:=
 (seqS (setO 6 (lstA nilA))
  (seqS (forS (itS (frz (fn1 (coF vk) (consA (nm 0) (consA (nm 4) nilA))))) (tgN 7)
  (ifS (andT (tst (op2 (eqF true) (nm 7) (nm 3))) (tst (op2 gtI (fn1 lenF (consA (frz (fn1 (coF v6) (consA (nm 0) (consA (nm 1) (consA (nm 2) (consA (nm 4) (consA (nm 7) (consA (nm 5) nilA)))))))) nilA)) (ret (.int 0)))))
  (seqS (appS 6 (tupA (consA (nm 4) (consA (nm 7) nilA))))
  (extS 6 (fn1 (cvF g) (consA (nm 0) (consA (nm 1) (consA (nm 2) (consA (nm 4) (consA (nm 7) (consA (nm 5) nilA))))))))) (ret .nx)))
  (retS (nm 6))))
noncomputable def t8:Nat->List R->Option (R×List R)
 | 0=>λ_=>none
 | k+1=>fnD 8 6 (wB (t8 k))
noncomputable def An:M Fl:=
 (seqS (dropS (fn1 (cvF sR) (consA (frz (op2 catF (frz (lstA (consA (nm 4) nilA))) (frz (fn1 (coF u5) (consA (nm 1) nilA))))) nilA)))
  (seqS (dropS (fn1 (cvF uI) (consA (nm 0) (consA (nm 3) nilA))))
  (seqS (setV 5 (frz (fn1 sortF (consA (fn1 (cvF (t8 20)) (consA (nm 0) (consA (nm 1) (consA (nm 2) (consA (ret .non) (consA (nm 3) (consA (nm 4) nilA))))))) nilA))))
  (seqS (setV 6 (frz (op2 catF (frz (lstA (consA (nm 3) nilA))) (frz (compO 1 (itS (nm 5)) (tgN 0) (ret true) (op2 ixF (nm 0) (ret (.int 1))))))))
  (seqS (setV 7 (frz (compO 2 (fn1 enumI (consA (nm 1) nilA)) (tgTup 2 (tgCons (tgN 0) (tgCons (tgN 1) tgNil))) (andT (tst (op2 (inF false) (op2 ixF (nm 1) (ret (.int 0))) (nm 8))) (tst (fn1 (cvF ut) (consA (op2 ixF (nm 1) (ret (.int 1))) (consA (nm 6) nilA))))) (nm 0))))
  (retS (tupA (consA (nm 5) (consA (nm 7) nilA)))))))))
noncomputable def wI:List R->Option (R×List R):=fnD 8 5 An
noncomputable def zY:M Fl:=
 (seqS (setV 6 (fn1 (cvF wI) (consA (nm 0) (consA (nm 1) (consA (nm 2) (consA (nm 3) (consA (nm 4) nilA)))))))
  (seqS (ifS (notT (tst (chn leI ltI (ret (.int 0)) (nm 5) (fn1 lenF (consA (nm 1) nilA)))))
  (λ_=>none) (ret .nx))
  (seqS (ifS (tst (op2 (inF true) (nm 5) (op2 ixF (nm 6) (ret (.int 1)))))
  (retS (ret .non)) (ret .nx))
  (seqS (setV 7 (altM (frz (fn1 (coF vw) (consA (nm 0) (consA (nm 3) (consA (op2 ixF (op2 ixF (nm 1) (nm 5)) (ret (.int 0))) nilA))))) (fn1 (cvF vw) (consA (nm 0) (consA (nm 3) (consA (op2 ixF (op2 ixF (nm 1) (nm 5)) (ret (.int 0))) nilA))))))
  (retO (compO 2 (fn1 zipI (consA (nm 7) (consA (sl3 slF (nm 7) (prt (ret (.int 1))) (ret none)) nilA))) (tgTup 2 (tgCons (tgN 0) (tgCons (tgN 1) tgNil))) (ret true) (tupA (consA (nm 0) (consA (nm 1) (consA (op2 ixF (frz (fn1 (coF v6) (consA (nm 2) (consA (nm 3) (consA (nm 4) (consA (nm 0) (consA (nm 1) (consA (nm 6) nilA)))))))) (ret (.int 0))) nilA))))))))))
noncomputable def uy:List R->Option (R×List R):=fnD 8 6 zY
noncomputable def yE:M Fl:=
 (seqS (ifS (tst (op2 geI (nm 0) (op2 powI (ret (.int 10)) (ret (.int 18)))))
  (retS (nm 0)) (ret .nx))
  (seqS (setV 2 (op2 modI (op2 addF (op2 addF (op2 mulI (op2 modI (nm 0) (ret (.int 998244353))) (ret (.int 40692))) (op2 mulI (nm 1) (ret (.int 69621)))) (ret (.int 1009))) (ret (.int 2147483399))))
  (seqS (setV 3 (op2 modI (op2 addF (op2 addF (op2 mulI (nm 2) (nm 2)) (op2 mulI (nm 1) (ret (.int 48271)))) (op2 modI (nm 0) (ret (.int 131071)))) (ret (.int 2147483647))))
  (seqS (setV 4 (op2 modI (op2 addF (op2 addF (op2 mulI (nm 3) (nm 3)) (op2 mulI (nm 2) (ret (.int 17)))) (ret (.int 3))) (ret (.int 2147483629))))
  (retS (op2 addF (op2 mulI (op2 addF (op2 mulI (nm 2) (ret (.int 2147483647))) (nm 3)) (ret (.int 2147483629))) (nm 4)))))))
noncomputable def vO:List R->Option (R×List R):=fnD 5 2 yE
noncomputable def zH:M Fl:=
 (seqS (setO 1 (fn1 lstF (consA (sl3 slF (nm 0) (ret none) (prt (ret (.int 12)))) nilA)))
  (seqS (forS (fn1 enumI (consA (sl3 slF (nm 0) (prt (ret (.int 12))) (prt (ret (.int 63)))) nilA)) (tgTup 2 (tgCons (tgN 2) (tgCons (tgN 3) tgNil)))
  (stS 1 (op2 modI (nm 2) (ret (.int 12))) (op2 addF (atN 1 (op2 modI (nm 2) (ret (.int 12)))) (nm 3))))
  (retO (lstA (consA (nm 1) (consA (ret (.int 0)) (consA (ret (.int 0)) nilA)))))))
noncomputable def vV:List R->Option (R×List R):=fnD 4 1 zH
noncomputable def xV:M Fl:=
 (seqS (ifS (tst (op2 ltI (atN 0 (ret (.int 2))) (nm 1)))
  (seqS (setV 2 (atN 0 (ret (.int 1))))
  (seqS (setV 3 (op2 mulI (ret (.int 11)) (nm 2)))
  (seqS (ifS (tst (op2 ltI (nm 2) (fn1 lenF (consA (atN 0 (ret (.int 0))) nilA))))
  (setV 3 (op2 ixF (atN 0 (ret (.int 0))) (nm 2))) (ifS (tst (op2 (eqF true) (atN 0 (ret (.int 0))) (frz (lstA nilA))))
  (setV 3 (op2 modI (op2 ixF (atN 0 (ret (.int 0))) (op2 modI (op2 addF (op2 mulI (nm 2) (ret (.int 7))) (ret (.int 1))) (fn1 lenF (consA (atN 0 (ret (.int 0))) nilA)))) (op2 addF (op2 powI (ret (.int 10)) (ret (.int 17))) (op2 mulI (ret (.int 3)) (nm 2))))) (ret .nx)))
  (seqS (stS 0 (ret (.int 1)) (op2 addF (nm 2) (ret (.int 1))))
  (stS 0 (ret (.int 2)) (fn1 (cvF vO) (consA (nm 3) (consA (nm 2) nilA)))))))) (ret .nx))
  (seqS (setV 4 (op2 modI (atN 0 (ret (.int 2))) (nm 1)))
  (seqS (stS 0 (ret (.int 2)) (op2 divI (atN 0 (ret (.int 2))) (nm 1)))
  (retS (nm 4)))))
noncomputable def sh:List R->Option (R×List R):=fnD 5 2 xV
noncomputable def uo(g:List R->Option (R×List R)):M Fl:=
 (seqS (ifS (orT (tst (op2 (isNF false) (nm 1) (ret .non))) (tst (op2 (isNF false) (nm 0) (ret .non))))
  (retS (andV (op2 (isNF false) (nm 1) (ret .non)) (op2 (isNF false) (nm 0) (ret .non)))) (ret .nx))
  (seqS (ifS (orT (tst (un1 (isiF .bT) (nm 1))) (tst (un1 (isiF .bT) (nm 0))))
  (retS (andV (un1 (isiF .bT) (nm 1)) (andV (un1 (isiF .bT) (nm 0)) (op2 (eqF false) (nm 0) (nm 1))))) (ret .nx))
  (seqS (ifS (orT (tst (un1 (isiF .iT) (nm 1))) (tst (un1 (isiF .sT) (nm 1))))
  (retS (andV (op2 (eqF false) (un1 (isiF .iT) (nm 0)) (un1 (isiF .iT) (nm 1))) (op2 (eqF false) (nm 0) (nm 1)))) (ret .nx))
  (seqS (ifS (orT (tst (op2 (eqF true) (un1 (isiF .tT) (nm 1)) (un1 (isiF .tT) (nm 0)))) (tst (op2 (eqF true) (un1 (isiF .lT) (nm 1)) (un1 (isiF .lT) (nm 0)))))
  (retS (ret (.bl false))) (ret .nx))
  (seqS (ifS (tst (op2 (eqF true) (fn1 lenF (consA (nm 0) nilA)) (fn1 lenF (consA (nm 1) nilA))))
  (retS (ret (.bl false))) (ret .nx))
  (retS (op2 (inF true) (ret (.bl false)) (frz (compO 2 (fn1 zipI (consA (nm 0) (consA (nm 1) nilA))) (tgTup 2 (tgCons (tgN 0) (tgCons (tgN 1) tgNil))) (ret true) (fn1 (cvF g) (consA (nm 0) (consA (nm 1) nilA))))))))))))
noncomputable def sW:Nat->List R->Option (R×List R)
 | 0=>λ_=>none
 | k+1=>fnD 2 2 (uo (sW k))
noncomputable def y0:M Fl:=
 (seqS (setO 4 (lstA nilA))
  (seqS (forS (fn1 rngI1 (consA (nm 1) nilA)) (tgN 5)
  (seqS (setV 6 (op2 addF (nm 2) (cbV 0 sh (consA (nm 3) nilA))))
  (seqS (setV 7 (op2 addF (nm 2) (cbV 0 sh (consA (nm 3) nilA))))
  (appS 4 (tupA (consA (fn1 minF (consA (nm 6) (consA (nm 7) nilA))) (consA (fn1 maxF (consA (nm 6) (consA (nm 7) nilA))) nilA)))))))
  (retS (fn1 tupF (consA (nm 4) nilA)))))
noncomputable def xH:List R->Option (R×List R):=fnD 8 4 y0
noncomputable def yp:M Fl:=
 (seqS (setV 2 (cbV 0 sh (consA (fn1 lenF (consA (nm 1) nilA)) nilA)))
  (seqS (asgS (op2 ixF (nm 1) (nm 2)) (tgTup 2 (tgCons (tgN 3) (tgCons (tgN 4) tgNil))))
  (seqS (setV 5 (frz (lstA (consA (tupA (consA (fn1 maxF (consA (ret (.int 0)) (consA (op2 subI (nm 3) (ret (.int 1))) nilA))) (consA (nm 4) nilA))) (consA (tupA (consA (nm 3) (consA (fn1 minF (consA (ret (.int 9)) (consA (op2 addF (nm 4) (ret (.int 1))) nilA))) nilA))) (consA (tupA (consA (fn1 minF (consA (op2 addF (nm 3) (ret (.int 1))) (consA (nm 4) nilA))) (consA (nm 4) nilA))) (consA (tupA (consA (nm 3) (consA (fn1 maxF (consA (nm 3) (consA (op2 subI (nm 4) (ret (.int 1))) nilA))) nilA))) nilA)))))))
  (retS (op2 addF (op2 addF (sl3 slF (nm 1) (ret none) (prt (nm 2))) (tupA (consA (op2 ixF (nm 5) (cbV 0 sh (consA (ret (.int 4)) nilA))) nilA))) (sl3 slF (nm 1) (prt (op2 addF (nm 2) (ret (.int 1)))) (ret none)))))))
noncomputable def xi:List R->Option (R×List R):=fnD 6 2 yp
noncomputable def ze:M Fl:=
 (seqS (setV 3 (fn1 minF (consA (op2 ixF (frz (lstA (consA (ret (.int 2)) (consA (ret (.int 3)) (consA (ret (.int 4)) (consA (ret (.int 10)) nilA)))))) (cbV 0 sh (consA (ret (.int 4)) nilA))) (consA (op2 ixF (frz (lstA (consA (ret (.int 10)) (consA (ret (.int 10)) (consA (ret (.int 5)) (consA (ret (.int 4)) nilA)))))) (nm 1)) nilA))))
  (seqS (setV 4 (cbV 0 sh (consA (op2 subI (ret (.int 11)) (nm 3)) nilA)))
  (seqS (setO 5 (lstA nilA))
  (seqS (forS (fn1 rngI1 (consA (cbV 0 sh (consA (op2 addF (nm 2) (ret (.int 1))) nilA)) nilA)) (tgN 6)
  (seqS (setV 7 (cbV 0 sh (consA (ret (.int 6)) nilA)))
  (seqS (setV 8 (cbV 0 xH (consA (nm 1) (consA (nm 4) (consA (nm 3) nilA)))))
  (seqS (ifS (andT (tst (op2 (eqF false) (nm 7) (ret (.int 0)))) (tst (cmpN true 5 (frz (lstA nilA)))))
  (setV 8 (atN 5 (cbV 0 sh (consA (lenN 5) nilA)))) (ret .nx))
  (seqS (ifS (andT (tst (op2 (eqF false) (nm 7) (ret (.int 1)))) (tst (cmpN true 5 (frz (lstA nilA)))))
  (setV 8 (cbV 0 xi (consA (atN 5 (cbV 0 sh (consA (lenN 5) nilA))) nilA))) (ret .nx))
  (appS 5 (nm 8)))))))
  (retS (nm 5))))))
noncomputable def wQ:List R->Option (R×List R):=fnD 9 3 ze
noncomputable def zd:M Fl:=
 (retS (op2 (eqF false) (frz (compO 2 (fn1 zipI (consA (nm 1) (consA (nm 0) nilA))) (tgTup 2 (tgCons (tgN 0) (tgCons (tgN 1) tgNil))) (orT (tst (op2 ltI (nm 0) (op2 ixF (nm 1) (ret (.int 0))))) (tst (op2 gtI (nm 0) (op2 ixF (nm 1) (ret (.int 1)))))) (ret (.int 1)))) (frz (lstA nilA))))
noncomputable def tX:List R->Option (R×List R):=fnD 2 2 zd
noncomputable def Ak:M Fl:=
 (seqS (setV 1 (frz (lstA (consA (tupA nilA) nilA))))
  (seqS (forS (itS (nm 0)) (tgTup 2 (tgCons (tgN 2) (tgCons (tgN 3) tgNil)))
  (seqS (setO 4 (lstA nilA))
  (seqS (forS (itS (nm 1)) (tgN 5)
  (extS 4 (frz (compO 1 (fn1 rngI2 (consA (nm 2) (consA (op2 addF (nm 3) (ret (.int 1))) nilA))) (tgN 0) (ret true) (op2 addF (nm 6) (tupA (consA (nm 0) nilA)))))))
  (setV 1 (nm 4)))))
  (retS (nm 1))))
noncomputable def xE:List R->Option (R×List R):=fnD 6 1 Ak
noncomputable def zg:M Fl:=
 (seqS (setV 2 (fn1 tupF (consA (frz (compO 1 (itS (nm 1)) (tgN 0) (ret true) (op2 ixF (nm 0) (ret (.int 0))))) nilA)))
  (seqS (setV 3 (fn1 tupF (consA (frz (compO 1 (itS (nm 1)) (tgN 0) (ret true) (op2 ixF (nm 0) (ret (.int 1))))) nilA)))
  (retS (andV (fn1 (cvF tX) (consA (nm 0) (consA (nm 2) nilA))) (fn1 (cvF tX) (consA (nm 0) (consA (nm 3) nilA)))))))
noncomputable def wj:List R->Option (R×List R):=fnD 4 2 zg
noncomputable def zL:M Fl:=
 (seqS (setO 1 (lstA nilA))
  (seqS (forS (itS (frz (fn1 sortF (consA (nm 0) nilA)))) (tgN 2)
  (seqS (setV 3 (frz (compO 1 (itS (nm 0)) (tgN 0) (andT (tst (op2 (eqF true) (nm 0) (nm 3))) (tst (fn1 (cvF wj) (consA (nm 0) (consA (nm 3) nilA))))) (nm 0))))
  (ifS (andT (tst (op2 (eqF false) (nm 3) (frz (lstA nilA)))) (tst (inN true 1 (nm 2))))
  (appS 1 (nm 2)) (ret .nx))))
  (retS (nm 1))))
noncomputable def xh:List R->Option (R×List R):=fnD 4 1 zL
noncomputable def zu:M Fl:=
 (seqS (setV 2 (op2 addF (ret (.int 1)) (cbV 0 sh (consA (nm 1) nilA))))
  (seqS (setV 3 (cbV 0 sh (consA (ret (.int 4)) nilA)))
  (seqS (setO 4 (fn1 rngI1 (consA (nm 2) nilA)))
  (seqS (setV 5 (frz (compO 1 (fn1 rngI1 (consA (nm 2) nilA)) (tgN 0) (ret true) (popAt 5 (consA (cbV 1 sh (consA (lenN 5) nilA)) nilA)))))
  (seqS (setO 6 (lstA nilA))
  (seqS (forS (fn1 rngI2 (consA (ret (.int 1)) (consA (nm 2) nilA))) (tgN 7)
  (seqS (setV 8 (op2 ixF (frz (lstA (consA (op2 subI (nm 7) (ret (.int 1))) (consA (ret (.int 0)) (consA (cbV 0 sh (consA (nm 7) nilA)) (consA (cbV 0 sh (consA (nm 7) nilA)) nilA)))))) (nm 3)))
  (seqS (setV 9 (tupA (consA (fn1 minF (consA (op2 ixF (nm 5) (nm 7)) (consA (op2 ixF (nm 5) (nm 8)) nilA))) (consA (fn1 maxF (consA (op2 ixF (nm 5) (nm 7)) (consA (op2 ixF (nm 5) (nm 8)) nilA))) nilA))))
  (ifS (orT (tst (op2 ltI (nm 3) (ret (.int 3)))) (tst (op2 gtI (cbV 0 sh (consA (ret (.int 4)) nilA)) (ret (.int 0)))))
  (appS 6 (nm 9)) (ret .nx)))))
  (retS (tupA (consA (nm 2) (consA (fn1 tupF (consA (frz (fn1 sortF (consA (nm 6) nilA))) nilA)) nilA))))))))))
noncomputable def xK:List R->Option (R×List R):=fnD 10 2 zu
noncomputable def zB:M Fl:=
 (seqS (setO 2 (lstA nilA))
  (seqS (forS (itS (op2 ixF (nm 0) (ret (.int 1)))) (tgTup 2 (tgCons (tgN 3) (tgCons (tgN 4) tgNil)))
  (seqS (ifS (tst (op2 (eqF false) (nm 3) (nm 1)))
  (appS 2 (nm 4)) (ret .nx))
  (ifS (tst (op2 (eqF false) (nm 4) (nm 1)))
  (appS 2 (nm 3)) (ret .nx))))
  (retO (fn1 sortF (consA (nm 2) nilA)))))
noncomputable def wc:List R->Option (R×List R):=fnD 5 2 zB
noncomputable def zU:M Fl:=
 (seqS (setV 4 (cbV 0 wQ (consA (nm 2) (consA (nm 3) nilA))))
  (retO (compO 1 (itS (nm 4)) (tgN 0) (ret true) (tupA (consA (cbV 1 sh (consA (op2 ixF (nm 2) (ret (.int 0))) nilA)) (consA (nm 0) nilA))))))
noncomputable def xc:List R->Option (R×List R):=fnD 5 4 zU
noncomputable def AL:M Fl:=
 (seqS (forS (itS (fn1 (cvF xE) (consA (nm 1) nilA))) (tgN 2)
  (ifS (tst (op2 (eqF false) (frz (compO 1 (itS (nm 0)) (tgN 0) (tst (fn1 (cvF tX) (consA (nm 0) (consA (nm 3) nilA)))) (ret (.int 1)))) (frz (lstA nilA))))
  (retS (ret (.bl false))) (ret .nx)))
  (retS (ret (.bl true))))
noncomputable def wN:List R->Option (R×List R):=fnD 3 2 AL
noncomputable def zQ:M Fl:=
 (seqS (setV 2 (fn1 (cvF xh) (consA (nm 1) nilA)))
  (seqS (setV 3 (ret (.int 0)))
  (seqS (whlS 100 (andT (tst (op2 (eqF false) (nm 0) (ret (.str "spare")))) (tst (op2 ltI (nm 3) (fn1 lenF (consA (nm 2) nilA)))))
  (seqS (setV 4 (frz (op2 catF (sl3 slF (nm 2) (ret none) (prt (nm 3))) (sl3 slF (nm 2) (prt (op2 addF (nm 3) (ret (.int 1)))) (ret none)))))
  (ifS (tst (fn1 (cvF wN) (consA (nm 4) (consA (op2 ixF (nm 2) (nm 3)) nilA))))
  (setV 2 (nm 4)) (setV 3 (op2 addF (nm 3) (ret (.int 1)))))))
  (retS (nm 2)))))
noncomputable def wY:List R->Option (R×List R):=fnD 5 2 zQ
noncomputable def wU(g:List R->Option (R×List R)):M Fl:=
 (seqS (setV 5 (frz (compO 2 (itS (nm 1)) (tgTup 2 (tgCons (tgN 0) (tgCons (tgN 1) tgNil))) (tst (op2 (eqF false) (nm 0) (nm 5))) (nm 1))))
  (seqS (forS (itS (frz (fn1 (coF wc) (consA (nm 0) (consA (nm 3) nilA))))) (tgN 6)
  (ifS (tst (op2 (eqF true) (nm 6) (nm 4)))
  (setV 5 (frz (op2 catF (nm 5) (fn1 (cvF g) (consA (nm 0) (consA (nm 1) (consA (nm 2) (consA (nm 6) (consA (nm 3) nilA))))))))) (ret .nx)))
  (retS (fn1 (cvF wY) (consA (nm 2) (consA (nm 5) nilA))))))
noncomputable def uE:Nat->List R->Option (R×List R)
 | 0=>λ_=>none
 | k+1=>fnD 7 5 (wU (uE k))
noncomputable def xJ(g:List R->Option (R×List R)):M Fl:=
 (seqS (ifS (tst (op2 (eqF false) (nm 1) (nm 2)))
  (retO (lstA (consA (nm 1) nilA))) (ret .nx))
  (seqS (forS (itS (frz (fn1 (coF wc) (consA (nm 0) (consA (nm 1) nilA))))) (tgN 4)
  (ifS (tst (op2 (eqF true) (nm 4) (nm 3)))
  (seqS (setV 5 (altM (frz (fn1 (coF g) (consA (nm 0) (consA (nm 4) (consA (nm 2) (consA (nm 1) nilA)))))) (fn1 (cvF g) (consA (nm 0) (consA (nm 4) (consA (nm 2) (consA (nm 1) nilA)))))))
  (ifS (tst (op2 (isNF true) (nm 5) (ret .non)))
  (retO (op2 catF (frz (lstA (consA (nm 1) nilA))) (nm 5))) (ret .nx))) (ret .nx)))
  (retS (ret .non))))
noncomputable def uf:Nat->List R->Option (R×List R)
 | 0=>λ_=>none
 | k+1=>fnD 6 4 (xJ (uf k))
noncomputable def Ap:M Fl:=
 (seqS (setV 6 (altM (frz (fn1 (coF (uf 21)) (consA (nm 0) (consA (nm 3) (consA (op2 ixF (op2 ixF (nm 1) (nm 5)) (ret (.int 0))) (consA (un1 negI (ret (.int 1))) nilA)))))) (fn1 (cvF (uf 21)) (consA (nm 0) (consA (nm 3) (consA (op2 ixF (op2 ixF (nm 1) (nm 5)) (ret (.int 0))) (consA (un1 negI (ret (.int 1))) nilA)))))))
  (seqS (ifS (orT (tst (op2 (isNF false) (nm 6) (ret .non))) (notT (tst (fn1 (cvF tX) (consA (op2 ixF (op2 ixF (nm 1) (nm 5)) (ret (.int 1))) (consA (nm 4) nilA))))))
  (retS (ret .non)) (ret .nx))
  (seqS (setO 7 (lstA nilA))
  (seqS (forS (fn1 zipI (consA (nm 6) (consA (sl3 slF (nm 6) (prt (ret (.int 1))) (ret none)) nilA))) (tgTup 2 (tgCons (tgN 8) (tgCons (tgN 9) tgNil)))
  (seqS (setV 10 (frz (compO 1 (itS (getR 2 (tupA (consA (nm 8) (consA (nm 9) nilA))))) (tgN 0) (tst (fn1 (cvF tX) (consA (nm 0) (consA (nm 5) nilA)))) (nm 0))))
  (appS 7 (tupA (consA (nm 8) (consA (nm 9) (consA (op2 ixF (nm 10) (ret (.int 0))) nilA)))))))
  (retS (nm 7))))))
noncomputable def ux:List R->Option (R×List R):=fnD 11 6 Ap
noncomputable def AF:M Fl:=
 (seqS (setK 3 dlit0)
  (seqS (forS (itS (op2 ixF (nm 0) (ret (.int 1)))) (tgTup 2 (tgCons (tgN 4) (tgCons (tgN 5) tgNil)))
  (seqS (putP 3 (tupA (consA (nm 4) (consA (nm 5) nilA))) (fn1 (cvF (uE 20)) (consA (nm 0) (consA (nm 1) (consA (nm 2) (consA (nm 5) (consA (nm 4) nilA)))))))
  (putP 3 (tupA (consA (nm 5) (consA (nm 4) nilA))) (fn1 (cvF (uE 20)) (consA (nm 0) (consA (nm 1) (consA (nm 2) (consA (nm 4) (consA (nm 5) nilA)))))))))
  (retK 3)))
noncomputable def vU:List R->Option (R×List R):=fnD 6 3 AF
noncomputable def zv:M Fl:=
 (seqS (setO 1 (fn1 (coF vV) (consA (nm 0) nilA)))
  (seqS (forS (fn1 rngI1 (consA (ret (.int 3)) nilA)) (tgN 2)
  (seqS (setV 3 (op2 addF (ret (.int 1)) (cbV 1 sh (consA (ret (.int 3)) nilA))))
  (seqS (setV 4 (cbV 1 xK (consA (ret (.int 6)) nilA)))
  (seqS (setV 5 (frz (cbO 1 xc (consA (nm 4) (consA (nm 3) (consA (ret (.int 6)) nilA))))))
  (seqS (setO 6 (lstA (consA (fn1 tupF (consA (frz (compO 1 (fn1 rngI1 (consA (nm 3) nilA)) (tgN 0) (ret true) (cbV 2 sh (consA (ret (.int 10)) nilA)))) nilA)) nilA)))
  (seqS (forS (itS (nm 5)) (tgTup 2 (tgCons (tgN 7) (tgCons (tgN 8) tgNil)))
  (appS 6 (fn1 tupF (consA (frz (compO 1 (itS (nm 8)) (tgN 0) (ret true) (op2 ixF (nm 0) (cbV 2 sh (consA (ret (.int 2)) nilA))))) nilA))))
  (seqS (setV 9 (cbV 1 sh (consA (op2 ixF (nm 4) (ret (.int 0))) nilA)))
  (seqS (setV 10 (atN 6 (cbV 1 sh (consA (lenN 6) nilA))))
  (forS (itS (frz (lstA (consA (ret (.str "roof")) (consA (ret (.str "spare")) nilA))))) (tgN 11)
  (seqS (setK 12 (fn1 (ckF vU) (consA (nm 4) (consA (nm 5) (consA (nm 11) nilA)))))
  (forS (fn1 rngI1 (consA (fn1 lenF (consA (nm 5) nilA)) nilA)) (tgN 13)
  (seqS (setV 14 (callR 12 ux (nm 4) (nm 5) (consA (nm 9) (consA (nm 10) (consA (nm 13) nilA)))))
  (seqS (setV 15 (frz (fn1 lstF (consA (nm 5) nilA))))
  (seqS (setV 16 (altM (frz (fn1 (coF uy) (consA (nm 4) (consA (nm 15) (consA (nm 11) (consA (nm 9) (consA (nm 10) (consA (nm 13) nilA)))))))) (fn1 (cvF uy) (consA (nm 4) (consA (nm 15) (consA (nm 11) (consA (nm 9) (consA (nm 10) (consA (nm 13) nilA)))))))))
  (ifS (orT (notT (tst (fn1 (cvF (sW 8)) (consA (nm 16) (consA (nm 14) nilA))))) (tst (op2 (eqF true) (nm 15) (nm 5))))
  (retS (ret (.bl false))) (ret .nx))))))))))))))))
  (retS (ret (.bl true)))))
noncomputable def uu:List R->Option (R×List R):=fnD 17 1 zv
theorem nk{N:List Str}(h:decide N.Nodup=true:=by kernel_rfl):N.Nodup:=of_decide_eq_true h
theorem en(i:Nat){B:BB}(hN:X.N[i]?=some x:=by rfl)(hv:visB X.env.scope x=true:=by rfl)(hd:(x == ("__debug__":Str))=false:=by decide)(cu:(x == ("__classdict__":Str))=false:=by decide):ED X B (.Name x pos) (nm i):=Ir (pv i hN hv hd cu)
noncomputable def top(i:Nat):Qo:=PySem.Challenge.pw_roofpost_k30_chains_to_holds.main.body.getD i (.Pass ⟨0,0,0,0⟩)
noncomputable abbrev zm:Qo:=top 6
noncomputable abbrev Am:Qo:=top 7
noncomputable abbrev Aj:Qo:=top 8
noncomputable abbrev yb:Qo:=top 9
noncomputable abbrev yV:Qo:=top 10
noncomputable abbrev Ax:Qo:=top 11
noncomputable abbrev yq:Qo:=top 13
noncomputable abbrev wM:Qo:=top 14
noncomputable abbrev yy:Qo:=top 15
noncomputable abbrev yM:Qo:=top 16
noncomputable abbrev AH:Qo:=top 17
noncomputable abbrev yQ:Qo:=top 19
noncomputable abbrev zy:Qo:=top 20
noncomputable abbrev Ab:Qo:=top 21
noncomputable abbrev wZ:Qo:=top 22
noncomputable abbrev Af:Qo:=top 24
noncomputable abbrev zD:Qo:=top 25
noncomputable abbrev xx:Qo:=top 26
noncomputable abbrev yl:Qo:=top 27
noncomputable abbrev wV:Qo:=top 28
noncomputable abbrev yz:Qo:=top 29
noncomputable abbrev zq:Qo:=top 30
noncomputable abbrev AS:Qo:=top 32
noncomputable abbrev AG:Qo:=top 33
noncomputable abbrev zp:Qo:=top 34
noncomputable abbrev wm:Qo:=top 35
noncomputable abbrev yK:Qo:=top 36
noncomputable abbrev zF:Qo:=top 37
noncomputable abbrev zK:Qo:=top 38
noncomputable abbrev AN:Qo:=top 39
noncomputable abbrev yj:Qo:=top 40
noncomputable abbrev yF:Qo:=top 41
noncomputable abbrev yA:Qo:=top 42
noncomputable abbrev zV:Qo:=top 43
noncomputable abbrev zS:Qo:=top 44
noncomputable abbrev zk:Qo:=top 46
noncomputable abbrev xX:Qo:=top 47
noncomputable abbrev yi:Qo:=top 48
noncomputable abbrev wf:Qo:=top 49
noncomputable abbrev xm:Qo:=top 50
noncomputable abbrev AT:Qo:=top 51
noncomputable abbrev zR:Qo:=top 52
noncomputable abbrev zE:Qo:=top 53
structure Cd(P:A_)(w:I_)(K:PySem.W.Frag)(mg:Str->Option b_)(base:L_)(k:Nat)(f:l_)(fd:Rp)(ps:List Str)(g:List R->Option (R×List R))(x:Str):Prop where
 G:FnOk P w K mg base CX0 k f fd ps (spD K g)
 b:Binds K fd ps []
 p:Re K (.ref f)=true
 m:mg x=some (.ref f)
abbrev uX(P w K mg base f fd):=Cd P w K mg base 2 f fd ["things"] sR "must_be_kin"
abbrev Bi(P w K mg base f fd):=Cd P w K mg base 3 f fd ["wish", "letter"] ut "has_letter"
abbrev yH(P w K mg base f fd):=Cd P w K mg base 3 f fd ["one", "other"] vN "covers"
abbrev EI(P w K mg base f fd):=Cd P w K mg base 3 f fd ["one", "other"] xf "in_common"
abbrev B7(P w K mg base f fd):=Cd P w K mg base 5 f fd ["wishes"] vo "roof_of"
abbrev K6(P w K mg base f fd):=Cd P w K mg base 4 f fd ["wishes", "wish"] xj "is_under_another"
abbrev MQ(P w K mg base f fd):=Cd P w K mg base 46 f fd ["wishes", "wish"] vp "covered"
abbrev MK(P w K mg base f fd):=Cd P w K mg base 45 f fd ["wishes", "numbers", "part"] (ur 40) "looked_through"
abbrev Ci(P w K mg base f fd):=Cd P w K mg base 2 f fd ["wishes", "part"] xB "first_border"
abbrev Br(P w K mg base f fd):=Cd P w K mg base 2 f fd ["part", "field", "at"] wo "halves_of"
abbrev FY(P w K mg base f fd):=Cd P w K mg base 47 f fd ["wishes"] wO "spare_of"
abbrev Aw(P w K mg base f fd):=Cd P w K mg base 2 f fd ["web", "house"] uI "must_be_house"
abbrev u3(P w K mg base f fd):=Cd P w K mg base 3 f fd ["web", "house"] vk "neighbours_of"
abbrev Ie(P w K mg base f fd):=Cd P w K mg base 27 f fd ["web", "one", "other"] vw "way_between"
abbrev Fp(P w K mg base f fd):=Cd P w K mg base 26 f fd ["web", "came", "house", "other"] (ug 21) "way_on"
abbrev CL(P w K mg base f fd):=Cd P w K mg base 48 f fd ["how", "wishes"] xR "short_of"
abbrev zt(P w K mg base f fd):=Cd P w K mg base 2 f fd ["holds"] u5 "wishes_of"
abbrev Lw(P w K mg base f fd):=Cd P w K mg base 70 f fd ["web", "holds", "how", "house", "neighbour"] (vh 20) "heard_of"
abbrev Fc(P w K mg base f fd):=Cd P w K mg base 94 f fd ["web", "holds", "how", "house", "letter"] wI "led_by"
abbrev Lq(P w K mg base f fd):=Cd P w K mg base 93 f fd ["web", "holds", "how", "came", "house", "letter"] (t8 20) "roads_on"
abbrev yP(P w K mg base f fd):=Cd P w K mg base 71 f fd ["web", "holds", "how", "house", "neighbour", "letter"] v6 "leading"
abbrev FE(P w K mg base f fd):=Cd P w K mg base 95 f fd ["web", "holds", "how", "house", "letter", "number"] uy "chain_to"
abbrev Jx(P w K mg base f fd):=Cd P w K mg base 2 f fd ["cell", "at"] vO "_law_blend"
abbrev II(P w K mg base f fd):=Cd P w K mg base 2 f fd ["script"] vV "_law_pot"
abbrev vm(P w K mg base f fd):=Cd P w K mg base 3 f fd ["pot", "upto"] sh "_law_pick"
abbrev HG(P w K mg base f fd):=Cd P w K mg base 11 f fd ["found", "due"] (sW 8) "_law_same"
abbrev GM(P w K mg base f fd):=Cd P w K mg base 4 f fd ["pot", "fields", "low", "top"] xH "_law_wish"
abbrev K8(P w K mg base f fd):=Cd P w K mg base 5 f fd ["pot", "fields", "most"] wQ "_law_wishes"
abbrev NA(P w K mg base f fd):=Cd P w K mg base 4 f fd ["pot", "wish"] xi "_law_nudged"
abbrev yB(P w K mg base f fd):=Cd P w K mg base 2 f fd ["wish", "letter"] tX "_law_has"
abbrev J9(P w K mg base f fd):=Cd P w K mg base 2 f fd ["wish"] xE "_law_letters"
abbrev HW(P w K mg base f fd):=Cd P w K mg base 3 f fd ["one", "other"] wj "_law_covers"
abbrev Gq(P w K mg base f fd):=Cd P w K mg base 4 f fd ["wishes"] xh "_law_roof"
abbrev Lv(P w K mg base f fd):=Cd P w K mg base 4 f fd ["pot", "most"] xK "_law_web"
abbrev xp(P w K mg base f fd):=Cd P w K mg base 2 f fd ["web", "house"] wc "_law_beside"
abbrev FH(P w K mg base f fd):=Cd P w K mg base 6 f fd ["pot", "web", "fields", "most"] xc "_law_holds"
abbrev M7(P w K mg base f fd):=Cd P w K mg base 3 f fd ["wishes", "wish"] wN "_law_all_had"
abbrev Be(P w K mg base f fd):=Cd P w K mg base 5 f fd ["how", "wishes"] wY "_law_short"
abbrev IJ(P w K mg base f fd):=Cd P w K mg base 27 f fd ["web", "holds", "how", "house", "neighbour"] (uE 20) "_law_told_by"
abbrev GP(P w K mg base f fd):=Cd P w K mg base 25 f fd ["web", "one", "other", "ahead"] (uf 21) "_law_way"
abbrev F3(P w K mg base f fd):=Cd P w K mg base 26 f fd ["web", "holds", "lists", "house", "letter", "number"] ux "_law_due"
abbrev KM(P w K mg base f fd):=Cd P w K mg base 28 f fd ["web", "holds", "how"] vU "_law_lists"
section
variable{P:A_}{w:I_}{K:PySem.W.Frag}
theorem GB:FnScope ["things", "thing"] ["things"] (defScope zm):=⟨rfl,rfl,rfl,by decide +kernel,rfl,by decide +kernel,by decide +kernel⟩
theorem FZ(F:Fun K "must_be_kin" "must_be_kin" zm f fd)(ak:mg "len"=none):FnOk P w K mg base CX0 2 f fd ["things"] (spD K sR):=
 rP (k:=1) (N:=["things", "thing"]) F GB At (λaA A outer s H E B hr=>rQ
  (rF (se RE rfl (rT (en 0)) (gd_n (i:=1) (m:=100) nk)
  (rF (rR (sN hr (sM rfl ak (f' (en 1) gs rfl)) (sM rfl ak (f' (rH (en 0) gV) gs rfl)))
  (rF (rE Aa)) rS)))))
theorem FJ:FnScope ["wish", "letter"] ["wish", "letter"] (defScope Am):=⟨rfl,rfl,rfl,by decide +kernel,rfl,by decide +kernel,by decide +kernel⟩
theorem Lg(F:Fun K "has_letter" "has_letter" Am f fd){aW' aR'}(ba:uX P w K mg base aW' aR')(aJ:mg "zip"=none)(cE:mg "all"=none):FnOk P w K mg base CX0 3 f fd ["wish", "letter"] (spD K ut):=
 rP (k:=2) (N:=["wish", "letter"]) F FJ zW (λaA A outer s H E B hr=>rQ
  (qL (rE (tF (rN ba.G (hr.mono (by decide)) rfl ba.m ba.p ba.b (f' (rK (rV (f' (en 0) (f' (en 1) gs rfl) rfl))) gs rfl))))
  (rF (rE (rO (DE rfl rfl cE (f' (rK (su (N':=["pair", "number", "-wish", "-letter"]) (m:=2) (CompScope.of (by kernel_rfl)) rfl (uw rfl aJ (f' (en 0) (f' (en 1) gs rfl) rfl)) (λ_ _ _ _=>(sE (m:=2) rfl (rX (gd_n (i:=0) (m:=2) nk) (rX (gd_n (i:=1) (m:=2) nk) sH)))) (λ_ _ _ _=>sD) (λ_ _ _ _=>(Nn (rH (en 0) gV) (en 1) (rH (en 0) gV))))) gs rfl)))))))
theorem KH:FnScope ["one", "other"] ["one", "other"] (defScope Aj):=⟨rfl,rfl,rfl,by decide +kernel,rfl,by decide +kernel,by decide +kernel⟩
theorem FB(F:Fun K "covers" "covers" Aj f fd){aW' aR'}(ba:uX P w K mg base aW' aR')(aJ:mg "zip"=none)(cE:mg "all"=none):FnOk P w K mg base CX0 3 f fd ["one", "other"] (spD K vN):=
 rP (k:=2) (N:=["one", "other"]) F KH yL (λaA A outer s H E B hr=>rQ
  (qL (rE (tF (rN ba.G (hr.mono (by decide)) rfl ba.m ba.p ba.b (f' (rK (rV (f' (en 0) (f' (en 1) gs rfl) rfl))) gs rfl))))
  (rF (rE (rO (DE rfl rfl cE (f' (rK (su (N':=["wide", "pair", "-one", "-other"]) (m:=2) (CompScope.of (by kernel_rfl)) rfl (uw rfl aJ (f' (en 0) (f' (en 1) gs rfl) rfl)) (λ_ _ _ _=>(sE (m:=2) rfl (rX (gd_n (i:=0) (m:=2) nk) (rX (gd_n (i:=1) (m:=2) nk) sH)))) (λ_ _ _ _=>sD) (λ_ _ _ _=>(uv (Dl (rH (en 0) gV) (rH (en 1) gV)) (uR (Dl (rH (en 1) gV) (rH (en 0) gV))))))) gs rfl)))))))
theorem Mz:FnScope ["one", "other", "shared", "pair", "twin", "low", "high"] ["one", "other"] (defScope yb):=⟨rfl,rfl,rfl,by decide +kernel,rfl,by decide +kernel,by decide +kernel⟩
theorem Me(F:Fun K "in_common" "in_common" yb f fd){aW' aR'}(ba:uX P w K mg base aW' aR')(aJ:mg "zip"=none)(bc:mg "max"=none)(aP:mg "min"=none)(ay:mg "tuple"=none):FnOk P w K mg base CX0 3 f fd ["one", "other"] (spD K xf):=
 rP (k:=2) (N:=["one", "other", "shared", "pair", "twin", "low", "high"]) F Mz yU (λaA A outer s H E B hr=>rQ
  (qL (rE (tF (rN ba.G (hr.mono (by decide)) rfl ba.m ba.p ba.b (f' (rK (rV (f' (en 0) (f' (en 1) gs rfl) rfl))) gs rfl))))
  (qL (rE (sJ (i:=2) nk (rV gs)))
  (qL (se RE rfl (uw rfl aJ (f' (en 0) (f' (en 1) gs rfl) rfl)) (sE (m:=100) rfl (rX (gd_n (i:=3) (m:=100) nk) (rX (gd_n (i:=4) (m:=100) nk) sH)))
  (qL (rL (i:=5) nk (vR rfl rfl bc (f' (rH (en 3) gV) (f' (rH (en 4) gV) gs rfl) rfl)))
  (qL (rL (i:=6) nk (uY rfl rfl aP (f' (rH (en 3) gV) (f' (rH (en 4) gV) gs rfl) rfl)))
  (qL (rR (wx (en 5) (en 6))
  (rF (rE (rO sC))) rS)
  (rF (rE (sS (pv 2) (rY (f' (en 5) (f' (en 6) gs rfl) rfl)))))))))
  (rF (rE (rO (ud rfl ay (f' (en 2) gs rfl)))))))))
theorem LJ:FnScope ["wishes", "unlike"] ["wishes"] (defScope yV):=⟨rfl,rfl,rfl,by decide +kernel,rfl,by decide +kernel,by decide +kernel⟩
theorem Hy(F:Fun K "roof_of" "roof_of" yV f fd){aW' aR'}(ba:uX P w K mg base aW' aR'){hF' gA'}(iN:K6 P w K mg base hF' gA')(aD:mg "sorted"=none)(eW:mg "set"=none):FnOk P w K mg base CX0 5 f fd ["wishes"] (spD K vo):=
 rP (k:=4) (N:=["wishes", "unlike"]) F LJ yw (λaA A outer s H E B hr=>rQ
  (qL (rE (tF (rN ba.G (hr.mono (by decide)) rfl ba.m ba.p ba.b (f' (en 0) gs rfl))))
  (qL (rL (i:=1) nk (rK (FG hr rfl aD rfl eW (f' (en 0) gs rfl))))
  (rF (rE (sF (su (N':=["wish", "-wishes", "unlike"]) (m:=1) (CompScope.of (by kernel_rfl)) rfl (rT (en 1)) (λ_ _ _ _=>(gd_n (i:=0) (m:=1) nk)) (λ_ _ _ _=>(sU (vq (sL (rN iN.G (hr.mono (by decide)) rfl iN.m iN.p iN.b (f' (en 2) (f' (en 0) gs rfl) rfl)))))) (λ_ _ _ _=>(en 0)))))))))
theorem M5:FnScope ["wishes", "wish"] ["wishes", "wish"] (defScope Ax):=⟨rfl,rfl,rfl,by decide +kernel,rfl,by decide +kernel,by decide +kernel⟩
theorem M9(F:Fun K "is_under_another" "is_under_another" Ax f fd){e7' dU'}(cN:yH P w K mg base e7' dU')(eX:mg "any"=none):FnOk P w K mg base CX0 4 f fd ["wishes", "wish"] (spD K xj):=
 rP (k:=3) (N:=["wishes", "wish"]) F M5 AM (λaA A outer s H E B hr=>rQ
  (rF (rE (rO (Mc rfl rfl eX (f' (rK (su (N':=["one", "-wishes", "wish"]) (m:=1) (CompScope.of (by kernel_rfl)) rfl (rT (en 0)) (λ_ _ _ _=>(gd_n (i:=0) (m:=1) nk)) (λ_ _ _ _=>sD) (λ_ _ _ _=>(uv (GG hr (en 0) (en 2)) (uR (rN cN.G (hr.mono (by decide)) rfl cN.m cN.p cN.b (f' (en 0) (f' (en 2) gs rfl) rfl))))))) gs rfl))))))
theorem LG:FnScope ["wishes", "wish"] ["wishes", "wish"] (defScope yq):=⟨rfl,rfl,rfl,by decide +kernel,rfl,by decide +kernel,by decide +kernel⟩
theorem F2(F:Fun K "covered" "covered" yq f fd){aW' aR'}(ba:uX P w K mg base aW' aR'){iN' hZ'}(iO:MK P w K mg base iN' hZ')(ak:mg "len"=none)(aK:mg "list"=none)(aC:mg "range"=none):FnOk P w K mg base CX0 46 f fd ["wishes", "wish"] (spD K vp):=
 rP (k:=45) (N:=["wishes", "wish"]) F LG y6 (λaA A outer s H E B hr=>rQ
  (qL (rE (tF (rN ba.G (hr.mono (by decide)) rfl ba.m ba.p ba.b (f' (rK (uL (rK (rV (f' (en 1) gs rfl))) (en 0))) gs rfl))))
  (rF (rE (rO (rN iO.G (hr.mono (by decide)) rfl iO.m iO.p iO.b (f' (en 0) (f' (rK (DD rfl rfl aK rfl aC (f' (sM rfl ak (f' (en 0) gs rfl)) gs rfl))) (f' (en 1) gs rfl) rfl) rfl)))))))
theorem Nx:FnScope ["wishes", "numbers", "part", "near", "k", "place", "halves", "one", "other"] ["wishes", "numbers", "part"] (defScope wM):=⟨rfl,rfl,rfl,by decide +kernel,rfl,by decide +kernel,by decide +kernel⟩
theorem IC{g:List R->Option (R×List R)}(hk:4<=kk)(F:Fun K "looked_through" "looked_through" wM f fd)(G:FnOk P w K mg base CX0 kk f fd ["wishes", "numbers", "part"] (spD K g)){fK' e8'}(eY:EI P w K mg base fK' e8'){e7' dU'}(cN:yH P w K mg base e7' dU'){dy' df'}(eZ:Ci P w K mg base dy' df'){fL' e9'}(fb:Br P w K mg base fL' e9')(ak:mg "len"=none)(ay:mg "tuple"=none)(gS:Binds K fd ["wishes", "numbers", "part"] [])(gT:Re K (.ref f)=true)(gU:mg "looked_through"=some (.ref f)):FnOk P w K mg base CX0 (kk+1) f fd ["wishes", "numbers", "part"] (spD K (fnD 9 3 (wC g))):=
 rP (N:=["wishes", "numbers", "part", "near", "k", "place", "halves", "one", "other"]) F Nx (wC g) (λaA A outer s H E B hr=>rQ
  (qL (rE (u8 (i:=3) (N':=["k", "wishes", "-numbers", "part", "-near", "-k", "-place", "-halves", "-one", "-other"]) (m:=1) (CompScope.of (by kernel_rfl)) rfl nk (rT (en 1)) (λ_ _ _ _=>(gd_n (i:=0) (m:=1) nk)) (λ_ _ _ _=>(sU (zf (rN eY.G (hr.mono (y_ (by decide) hk)) rfl eY.m eY.p eY.b (f' (rH (en 1) (en 0)) (f' (en 3) gs rfl) rfl)) sC))) (λ_ _ _ _=>(en 0))))
  (qL (rR (sA hr (sM rfl ak (f' (en 3) gs rfl)) gV)
  (rF (rE (rO (rY (f' sO (f' (ud rfl ay (f' (rK (su (N':=["pair", "-wishes", "-numbers", "-part", "-near", "-k", "-place", "-halves", "-one", "-other"]) (m:=1) (CompScope.of (by kernel_rfl)) rfl (rT (en 2)) (λ_ _ _ _=>(gd_n (i:=0) (m:=1) nk)) (λ_ _ _ _=>sD) (λ_ _ _ _=>(rH (en 0) gV)))) gs rfl)) gs rfl) rfl))))) rS)
  (qL (se RE rfl (rT (en 3)) (gd_n (i:=4) (m:=100) nk)
  (rF (rR (sL (rN cN.G (hr.mono (y_ (by decide) hk)) rfl cN.m cN.p cN.b (f' (rH (en 0) (en 4)) (f' (en 2) gs rfl) rfl)))
  (rF (rE (rO (rY (f' sO (f' (rY (f' sO (f' (en 4) gs rfl) rfl)) gs rfl) rfl))))) rS)))
  (qL (rL (i:=5) nk (rN eZ.G (hr.mono (y_ (by decide) hk)) rfl eZ.m eZ.p eZ.b (f' (rK (su (N':=["k", "wishes", "-numbers", "-part", "-near", "-k", "-place", "-halves", "-one", "-other"]) (m:=1) (CompScope.of (by kernel_rfl)) rfl (rT (en 3)) (λ_ _ _ _=>(gd_n (i:=0) (m:=1) nk)) (λ_ _ _ _=>sD) (λ_ _ _ _=>(rH (en 1) (en 0))))) (f' (en 2) gs rfl) rfl)))
  (qL (rL (i:=6) nk (rN fb.G (hr.mono (y_ (by decide) hk)) rfl fb.m fb.p fb.b (f' (en 2) (f' (rH (en 5) gV) (f' (rH (en 5) gV) gs rfl) rfl) rfl)))
  (qL (rL (i:=7) nk (rN G hr rfl gU gT gS (f' (en 0) (f' (en 3) (f' (rH (en 6) gV) gs rfl) rfl) rfl)))
  (qL (rR (sA hr (rH (en 7) gV) sO)
  (rF (rE (rO (en 7)))) rS)
  (qL (rL (i:=8) nk (rN G hr rfl gU gT gS (f' (en 0) (f' (en 3) (f' (rH (en 6) gV) gs rfl) rfl) rfl)))
  (qL (rR (sA hr (rH (en 8) gV) sO)
  (rF (rE (rO (en 8)))) rS)
  (rF (rE (rO (rY (f' sO (f' (rY (sn sO (rH (en 5) gV) (rH (en 5) gV) (rH (en 7) gV) (f' (rH (en 8) gV) gs rfl) rfl rfl rfl rfl)) gs rfl) rfl)))))))))))))))
theorem CB{f:l_}{fd:Rp}(F:Fun K "looked_through" "looked_through" wM f fd){fK' e8'}(eY:EI P w K mg base fK' e8'){e7' dU'}(cN:yH P w K mg base e7' dU'){dy' df'}(eZ:Ci P w K mg base dy' df'){fL' e9'}(fb:Br P w K mg base fL' e9')(ak:mg "len"=none)(ay:mg "tuple"=none)(gS:Binds K fd ["wishes", "numbers", "part"] [])(gT:Re K (.ref f)=true)(gU:mg "looked_through"=some (.ref f)):∀n:Nat,FnOk P w K mg base CX0 (5+n) f fd ["wishes", "numbers", "part"] (spD K (ur n))
 | 0=>tG
 | n+1=>IC (y_ (by decide) (Q5 _ n)) F (CB F eY cN eZ fb ak ay gS gT gU n) eY cN eZ fb ak ay gS gT gU
theorem Jr:FnScope ["wishes", "part", "places", "field", "pair", "wish"] ["wishes", "part"] (defScope yy):=⟨rfl,rfl,rfl,by decide +kernel,rfl,by decide +kernel,by decide +kernel⟩
theorem IN(F:Fun K "first_border" "first_border" yy f fd)(aL:mg "enumerate"=none)(aP:mg "min"=none):FnOk P w K mg base CX0 2 f fd ["wishes", "part"] (spD K xB):=
 rP (k:=1) (N:=["wishes", "part", "places", "field", "pair", "wish"]) F Jr xU (λaA A outer s H E B hr=>rQ
  (qL (rE (sJ (i:=2) nk (rV gs)))
  (qL (se RE rfl (y9 rfl aL (f' (en 1) gs rfl)) (sE (m:=100) rfl (rX (gd_n (i:=3) (m:=100) nk) (rX (gd_n (i:=4) (m:=100) nk) sH)))
  (rF (se RE rfl (rT (en 0)) (gd_n (i:=5) (m:=100) nk)
  (qL (rR (uK (rH (en 4) gV) (rH (rH (en 5) (en 3)) gV))
  (rF (rE (sS (pv 2) (rY (f' (en 3) (f' (vM (rH (rH (en 5) (en 3)) gV) gV) gs rfl) rfl))))) rS)
  (rF (rR (uK (rH (rH (en 5) (en 3)) gV) (rH (en 4) gV))
  (rF (rE (sS (pv 2) (rY (f' (en 3) (f' (rH (rH (en 5) (en 3)) gV) gs rfl) rfl))))) rS))))))
  (rF (rE (rO (MG rfl hr rfl aP (f' (en 2) gs rfl))))))))
theorem FD:FnScope ["part", "field", "at", "ahead", "behind", "low", "high"] ["part", "field", "at"] (defScope yM):=⟨rfl,rfl,rfl,by decide +kernel,rfl,by decide +kernel,by decide +kernel⟩
theorem MZ(F:Fun K "halves_of" "halves_of" yM f fd) :FnOk P w K mg base CX0 2 f fd ["part", "field", "at"] (spD K wo):=
 rP (k:=1) (N:=["part", "field", "at", "ahead", "behind", "low", "high"]) F FD xY (λaA A outer s H E B hr=>rQ
  (qL (rL (i:=3) nk (tH (en 0) tM (sX (en 1))))
  (qL (rL (i:=4) nk (tH (en 0) (sX (r8 (en 1) gV)) tM))
  (qL (rL (i:=5) nk (rH (rH (en 0) (en 1)) gV))
  (qL (rL (i:=6) nk (rH (rH (en 0) (en 1)) gV))
  (rF (rE (rO (rY (f' (r8 (r8 (en 3) (rY (f' (rY (f' (en 5) (f' (en 2) gs rfl) rfl)) gs rfl))) (en 4)) (f' (r8 (r8 (en 3) (rY (f' (rY (f' (r8 (en 2) gV) (f' (en 6) gs rfl) rfl)) gs rfl))) (en 4)) gs rfl) rfl))))))))))
theorem Li:FnScope ["wishes", "roof", "stay", "wish", "others"] ["wishes"] (defScope AH):=⟨rfl,rfl,rfl,by decide +kernel,rfl,by decide +kernel,by decide +kernel⟩
theorem LW(F:Fun K "spare_of" "spare_of" AH f fd){hG' gu'}(dM:B7 P w K mg base hG' gu'){q2' o9'}(iP:MQ P w K mg base q2' o9'):FnOk P w K mg base CX0 47 f fd ["wishes"] (spD K wO):=
 rP (k:=46) (N:=["wishes", "roof", "stay", "wish", "others"]) F Li xl (λaA A outer s H E B hr=>rQ
  (qL (rE (Iy (i:=1) nk (so dM.G (hr.mono (by decide)) rfl dM.m dM.p dM.b (f' (en 0) gs rfl))))
  (qL (rE (Bk (i:=2) (j:=1) nk (pv 1)))
  (qL (se RE rfl (rT (en 1)) (gd_n (i:=3) (m:=100) nk)
  (qL (rE (Fh (i:=4) (N':=["one", "-wishes", "-roof", "-stay", "wish", "-others"]) (m:=1) (CompScope.of (by kernel_rfl)) rfl nk (rT (en 2)) (λ_ _ _ _=>(gd_n (i:=0) (m:=1) nk)) (λ_ _ _ _=>(sU (sN hr (en 0) (en 4)))) (λ_ _ _ _=>(en 0))))
  (rF (rR (sA hr (rH (rN iP.G (hr.mono (by decide)) rfl iP.m iP.p iP.b (f' (en 4) (f' (en 3) gs rfl) rfl)) gV) sO)
  (rF (rE (Bk (i:=2) (j:=4) nk (pv 4)))) rS))))
  (rF (rE (Lu (pv 2))))))))
theorem Jg:FnScope ["web", "house"] ["web", "house"] (defScope yQ):=⟨rfl,rfl,rfl,by decide +kernel,rfl,by decide +kernel,by decide +kernel⟩
theorem Gv(F:Fun K "must_be_house" "must_be_house" yQ f fd) :FnOk P w K mg base CX0 2 f fd ["web", "house"] (spD K uI):=
 rP (k:=1) (N:=["web", "house"]) F Jg zZ (λaA A outer s H E B hr=>rQ
  (rF (rR (vq (Ec gV (en 1) (rH (en 0) gV)))
  (rF (rE Aa)) rS)))
theorem GC:FnScope ["web", "house"] ["web", "house"] (defScope zy):=⟨rfl,rfl,rfl,by decide +kernel,rfl,by decide +kernel,by decide +kernel⟩
theorem Io(F:Fun K "neighbours_of" "neighbours_of" zy f fd){bI' bx'}(bM:Aw P w K mg base bI' bx')(aD:mg "sorted"=none):FnOk P w K mg base CX0 3 f fd ["web", "house"] (spD K vk):=
 rP (k:=2) (N:=["web", "house"]) F GC Ah (λaA A outer s H E B hr=>rQ
  (qL (rE (tF (rN bM.G (hr.mono (by decide)) rfl bM.m bM.p bM.b (f' (en 0) (f' (en 1) gs rfl) rfl))))
  (rF (rE (sF (vF hr rfl aD (f' (rK (su (N':=["road", "-web", "house"]) (m:=1) (CompScope.of (by kernel_rfl)) rfl (rT (rH (en 0) gV)) (λ_ _ _ _=>(gd_n (i:=0) (m:=1) nk)) (λ_ _ _ _=>(sU (CM hr (en 2) (en 0)))) (λ_ _ _ _=>(HR (sA hr (rH (en 0) gV) (en 2)) (rH (en 0) gV) (rH (en 0) gV))))) gs rfl)))))))
theorem Mj:FnScope ["web", "one", "other"] ["web", "one", "other"] (defScope Ab):=⟨rfl,rfl,rfl,by decide +kernel,rfl,by decide +kernel,by decide +kernel⟩
theorem MN(F:Fun K "way_between" "way_between" Ab f fd){bI' bx'}(bM:Aw P w K mg base bI' bx'){sq' q3'}(ev:Fp P w K mg base sq' q3'):FnOk P w K mg base CX0 27 f fd ["web", "one", "other"] (spD K vw):=
 rP (k:=26) (N:=["web", "one", "other"]) F Mj z9 (λaA A outer s H E B hr=>rQ
  (qL (rE (tF (rN bM.G (hr.mono (by decide)) rfl bM.m bM.p bM.b (f' (en 0) (f' (en 1) gs rfl) rfl))))
  (qL (rE (tF (rN bM.G (hr.mono (by decide)) rfl bM.m bM.p bM.b (f' (en 0) (f' (en 2) gs rfl) rfl))))
  (rF (rE (MY (sF (so ev.G (hr.mono (by decide)) rfl ev.m ev.p ev.b (sn (en 0) sC (en 1) (en 2) gs rfl rfl rfl rfl))) (rO (rN ev.G (hr.mono (by decide)) rfl ev.m ev.p ev.b (sn (en 0) sC (en 1) (en 2) gs rfl rfl rfl rfl)))))))))
theorem My:FnScope ["web", "came", "house", "other", "neighbour", "way"] ["web", "came", "house", "other"] (defScope wZ):=⟨rfl,rfl,rfl,by decide +kernel,rfl,by decide +kernel,by decide +kernel⟩
theorem JN{g:List R->Option (R×List R)}(hk:4<=kk)(F:Fun K "way_on" "way_on" wZ f fd)(G:FnOk P w K mg base CX0 kk f fd ["web", "came", "house", "other"] (spD K g)){aO' aK'}(bB:u3 P w K mg base aO' aK')(gW:Binds K fd ["web", "came", "house", "other"] [])(gX:Re K (.ref f)=true)(gY:mg "way_on"=some (.ref f)):FnOk P w K mg base CX0 (kk+1) f fd ["web", "came", "house", "other"] (spD K (fnD 6 4 (xu g))):=
 rP (N:=["web", "came", "house", "other", "neighbour", "way"]) F My (xu g) (λaA A outer s H E B hr=>rQ
  (qL (rR (sA hr (en 2) (en 3))
  (rF (rE (sF (rV (f' (en 2) gs rfl))))) rS)
  (qL (se RE rfl (rT (rK (so bB.G (hr.mono (y_ (by decide) hk)) rfl bB.m bB.p bB.b (f' (en 0) (f' (en 2) gs rfl) rfl)))) (gd_n (i:=4) (m:=100) nk)
  (rF (rR (sN hr (en 4) (en 1))
  (qL (rL (i:=5) nk (vt (rK (so G hr rfl gY gX gW (sn (en 0) (en 2) (en 4) (en 3) gs rfl rfl rfl rfl))) (rN G hr rfl gY gX gW (sn (en 0) (en 2) (en 4) (en 3) gs rfl rfl rfl rfl))))
  (rF (rR (zf (en 5) sC)
  (rF (rE (sF (uL (rK (rV (f' (en 2) gs rfl))) (en 5))))) rS))) rS)))
  (rF (rE (rO sC))))))
theorem BQ{f:l_}{fd:Rp}(F:Fun K "way_on" "way_on" wZ f fd){aO' aK'}(bB:u3 P w K mg base aO' aK')(gW:Binds K fd ["web", "came", "house", "other"] [])(gX:Re K (.ref f)=true)(gY:mg "way_on"=some (.ref f)):∀n:Nat,FnOk P w K mg base CX0 (5+n) f fd ["web", "came", "house", "other"] (spD K (ug n))
 | 0=>tG
 | n+1=>JN (y_ (by decide) (Q5 _ n)) F (BQ F bB gW gX gY n) bB gW gX gY
theorem J4:FnScope ["how", "wishes"] ["how", "wishes"] (defScope Af):=⟨rfl,rfl,rfl,by decide +kernel,rfl,by decide +kernel,by decide +kernel⟩
theorem FT(F:Fun K "short_of" "short_of" Af f fd){pa' m5'}(iQ:FY P w K mg base pa' m5'){hG' gu'}(dM:B7 P w K mg base hG' gu'):FnOk P w K mg base CX0 48 f fd ["how", "wishes"] (spD K xR):=
 rP (k:=47) (N:=["how", "wishes"]) F J4 zT (λaA A outer s H E B hr=>rQ
  (qL (rR (sA hr (en 0) sO)
  (rF (rE (sF (so iQ.G (hr.mono (by decide)) rfl iQ.m iQ.p iQ.b (f' (en 1) gs rfl))))) rS)
  (rF (rE (sF (so dM.G (hr.mono (by decide)) rfl dM.m dM.p dM.b (f' (en 1) gs rfl)))))))
theorem FU:FnScope ["holds"] ["holds"] (defScope zD):=⟨rfl,rfl,rfl,by decide +kernel,rfl,by decide +kernel,by decide +kernel⟩
theorem IP(F:Fun K "wishes_of" "wishes_of" zD f fd) :FnOk P w K mg base CX0 2 f fd ["holds"] (spD K u5):=
 rP (k:=1) (N:=["holds"]) F FU z8 (λaA A outer s H E B hr=>rQ
  (rF (rE (sF (su (N':=["hold", "-holds"]) (m:=1) (CompScope.of (by kernel_rfl)) rfl (rT (en 0)) (λ_ _ _ _=>(gd_n (i:=0) (m:=1) nk)) (λ_ _ _ _=>sD) (λ_ _ _ _=>(rH (en 0) gV)))))))
theorem NG:FnScope ["web", "holds", "how", "house", "neighbour", "wishes", "other"] ["web", "holds", "how", "house", "neighbour"] (defScope xx):=⟨rfl,rfl,rfl,by decide +kernel,rfl,by decide +kernel,by decide +kernel⟩
theorem Jv{g:List R->Option (R×List R)}(hk:49<=kk)(F:Fun K "heard_of" "heard_of" xx f fd)(G:FnOk P w K mg base CX0 kk f fd ["web", "holds", "how", "house", "neighbour"] (spD K g)){cK' cv'}(cP:zt P w K mg base cK' cv'){aO' aK'}(bB:u3 P w K mg base aO' aK'){gv' fM'}(fc:CL P w K mg base gv' fM')(iR:Binds K fd ["web", "holds", "how", "house", "neighbour"] [])(iS:Re K (.ref f)=true)(iU:mg "heard_of"=some (.ref f)):FnOk P w K mg base CX0 (kk+1) f fd ["web", "holds", "how", "house", "neighbour"] (spD K (fnD 7 5 (xo g))):=
 rP (N:=["web", "holds", "how", "house", "neighbour", "wishes", "other"]) F NG (xo g) (λaA A outer s H E B hr=>rQ
  (qL (rE (sJ (i:=5) nk (so cP.G (hr.mono (y_ (by decide) hk)) rfl cP.m cP.p cP.b (f' (rK (su (N':=["hold", "-web", "-holds", "-how", "-house", "neighbour", "-wishes", "-other"]) (m:=1) (CompScope.of (by kernel_rfl)) rfl (rT (en 1)) (λ_ _ _ _=>(gd_n (i:=0) (m:=1) nk)) (λ_ _ _ _=>(sU (sA hr (rH (en 0) gV) (en 5)))) (λ_ _ _ _=>(en 0)))) gs rfl))))
  (qL (se RE rfl (rT (rK (so bB.G (hr.mono (y_ (by decide) hk)) rfl bB.m bB.p bB.b (f' (en 0) (f' (en 4) gs rfl) rfl)))) (gd_n (i:=6) (m:=100) nk)
  (rF (rR (sN hr (en 6) (en 3))
  (rF (rE (Az (pv 5) (rK (so G hr rfl iU iS iR (sn (en 0) (en 1) (en 2) (en 4) (f' (en 6) gs rfl) rfl rfl rfl rfl)))))) rS)))
  (rF (rE (sF (so fc.G (hr.mono (y_ (by decide) hk)) rfl fc.m fc.p fc.b (f' (en 2) (f' (en 5) gs rfl) rfl))))))))
theorem DT{f:l_}{fd:Rp}(F:Fun K "heard_of" "heard_of" xx f fd){cK' cv'}(cP:zt P w K mg base cK' cv'){aO' aK'}(bB:u3 P w K mg base aO' aK'){gv' fM'}(fc:CL P w K mg base gv' fM')(iR:Binds K fd ["web", "holds", "how", "house", "neighbour"] [])(iS:Re K (.ref f)=true)(iU:mg "heard_of"=some (.ref f)):∀n:Nat,FnOk P w K mg base CX0 (50+n) f fd ["web", "holds", "how", "house", "neighbour"] (spD K (vh n))
 | 0=>tG
 | n+1=>Jv (y_ (by decide) (Q5 _ n)) F (DT F cP bB fc iR iS iU n) cP bB fc iR iS iU
theorem GW:FnScope ["web", "holds", "how", "house", "letter", "roads", "reached", "given"] ["web", "holds", "how", "house", "letter"] (defScope yl):=⟨rfl,rfl,rfl,by decide +kernel,rfl,by decide +kernel,by decide +kernel⟩
theorem Ij(F:Fun K "led_by" "led_by" yl f fd){aW' aR'}(ba:uX P w K mg base aW' aR'){cK' cv'}(cP:zt P w K mg base cK' cv'){bI' bx'}(bM:Aw P w K mg base bI' bx'){pb' m6'}(iV:Lq P w K mg base pb' m6'){fd' d8'}(dN:Bi P w K mg base fd' d8')(aD:mg "sorted"=none)(aL:mg "enumerate"=none):FnOk P w K mg base CX0 94 f fd ["web", "holds", "how", "house", "letter"] (spD K wI):=
 rP (k:=93) (N:=["web", "holds", "how", "house", "letter", "roads", "reached", "given"]) F GW An (λaA A outer s H E B hr=>rQ
  (qL (rE (tF (rN ba.G (hr.mono (by decide)) rfl ba.m ba.p ba.b (f' (rK (uL (rK (rV (f' (en 4) gs rfl))) (rK (so cP.G (hr.mono (by decide)) rfl cP.m cP.p cP.b (f' (en 1) gs rfl))))) gs rfl))))
  (qL (rE (tF (rN bM.G (hr.mono (by decide)) rfl bM.m bM.p bM.b (f' (en 0) (f' (en 3) gs rfl) rfl))))
  (qL (rL (i:=5) nk (rK (vF hr rfl aD (f' (rN iV.G (hr.mono (by decide)) rfl iV.m iV.p iV.b (sn (en 0) (en 1) (en 2) sC (f' (en 3) (f' (en 4) gs rfl) rfl) rfl rfl rfl rfl)) gs rfl))))
  (qL (rL (i:=6) nk (rK (uL (rK (rV (f' (en 3) gs rfl))) (rK (su (N':=["road", "-web", "-holds", "-how", "-house", "-letter", "-roads", "-reached", "-given"]) (m:=1) (CompScope.of (by kernel_rfl)) rfl (rT (en 5)) (λ_ _ _ _=>(gd_n (i:=0) (m:=1) nk)) (λ_ _ _ _=>sD) (λ_ _ _ _=>(rH (en 0) gV)))))))
  (qL (rE (u8 (i:=7) (N':=["k", "hold", "-web", "-holds", "-how", "-house", "letter", "-roads", "reached", "-given"]) (m:=2) (CompScope.of (by kernel_rfl)) rfl nk (y9 rfl aL (f' (en 1) gs rfl)) (λ_ _ _ _=>(sE (m:=2) rfl (rX (gd_n (i:=0) (m:=2) nk) (rX (gd_n (i:=1) (m:=2) nk) sH)))) (λ_ _ _ _=>(sU (TW.td (uM (CM hr (rH (en 1) gV) (en 8)) (uA (sL (rN dN.G (hr.mono (by decide)) rfl dN.m dN.p dN.b (f' (rH (en 1) gV) (f' (en 6) gs rfl) rfl)))))))) (λ_ _ _ _=>(en 0))))
  (rF (rE (rO (rY (f' (en 5) (f' (en 7) gs rfl) rfl)))))))))))
theorem Ix:FnScope ["web", "holds", "how", "came", "house", "letter", "roads", "neighbour"] ["web", "holds", "how", "came", "house", "letter"] (defScope wV):=⟨rfl,rfl,rfl,by decide +kernel,rfl,by decide +kernel,by decide +kernel⟩
theorem Ny{g:List R->Option (R×List R)}(hk:72<=kk)(F:Fun K "roads_on" "roads_on" wV f fd)(G:FnOk P w K mg base CX0 kk f fd ["web", "holds", "how", "came", "house", "letter"] (spD K g)){aO' aK'}(bB:u3 P w K mg base aO' aK'){dV' dg'}(cQ:yP P w K mg base dV' dg')(ak:mg "len"=none)(iW:Binds K fd ["web", "holds", "how", "came", "house", "letter"] [])(iX:Re K (.ref f)=true)(iY:mg "roads_on"=some (.ref f)):FnOk P w K mg base CX0 (kk+1) f fd ["web", "holds", "how", "came", "house", "letter"] (spD K (fnD 8 6 (wB g))):=
 rP (N:=["web", "holds", "how", "came", "house", "letter", "roads", "neighbour"]) F Ix (wB g) (λaA A outer s H E B hr=>rQ
  (qL (rE (sJ (i:=6) nk (rV gs)))
  (qL (se RE rfl (rT (rK (so bB.G (hr.mono (y_ (by decide) hk)) rfl bB.m bB.p bB.b (f' (en 0) (f' (en 4) gs rfl) rfl)))) (gd_n (i:=7) (m:=100) nk)
  (rF (rR (TW.td (uM (sN hr (en 7) (en 3)) (uA (wx (sM rfl ak (f' (rK (so cQ.G (hr.mono (y_ (by decide) hk)) rfl cQ.m cQ.p cQ.b (sn (en 0) (en 1) (en 2) (en 4) (f' (en 7) (f' (en 5) gs rfl) rfl) rfl rfl rfl rfl))) gs rfl)) gV))))
  (qL (rE (sS (pv 6) (rY (f' (en 4) (f' (en 7) gs rfl) rfl))))
  (rF (rE (Az (pv 6) (rN G hr rfl iY iX iW (sn (en 0) (en 1) (en 2) (en 4) (f' (en 7) (f' (en 5) gs rfl) rfl) rfl rfl rfl rfl)))))) rS)))
  (rF (rE (rO (en 6)))))))
theorem DU{f:l_}{fd:Rp}(F:Fun K "roads_on" "roads_on" wV f fd){aO' aK'}(bB:u3 P w K mg base aO' aK'){dV' dg'}(cQ:yP P w K mg base dV' dg')(ak:mg "len"=none)(iW:Binds K fd ["web", "holds", "how", "came", "house", "letter"] [])(iX:Re K (.ref f)=true)(iY:mg "roads_on"=some (.ref f)):∀n:Nat,FnOk P w K mg base CX0 (73+n) f fd ["web", "holds", "how", "came", "house", "letter"] (spD K (t8 n))
 | 0=>tG
 | n+1=>Ny (y_ (by decide) (Q5 _ n)) F (DU F bB cQ ak iW iX iY n) bB cQ ak iW iX iY
theorem NM:FnScope ["web", "holds", "how", "house", "neighbour", "letter"] ["web", "holds", "how", "house", "neighbour", "letter"] (defScope yz):=⟨rfl,rfl,rfl,by decide +kernel,rfl,by decide +kernel,by decide +kernel⟩
theorem HV(F:Fun K "leading" "leading" yz f fd){pc' m7'}(iZ:Lw P w K mg base pc' m7'){fd' d8'}(dN:Bi P w K mg base fd' d8'):FnOk P w K mg base CX0 71 f fd ["web", "holds", "how", "house", "neighbour", "letter"] (spD K v6):=
 rP (k:=70) (N:=["web", "holds", "how", "house", "neighbour", "letter"]) F NM yt (λaA A outer s H E B hr=>rQ
  (rF (rE (sF (su (N':=["wish", "-web", "-holds", "-how", "-house", "-neighbour", "letter"]) (m:=1) (CompScope.of (by kernel_rfl)) rfl (rT (rK (so iZ.G (hr.mono (by decide)) rfl iZ.m iZ.p iZ.b (sn (en 0) (en 1) (en 2) (en 3) (f' (en 4) gs rfl) rfl rfl rfl rfl)))) (λ_ _ _ _=>(gd_n (i:=0) (m:=1) nk)) (λ_ _ _ _=>(sU (sL (rN dN.G (hr.mono (by decide)) rfl dN.m dN.p dN.b (f' (en 0) (f' (en 6) gs rfl) rfl))))) (λ_ _ _ _=>(en 0)))))))
theorem Lp:FnScope ["web", "holds", "how", "house", "letter", "number", "led", "way"] ["web", "holds", "how", "house", "letter", "number"] (defScope zq):=⟨rfl,rfl,rfl,by decide +kernel,rfl,by decide +kernel,by decide +kernel⟩
theorem GR(F:Fun K "chain_to" "chain_to" zq f fd){sr' q4'}(i4:Fc P w K mg base sr' q4'){kY' jY'}(eA:Ie P w K mg base kY' jY'){dV' dg'}(cQ:yP P w K mg base dV' dg')(ak:mg "len"=none)(aJ:mg "zip"=none):FnOk P w K mg base CX0 95 f fd ["web", "holds", "how", "house", "letter", "number"] (spD K uy):=
 rP (k:=94) (N:=["web", "holds", "how", "house", "letter", "number", "led", "way"]) F Lp zY (λaA A outer s H E B hr=>rQ
  (qL (rL (i:=6) nk (rN i4.G (hr.mono (by decide)) rfl i4.m i4.p i4.b (sn (en 0) (en 1) (en 2) (en 3) (f' (en 4) gs rfl) rfl rfl rfl rfl)))
  (qL (rR (vq (Ec gV (en 5) (sM rfl ak (f' (en 1) gs rfl))))
  (rF (rE Aa)) rS)
  (qL (rR (Ff hr (en 5) (rH (en 6) gV))
  (rF (rE (rO sC))) rS)
  (qL (rL (i:=7) nk (vt (rK (so eA.G (hr.mono (by decide)) rfl eA.m eA.p eA.b (f' (en 0) (f' (en 3) (f' (rH (rH (en 1) (en 5)) gV) gs rfl) rfl) rfl))) (rN eA.G (hr.mono (by decide)) rfl eA.m eA.p eA.b (f' (en 0) (f' (en 3) (f' (rH (rH (en 1) (en 5)) gV) gs rfl) rfl) rfl))))
  (rF (rE (sF (su (N':=["one", "other", "web", "holds", "how", "-house", "letter", "-number", "-led", "-way"]) (m:=2) (CompScope.of (by kernel_rfl)) rfl (uw rfl aJ (f' (en 7) (f' (tH (en 7) (sX gV) tM) gs rfl) rfl)) (λ_ _ _ _=>(sE (m:=2) rfl (rX (gd_n (i:=0) (m:=2) nk) (rX (gd_n (i:=1) (m:=2) nk) sH)))) (λ_ _ _ _=>sD) (λ_ _ _ _=>(rY (f' (en 0) (f' (en 1) (f' (rH (rK (so cQ.G (hr.mono (by decide)) rfl cQ.m cQ.p cQ.b (sn (en 2) (en 3) (en 4) (en 0) (f' (en 1) (f' (en 6) gs rfl) rfl) rfl rfl rfl rfl))) gV) gs rfl) rfl) rfl))))))))))))
theorem Ka:FnScope ["cell", "at", "one", "two", "three"] ["cell", "at"] (defScope AS):=⟨rfl,rfl,rfl,by decide +kernel,rfl,by decide +kernel,by decide +kernel⟩
theorem J5(F:Fun K "_law_blend" "_law_blend" AS f fd) :FnOk P w K mg base CX0 2 f fd ["cell", "at"] (spD K vO):=
 rP (k:=1) (N:=["cell", "at", "one", "two", "three"]) F Ka yE (λaA A outer s H E B hr=>rQ
  (qL (rR (Hd (en 0) (AR gV gV))
  (rF (rE (rO (en 0)))) rS)
  (qL (rL (i:=2) nk (tE (r8 (r8 (tq (tE (en 0) gV) gV) (tq (en 1) gV)) gV) gV))
  (qL (rL (i:=3) nk (tE (r8 (r8 (tq (en 2) (en 2)) (tq (en 1) gV)) (tE (en 0) gV)) gV))
  (qL (rL (i:=4) nk (tE (r8 (r8 (tq (en 3) (en 3)) (tq (en 2) gV)) gV) gV))
  (rF (rE (rO (r8 (tq (r8 (tq (en 2) gV) (en 3)) gV) (en 4))))))))))
theorem JR:FnScope ["script", "cells", "k", "cell"] ["script"] (defScope AG):=⟨rfl,rfl,rfl,by decide +kernel,rfl,by decide +kernel,by decide +kernel⟩
theorem JU(F:Fun K "_law_pot" "_law_pot" AG f fd)(aK:mg "list"=none)(aL:mg "enumerate"=none):FnOk P w K mg base CX0 2 f fd ["script"] (spD K vV):=
 rP (k:=1) (N:=["script", "cells", "k", "cell"]) F JR zH (λaA A outer s H E B hr=>rQ
  (qL (rE (sJ (i:=1) nk (Eb rfl aK (f' (tH (en 0) tM (sX gV)) gs rfl))))
  (qL (se RE rfl (y9 rfl aL (f' (tH (en 0) (sX gV) (sX gV)) gs rfl)) (sE (m:=100) rfl (rX (gd_n (i:=2) (m:=100) nk) (rX (gd_n (i:=3) (m:=100) nk) sH)))
  (rF (rE (xn (pv 1) (tE (en 2) gV) (r8 (sQ (pv 1) (tE (en 2) gV)) (en 3))))))
  (rF (rE (sF (rV (f' (en 1) (f' gV (f' gV gs rfl) rfl) rfl))))))))
theorem M6:FnScope ["pot", "upto", "at", "cell", "found"] ["pot", "upto"] (defScope zp):=⟨rfl,rfl,rfl,by decide +kernel,rfl,by decide +kernel,by decide +kernel⟩
theorem NJ(F:Fun K "_law_pick" "_law_pick" zp f fd){m8' ms'}(i5:Jx P w K mg base m8' ms')(ak:mg "len"=none):FnOk P w K mg base CX0 3 f fd ["pot", "upto"] (spD K sh):=
 rP (k:=2) (N:=["pot", "upto", "at", "cell", "found"]) F M6 xV (λaA A outer s H E B hr=>rQ
  (qL (rR (uK (sQ (pv 0) gV) (en 1))
  (qL (rL (i:=2) nk (sQ (pv 0) gV))
  (qL (rL (i:=3) nk (tq gV (en 2)))
  (qL (rR (uK (en 2) (sM rfl ak (f' (sQ (pv 0) gV) gs rfl)))
  (rF (rL (i:=3) nk (rH (sQ (pv 0) gV) (en 2)))) (rF (rR (sN hr (sQ (pv 0) gV) (rK (rV gs)))
  (rF (rL (i:=3) nk (tE (rH (sQ (pv 0) gV) (tE (r8 (tq (en 2) gV) gV) (sM rfl ak (f' (sQ (pv 0) gV) gs rfl)))) (r8 (AR gV gV) (tq gV (en 2)))))) rS)))
  (qL (rE (xn (pv 0) gV (r8 (en 2) gV)))
  (rF (rE (xn (pv 0) gV (rN i5.G (hr.mono (by decide)) rfl i5.m i5.p i5.b (f' (en 3) (f' (en 2) gs rfl) rfl))))))))) rS)
  (qL (rL (i:=4) nk (tE (sQ (pv 0) gV) (en 1)))
  (qL (rE (xn (pv 0) gV (LI (sQ (pv 0) gV) (en 1))))
  (rF (rE (rO (en 4))))))))
theorem F6:FnScope ["found", "due"] ["found", "due"] (defScope wm):=⟨rfl,rfl,rfl,by decide +kernel,rfl,by decide +kernel,by decide +kernel⟩
theorem IQ{g:List R->Option (R×List R)}(hk:2<=kk)(F:Fun K "_law_same" "_law_same" wm f fd)(G:FnOk P w K mg base CX0 kk f fd ["found", "due"] (spD K g))(am:mg "isinstance"=none)(bx:mg "bool"=none)(cF:mg "str"=none)(bR:mg "int"=none)(aK:mg "list"=none)(ay:mg "tuple"=none)(ak:mg "len"=none)(aJ:mg "zip"=none)(i6:Binds K fd ["found", "due"] [])(i7:Re K (.ref f)=true)(i8:mg "_law_same"=some (.ref f)):FnOk P w K mg base CX0 (kk+1) f fd ["found", "due"] (spD K (fnD 2 2 (uo g))):=
 rP (N:=["found", "due"]) F F6 (uo g) (λaA A outer s H E B hr=>rQ
  (qL (rR (TW.td (um (xZ (en 1) sC) (ue (xZ (en 0) sC))))
  (rF (rE (rO (uv (Da (en 1) sC) (uR (Da (en 0) sC)))))) rS)
  (qL (rR (TW.td (um (sL (wA rfl am rfl bx (en 1))) (ue (sL (wA rfl am rfl bx (en 0))))))
  (rF (rE (rO (uv (wA rfl am rfl bx (en 1)) (uv (wA rfl am rfl bx (en 0)) (uR (xa hr (en 0) (en 1)))))))) rS)
  (qL (rR (TW.td (um (sL (z7 rfl am rfl bR (en 1))) (ue (sL (HK rfl am rfl cF (en 1))))))
  (rF (rE (rO (uv (xa hr (z7 rfl am rfl bR (en 0)) (z7 rfl am rfl bR (en 1))) (uR (xa hr (en 0) (en 1))))))) rS)
  (qL (rR (TW.td (um (sN hr (BX rfl am rfl ay (en 1)) (BX rfl am rfl ay (en 0))) (ue (sN hr (Ck rfl am rfl aK (en 1)) (Ck rfl am rfl aK (en 0))))))
  (rF (rE (rO t7))) rS)
  (qL (rR (sN hr (sM rfl ak (f' (en 0) gs rfl)) (sM rfl ak (f' (en 1) gs rfl)))
  (rF (rE (rO t7))) rS)
  (rF (rE (rO (Ja hr t7 (rK (su (N':=["one", "other", "-found", "-due"]) (m:=2) (CompScope.of (by kernel_rfl)) rfl (uw rfl aJ (f' (en 0) (f' (en 1) gs rfl) rfl)) (λ_ _ _ _=>(sE (m:=2) rfl (rX (gd_n (i:=0) (m:=2) nk) (rX (gd_n (i:=1) (m:=2) nk) sH)))) (λ_ _ _ _=>sD) (λ_ _ _ _=>(rN G hr rfl i8 i7 i6 (f' (en 0) (f' (en 1) gs rfl) rfl)))))))))))))))
theorem EC{f:l_}{fd:Rp}(F:Fun K "_law_same" "_law_same" wm f fd)(am:mg "isinstance"=none)(bx:mg "bool"=none)(cF:mg "str"=none)(bR:mg "int"=none)(aK:mg "list"=none)(ay:mg "tuple"=none)(ak:mg "len"=none)(aJ:mg "zip"=none)(i6:Binds K fd ["found", "due"] [])(i7:Re K (.ref f)=true)(i8:mg "_law_same"=some (.ref f)):∀n:Nat,FnOk P w K mg base CX0 (3+n) f fd ["found", "due"] (spD K (sW n))
 | 0=>tG
 | n+1=>IQ (y_ (by decide) (Q5 _ n)) F (EC F am bx cF bR aK ay ak aJ i6 i7 i8 n) am bx cF bR aK ay ak aJ i6 i7 i8
theorem Ma:FnScope ["pot", "fields", "low", "top", "pairs", "k", "one", "other"] ["pot", "fields", "low", "top"] (defScope yK):=⟨rfl,rfl,rfl,by decide +kernel,rfl,by decide +kernel,by decide +kernel⟩
theorem HH(F:Fun K "_law_wish" "_law_wish" yK f fd){ba' a4'}(aq:vm P w K mg base ba' a4')(aC:mg "range"=none)(aP:mg "min"=none)(bc:mg "max"=none)(ay:mg "tuple"=none):FnOk P w K mg base CX0 4 f fd ["pot", "fields", "low", "top"] (spD K xH):=
 rP (k:=3) (N:=["pot", "fields", "low", "top", "pairs", "k", "one", "other"]) F Ma y0 (λaA A outer s H E B hr=>rQ
  (qL (rE (sJ (i:=4) nk (rV gs)))
  (qL (se RE rfl (uP rfl aC (f' (en 1) gs rfl)) (gd_n (i:=5) (m:=100) nk)
  (qL (rL (i:=6) nk (r8 (en 2) (sg aq.G (hr.mono (by decide)) rfl aq.m aq.p aq.b (pv 0) (f' (en 3) gs rfl))))
  (qL (rL (i:=7) nk (r8 (en 2) (sg aq.G (hr.mono (by decide)) rfl aq.m aq.p aq.b (pv 0) (f' (en 3) gs rfl))))
  (rF (rE (sS (pv 4) (rY (f' (uY rfl rfl aP (f' (en 6) (f' (en 7) gs rfl) rfl)) (f' (vR rfl rfl bc (f' (en 6) (f' (en 7) gs rfl) rfl)) gs rfl) rfl))))))))
  (rF (rE (rO (ud rfl ay (f' (en 4) gs rfl))))))))
theorem Gw:FnScope ["pot", "fields", "most", "top", "low", "found", "k", "way", "wish"] ["pot", "fields", "most"] (defScope zF):=⟨rfl,rfl,rfl,by decide +kernel,rfl,by decide +kernel,by decide +kernel⟩
theorem GI(F:Fun K "_law_wishes" "_law_wishes" zF f fd){ba' a4'}(aq:vm P w K mg base ba' a4'){pd' m9'}(i9:GM P w K mg base pd' m9'){mt' kZ'}(ja:NA P w K mg base mt' kZ')(aP:mg "min"=none)(aC:mg "range"=none)(ak:mg "len"=none):FnOk P w K mg base CX0 5 f fd ["pot", "fields", "most"] (spD K wQ):=
 rP (k:=4) (N:=["pot", "fields", "most", "top", "low", "found", "k", "way", "wish"]) F Gw ze (λaA A outer s H E B hr=>rQ
  (qL (rL (i:=3) nk (uY rfl rfl aP (f' (rH (rK (rV (ad_k (by kernel_rfl)))) (sg aq.G (hr.mono (by decide)) rfl aq.m aq.p aq.b (pv 0) (f' gV gs rfl))) (f' (rH (rK (rV (ad_k (by kernel_rfl)))) (en 1)) gs rfl) rfl)))
  (qL (rL (i:=4) nk (sg aq.G (hr.mono (by decide)) rfl aq.m aq.p aq.b (pv 0) (f' (vM gV (en 3)) gs rfl)))
  (qL (rE (sJ (i:=5) nk (rV gs)))
  (qL (se RE rfl (uP rfl aC (f' (sg aq.G (hr.mono (by decide)) rfl aq.m aq.p aq.b (pv 0) (f' (r8 (en 2) gV) gs rfl)) gs rfl)) (gd_n (i:=6) (m:=100) nk)
  (qL (rL (i:=7) nk (sg aq.G (hr.mono (by decide)) rfl aq.m aq.p aq.b (pv 0) (f' gV gs rfl)))
  (qL (rL (i:=8) nk (sg i9.G (hr.mono (by decide)) rfl i9.m i9.p i9.b (pv 0) (f' (en 1) (f' (en 4) (f' (en 3) gs rfl) rfl) rfl)))
  (qL (rR (TW.td (uM (sA hr (en 7) gV) (uA (DI hr (pv 5) (rK (rV gs))))))
  (rF (rL (i:=8) nk (sQ (pv 5) (sg aq.G (hr.mono (by decide)) rfl aq.m aq.p aq.b (pv 0) (f' (wq rfl ak (pv 5)) gs rfl))))) rS)
  (qL (rR (TW.td (uM (sA hr (en 7) gV) (uA (DI hr (pv 5) (rK (rV gs))))))
  (rF (rL (i:=8) nk (sg ja.G (hr.mono (by decide)) rfl ja.m ja.p ja.b (pv 0) (f' (sQ (pv 5) (sg aq.G (hr.mono (by decide)) rfl aq.m aq.p aq.b (pv 0) (f' (wq rfl ak (pv 5)) gs rfl))) gs rfl)))) rS)
  (rF (rE (sS (pv 5) (en 8)))))))))
  (rF (rE (rO (en 5)))))))))
theorem IX:FnScope ["pot", "wish", "at", "low", "high", "pair"] ["pot", "wish"] (defScope zK):=⟨rfl,rfl,rfl,by decide +kernel,rfl,by decide +kernel,by decide +kernel⟩
theorem Ib(F:Fun K "_law_nudged" "_law_nudged" zK f fd){ba' a4'}(aq:vm P w K mg base ba' a4')(ak:mg "len"=none)(bc:mg "max"=none)(aP:mg "min"=none):FnOk P w K mg base CX0 4 f fd ["pot", "wish"] (spD K xi):=
 rP (k:=3) (N:=["pot", "wish", "at", "low", "high", "pair"]) F IX yp (λaA A outer s H E B hr=>rQ
  (qL (rL (i:=2) nk (sg aq.G (hr.mono (by decide)) rfl aq.m aq.p aq.b (pv 0) (f' (sM rfl ak (f' (en 1) gs rfl)) gs rfl)))
  (qL (rE (GH (rH (en 1) (en 2)) (sE (m:=100) rfl (rX (gd_n (i:=3) (m:=100) nk) (rX (gd_n (i:=4) (m:=100) nk) sH)))))
  (qL (rL (i:=5) nk (rK (rV (sn (rY (f' (vR rfl rfl bc (f' gV (f' (vM (en 3) gV) gs rfl) rfl)) (f' (en 4) gs rfl) rfl)) (rY (f' (en 3) (f' (uY rfl rfl aP (f' gV (f' (r8 (en 4) gV) gs rfl) rfl)) gs rfl) rfl)) (rY (f' (uY rfl rfl aP (f' (r8 (en 3) gV) (f' (en 4) gs rfl) rfl)) (f' (en 4) gs rfl) rfl)) (rY (f' (en 3) (f' (vR rfl rfl bc (f' (en 3) (f' (vM (en 4) gV) gs rfl) rfl)) gs rfl) rfl)) gs rfl rfl rfl rfl))))
  (rF (rE (rO (r8 (r8 (tH (en 1) tM (sX (en 2))) (rY (f' (rH (en 5) (sg aq.G (hr.mono (by decide)) rfl aq.m aq.p aq.b (pv 0) (f' gV gs rfl))) gs rfl))) (tH (en 1) (sX (r8 (en 2) gV)) tM)))))))))
theorem FW:FnScope ["wish", "letter"] ["wish", "letter"] (defScope AN):=⟨rfl,rfl,rfl,by decide +kernel,rfl,by decide +kernel,by decide +kernel⟩
theorem Fg(F:Fun K "_law_has" "_law_has" AN f fd)(aJ:mg "zip"=none):FnOk P w K mg base CX0 2 f fd ["wish", "letter"] (spD K tX):=
 rP (k:=1) (N:=["wish", "letter"]) F FW zd (λaA A outer s H E B hr=>rQ
  (rF (rE (rO (xa hr (rK (su (N':=["number", "pair", "-wish", "-letter"]) (m:=2) (CompScope.of (by kernel_rfl)) rfl (uw rfl aJ (f' (en 1) (f' (en 0) gs rfl) rfl)) (λ_ _ _ _=>(sE (m:=2) rfl (rX (gd_n (i:=0) (m:=2) nk) (rX (gd_n (i:=1) (m:=2) nk) sH)))) (λ_ _ _ _=>(sU (TW.td (um (uK (en 0) (rH (en 1) gV)) (ue (wx (en 0) (rH (en 1) gV))))))) (λ_ _ _ _=>gV))) (rK (rV gs)))))))
theorem GL:FnScope ["wish", "found", "low", "high", "longer", "letter"] ["wish"] (defScope yj):=⟨rfl,rfl,rfl,by decide +kernel,rfl,by decide +kernel,by decide +kernel⟩
theorem LP(F:Fun K "_law_letters" "_law_letters" yj f fd)(aC:mg "range"=none):FnOk P w K mg base CX0 2 f fd ["wish"] (spD K xE):=
 rP (k:=1) (N:=["wish", "found", "low", "high", "longer", "letter"]) F GL Ak (λaA A outer s H E B hr=>rQ
  (qL (rL (i:=1) nk (rK (rV (f' (rY gs) gs rfl))))
  (qL (se RE rfl (rT (en 0)) (sE (m:=100) rfl (rX (gd_n (i:=2) (m:=100) nk) (rX (gd_n (i:=3) (m:=100) nk) sH)))
  (qL (rE (sJ (i:=4) nk (rV gs)))
  (qL (se RE rfl (rT (en 1)) (gd_n (i:=5) (m:=100) nk)
  (rF (rE (Az (pv 4) (rK (su (N':=["number", "-wish", "-found", "-low", "-high", "-longer", "letter"]) (m:=1) (CompScope.of (by kernel_rfl)) rfl (Eg rfl aC (f' (en 2) (f' (r8 (en 3) gV) gs rfl) rfl)) (λ_ _ _ _=>(gd_n (i:=0) (m:=1) nk)) (λ_ _ _ _=>sD) (λ_ _ _ _=>(r8 (en 6) (rY (f' (en 0) gs rfl))))))))))
  (rF (rL (i:=1) nk (en 4))))))
  (rF (rE (rO (en 1)))))))
theorem NB:FnScope ["one", "other", "first", "last"] ["one", "other"] (defScope yF):=⟨rfl,rfl,rfl,by decide +kernel,rfl,by decide +kernel,by decide +kernel⟩
theorem Hg(F:Fun K "_law_covers" "_law_covers" yF f fd){dW' di'}(bE:yB P w K mg base dW' di')(ay:mg "tuple"=none):FnOk P w K mg base CX0 3 f fd ["one", "other"] (spD K wj):=
 rP (k:=2) (N:=["one", "other", "first", "last"]) F NB zg (λaA A outer s H E B hr=>rQ
  (qL (rL (i:=2) nk (ud rfl ay (f' (rK (su (N':=["pair", "-one", "-other", "-first", "-last"]) (m:=1) (CompScope.of (by kernel_rfl)) rfl (rT (en 1)) (λ_ _ _ _=>(gd_n (i:=0) (m:=1) nk)) (λ_ _ _ _=>sD) (λ_ _ _ _=>(rH (en 0) gV)))) gs rfl)))
  (qL (rL (i:=3) nk (ud rfl ay (f' (rK (su (N':=["pair", "-one", "-other", "-first", "-last"]) (m:=1) (CompScope.of (by kernel_rfl)) rfl (rT (en 1)) (λ_ _ _ _=>(gd_n (i:=0) (m:=1) nk)) (λ_ _ _ _=>sD) (λ_ _ _ _=>(rH (en 0) gV)))) gs rfl)))
  (rF (rE (rO (uv (rN bE.G (hr.mono (by decide)) rfl bE.m bE.p bE.b (f' (en 0) (f' (en 2) gs rfl) rfl)) (uR (rN bE.G (hr.mono (by decide)) rfl bE.m bE.p bE.b (f' (en 0) (f' (en 3) gs rfl) rfl))))))))))
theorem HE:FnScope ["wishes", "found", "wish", "over"] ["wishes"] (defScope yA):=⟨rfl,rfl,rfl,by decide +kernel,rfl,by decide +kernel,by decide +kernel⟩
theorem Fa(F:Fun K "_law_roof" "_law_roof" yA f fd){mu' k0'}(jb:HW P w K mg base mu' k0')(aD:mg "sorted"=none):FnOk P w K mg base CX0 4 f fd ["wishes"] (spD K xh):=
 rP (k:=3) (N:=["wishes", "found", "wish", "over"]) F HE zL (λaA A outer s H E B hr=>rQ
  (qL (rE (sJ (i:=1) nk (rV gs)))
  (qL (se RE rfl (rT (rK (vF hr rfl aD (f' (en 0) gs rfl)))) (gd_n (i:=2) (m:=100) nk)
  (qL (rE (u8 (i:=3) (N':=["one", "-wishes", "-found", "wish", "-over"]) (m:=1) (CompScope.of (by kernel_rfl)) rfl nk (rT (en 0)) (λ_ _ _ _=>(gd_n (i:=0) (m:=1) nk)) (λ_ _ _ _=>(sU (TW.td (uM (sN hr (en 0) (en 3)) (uA (sL (rN jb.G (hr.mono (by decide)) rfl jb.m jb.p jb.b (f' (en 0) (f' (en 3) gs rfl) rfl)))))))) (λ_ _ _ _=>(en 0))))
  (rF (rR (TW.td (uM (sA hr (en 3) (rK (rV gs))) (uA (G5 hr (en 2) (pv 1)))))
  (rF (rE (sS (pv 1) (en 2)))) rS))))
  (rF (rE (rO (en 1)))))))
theorem Iu:FnScope ["pot", "most", "many", "way", "order", "names", "roads", "k", "ahead", "pair"] ["pot", "most"] (defScope zV):=⟨rfl,rfl,rfl,by decide +kernel,rfl,by decide +kernel,by decide +kernel⟩
theorem NK(F:Fun K "_law_web" "_law_web" zV f fd){ba' a4'}(aq:vm P w K mg base ba' a4')(aK:mg "list"=none)(aC:mg "range"=none)(ak:mg "len"=none)(aP:mg "min"=none)(bc:mg "max"=none)(aD:mg "sorted"=none)(ay:mg "tuple"=none):FnOk P w K mg base CX0 4 f fd ["pot", "most"] (spD K xK):=
 rP (k:=3) (N:=["pot", "most", "many", "way", "order", "names", "roads", "k", "ahead", "pair"]) F Iu zu (λaA A outer s H E B hr=>rQ
  (qL (rL (i:=2) nk (r8 gV (sg aq.G (hr.mono (by decide)) rfl aq.m aq.p aq.b (pv 0) (f' (en 1) gs rfl))))
  (qL (rL (i:=3) nk (sg aq.G (hr.mono (by decide)) rfl aq.m aq.p aq.b (pv 0) (f' gV gs rfl)))
  (qL (rE (sJ (i:=4) nk (DD rfl rfl aK rfl aC (f' (en 2) gs rfl))))
  (qL (rE (u8 (i:=5) (N':=["k", "pot", "-most", "-many", "-way", "order", "-names", "-roads", "-k", "-ahead", "-pair"]) (m:=1) (CompScope.of (by kernel_rfl)) rfl nk (uP rfl aC (f' (en 2) gs rfl)) (λ_ _ _ _=>(gd_n (i:=0) (m:=1) nk)) (λ_ _ _ _=>sD) (λ_ _ _ _=>(K5 (pv 5) (f' (sg aq.G (hr.mono (by decide)) rfl aq.m aq.p aq.b (pv 1) (f' (wq rfl ak (pv 5)) gs rfl)) gs rfl)))))
  (qL (rE (sJ (i:=6) nk (rV gs)))
  (qL (se RE rfl (Eg rfl aC (f' gV (f' (en 2) gs rfl) rfl)) (gd_n (i:=7) (m:=100) nk)
  (qL (rL (i:=8) nk (rH (rK (rV (sn (vM (en 7) gV) gV (sg aq.G (hr.mono (by decide)) rfl aq.m aq.p aq.b (pv 0) (f' (en 7) gs rfl)) (sg aq.G (hr.mono (by decide)) rfl aq.m aq.p aq.b (pv 0) (f' (en 7) gs rfl)) gs rfl rfl rfl rfl))) (en 3)))
  (qL (rL (i:=9) nk (rY (f' (uY rfl rfl aP (f' (rH (en 5) (en 7)) (f' (rH (en 5) (en 8)) gs rfl) rfl)) (f' (vR rfl rfl bc (f' (rH (en 5) (en 7)) (f' (rH (en 5) (en 8)) gs rfl) rfl)) gs rfl) rfl)))
  (rF (rR (TW.td (um (uK (en 3) gV) (ue (wx (sg aq.G (hr.mono (by decide)) rfl aq.m aq.p aq.b (pv 0) (f' gV gs rfl)) gV))))
  (rF (rE (sS (pv 6) (en 9)))) rS)))))
  (rF (rE (rO (rY (f' (en 2) (f' (ud rfl ay (f' (rK (vF hr rfl aD (f' (en 6) gs rfl))) gs rfl)) gs rfl) rfl))))))))))))
theorem KY:FnScope ["web", "house", "found", "one", "other"] ["web", "house"] (defScope zS):=⟨rfl,rfl,rfl,by decide +kernel,rfl,by decide +kernel,by decide +kernel⟩
theorem Gy(F:Fun K "_law_beside" "_law_beside" zS f fd)(aD:mg "sorted"=none):FnOk P w K mg base CX0 2 f fd ["web", "house"] (spD K wc):=
 rP (k:=1) (N:=["web", "house", "found", "one", "other"]) F KY zB (λaA A outer s H E B hr=>rQ
  (qL (rE (sJ (i:=2) nk (rV gs)))
  (qL (se RE rfl (rT (rH (en 0) gV)) (sE (m:=100) rfl (rX (gd_n (i:=3) (m:=100) nk) (rX (gd_n (i:=4) (m:=100) nk) sH)))
  (qL (rR (sA hr (en 3) (en 1))
  (rF (rE (sS (pv 2) (en 4)))) rS)
  (rF (rR (sA hr (en 4) (en 1))
  (rF (rE (sS (pv 2) (en 3)))) rS))))
  (rF (rE (sF (vF hr rfl aD (f' (en 2) gs rfl))))))))
theorem MP:FnScope ["pot", "web", "fields", "most", "some"] ["pot", "web", "fields", "most"] (defScope zk):=⟨rfl,rfl,rfl,by decide +kernel,rfl,by decide +kernel,by decide +kernel⟩
theorem Gi(F:Fun K "_law_holds" "_law_holds" zk f fd){mv' k1'}(jc:K8 P w K mg base mv' k1'){ba' a4'}(aq:vm P w K mg base ba' a4'):FnOk P w K mg base CX0 6 f fd ["pot", "web", "fields", "most"] (spD K xc):=
 rP (k:=5) (N:=["pot", "web", "fields", "most", "some"]) F MP zU (λaA A outer s H E B hr=>rQ
  (qL (rL (i:=4) nk (sg jc.G (hr.mono (by decide)) rfl jc.m jc.p jc.b (pv 0) (f' (en 2) (f' (en 3) gs rfl) rfl)))
  (rF (rE (sF (su (N':=["wish", "pot", "web", "-fields", "-most", "-some"]) (m:=1) (CompScope.of (by kernel_rfl)) rfl (rT (en 4)) (λ_ _ _ _=>(gd_n (i:=0) (m:=1) nk)) (λ_ _ _ _=>sD) (λ_ _ _ _=>(rY (f' (sg aq.G (hr.mono (by decide)) rfl aq.m aq.p aq.b (pv 1) (f' (rH (en 2) gV) gs rfl)) (f' (en 0) gs rfl) rfl)))))))))
theorem Hx:FnScope ["wishes", "wish", "letter"] ["wishes", "wish"] (defScope xX):=⟨rfl,rfl,rfl,by decide +kernel,rfl,by decide +kernel,by decide +kernel⟩
theorem Kn(F:Fun K "_law_all_had" "_law_all_had" xX f fd){k2' jZ'}(jd:J9 P w K mg base k2' jZ'){dW' di'}(bE:yB P w K mg base dW' di'):FnOk P w K mg base CX0 3 f fd ["wishes", "wish"] (spD K wN):=
 rP (k:=2) (N:=["wishes", "wish", "letter"]) F Hx AL (λaA A outer s H E B hr=>rQ
  (qL (se RE rfl (rT (rN jd.G (hr.mono (by decide)) rfl jd.m jd.p jd.b (f' (en 1) gs rfl))) (gd_n (i:=2) (m:=100) nk)
  (rF (rR (sA hr (rK (su (N':=["one", "-wishes", "-wish", "letter"]) (m:=1) (CompScope.of (by kernel_rfl)) rfl (rT (en 0)) (λ_ _ _ _=>(gd_n (i:=0) (m:=1) nk)) (λ_ _ _ _=>(sU (sL (rN bE.G (hr.mono (by decide)) rfl bE.m bE.p bE.b (f' (en 0) (f' (en 3) gs rfl) rfl))))) (λ_ _ _ _=>gV))) (rK (rV gs)))
  (rF (rE (rO t7))) rS)))
  (rF (rE (rO t7)))))
theorem LM:FnScope ["how", "wishes", "found", "at", "others"] ["how", "wishes"] (defScope yi):=⟨rfl,rfl,rfl,by decide +kernel,rfl,by decide +kernel,by decide +kernel⟩
theorem Je(F:Fun K "_law_short" "_law_short" yi f fd){pe' na'}(je:Gq P w K mg base pe' na'){k3' j0'}(jf:M7 P w K mg base k3' j0')(ak:mg "len"=none):FnOk P w K mg base CX0 5 f fd ["how", "wishes"] (spD K wY):=
 rP (k:=4) (N:=["how", "wishes", "found", "at", "others"]) F LM zQ (λaA A outer s H E B hr=>rQ
  (qL (rL (i:=2) nk (rN je.G (hr.mono (by decide)) rfl je.m je.p je.b (f' (en 1) gs rfl)))
  (qL (rL (i:=3) nk gV)
  (qL (Gj RE (TW.td (uM (sA hr (en 0) sO) (uA (uK (en 3) (sM rfl ak (f' (en 2) gs rfl))))))
  (qL (rL (i:=4) nk (rK (uL (tH (en 2) tM (sX (en 3))) (tH (en 2) (sX (r8 (en 3) gV)) tM))))
  (rF (rR (sL (rN jf.G (hr.mono (by decide)) rfl jf.m jf.p jf.b (f' (en 4) (f' (rH (en 2) (en 3)) gs rfl) rfl)))
  (rF (rL (i:=2) nk (en 4))) (rF (rL (i:=3) nk (r8 (en 3) gV)))))))
  (rF (rE (rO (en 2))))))))
theorem L3:FnScope ["web", "holds", "how", "house", "neighbour", "some", "other"] ["web", "holds", "how", "house", "neighbour"] (defScope wf):=⟨rfl,rfl,rfl,by decide +kernel,rfl,by decide +kernel,by decide +kernel⟩
theorem Nc{g:List R->Option (R×List R)}(hk:6<=kk)(F:Fun K "_law_told_by" "_law_told_by" wf f fd)(G:FnOk P w K mg base CX0 kk f fd ["web", "holds", "how", "house", "neighbour"] (spD K g)){by' bq'}(cb:xp P w K mg base by' bq'){fN' fe'}(fe:Be P w K mg base fN' fe')(jg:Binds K fd ["web", "holds", "how", "house", "neighbour"] [])(jh:Re K (.ref f)=true)(ji:mg "_law_told_by"=some (.ref f)):FnOk P w K mg base CX0 (kk+1) f fd ["web", "holds", "how", "house", "neighbour"] (spD K (fnD 7 5 (wU g))):=
 rP (N:=["web", "holds", "how", "house", "neighbour", "some", "other"]) F L3 (wU g) (λaA A outer s H E B hr=>rQ
  (qL (rE (u8 (i:=5) (N':=["at", "wish", "-web", "-holds", "-how", "house", "-neighbour", "-some", "-other"]) (m:=2) (CompScope.of (by kernel_rfl)) rfl nk (rT (en 1)) (λ_ _ _ _=>(sE (m:=2) rfl (rX (gd_n (i:=0) (m:=2) nk) (rX (gd_n (i:=1) (m:=2) nk) sH)))) (λ_ _ _ _=>(sU (sA hr (en 0) (en 5)))) (λ_ _ _ _=>(en 1))))
  (qL (se RE rfl (rT (rK (so cb.G (hr.mono (y_ (by decide) hk)) rfl cb.m cb.p cb.b (f' (en 0) (f' (en 3) gs rfl) rfl)))) (gd_n (i:=6) (m:=100) nk)
  (rF (rR (sN hr (en 6) (en 4))
  (rF (rL (i:=5) nk (rK (uL (en 5) (rN G hr rfl ji jh jg (sn (en 0) (en 1) (en 2) (en 6) (f' (en 3) gs rfl) rfl rfl rfl rfl)))))) rS)))
  (rF (rE (rO (rN fe.G (hr.mono (y_ (by decide) hk)) rfl fe.m fe.p fe.b (f' (en 2) (f' (en 5) gs rfl) rfl))))))))
theorem BL{f:l_}{fd:Rp}(F:Fun K "_law_told_by" "_law_told_by" wf f fd){by' bq'}(cb:xp P w K mg base by' bq'){fN' fe'}(fe:Be P w K mg base fN' fe')(jg:Binds K fd ["web", "holds", "how", "house", "neighbour"] [])(jh:Re K (.ref f)=true)(ji:mg "_law_told_by"=some (.ref f)):∀n:Nat,FnOk P w K mg base CX0 (7+n) f fd ["web", "holds", "how", "house", "neighbour"] (spD K (uE n))
 | 0=>tG
 | n+1=>Nc (y_ (by decide) (Q5 _ n)) F (BL F cb fe jg jh ji n) cb fe jg jh ji
theorem L6:FnScope ["web", "one", "other", "ahead", "there", "rest"] ["web", "one", "other", "ahead"] (defScope xm):=⟨rfl,rfl,rfl,by decide +kernel,rfl,by decide +kernel,by decide +kernel⟩
theorem GN{g:List R->Option (R×List R)}(hk:3<=kk)(F:Fun K "_law_way" "_law_way" xm f fd)(G:FnOk P w K mg base CX0 kk f fd ["web", "one", "other", "ahead"] (spD K g)){by' bq'}(cb:xp P w K mg base by' bq')(gZ:Binds K fd ["web", "one", "other", "ahead"] [])(g0:Re K (.ref f)=true)(g9:mg "_law_way"=some (.ref f)):FnOk P w K mg base CX0 (kk+1) f fd ["web", "one", "other", "ahead"] (spD K (fnD 6 4 (xJ g))):=
 rP (N:=["web", "one", "other", "ahead", "there", "rest"]) F L6 (xJ g) (λaA A outer s H E B hr=>rQ
  (qL (rR (sA hr (en 1) (en 2))
  (rF (rE (sF (rV (f' (en 1) gs rfl))))) rS)
  (qL (se RE rfl (rT (rK (so cb.G (hr.mono (y_ (by decide) hk)) rfl cb.m cb.p cb.b (f' (en 0) (f' (en 1) gs rfl) rfl)))) (gd_n (i:=4) (m:=100) nk)
  (rF (rR (sN hr (en 4) (en 3))
  (qL (rL (i:=5) nk (vt (rK (so G hr rfl g9 g0 gZ (sn (en 0) (en 4) (en 2) (en 1) gs rfl rfl rfl rfl))) (rN G hr rfl g9 g0 gZ (sn (en 0) (en 4) (en 2) (en 1) gs rfl rfl rfl rfl))))
  (rF (rR (zf (en 5) sC)
  (rF (rE (sF (uL (rK (rV (f' (en 1) gs rfl))) (en 5))))) rS))) rS)))
  (rF (rE (rO sC))))))
theorem B9{f:l_}{fd:Rp}(F:Fun K "_law_way" "_law_way" xm f fd){by' bq'}(cb:xp P w K mg base by' bq')(gZ:Binds K fd ["web", "one", "other", "ahead"] [])(g0:Re K (.ref f)=true)(g9:mg "_law_way"=some (.ref f)):∀n:Nat,FnOk P w K mg base CX0 (4+n) f fd ["web", "one", "other", "ahead"] (spD K (uf n))
 | 0=>tG
 | n+1=>GN (y_ (by decide) (Q5 _ n)) F (B9 F cb gZ g0 g9 n) cb gZ g0 g9
theorem Ip:FnScope ["web", "holds", "lists", "house", "letter", "number", "houses", "found", "one", "other", "some"] ["web", "holds", "lists", "house", "letter", "number"] (defScope AT):=⟨rfl,rfl,rfl,by decide +kernel,rfl,by decide +kernel,by decide +kernel⟩
theorem Jm(F:Fun K "_law_due" "_law_due" AT f fd){q5' pf'}(eB:GP P w K mg base q5' pf'){dW' di'}(bE:yB P w K mg base dW' di')(aJ:mg "zip"=none):FnOk P w K mg base CX0 26 f fd ["web", "holds", "lists", "house", "letter", "number"] (spD K ux):=
 rP (k:=25) (N:=["web", "holds", "lists", "house", "letter", "number", "houses", "found", "one", "other", "some"]) F Ip Ap (λaA A outer s H E B hr=>rQ
  (qL (rL (i:=6) nk (vt (rK (so eB.G (hr.mono (by decide)) rfl eB.m eB.p eB.b (sn (en 0) (en 3) (rH (rH (en 1) (en 5)) gV) (AJ gV) gs rfl rfl rfl rfl))) (rN eB.G (hr.mono (by decide)) rfl eB.m eB.p eB.b (sn (en 0) (en 3) (rH (rH (en 1) (en 5)) gV) (AJ gV) gs rfl rfl rfl rfl))))
  (qL (rR (TW.td (um (xZ (en 6) sC) (ue (vq (sL (rN bE.G (hr.mono (by decide)) rfl bE.m bE.p bE.b (f' (rH (rH (en 1) (en 5)) gV) (f' (en 4) gs rfl) rfl)))))))
  (rF (rE (rO sC))) rS)
  (qL (rE (sJ (i:=7) nk (rV gs)))
  (qL (se RE rfl (uw rfl aJ (f' (en 6) (f' (tH (en 6) (sX gV) tM) gs rfl) rfl)) (sE (m:=100) rfl (rX (gd_n (i:=8) (m:=100) nk) (rX (gd_n (i:=9) (m:=100) nk) sH)))
  (qL (rE (u8 (i:=10) (N':=["wish", "-web", "-holds", "-lists", "-house", "letter", "-number", "-houses", "-found", "-one", "-other", "-some"]) (m:=1) (CompScope.of (by kernel_rfl)) rfl nk (rT (Jb hr (pv 2) (rY (f' (en 8) (f' (en 9) gs rfl) rfl)))) (λ_ _ _ _=>(gd_n (i:=0) (m:=1) nk)) (λ_ _ _ _=>(sU (sL (rN bE.G (hr.mono (by decide)) rfl bE.m bE.p bE.b (f' (en 0) (f' (en 5) gs rfl) rfl))))) (λ_ _ _ _=>(en 0))))
  (rF (rE (sS (pv 7) (rY (f' (en 8) (f' (en 9) (f' (rH (en 10) gV) gs rfl) rfl) rfl)))))))
  (rF (rE (rO (en 7)))))))))
theorem Kc:FnScope ["web", "holds", "how", "found", "one", "other"] ["web", "holds", "how"] (defScope zR):=⟨rfl,rfl,rfl,by decide +kernel,rfl,by decide +kernel,by decide +kernel⟩
theorem M3(F:Fun K "_law_lists" "_law_lists" zR f fd){k4' j1'}(eC:IJ P w K mg base k4' j1'):FnOk P w K mg base CX0 28 f fd ["web", "holds", "how"] (spD K vU):=
 rP (k:=27) (N:=["web", "holds", "how", "found", "one", "other"]) F Kc AF (λaA A outer s H E B hr=>rQ
  (qL (rE (Bm (i:=3) nk Kz))
  (qL (se RE rfl (rT (rH (en 0) gV)) (sE (m:=100) rfl (rX (gd_n (i:=4) (m:=100) nk) (rX (gd_n (i:=5) (m:=100) nk) sH)))
  (qL (rE (BO hr (pv 3) (rY (f' (en 4) (f' (en 5) gs rfl) rfl)) (rN eC.G (hr.mono (by decide)) rfl eC.m eC.p eC.b (sn (en 0) (en 1) (en 2) (en 5) (f' (en 4) gs rfl) rfl rfl rfl rfl))))
  (rF (rE (BO hr (pv 3) (rY (f' (en 5) (f' (en 4) gs rfl) rfl)) (rN eC.G (hr.mono (by decide)) rfl eC.m eC.p eC.b (sn (en 0) (en 1) (en 2) (en 4) (f' (en 5) gs rfl) rfl rfl rfl rfl)))))))
  (rF (rE (Mh (pv 3)))))))
theorem Ly:FnScope ["script", "pot", "turn", "fields", "web", "holds", "letters", "at", "wish", "house", "letter", "how", "lists", "number", "due", "handed", "found"] ["script"] (defScope zE):=⟨rfl,rfl,rfl,by decide +kernel,rfl,by decide +kernel,by decide +kernel⟩
theorem Ih(F:Fun K "law" "law" zE f fd){q6' pg'}(jj:II P w K mg base q6' pg'){ba' a4'}(aq:vm P w K mg base ba' a4'){q7' ph'}(jk:Lv P w K mg base q7' ph'){nb' mw'}(jl:FH P w K mg base nb' mw'){nc' mx'}(jm:KM P w K mg base nc' mx'){q8' pi'}(jn:F3 P w K mg base q8' pi'){pj' nd'}(eD:FE P w K mg base pj' nd'){pk' ne'}(jo:HG P w K mg base pk' ne')(aC:mg "range"=none)(ay:mg "tuple"=none)(ak:mg "len"=none)(aK:mg "list"=none):FnOk P w K mg base CX0 96 f fd ["script"] (spD K uu):=
 rP (k:=95) (N:=["script", "pot", "turn", "fields", "web", "holds", "letters", "at", "wish", "house", "letter", "how", "lists", "number", "due", "handed", "found"]) F Ly zv (λaA A outer s H E B hr=>rQ
  (qL (rE (sJ (i:=1) nk (so jj.G (hr.mono (by decide)) rfl jj.m jj.p jj.b (f' (en 0) gs rfl))))
  (qL (se RE rfl (uP rfl aC (f' gV gs rfl)) (gd_n (i:=2) (m:=100) nk)
  (qL (rL (i:=3) nk (r8 gV (sg aq.G (hr.mono (by decide)) rfl aq.m aq.p aq.b (pv 1) (f' gV gs rfl))))
  (qL (rL (i:=4) nk (sg jk.G (hr.mono (by decide)) rfl jk.m jk.p jk.b (pv 1) (f' gV gs rfl)))
  (qL (rL (i:=5) nk (rK (G0 jl.G (hr.mono (by decide)) rfl jl.m jl.p jl.b (pv 1) (f' (en 4) (f' (en 3) (f' gV gs rfl) rfl) rfl))))
  (qL (rE (sJ (i:=6) nk (rV (f' (ud rfl ay (f' (rK (su (N':=["k", "-script", "pot", "-turn", "-fields", "-web", "-holds", "-letters", "-at", "-wish", "-house", "-letter", "-how", "-lists", "-number", "-due", "-handed", "-found"]) (m:=1) (CompScope.of (by kernel_rfl)) rfl (uP rfl aC (f' (en 3) gs rfl)) (λ_ _ _ _=>(gd_n (i:=0) (m:=1) nk)) (λ_ _ _ _=>sD) (λ_ _ _ _=>(sg aq.G (hr.mono (by decide)) rfl aq.m aq.p aq.b (pv 2) (f' gV gs rfl))))) gs rfl)) gs rfl))))
  (qL (se RE rfl (rT (en 5)) (sE (m:=100) rfl (rX (gd_n (i:=7) (m:=100) nk) (rX (gd_n (i:=8) (m:=100) nk) sH)))
  (rF (rE (sS (pv 6) (ud rfl ay (f' (rK (su (N':=["pair", "-script", "pot", "-turn", "-fields", "-web", "-holds", "-letters", "-at", "-wish", "-house", "-letter", "-how", "-lists", "-number", "-due", "-handed", "-found"]) (m:=1) (CompScope.of (by kernel_rfl)) rfl (rT (en 8)) (λ_ _ _ _=>(gd_n (i:=0) (m:=1) nk)) (λ_ _ _ _=>sD) (λ_ _ _ _=>(rH (en 0) (sg aq.G (hr.mono (by decide)) rfl aq.m aq.p aq.b (pv 2) (f' gV gs rfl)))))) gs rfl))))))
  (qL (rL (i:=9) nk (sg aq.G (hr.mono (by decide)) rfl aq.m aq.p aq.b (pv 1) (f' (rH (en 4) gV) gs rfl)))
  (qL (rL (i:=10) nk (sQ (pv 6) (sg aq.G (hr.mono (by decide)) rfl aq.m aq.p aq.b (pv 1) (f' (wq rfl ak (pv 6)) gs rfl))))
  (rF (se RE rfl (rT (rK (rV (f' sO (f' sO gs rfl) rfl)))) (gd_n (i:=11) (m:=100) nk)
  (qL (rE (Bm (i:=12) nk (M2 jm.G (hr.mono (by decide)) rfl jm.m jm.p jm.b (f' (en 4) (f' (en 5) (f' (en 11) gs rfl) rfl) rfl))))
  (rF (se RE rfl (uP rfl aC (f' (sM rfl ak (f' (en 5) gs rfl)) gs rfl)) (gd_n (i:=13) (m:=100) nk)
  (qL (rL (i:=14) nk (Hu jn.G (hr.mono (by decide)) rfl jn.m jn.p jn.b (en 4) (en 5) (pv 12) (f' (en 9) (f' (en 10) (f' (en 13) gs rfl) rfl) rfl)))
  (qL (rL (i:=15) nk (rK (Eb rfl aK (f' (en 5) gs rfl))))
  (qL (rL (i:=16) nk (vt (rK (so eD.G (hr.mono (by decide)) rfl eD.m eD.p eD.b (sn (en 4) (en 15) (en 11) (en 9) (f' (en 10) (f' (en 13) gs rfl) rfl) rfl rfl rfl rfl))) (rN eD.G (hr.mono (by decide)) rfl eD.m eD.p eD.b (sn (en 4) (en 15) (en 11) (en 9) (f' (en 10) (f' (en 13) gs rfl) rfl) rfl rfl rfl rfl))))
  (rF (rR (TW.td (um (vq (sL (rN jo.G (hr.mono (by decide)) rfl jo.m jo.p jo.b (f' (en 16) (f' (en 14) gs rfl) rfl)))) (ue (sN hr (en 15) (en 5)))))
  (rF (rE (rO t7))) rS))))))))))))))))))
  (rF (rE (rO t7))))))
end
structure Dn(K:PySem.W.Frag)(mg:Str->Option b_)(x:Str)(st:Qo)(f:l_)(fd:Rp):Prop where
 F:Fun K x x st f fd
 m:mg x=some (.ref f)
 a:nsIn K QV x=some (some (.ref f))
theorem dn{K:PySem.W.Frag}{h:L_}{st:Qo}{sl:Array (Option b_)}{kV dc:b_}(X:K.In h)(G:h.Ns QV mg)(a:nsIn K QV x=some (some (.ref f)))(l:K.lookup f=some ⟨oc,od,.func (Ub x x (defArgs st) (defBody st) (defScope st) .none kV dc pm an cd ct),sl⟩)(c:codeIn K cd x=true)(k:Re K (.ref f)=true):Dn K mg x st f (Ub x x (defArgs st) (defBody st) (defScope st) .none kV dc pm an cd ct):=⟨Gf l c k,PySem.W.mg_of X G a,a⟩
section
variable{P:A_}{w:I_}{K:PySem.W.Frag}{st:Qo}{g:List R->Option (R×List R)}
theorem lenOf1{α:Type}{us:List α}(h:us.length=1):∃a,us=[a]:=by
 obtain⟨a,us,rfl⟩:=N_ h;exact⟨a,by rw[Q1.mp (RY h)]⟩
theorem lenOf2{α:Type}{us:List α}(h:us.length=2):∃a b,us=[a,b]:=by
 obtain⟨a,us,rfl⟩:=N_ h;obtain⟨b,rfl⟩:=lenOf1 (RY h);exact⟨a,b,rfl⟩
theorem lenOf3{α:Type}{us:List α}(h:us.length=3):∃a b c,us=[a,b,c]:=by
 obtain⟨a,us,rfl⟩:=N_ h;obtain⟨b,c,rfl⟩:=lenOf2 (RY h);exact⟨a,b,c,rfl⟩
theorem lenOf4{α:Type}{us:List α}(h:us.length=4):∃a b c d,us=[a,b,c,d]:=by
 obtain⟨a,us,rfl⟩:=N_ h;obtain⟨b,c,d,rfl⟩:=lenOf3 (RY h);exact⟨a,b,c,d,rfl⟩
theorem lenOf5{α:Type}{us:List α}(h:us.length=5):∃a b c d e,us=[a,b,c,d,e]:=by
 obtain⟨a,us,rfl⟩:=N_ h;obtain⟨b,c,d,e,rfl⟩:=lenOf4 (RY h);exact⟨a,b,c,d,e,rfl⟩
theorem lenOf6{α:Type}{us:List α}(h:us.length=6):∃a b c d e f,us=[a,b,c,d,e,f]:=by
 obtain⟨a,us,rfl⟩:=N_ h;obtain⟨b,c,d,e,f,rfl⟩:=lenOf5 (RY h);exact⟨a,b,c,d,e,f,rfl⟩
theorem Dn.b1{p:Str}(D:Dn K mg x st f fd)(h:∀(kV dc pm:b_) (an:Option l_) (cd ct a:b_),Rz (Ub x x (defArgs st) (defBody st) (defScope st) .none kV dc pm an cd ct) ⟨[a],[]⟩=pure [(p,a)]:=by intros;rfl):Binds K fd [p] []:=D.F.binds λ_ _ _ _ _ _ us hl=>by obtain⟨a,rfl⟩:=lenOf1 hl;exact h _ _ _ _ _ _ a
theorem Dn.c1{p:Str}(D:Dn K mg x st f fd)(G:FnOk P w K mg base CX0 k f fd [p] (spD K g))(h:∀(kV dc pm:b_) (an:Option l_) (cd ct a:b_),Rz (Ub x x (defArgs st) (defBody st) (defScope st) .none kV dc pm an cd ct) ⟨[a],[]⟩=pure [(p,a)]:=by intros;rfl):Cd P w K mg base k f fd [p] g x:=⟨G,D.b1 h,D.F.kp,D.m⟩
theorem Dn.b2{p q:Str}(D:Dn K mg x st f fd)(h:∀(kV dc pm:b_) (an:Option l_) (cd ct a b:b_),Rz (Ub x x (defArgs st) (defBody st) (defScope st) .none kV dc pm an cd ct) ⟨[a,b],[]⟩=pure [(p,a),(q,b)]:=by intros;rfl):Binds K fd [p,q] []:=D.F.binds λ_ _ _ _ _ _ us hl=>by obtain⟨a,b,rfl⟩:=lenOf2 hl;exact h _ _ _ _ _ _ a b
theorem Dn.c2{p q:Str}(D:Dn K mg x st f fd)(G:FnOk P w K mg base CX0 k f fd [p,q] (spD K g))(h:∀(kV dc pm:b_) (an:Option l_) (cd ct a b:b_),Rz (Ub x x (defArgs st) (defBody st) (defScope st) .none kV dc pm an cd ct) ⟨[a,b],[]⟩=pure [(p,a),(q,b)]:=by intros;rfl):Cd P w K mg base k f fd [p,q] g x:=⟨G,D.b2 h,D.F.kp,D.m⟩
theorem Dn.b3{p q r:Str}(D:Dn K mg x st f fd)(h:∀(kV dc pm:b_) (an:Option l_) (cd ct a b c:b_),Rz (Ub x x (defArgs st) (defBody st) (defScope st) .none kV dc pm an cd ct) ⟨[a,b,c],[]⟩=pure [(p,a),(q,b),(r,c)]:=by intros;rfl):Binds K fd [p,q,r] []:=D.F.binds λ_ _ _ _ _ _ us hl=>by obtain⟨a,b,c,rfl⟩:=lenOf3 hl;exact h _ _ _ _ _ _ a b c
theorem Dn.c3{p q r:Str}(D:Dn K mg x st f fd)(G:FnOk P w K mg base CX0 k f fd [p,q,r] (spD K g))(h:∀(kV dc pm:b_) (an:Option l_) (cd ct a b c:b_),Rz (Ub x x (defArgs st) (defBody st) (defScope st) .none kV dc pm an cd ct) ⟨[a,b,c],[]⟩=pure [(p,a),(q,b),(r,c)]:=by intros;rfl):Cd P w K mg base k f fd [p,q,r] g x:=⟨G,D.b3 h,D.F.kp,D.m⟩
theorem Dn.b4{p q r s:Str}(D:Dn K mg x st f fd)(h:∀(kV dc pm:b_) (an:Option l_) (cd ct a b c d:b_),Rz (Ub x x (defArgs st) (defBody st) (defScope st) .none kV dc pm an cd ct) ⟨[a,b,c,d],[]⟩=pure [(p,a),(q,b),(r,c),(s,d)]:=by intros;rfl):Binds K fd [p,q,r,s] []:=D.F.binds λ_ _ _ _ _ _ us hl=>by obtain⟨a,b,c,d,rfl⟩:=lenOf4 hl;exact h _ _ _ _ _ _ a b c d
theorem Dn.c4{p q r s:Str}(D:Dn K mg x st f fd)(G:FnOk P w K mg base CX0 k f fd [p,q,r,s] (spD K g))(h:∀(kV dc pm:b_) (an:Option l_) (cd ct a b c d:b_),Rz (Ub x x (defArgs st) (defBody st) (defScope st) .none kV dc pm an cd ct) ⟨[a,b,c,d],[]⟩=pure [(p,a),(q,b),(r,c),(s,d)]:=by intros;rfl):Cd P w K mg base k f fd [p,q,r,s] g x:=⟨G,D.b4 h,D.F.kp,D.m⟩
theorem Dn.b5{p q r s t:Str}(D:Dn K mg x st f fd)(h:∀(kV dc pm:b_) (an:Option l_) (cd ct a b c d e:b_),Rz (Ub x x (defArgs st) (defBody st) (defScope st) .none kV dc pm an cd ct) ⟨[a,b,c,d,e],[]⟩=pure [(p,a),(q,b),(r,c),(s,d),(t,e)]:=by intros;rfl):Binds K fd [p,q,r,s,t] []:=D.F.binds λ_ _ _ _ _ _ us hl=>by obtain⟨a,b,c,d,e,rfl⟩:=lenOf5 hl;exact h _ _ _ _ _ _ a b c d e
theorem Dn.c5{p q r s t:Str}(D:Dn K mg x st f fd)(G:FnOk P w K mg base CX0 k f fd [p,q,r,s,t] (spD K g))(h:∀(kV dc pm:b_) (an:Option l_) (cd ct a b c d e:b_),Rz (Ub x x (defArgs st) (defBody st) (defScope st) .none kV dc pm an cd ct) ⟨[a,b,c,d,e],[]⟩=pure [(p,a),(q,b),(r,c),(s,d),(t,e)]:=by intros;rfl):Cd P w K mg base k f fd [p,q,r,s,t] g x:=⟨G,D.b5 h,D.F.kp,D.m⟩
theorem Dn.b6{p q r s t u:Str}(D:Dn K mg x st f fd)(h:∀(kV dc pm:b_) (an:Option l_) (cd ct a b c d e f:b_),Rz (Ub x x (defArgs st) (defBody st) (defScope st) .none kV dc pm an cd ct) ⟨[a,b,c,d,e,f],[]⟩=pure [(p,a),(q,b),(r,c),(s,d),(t,e),(u,f)]:=by intros;rfl):Binds K fd [p,q,r,s,t,u] []:=D.F.binds λ_ _ _ _ _ _ us hl=>by obtain⟨a,b,c,d,e,f,rfl⟩:=lenOf6 hl;exact h _ _ _ _ _ _ a b c d e f
theorem Dn.c6{p q r s t u:Str}(D:Dn K mg x st f fd)(G:FnOk P w K mg base CX0 k f fd [p,q,r,s,t,u] (spD K g))(h:∀(kV dc pm:b_) (an:Option l_) (cd ct a b c d e f:b_),Rz (Ub x x (defArgs st) (defBody st) (defScope st) .none kV dc pm an cd ct) ⟨[a,b,c,d,e,f],[]⟩=pure [(p,a),(q,b),(r,c),(s,d),(t,e),(u,f)]:=by intros;rfl):Cd P w K mg base k f fd [p,q,r,s,t,u] g x:=⟨G,D.b6 h,D.F.kp,D.m⟩
end
theorem all_mk{P:A_}{w:I_}{K:PySem.W.Frag}(pw:mg "law"=some (.ref fa)){f0 d0}(D0:Dn K mg "must_be_kin" zm f0 d0){f1 d1}(D1:Dn K mg "has_letter" Am f1 d1){f2 d2}(D2:Dn K mg "covers" Aj f2 d2){f3 d3}(D3:Dn K mg "in_common" yb f3 d3){f4 d4}(D4:Dn K mg "roof_of" yV f4 d4){f5 d5}(D5:Dn K mg "is_under_another" Ax f5 d5){f6 d6}(D6:Dn K mg "covered" yq f6 d6){f7 d7}(D7:Dn K mg "looked_through" wM f7 d7){f8 d8}(D8:Dn K mg "first_border" yy f8 d8){f9 d9}(D9:Dn K mg "halves_of" yM f9 d9){f10 d10}(mO:Dn K mg "spare_of" AH f10 d10){f11 d11}(mP:Dn K mg "must_be_house" yQ f11 d11){f12 d12}(mQ:Dn K mg "neighbours_of" zy f12 d12){f13 d13}(mR:Dn K mg "way_between" Ab f13 d13){f14 d14}(hG:Dn K mg "way_on" wZ f14 d14){f15 d15}(mS:Dn K mg "short_of" Af f15 d15){f16 d16}(mT:Dn K mg "wishes_of" zD f16 d16){f17 d17}(hU:Dn K mg "heard_of" xx f17 d17){f18 d18}(mU:Dn K mg "led_by" yl f18 d18){f19 d19}(hV:Dn K mg "roads_on" wV f19 d19){f20 d20}(mV:Dn K mg "leading" yz f20 d20){f21 d21}(mW:Dn K mg "chain_to" zq f21 d21){f22 d22}(mX:Dn K mg "_law_blend" AS f22 d22){f23 d23}(mY:Dn K mg "_law_pot" AG f23 d23){f24 d24}(mZ:Dn K mg "_law_pick" zp f24 d24){f25 d25}(hW:Dn K mg "_law_same" wm f25 d25){f26 d26}(m9:Dn K mg "_law_wish" yK f26 d26){f27 d27}(nc:Dn K mg "_law_wishes" zF f27 d27){f28 d28}(ni:Dn K mg "_law_nudged" zK f28 d28){f29 d29}(nn:Dn K mg "_law_has" AN f29 d29){f30 d30}(np:Dn K mg "_law_letters" yj f30 d30){f31 d31}(nr:Dn K mg "_law_covers" yF f31 d31){f32 d32}(nv:Dn K mg "_law_roof" yA f32 d32){f33 d33}(nw:Dn K mg "_law_web" zV f33 d33){f34 d34}(ny:Dn K mg "_law_beside" zS f34 d34){f35 d35}(nz:Dn K mg "_law_holds" zk f35 d35){f36 d36}(nA:Dn K mg "_law_all_had" xX f36 d36){f37 d37}(nB:Dn K mg "_law_short" yi f37 d37){f38 d38}(hX:Dn K mg "_law_told_by" wf f38 d38){f39 d39}(hZ:Dn K mg "_law_way" xm f39 d39){f40 d40}(nC:Dn K mg "_law_due" AT f40 d40){f41 d41}(nD:Dn K mg "_law_lists" zR f41 d41){f42 d42}(kP:Dn K mg "law" zE f42 d42)(cE:mg "all"=none)(eX:mg "any"=none)(bx:mg "bool"=none)(aL:mg "enumerate"=none)(bR:mg "int"=none)(am:mg "isinstance"=none)(ak:mg "len"=none)(aK:mg "list"=none)(bc:mg "max"=none)(aP:mg "min"=none)(aC:mg "range"=none)(eW:mg "set"=none)(aD:mg "sorted"=none)(cF:mg "str"=none)(ay:mg "tuple"=none)(aJ:mg "zip"=none):
  ∃fd:Rp,(∀(s:c_) (v:b_),Vf s fd ⟨[v],[]⟩ [("script", v)])/\∀base:L_,K.In base->base.Ns QV mg->FnOk P w K mg base CX0 96 fa fd ["script"] (spD K uu):=by
 cases pw.symm.trans kP.m;refine⟨d42,λs v=>?_,λbase _ _=>?_⟩
 ·obtain⟨_,_,_,_,_,_,_,_,_,rfl,_,_⟩:=kP.F.ex;exact .of_eq rfl
 have px:=mY.c1 (JU (P:=P) (w:=w) (base:=base) mY.F aK aL);have pz:=mX.c2 (J5 (P:=P) (w:=w) (base:=base) mX.F );have fM:=mZ.c2 (NJ mZ.F pz ak);have pA:=nw.c2 (NK nw.F fM aK aC ak aP bc aD ay);have pB:=m9.c4 (HH m9.F fM aC aP bc ay);have pC:=ni.c2 (Ib ni.F fM ak bc aP);have pD:=nc.c3 (GI nc.F fM pB pC aP aC ak);have pE:=nz.c4 (Gi nz.F pD fM);have nE:=ny.c2 (Gy (P:=P) (w:=w) (base:=base) ny.F aD);have kQ:=nn.c2 (Fg (P:=P) (w:=w) (base:=base) nn.F aJ);have pF:=nr.c2 (Hg nr.F kQ ay);have pG:=nv.c1 (Fa nv.F pF aD);have pH:=np.c1 (LP (P:=P) (w:=w) (base:=base) np.F aC);have pI:=nA.c2 (Kn nA.F pH kQ);have pJ:=nB.c2 (Je nB.F pG pI ak);have pK:=hX.c5 (BL hX.F nE pJ hX.b5 hX.F.kp hX.m 20);have pL:=nD.c3 (M3 nD.F pK);have pM:=hZ.c4 (B9 hZ.F nE hZ.b4 hZ.F.kp hZ.m 21);have pN:=nC.c6 (Jm nC.F pM kQ aJ);have C0:=D0.c1 (FZ (P:=P) (w:=w) (base:=base) D0.F ak);have nF:=mT.c1 (IP (P:=P) (w:=w) (base:=base) mT.F );have kR:=mP.c2 (Gv (P:=P) (w:=w) (base:=base) mP.F );have kS:=mQ.c2 (Io mQ.F kR aD);have C2:=D2.c2 (FB D2.F C0 aJ cE);have C5:=D5.c2 (M9 D5.F C2 eX);have C4:=D4.c1 (Hy D4.F C0 C5 aD eW);have C3:=D3.c2 (Me D3.F C0 aJ bc aP ay);have C8:=D8.c2 (IN (P:=P) (w:=w) (base:=base) D8.F aL aP);have C9:=D9.c3 (MZ (P:=P) (w:=w) (base:=base) D9.F );have C7:=D7.c3 (CB D7.F C3 C2 C8 C9 ak ay D7.b3 D7.F.kp D7.m 40);have C6:=D6.c2 (F2 D6.F C0 C7 ak aK aC);have pO:=mO.c1 (LW mO.F C4 C6);have pP:=mS.c2 (FT mS.F pO C4);have pQ:=hU.c5 (DT hU.F nF kS pP hU.b5 hU.F.kp hU.m 20);have C1:=D1.c2 (Lg D1.F C0 aJ cE);have nG:=mV.c6 (HV mV.F pQ C1);have pR:=hV.c6 (DU hV.F kS nG ak hV.b6 hV.F.kp hV.m 20);have pU:=mU.c5 (Ij mU.F C0 nF kR pR C1 aD aL);have pV:=hG.c4 (BQ hG.F kS hG.b4 hG.F.kp hG.m 21);have pW:=mR.c3 (MN mR.F kR pV);have pX:=mW.c6 (GR mW.F pU pW nG ak aJ);have pY:=hW.c2 (EC (P:=P) (w:=w) (base:=base) hW.F am bx cF bR aK ay ak aJ hW.b2 hW.F.kp hW.m 8);exact Ih kP.F px fM pA pE pL pN pX pY aC ay ak aK
theorem walk{l:PySem.W.OpenLaw}{q:A_}{XP:(Str->Option b_)->L_->Prop}{YP:I_->L_->Prop}{d:DefRec}{K:Params->PySem.W.Frag}(nH:∀ns:List Int,ns.length<=63->∃rs,uu [.val (.lst (ns.map D.int))]=some (.val (.bl true),rs))(hn:l.most=some 63)(ge:d.params.defaults=[])(hY:∀(w:I_) (h:L_),YP w h->(K w.params).In h)(F:∀(w:I_) (mg:Str->Option b_) (fa:l_) (h:L_),(K w.params).In h->h.Ns QV mg->mg d.name=some (.ref fa) →
   ∃fd:Rp,(∀(s:c_) (u:b_),Vf s fd ⟨[u],[]⟩ [("script", u)])/\∀base:L_,(K w.params).In base->base.Ns QV mg->FnOk l.prog w (K w.params) mg base CX0 96 fa fd ["script"] (spD (K w.params) uu)):
  PySem.W.WalkO q cw XP YP l.row.toRowW d [] (λf vs=>PySem.call f vs):=
 Kl (n:=63) (k:=96) (x:= "script") (CX:=λ_=>CX0) (sp:=λw=>spD (K w.params) uu) hn (by decide) ge ⟨rfl,by decide,by decide,rfl⟩ hY F (λ_ H a ns hl _ hS=>Gc hS (nH ns hl)) λ_ _ _ _ _ z=>z
end Own
namespace Own
open DL L2
def PotOk(c:List D):Prop:=∃(ns:List Int) (ff ag:Int),c=[.lst (ns.map .int),.int ff,.int ag]/\0<=ff
theorem Hb(a b:Int):∃z,cvF vO [.int a,.int b]=some (.int z):=by
 have:wpF vO [.val (.int a),.val (.int b)] λr _=>∃z,r=.val (.int z):=by
  refine sP rfl λKE hE _=>?_
  rw[yE];refine qw ?_;rintro K hK hR;simp;split
  ·exact hR _ _ (hE _ _ ⟨_,rfl,_,rfl⟩)
  ·refine hK _ ?_;refine qw ?_;rintro K hK -;simp;refine hK _ ?_;have l1:=Tw (a % 998244353*40692+b*69621+1009) (show(2147483399:Int)≠0 by decide);have u1:=Sr (a % 998244353*40692+b*69621+1009) (show(0:Int) < 2147483399 by decide);generalize (a % 998244353*40692+b*69621+1009) % 2147483399=x at *;refine qw ?_;rintro K hK -;simp;refine⟨by omega,hK _ ?_⟩;have l2:=Tw (x*x+b*48271+a % 131071) (show(2147483647:Int)≠0 by decide);have u2:=Sr (x*x+b*48271+a % 131071) (show(0:Int) < 2147483647 by decide);generalize (x*x+b*48271+a % 131071) % 2147483647=y at *;refine qw ?_;rintro K hK -;simp;refine⟨by omega,hK _ ?_⟩;generalize (y*y+x*17+3) % 2147483629=z at *;simp;exact hE _ _ ⟨_,rfl,_,rfl⟩
 obtain⟨r,aS,e,z,rfl⟩:=this;exact⟨z,by unfold cvF;simp only[map];rw[e]⟩
theorem sr{c:List D}{u:Int}{Q:R->List D->Prop}(hc:PotOk c)(h1:1<=u)(h2:u < 2 ^ 200)(k:∀n c',0<=n->n < u->PotOk c'->Q (.val (.int n)) c'):wpB sh c [.int u] Q:=by
 obtain⟨ns,ff,ag,rfl,h0⟩:=hc;refine vb rfl λKE hE _=>?_
 rw[xV];refine uV (λac=>∃kT jO x y z,0<=kT/\ac=[some (.bor [.lst (ns.map .int),.int kT,.int jO]),some (.val (.int u)),x,y,z]) (λK hK _=>?_) ?_
 ·simp[isMut,R.mut];split
  ·refine qw λK1 bN _=>?_
   simp[isMut,R.mut];refine bN _ ?_;refine qw λK1 bN _=>?_
   simp[isMut,R.mut];refine bN _ ?_;refine uV (λac=>∃m,ac=[some (.bor [.lst (ns.map .int),.int ff,.int ag]),some (.val (.int u)),some (.val (.int ff)),some (.val (.int m)),none]) (λK1 bN _=>?_) ?_
   ·simp[isMut,R.mut];split
    ·rename_i h;obtain⟨a,e,m⟩:=zN (ds:=ns.map D.int) h0 (by simpa using h);obtain⟨b,_,rfl⟩:=F_.mp m;rw[zJ e];simp;exact bN _ ⟨_,rfl⟩
    ·rename_i h;split
     ·exact bN _ ⟨_,rfl⟩
     ·rename_i h';have hl:0 < ns.length:=by cases ns with | nil=>simp at h' | cons=>simp
      refine⟨by omega,?_⟩;obtain⟨a,e,m⟩:=zN (ds:=ns.map D.int) (i:=(ff*7+1) % (ns.length:Int)) (Tw _ (by omega)) (by simpa using Sr _ (by omega));obtain⟨b,_,rfl⟩:=F_.mp m;rw[zJ e];simp;exact⟨by omega,bN _ ⟨_,rfl⟩⟩
   ·rintro ac ⟨m,rfl⟩;refine qw λK1 bN _=>?_
    simp[isMut,R.mut];refine bN _ ?_;obtain⟨z,e⟩:=Hb m ff;simp[isMut,R.mut,e];exact hK _ ⟨_,_,_,_,_,by omega,rfl⟩
  ·exact hK _ ⟨_,_,_,_,_,h0,rfl⟩
 ·rintro ac ⟨kT,jO,x,y,z,h3,rfl⟩;refine qw ?_;rintro K hK -;simp[isMut,R.mut];refine⟨by omega,hK _ ?_⟩;refine qw ?_;rintro K hK -;simp[isMut,R.mut];refine⟨⟨by omega,by simpa using h2⟩,hK _ ?_⟩;simp;exact hE _ _ _ ⟨_,rfl⟩ (k _ _ (Tw _ (by omega)) (Sr _ (by omega)) ⟨_,_,_,rfl,h3⟩)
theorem vI{xs:List D}(h:(numD m xs)[i]?=some d):∃x,xs[i]?=some x/\d=.tup [.int ((m+i:Nat):Int),x]:=by
 induction xs generalizing m i with
 | nil=>simp[numD] at h
 | cons a xs ih =>
  cases i with
  | zero=>simp[numD] at h;exact⟨a,rfl,h.symm⟩
  | succ i =>
   simp only[numD,List.getElem?_cons_succ] at h;obtain⟨x,e1,e2⟩:=ih h;exact⟨x,by simpa using e1,by rw[e2,show m+1+i=m+(i+1) from by omega]⟩
theorem Ea{α:Type}{f:α->D}{xs:List α}{lo:Option Int}:∃ys:List α,cutD (xs.map f) lo hi=ys.map f/\(∀y∈ys,y∈xs)/\ys.length=min (HT.sIx xs.length xs.length hi - HT.sIx xs.length 0 lo) (xs.length - HT.sIx xs.length 0 lo):=by
 refine⟨(xs.drop (HT.sIx xs.length 0 lo)).take (HT.sIx xs.length xs.length hi - HT.sIx xs.length 0 lo),?_,?_,?_⟩
 ·unfold cutD;simp[T6,V4]
 ·intro y h;exact S0 (Ro h)
 ·simp
theorem G2(ns:List Int):∃d,coF vV [.lst (ns.map .int)]=some d/\PotOk d:=by
 refine LC ?_;unfold vV;refine Eu rfl ?_;rw[zH];refine qw λK hK _=>?_
 simp;refine hK _ ?_;obtain⟨cs,e,-,hl⟩:=Ea (f:=D.int) (xs:=ns) (lo:=none) (hi:=some 12);rw[e]
 have dH:cs.length=min 12 ns.length:=by
  rw[hl];simp[HT.sIx]
 refine uV (λac=>∃cs,∃x y z,ac=[x,some (.own (map D.int cs)),y,z]) (λK hK _=>?_) ?_
 ·simp;obtain⟨ms,e,-,hm⟩:=Ea (f:=D.int) (xs:=ns) (lo:=some 12) (hi:=some 63);rw[e];refine CI (J:=λi Y=>∃cs:List Int,∃y z,cs.length=min 12 ns.length/\Y=[some (.val (.lst (ns.map .int))),some (.own (cs.map .int)),y,z]) ⟨cs,_,_,dH,rfl⟩ ?_ ?_
  ·rintro i d Y hd ⟨cs,y,z,hc,rfl⟩;obtain⟨x,e1,rfl⟩:=vI hd;rw[u_,C_] at e1;obtain⟨n,e1,rfl⟩:=e1;have hi:i < ms.length:=(m_.mp e1).1
   have qX:12 < ns.length:=by
    simp[HT.sIx] at hm;omega
   simp[isMut,R.mut];have jS:cs.length=12:=by omega
   have pZ:((i:Int) % 12)=((i % 12:Nat):Int):=by omega
   rw[pZ];have bF:i % 12 < cs.length:=by omega
   rw[zJ (a:=D.int cs[i % 12]) (by rw[sV];simp[bF])];simp;refine⟨(cs.set (i % 12) (cs[i % 12]+n)).map .int,?_,?_⟩
   ·unfold stF L2.ixN;rw[if_pos (by omega),if_pos (by simp;omega),show((i:Int) % 12).toNat=i % 12 from by omega];simp
   ·exact⟨cs.set (i % 12) (cs[i % 12]+n),by simpa using hc,by simp⟩
  ·rintro Y ⟨cs,y,z,hc,rfl⟩;exact hK _ ⟨cs,_,_,_,rfl⟩
 ·rintro ac ⟨cs,x,y,z,rfl⟩;simp[flR,fin];exact⟨cs,0,0,rfl,by omega⟩
noncomputable def pairD(p:Int×Int):D:=.tup [.int p.1,.int p.2]
noncomputable def wishD(w:List (Int×Int)):D:=.tup (w.map pairD)
noncomputable def letD(l:List Int):D:=.tup (l.map .int)
structure PairOk(p:Int×Int):Prop where
 lo:0<=p.1
 le:p.1<=p.2
 hi:p.2<=9
structure Wf(n:Nat)(w:List (Int×Int)):Prop where
 len:w.length=n
 all:∀p∈w,PairOk p
theorem v7{lo:Int}(h:(rngD lo n)[i]?=some d):d=.int (lo+i)/\i < n:=by
 unfold rngD at h;rw[u_,C_] at h;obtain⟨k,h1,rfl⟩:=h;obtain⟨h2,h3⟩:=m_.mp h1;rw[TH] at h3;subst h3;exact⟨rfl,by simpa using h2⟩
@[simp] theorem Au{lo:Int}:(rngD lo n).length=n:=by simp[rngD]
theorem Wf.app{w:List (Int×Int)}(h:Wf n w){p:Int×Int}(hp:PairOk p):Wf (n+1) (w++[p]):=by
 refine⟨by simp[h.len],λq hq=>?_⟩
 rcases K_.mp hq with h1 | h1
 ·exact h.all q h1
 ·rw[t_.mp h1];exact hp
theorem Mx{c:List D}{f:Nat}{top:Int}{Q:R->List D->Prop}(hc:PotOk c)(hf:f<=100)(h1:0<=low)(h2:1<=top)(h3:low+top<=10)(k:∀w c',Wf f w->PotOk c'->Q (.val (wishD w)) c'):wpB xH c [.int f,.int low,.int top] Q:=by
 refine vb rfl λKE hE _=>?_
 rw[y0];refine qw ?_;rintro K hK -;refine⟨_,_,rfl,hK _ ?_⟩;show wp _ [some (.bor c),some (.val (.int f)),some (.val (.int low)),some (.val (.int top)),some (.own []),none,none,none] _;refine qw ?_;rintro K hK -;simp;refine⟨by omega,?_⟩;refine sj (J:=λi Y=>∃c w x y z,PotOk c/\Wf i w/\Y=[some (.bor c),some (.val (.int f)),some (.val (.int low)),some (.val (.int top)),some (.own (w.map pairD)),x,y,z]) ⟨c,[],_,_,_,hc,⟨rfl,by simp⟩,rfl⟩ ?_ ?_
 ·rintro i d Y hd ⟨c,w,x,y,z,hc,hw,rfl⟩ KL az - - -;obtain⟨rfl,hi⟩:=v7 hd;simp;refine qw ?_;rintro K hK -;simp[isMut,R.mut];refine sr hc h2 (by omega) λn c' fg db aM=>?_
  simp;refine hK _ ?_;refine qw ?_;rintro K hK -;simp[isMut,R.mut];refine sr aM h2 (by omega) λm nI dI bP h9=>?_
  simp;refine hK _ ?_;simp[isMut,R.mut];refine⟨by have:=hw.len;omega,az _ ?_⟩;exact⟨_,w++[(low+min n m,low+max n m)],_,_,_,h9,hw.app ⟨by simp;omega,by simp;omega,by simp;omega⟩,by rw[Rw];rfl⟩
 ·rintro Y ⟨c,w,x,y,z,hc,hw,rfl⟩;refine hK _ ?_;rw[Au] at hw;simp;exact hE _ _ _ ⟨_,rfl⟩ (k w c hw hc)
theorem Ji{c:List D}{f:Nat}{w:List (Int×Int)}{Q:R->List D->Prop}(hc:PotOk c)(hw:Wf f w)(h0:1<=f)(hf:f<=100)(k:∀w c',Wf f w->PotOk c'->Q (.val (wishD w)) c'):wpB xi c [wishD w] Q:=by
 refine vb rfl λKE hE _=>?_
 rw[yp];refine qw ?_;rintro K hK -;simp[isMut,R.mut,wishD];refine sr hc (by rw[hw.len];omega) (by rw[hw.len];omega) λn c' fg db aM=>?_
 simp;refine hK _ ?_;obtain⟨n,rfl⟩:=Q9 fg;have hn:n < w.length:=by omega
 obtain⟨p,hp⟩:∃p,w[n]?=some p:=⟨_,g_ hn⟩;have dO:PairOk p:=hw.all p (B_ hp);have e1:atI (w.map pairD) (n:Int)=some (pairD p):=by rw[DL.sV];simp[hp]
 refine qw ?_;rintro K hK -;simp[e1];simp[pairD];refine hK _ ?_;refine qw ?_;rintro K hK -;refine⟨_,_,rfl,hK _ ?_⟩;show wp _ [some (R.bor c'),some (R.val (D.tup (w.map pairD))),some (.val (.int n)),some (.val (.int p.1)),some (.val (.int p.2)),some (.val (.lst [D.tup [.int (if p.1 - 1 > 0 then p.1 - 1 else 0),.int p.2],.tup [.int p.1,.int (if p.2+1 < 9 then p.2+1 else 9)],.tup [.int (if p.2 < p.1+1 then p.2 else p.1+1),.int p.2],.tup [.int p.1,.int (if p.2 - 1 > p.1 then p.2 - 1 else p.1)]]))] _
 have aT:∀m:Int,0<=m->m < 4->∃q,PairOk q/\atI [D.tup [.int (if p.1 - 1 > 0 then p.1 - 1 else 0),.int p.2],.tup [.int p.1,.int (if p.2+1 < 9 then p.2+1 else 9)],.tup [.int (if p.2 < p.1+1 then p.2 else p.1+1),.int p.2],.tup [.int p.1,.int (if p.2 - 1 > p.1 then p.2 - 1 else p.1)]] m=some (pairD q):=λm dI bP=>by
  have:=dO.lo;have:=dO.le;have:=dO.hi;have:m=0\/m=1\/m=2\/m=3:=by omega
  rcases this with rfl | rfl | rfl | rfl
  ·exact⟨(if p.1 - 1 > 0 then p.1 - 1 else 0,p.2),⟨by dsimp only;split<;>omega,by dsimp only;split<;>omega,by dsimp only;omega⟩,rfl⟩
  ·exact⟨(p.1,if p.2+1 < 9 then p.2+1 else 9),⟨by dsimp only;omega,by dsimp only;split<;>omega,by dsimp only;split<;>omega⟩,rfl⟩
  ·exact⟨(if p.2 < p.1+1 then p.2 else p.1+1,p.2),⟨by dsimp only;split<;>omega,by dsimp only;split<;>omega,by dsimp only;omega⟩,rfl⟩
  ·exact⟨(p.1,if p.2 - 1 > p.1 then p.2 - 1 else p.1),⟨by dsimp only;omega,by dsimp only;split<;>omega,by dsimp only;split<;>omega⟩,rfl⟩
 generalize [D.tup [.int (if p.1 - 1 > 0 then p.1 - 1 else 0),.int p.2],.tup [.int p.1,.int (if p.2+1 < 9 then p.2+1 else 9)],.tup [.int (if p.2 < p.1+1 then p.2 else p.1+1),.int p.2],.tup [.int p.1,.int (if p.2 - 1 > p.1 then p.2 - 1 else p.1)]]=ps at aT ⊢;have e2:slF (.tup (w.map pairD)) none (some (n:Int))=some (.tup ((w.map pairD).take n)):=Dp (by simpa using hn);have e3:slF (.tup (w.map pairD)) (some ((n:Int)+1)) none=some (.tup ((w.map pairD).drop (n+1))):=Do (n:=n+1) (by simp;omega) (by omega);simp[isMut,R.mut,e2];refine sr aM (by omega) (by omega) λm nI dI bP h9=>?_
 obtain⟨q,hq,eq⟩:=aT m dI bP;simp[eq,e3];refine⟨by have:=hw.len;omega,by have:=hw.len;omega,hE _ _ _ ⟨_,rfl⟩ ?_⟩;have:=k (w.take n++[q]++w.drop (n+1)) nI ⟨by have:=hw.len;simp;omega,λr hr=>?_⟩ h9
 ·simpa[wishD,V4,T6] using this
 ·simp at hr
  rcases hr with h | h | h
  ·exact hw.all r (Ro h)
  ·rw[h];exact hq
  ·exact hw.all r (S0 h)
theorem AO{α:Type}{f:α->D}{xs:List α}{i:Int}(h0:0<=i)(h1:i < xs.length):∃x,x∈xs/\atI (xs.map f) i=some (f x):=by
 obtain⟨a,e,m⟩:=zN (ds:=xs.map f) h0 (by simpa using h1);obtain⟨b,hb,rfl⟩:=F_.mp m;exact⟨b,hb,e⟩
theorem uU(h:∀d∈ds,dep d<=n):depA ds<=n:=by
 induction ds with
 | nil=>simp[depA]
 | cons d ds ih =>
  rw[depA];have h1:=h d k_;have h2:=ih λd hd=>h d (i_ _ hd)
  omega
theorem u7{w:List (Int×Int)}:dep (wishD w)<=2:=by
 unfold wishD;rw[dep]
 have:depA (w.map pairD)<=1:=uU λd hd=>by
  obtain⟨p,_,rfl⟩:=F_.mp hd;unfold pairD;simp[dep,depA]
 omega
theorem Gb{c:List D}{f:Nat}{Q:R->List D->Prop}(hc:PotOk c)(h0:1<=f)(hf:f<=3)(h1:0<=most)(h2:most<=100)(k:∀(ws:List (List (Int×Int))) c',(∀w∈ws,Wf f w)->(ws.length:Int)<=most->PotOk c'->Q (.val (.lst (ws.map wishD))) c'):wpB wQ c [.int f,.int most] Q:=by
 refine vb rfl λKE hE _=>?_
 rw[ze];refine qw ?_;rintro K hK -;simp[isMut,R.mut];refine sr hc (by omega) (by omega) λn c' fg db aM=>?_
 simp
 have e1:∃t:Int,1<=t/\t<=10/\atI [D.int 2,D.int 3,D.int 4,D.int 10] n=some (.int t):=by
  have:n=0\/n=1\/n=2\/n=3:=by omega
  rcases this with rfl | rfl | rfl | rfl
  ·exact⟨2,by omega,by omega,rfl⟩
  ·exact⟨3,by omega,by omega,rfl⟩
  ·exact⟨4,by omega,by omega,rfl⟩
  ·exact⟨10,by omega,by omega,rfl⟩
 obtain⟨t,qY,qZ,e1⟩:=e1
 have e2:∃t:Int,1<=t/\t<=10/\atI [D.int 10,D.int 10,D.int 5,D.int 4] (f:Int)=some (.int t):=by
  have:f=1\/f=2\/f=3:=by omega
  rcases this with rfl | rfl | rfl
  ·exact⟨10,by omega,by omega,rfl⟩
  ·exact⟨5,by omega,by omega,rfl⟩
  ·exact⟨4,by omega,by omega,rfl⟩
 obtain⟨t',qC,qD,e2⟩:=e2;simp[e1,e2];refine hK _ ?_;refine qw ?_;rintro K hK -;simp[isMut,R.mut];refine sr aM (by omega) (by omega) λlow c' c9 dH aM=>?_
 simp;refine hK _ ?_;refine qw ?_;rintro K hK -;simp;refine hK _ ?_;refine qw ?_;rintro K hK -;simp[isMut,R.mut];refine sr aM (by omega) (by omega) λqE c' dI bP aM=>?_
 simp;refine⟨by omega,?_⟩;refine sj (J:=λi Y=>∃(c:List D) (ws:List (List (Int×Int))) (x y z:Option R),PotOk c/\(∀w∈ws,Wf f w)/\ws.length=i/\Y=[some (.bor c),some (.val (.int f)),some (.val (.int most)),some (.val (.int (min t t'))),some (.val (.int low)),some (.own (ws.map wishD)),x,y,z]) ⟨c',[],_,_,_,aM,by simp,rfl,rfl⟩ ?_ ?_
 ·rintro i d Y hd ⟨c,ws,x,y,z,hc,aI,hi,rfl⟩ KL az - - -;obtain⟨rfl,cp⟩:=v7 hd;simp;refine qw ?_;rintro K hK -;simp[isMut,R.mut];refine sr hc (by omega) (by omega) λway c' qa qb aM=>?_
  simp;refine hK _ ?_;refine qw ?_;rintro K hK -;simp[isMut,R.mut];refine Mx aM (by omega) c9 (by omega) (by omega) λw c' hw aM=>?_
  simp;refine hK _ ?_;refine uV (λY=>∃(c:List D) (w:List (Int×Int)) (x:Option R),PotOk c/\Wf f w/\Y=[some (.bor c),some (.val (.int f)),some (.val (.int most)),some (.val (.int (min t t'))),some (.val (.int low)),some (.own (ws.map wishD)),x,some (.val (.int way)),some (.val (wishD w))]) ?_ ?_
  ·rintro K hK -;simp[isMut,R.mut];split
   ·split
    ·exact hK _ ⟨_,_,_,aM,hw,rfl⟩
    ·rename_i dJ;have nJ:0 < ws.length:=Tj.mpr dJ;refine sr aM (by omega) (by omega) λn c' fg db aM=>?_
     obtain⟨w',fh,e⟩:=AO (f:=wishD) fg db;simp[e];exact hK _ ⟨_,_,_,aM,aI _ fh,rfl⟩
   ·exact hK _ ⟨_,_,_,aM,hw,rfl⟩
  ·rintro Y ⟨c,w,x,hc,hw,rfl⟩;refine uV (λY=>∃(c:List D) (w:List (Int×Int)) (x y:Option R),PotOk c/\Wf f w/\Y=[some (.bor c),some (.val (.int f)),some (.val (.int most)),some (.val (.int (min t t'))),some (.val (.int low)),some (.own (ws.map wishD)),x,y,some (.val (wishD w))]) ?_ ?_
   ·rintro K hK -;simp[isMut,R.mut];split
    ·split
     ·exact hK _ ⟨_,_,_,_,hc,hw,rfl⟩
     ·rename_i dJ;have nJ:0 < ws.length:=Tj.mpr dJ;refine sr hc (by omega) (by omega) λn c' fg db aM=>?_
      obtain⟨w',fh,e⟩:=AO (f:=wishD) fg db;simp[e];refine Ji aM (aI _ fh) h0 (by omega) λw c' hw aM=>?_
      simp;exact hK _ ⟨_,_,_,_,aM,hw,rfl⟩
    ·exact hK _ ⟨_,_,_,_,hc,hw,rfl⟩
   ·rintro Y ⟨c,w,x,y,hc,hw,rfl⟩;simp[isMut,R.mut];refine⟨by omega,az _ ⟨_,ws++[w],_,_,_,hc,λv hv=>?_,by simp;omega,by rw[Rw];rfl⟩⟩
    rcases K_.mp hv with h | h
    ·exact aI v h
    ·rw[t_.mp h];exact hw
 ·rintro Y ⟨c,ws,x,y,z,hc,aI,hi,rfl⟩;refine hK _ ?_;rw[Au] at hi;simp;exact hE _ _ _ ⟨_,rfl⟩ (k ws c aI (by omega) hc)
noncomputable def hasB(w:List (Int×Int))(l:List Int):Bool:=(w.zip l).all λq=>decide (q.1.1<=q.2)&&decide (q.2<=q.1.2)
noncomputable def covB(a b:List (Int×Int)):Bool:=(a.zip b).all λq=>decide (q.1.1<=q.2.1)&&decide (q.2.2<=q.1.2)
@[simp] theorem Pg{α:Type}{xs:List α}:V5 (λ_=>true) xs=xs:=by
 induction xs with
 | nil=>rfl
 | cons x xs ih=>simp
@[simp] theorem OK{p:Int×Int}:ixF (pairD p) (.int 0)=some (.int p.1):=rfl
@[simp] theorem P4{p:Int×Int}:ixF (pairD p) (.int 1)=some (.int p.2):=rfl
def SzK:Nat->D->Prop
 | 0,_=>False
 | k+1,.tup ds=>ds.length<=1000000/\∀d∈ds,SzK k d
 | k+1,.lst ds=>ds.length<=1000000/\∀d∈ds,SzK k d
 | _+1,_=>True
@[simp] theorem NP{k:Ki}:isiF k d=some (.bl (isiB k d)):=rfl
@[simp] theorem Pk{i:Int}:negI (.int i)=some (.int (-i)):=rfl
@[simp] theorem Om{b:Bool}:isNF b d .non=some (.bl (if b then !isN d else isN d)):=rfl
@[simp ↓] theorem NV{a:D}{QD:D->Gm->Prop}:wp (lft (inF neg a (.lst ds))) Y QD↔dep a<=99/\QD (.bl (if neg then !ds.any (λd=>deq d a) else ds.any λd=>deq d a)) Y:=by
 simp only[inF,Hs,tU]
@[simp] theorem N4:isiB .iT .non=false:=rfl
@[simp] theorem Op{x:Bool}:isiB .iT (.bl x)=true:=rfl
@[simp] theorem PZ{x:Int}:isiB .iT (.int x)=true:=rfl
@[simp] theorem Ph:isiB .iT (.str x)=false:=rfl
@[simp] theorem Ou{x:List D}:isiB .iT (.tup x)=false:=rfl
@[simp] theorem Po{x:List D}:isiB .iT (.lst x)=false:=rfl
@[simp] theorem OV:isiB .sT .non=false:=rfl
@[simp] theorem OA{x:Bool}:isiB .sT (.bl x)=false:=rfl
@[simp] theorem NY{x:Int}:isiB .sT (.int x)=false:=rfl
@[simp] theorem NU:isiB .sT (.str x)=true:=rfl
@[simp] theorem OD{x:List D}:isiB .sT (.tup x)=false:=rfl
@[simp] theorem Pu{x:List D}:isiB .sT (.lst x)=false:=rfl
@[simp] theorem Oa:isiB .bT .non=false:=rfl
@[simp] theorem N8{x:Bool}:isiB .bT (.bl x)=true:=rfl
@[simp] theorem Pn{x:Int}:isiB .bT (.int x)=false:=rfl
@[simp] theorem O5:isiB .bT (.str x)=false:=rfl
@[simp] theorem OU{x:List D}:isiB .bT (.tup x)=false:=rfl
@[simp] theorem PP{x:List D}:isiB .bT (.lst x)=false:=rfl
@[simp] theorem PQ:isiB .tT .non=false:=rfl
@[simp] theorem P8{x:Bool}:isiB .tT (.bl x)=false:=rfl
@[simp] theorem Of{x:Int}:isiB .tT (.int x)=false:=rfl
@[simp] theorem Pc:isiB .tT (.str x)=false:=rfl
@[simp] theorem OQ{x:List D}:isiB .tT (.tup x)=true:=rfl
@[simp] theorem OL{x:List D}:isiB .tT (.lst x)=false:=rfl
@[simp] theorem Pz:isiB .lT .non=false:=rfl
@[simp] theorem NR{x:Bool}:isiB .lT (.bl x)=false:=rfl
@[simp] theorem Pj{x:Int}:isiB .lT (.int x)=false:=rfl
@[simp] theorem Oh:isiB .lT (.str x)=false:=rfl
@[simp] theorem Ox{x:List D}:isiB .lT (.tup x)=false:=rfl
@[simp] theorem Oc{x:List D}:isiB .lT (.lst x)=true:=rfl
theorem DA{xs:List D}:pairsD xs xs=xs.map λx=>.tup [x,x]:=by
 unfold pairsD
 induction xs with
 | nil=>rfl
 | cons x xs ih=>simp only[QN,D_,ih]
theorem zo:∀{k:Nat}{d:D},SzK k d->cvF (sW k) [d,d]=some (.bl true)
 | 0,_,h=>h.elim
 | k+1,d,h=>by
  rw[sW];cases d with
  | non=>rfl
  | bl b=>cases b<;>rfl
  | int i =>
   have e:cvF (fnD 2 2 (uo (sW k))) [.int i,.int i]=some (.bl (i == i)):=rfl;rw[e,beq_self_eq_true]
  | str i =>
   have e:cvF (fnD 2 2 (uo (sW k))) [.str i,.str i]=some (.bl (i == i)):=rfl;rw[e,beq_self_eq_true]
  | tup ds =>
   obtain⟨h1,h2⟩:=h;refine sw rfl λKE k1 _=>?_
   rw[uo];refine qw ?_;rintro K hK -;refine⟨_,_,rfl,hK _ ?_⟩;refine qw ?_;rintro K hK -;refine⟨_,_,rfl,hK _ ?_⟩;refine qw ?_;rintro K hK -;refine⟨_,_,rfl,hK _ ?_⟩;refine qw ?_;rintro K hK -;refine⟨_,_,rfl,hK _ ?_⟩;refine qw ?_;rintro K hK -;simp;refine hK _ ?_;simp;refine t5 ds (λx=>.tup [x,x]) (λ_=>true) (λ_=>.bl true) ?_;simp[DA];refine⟨h1,λx hx=>?_,?_⟩
   ·simp[zo (h2 x hx)]
   ·have e:ds.any ((λd=>deq d (D.bl false))∘λx=>D.bl true)=false:=by simp[SU]
    rw[e];exact k1 _ ⟨_,rfl⟩
  | lst ds =>
   obtain⟨h1,h2⟩:=h;refine sw rfl λKE k1 _=>?_
   rw[uo];refine qw ?_;rintro K hK -;refine⟨_,_,rfl,hK _ ?_⟩;refine qw ?_;rintro K hK -;refine⟨_,_,rfl,hK _ ?_⟩;refine qw ?_;rintro K hK -;refine⟨_,_,rfl,hK _ ?_⟩;refine qw ?_;rintro K hK -;refine⟨_,_,rfl,hK _ ?_⟩;refine qw ?_;rintro K hK -;simp;refine hK _ ?_;simp;refine t5 ds (λx=>.tup [x,x]) (λ_=>true) (λ_=>.bl true) ?_;simp[DA];refine⟨h1,λx hx=>?_,?_⟩
   ·simp[zo (h2 x hx)]
   ·have e:ds.any ((λd=>deq d (D.bl false))∘λx=>D.bl true)=false:=by simp[SU]
    rw[e];exact k1 _ ⟨_,rfl⟩
theorem xg(h:∀d∈ds,∃xs:List D,d=.tup xs/\xs.length=n):cvF sR [.lst ds]=some .non:=by
 refine sw rfl λK _ k2=>?_
 rw[At];simp;refine sj (J:=λi Y=>∃x,Y=[some (.val (.lst ds)),x]) ⟨_,rfl⟩ ?_ ?_
 ·rintro i d Y hd ⟨x,rfl⟩ KL az - - -;obtain⟨xs,rfl,hx⟩:=h d (B_ hd);cases ds with
  | nil=>simp at hd
  | cons d0 ds =>
   obtain⟨ys,rfl,hy⟩:=h d0 k_;simp[hx,hy];exact az _ ⟨_,rfl⟩
 ·rintro Y ⟨x,rfl⟩;exact k2 _ rfl ⟨_,rfl⟩
theorem Ac{a b:List D}(h:a.length=b.length):cvF sR [.lst [.tup a,.tup b]]=some .non:=
 xg (n:=a.length) (by simp[h])
theorem Ex{a b:List (Int×Int)}(h:a.length=b.length)(hl:a.length<=1000):cvF vN [wishD a,wishD b]=some (.bl (covB a b)):=by
 refine sw rfl λK k1 _=>?_
 rw[yL];refine qw ?_;rintro K hK -;simp[wishD,Ac,h];refine hK _ ?_;simp;refine t5 (a.zip b) (λq=>.tup [pairD q.1,pairD q.2]) (λ_=>true) (λq=>.bl (decide (q.1.1<=q.2.1)&&decide (q.2.2<=q.1.2))) ?_;simp[uS];refine⟨by omega,?_,?_⟩
 ·rintro a b n m hm;split<;>omega
 ·rw[Dm];simp;exact k1 _ ⟨_,rfl⟩
theorem BH{w:List (Int×Int)}(h:w.length=l.length)(hl:w.length<=1000):cvF ut [wishD w,letD l]=some (.bl (hasB w l)):=by
 refine sw rfl λK k1 _=>?_
 rw[zW];refine qw ?_;rintro K hK -;simp[wishD,letD,Ac,h];refine hK _ ?_;simp;refine t5 (w.zip l) (λq=>.tup [pairD q.1,.int q.2]) (λ_=>true) (λq=>.bl (decide (q.1.1<=q.2)&&decide (q.2<=q.1.2))) ?_;simp[uS];refine⟨by omega,?_,?_⟩
 ·rintro a b n hm;split<;>omega
 ·rw[Dm];simp;exact k1 _ ⟨_,rfl⟩
theorem Nu{w:List (Int×Int)}:(V5 (λq:Int×(Int×Int)=>decide (q.1 < q.2.1)||decide (q.2.2 < q.1)) (l.zip w)).isEmpty=hasB w l:=by
 unfold hasB
 induction l generalizing w with
 | nil=>simp
 | cons n l ih =>
  cases w with
  | nil=>simp
  | cons p w =>
   rw[QN,QN,Si,QY];by_cases h:p.1<=n/\n<=p.2
   ·rw[if_neg (by simp;omega),ih];simp[h]
   ·rw[if_pos (by simp;omega)];simp;omega
theorem wa{w:List (Int×Int)}(h:w.length=l.length)(hl:w.length<=1000):cvF tX [wishD w,letD l]=some (.bl (hasB w l)):=by
 refine sw rfl λK k1 _=>?_
 rw[zd];simp[wishD,letD];refine t5 (l.zip w) (λq=>.tup [.int q.1,pairD q.2]) (λq=>decide (q.1 < q.2.1)||decide (q.2.2 < q.1)) (λq=>.int 1) ?_;simp[uS];refine⟨by omega,?_,?_⟩
 ·rintro n a b hm;split<;>omega
 ·rw[Nu];exact k1 _ ⟨_,rfl⟩
theorem JZ{a b:List (Int×Int)}(hb:∀p∈b,PairOk p):(hasB a (b.map (·.1))&&hasB a (b.map (·.2)))=covB a b:=by
 unfold hasB covB
 induction a generalizing b with
 | nil=>simp
 | cons p a ih =>
  cases b with
  | nil=>simp
  | cons q b =>
   have h1:=ih λp hp=>hb p (i_ _ hp)
   have h2:=(hb q k_).le;simp only[D_,QN,QY];rw[←h1];by_cases h3:p.1<=q.1<;>by_cases h4:q.2<=p.2
   ·simp[h3,h4,show q.1<=p.2 by omega,show p.1<=q.2 by omega]
   ·simp[h3,h4]
   ·simp[h3,h4]
   ·simp[h3,h4]
theorem Fx{a b:List (Int×Int)}(h:a.length=b.length)(hl:a.length<=1000)(hb:∀p∈b,PairOk p):cvF wj [wishD a,wishD b]=some (.bl (covB a b)):=by
 refine sw rfl λKE k1 _=>?_
 rw[zg];refine qw ?_;rintro K hK -;simp;refine sB b pairD (λ_=>true) (λq=>.int q.1) ?_;simp[wishD];refine⟨by omega,hK _ ?_⟩;refine qw ?_;rintro K hK -;simp;refine sB b pairD (λ_=>true) (λq=>.int q.2) ?_;simp;refine⟨by omega,hK _ ?_⟩;have e1:=wa (w:=a) (l:=b.map (·.1)) (by simpa using h) hl;have e2:=wa (w:=a) (l:=b.map (·.2)) (by simpa using h) hl;simp[wishD,letD,SU] at e1 e2;simp[e1];have:=JZ (a:=a) hb;split
 ·rename_i h1;simp[e2];rw[h1] at this;simp at this;rw[this];exact k1 _ ⟨_,rfl⟩
 ·rename_i h1;have h1:hasB a (b.map (·.1))=false:=by simpa using h1
  rw[h1] at this;simp at this;rw[this] at k1;exact k1 _ ⟨_,rfl⟩
noncomputable def lettersB(w:List (Int×Int))(ag:List (List Int)):List (List Int):=w.foldl (λag p=>ag.flatMap λl=>(Qw (p.2+1 - p.1).toNat).map λk:Nat=>l++[p.1+(k:Int)]) ag
theorem Ga{lo:Int}:(ag.flatMap λl=>(Qw n).map λk:Nat=>l++[lo+(k:Int)]).length=ag.length*n:=by
 induction ag with
 | nil=>simp
 | cons l ag ih=>rw[Qj,p_,ih];simp[Vw];omega
theorem CN{xs:List Nat}(h:∀x∈xs,x<=m):xs.sum<=xs.length*m:=by
 induction xs with
 | nil=>simp
 | cons x xs ih =>
  have h1:=h x k_;have h2:=ih λx hx=>h x (i_ _ hx)
  rw[sum_cons,Qi,Vw];omega
theorem IS{w:List (Int×Int)}(hw:∀p∈w,PairOk p)(hl:w.length<=3):cvF xE [wishD w]=some (.lst ((lettersB w [[]]).map letD)):=by
 refine sw rfl λKE k1 _=>?_
 rw[Ak];refine qw ?_;rintro K hK -;simp;refine hK _ ?_;refine qw ?_;rintro K hK -;simp[wishD];refine sj (J:=λi Y=>∃(ag:List (List Int)) (x y z u:Option R),ag.length<=10 ^ i/\(∀l∈ag,l.length=i)/\lettersB w [[]]=lettersB (w.drop i) ag/\Y=[some (.val (wishD w)),some (.val (.lst (ag.map letD))),x,y,z,u]) ⟨[[]],_,_,_,_,by simp,by simp,rfl,rfl⟩ ?_ ?_
 ·rintro i d Y hd ⟨ag,x,y,z,u,ha,hb,he,rfl⟩ KL az - - -;rw[u_,C_] at hd;obtain⟨p,hp,rfl⟩:=hd;obtain⟨hi,fi⟩:=m_.mp hp;have dO:=hw p (B_ hp);have hn:(p.2+1 - p.1).toNat<=10:=by have:=dO.lo;have:=dO.hi;omega
  have ra:ag.length<=100:=y_ ha (y_ (Nat.pow_le_pow_right (by omega) (show i<=2 by omega)) (by omega));simp[pairD];refine qw ?_;rintro K hK -;simp;refine hK _ ?_;refine qw ?_;rintro K hK -;simp;refine sj (J:=λj Y=>∃(u:Option R),Y=[some (.val (wishD w)),some (.val (.lst (ag.map letD))),some (.val (.int p.1)),some (.val (.int p.2)),some (.own (((ag.take j).flatMap λl=>(Qw (p.2+1 - p.1).toNat).map λk:Nat=>l++[p.1+(k:Int)]).map letD)),u]) ⟨_,rfl⟩ ?_ ?_
  ·rintro j d Y hd ⟨u,rfl⟩ KL az - - -;rw[u_,C_] at hd;obtain⟨l,hl,rfl⟩:=hd;simp[isMut,R.mut];refine sB (Qw (p.2+1 - p.1).toNat) (λk:Nat=>.int (p.1+(k:Int))) (λ_=>true) (λk=>letD (l++[p.1+(k:Int)])) ?_;simp[letD,rngD];have rb:=hb l (B_ hl)
   have hs:(List.take j (map (λa=>(p.2+1 - p.1).toNat) ag)).sum<=1000:=by
    refine y_ (CN (m:=10) λx hx=>?_) ?_
    ·have:=Ro hx;simp at this;omega
    ·simp;omega
   refine⟨by have:=dO.lo;have:=dO.hi;have:=dO.le;omega,by omega,λx _=>by omega,by omega,az _ ⟨some (.val (letD l)),?_⟩⟩
   ·have:ag.take (j+1)=ag.take j++[l]:=by
     rw[QK,hl];rfl
    rw[this];simp[letD,SU]
  ·rintro Y ⟨u,rfl⟩;refine hK _ ?_;simp;refine az _ ⟨_,_,_,_,_,?_,?_,?_,rfl⟩
   ·rw[Ga,Nat.pow_succ];exact Nat.mul_le_mul ha hn
   ·intro l hl;simp at hl;obtain⟨l',h1,k,h2,rfl⟩:=hl;simp[hb l' h1]
   ·rw[he,P_ hi,fi];unfold lettersB;rw[SE]
 ·rintro Y ⟨ag,x,y,z,u,ha,hb,he,rfl⟩;refine hK _ ?_;simp[lettersB] at he;simp;rw[←he];exact k1 _ ⟨_,rfl⟩
noncomputable def rngL(lo hi:Int):List Int:=(Qw (hi+1 - lo).toNat).map λk:Nat=>lo+(k:Int)
theorem u4{lo hi:Int}(h:hi < lo):rngL lo hi=[]:=by
 unfold rngL;rw[show(hi+1 - lo).toNat=0 by omega];rfl
theorem v8{lo hi:Int}(h:lo<=hi):rngL lo hi=lo::rngL (lo+1) hi:=by
 unfold rngL;rw[show(hi+1 - lo).toNat=(hi+1 - (lo+1)).toNat+1 by omega,RN];simp;intro a _;omega
theorem FC{lo hi n:Int}:n∈rngL lo hi↔lo<=n/\n<=hi:=by
 unfold rngL;simp;constructor
 ·rintro⟨k,h1,rfl⟩;omega
 ·rintro⟨h1,h2⟩;exact⟨(n - lo).toNat,by omega,by omega⟩
theorem IM{a b c d:Int}:(rngL a b).filter (λn=>decide (c<=n)&&decide (n<=d))=rngL (max a c) (min b d):=by
 obtain⟨m,hm⟩:∃m:Nat,(b+1 - a).toNat=m:=⟨_,rfl⟩
 induction m generalizing a with
 | zero=>rw[u4 (by omega),u4 (by omega)];rfl
 | succ m ih =>
  rw[v8 (by omega),Si,ih (a:=a+1) (by omega)];by_cases h1:c<=a
  ·by_cases h2:a<=d
   ·rw[if_pos (by simp[h1,h2]),v8 (lo:=max a c) (by omega),show max a c=a by omega,show max (a+1) c=a+1 by omega]
   ·rw[if_neg (by simp[h2]),u4 (by omega),u4 (by omega)]
  ·rw[if_neg (by simp[h1]),show max (a+1) c=max a c by omega]
noncomputable def lettersR:List (Int×Int)->List (List Int)
 | []=>[[]]
 | p::w=>(rngL p.1 p.2).flatMap λn=>(lettersR w).map (n::·)
theorem Np{w:List (Int×Int)}:lettersB w ag=ag.flatMap λl=>(lettersR w).map (l++·):=by
 induction w generalizing ag with
 | nil=>simp[lettersB,lettersR]
 | cons p w ih =>
  have:lettersB (p::w) ag=lettersB w (ag.flatMap λl=>(Qw (p.2+1 - p.1).toNat).map λk:Nat=>l++[p.1+(k:Int)]):=by simp[lettersB]
  rw[this,ih,lettersR,Tp]
  congr 1
  funext l
  simp[rngL,List.flatMap_map,UK,SU]
theorem Hi{w:List (Int×Int)}:lettersB w [[]]=lettersR w:=by
 rw[Np];simp
theorem wD{w:List (Int×Int)}:l∈lettersR w↔l.length=w.length/\hasB w l=true:=by
 induction w generalizing l with
 | nil=>simp[lettersR,hasB]
 | cons p w ih =>
  cases l with
  | nil=>simp[lettersR]
  | cons n l =>
   simp[lettersR,FC,hasB] at ih ⊢;constructor
   ·rintro⟨h1,h2⟩;obtain⟨h3,h4⟩:=ih.mp h2;exact⟨h3,h1,h4⟩
   ·rintro⟨h1,h2,h3⟩;exact⟨h2,ih.mpr ⟨h1,h3⟩⟩
noncomputable def mixB(a b:List (Int×Int)):List (Int×Int):=(a.zip b).map λq=>(max q.1.1 q.2.1,min q.1.2 q.2.2)
noncomputable def okB(w:List (Int×Int)):Bool:=w.all λp=>decide (p.1<=p.2)
theorem Gs{a b:List (Int×Int)}(h:a.length=b.length):(lettersR a).filter (hasB b)=if okB (mixB a b)=true then lettersR (mixB a b) else[]:=by
 induction a generalizing b with
 | nil =>
  cases b with
  | nil=>simp[lettersR,mixB,okB,hasB]
  | cons q b=>simp at h
 | cons p a ih =>
  cases b with
  | nil=>simp at h
  | cons q b =>
   have ih:=ih (b:=b) (by simpa using h)
   have e1:((lettersR (p::a)).filter (hasB (q::b)))=((rngL p.1 p.2).filter λn=>decide (q.1<=n)&&decide (n<=q.2)).flatMap λn=>((lettersR a).filter (hasB b)).map (n::·):=by
    rw[lettersR,List.filter_flatMap];generalize rngL p.1 p.2=ns
    induction ns with
    | nil=>rfl
    | cons n ns ihn =>
     rw[Qj,ihn,Si];by_cases hq:q.1<=n/\n<=q.2
     ·rw[if_pos (by simp[hq]),Qj]
      congr 1
      rw[List.filter_map]
      congr 2
      funext l
      simp[hasB,hq]
     ·rw[if_neg (by simpa using hq)]
      have:(V5 (hasB (q::b)) ((lettersR a).map (n::·)))=[]:=by
       rw[Ul];intro l hl;simp at hl;obtain⟨l',_,rfl⟩:=hl;simp[hasB];intro h1 h2;omega
      rw[this,U_]
   rw[e1,IM,ih];have e2:mixB (p::a) (q::b)=(max p.1 q.1,min p.2 q.2)::mixB a b:=by simp[mixB]
   rw[e2];have e3:okB ((max p.1 q.1,min p.2 q.2)::mixB a b)=(decide (max p.1 q.1<=min p.2 q.2)&&okB (mixB a b)):=by simp only[okB,QY]
   rw[e3];by_cases h1:okB (mixB a b)=true
   ·rw[if_pos h1];by_cases h2:max p.1 q.1<=min p.2 q.2
    ·rw[if_pos (by rw[h1];simpa using h2),lettersR]
    ·rw[if_neg (by rw[h1];simpa using h2),u4 (by omega)];rfl
   ·rw[if_neg h1,if_neg (by simp[h1])];simp
theorem Iw{a b:List (Int×Int)}(h:a.length=b.length)(hl:a.length<=1000):cvF xf [wishD a,wishD b]=some (if okB (mixB a b)=true then wishD (mixB a b) else .non):=by
 refine sw rfl λKE k1 _=>?_
 rw[yU];refine qw ?_;rintro K hK -;simp[wishD,Ac,h];refine hK _ ?_;refine qw ?_;rintro K hK -;simp;refine hK _ ?_;refine qw ?_;rintro K hK hR;simp[uS];refine sj (J:=λi Y=>∃x3 x4 x5 x6,okB ((mixB a b).take i)=true/\Y=[some (.val (wishD a)),some (.val (wishD b)),some (.own (((mixB a b).take i).map pairD)),x3,x4,x5,x6]) ⟨_,_,_,_,rfl,rfl⟩ ?_ ?_
 ·rintro i d Y hd ⟨x3,x4,x5,x6,ho,rfl⟩ KL az - - fj;rw[u_,C_] at hd;obtain⟨q,hq,rfl⟩:=hd;obtain⟨hi,cL⟩:=m_.mp hq;have hm:(mixB a b)[i]?=some (max q.1.1 q.2.1,min q.1.2 q.2.2):=by unfold mixB;rw[u_,hq];rfl
  simp;refine qw ?_;rintro K hK -;simp;refine hK _ ?_;refine qw ?_;rintro K hK -;simp;refine hK _ ?_;refine qw ?_;rintro K hK dP;simp;split
  ·rename_i rc
   have:okB (mixB a b)=false:=by
    rw[←Bool.not_eq_true];intro fZ;have:=v_.mp fZ _ (B_ hm);simp only[decide_eq_true_eq] at this;omega
   rw[this] at k1;exact dP _ _ (fj _ _ (hR _ _ (k1 _ ⟨_,rfl⟩)))
  ·rename_i rf;refine hK _ ?_;simp[isMut,R.mut];have aR:(mixB a b).length=min a.length b.length:=by simp[mixB]
   have fN:(mixB a b).take (i+1)=(mixB a b).take i++[(max q.1.1 q.2.1,min q.1.2 q.2.2)]:=by rw[QK,hm];rfl
   refine⟨by omega,az _ ⟨some (.val (pairD q.1)),some (.val (pairD q.2)),some (.val (.int (max q.1.1 q.2.1))),some (.val (.int (min q.1.2 q.2.2))),?_,?_⟩⟩
   ·rw[fN];unfold okB at ho ⊢;rw[List.all_append,ho];simp only[QY,List.all_nil,Bool.and_true,Bool.true_and,decide_eq_true_eq];omega
   ·rw[fN,Rw];simp[pairD,wishD]
 ·rintro Y ⟨x3,x4,x5,x6,ho,rfl⟩;refine hK _ ?_;have aR:(mixB a b).length=(a.zip b).length:=by simp[mixB]
  rw[s_,←aR,Qu] at ho ⊢;simp;rw[if_pos ho] at k1;exact k1 _ ⟨_,rfl⟩
theorem B3(p:Int×Int):ltP p p=false:=by simp[ltP]
theorem Dq{p q:Int×Int}:ltP p q=true↔p.1 < q.1\/(p.1=q.1/\p.2 < q.2):=by
 unfold ltP;by_cases a:p.1=q.1
 ·simp[a]
 ·rw[if_neg (by simpa using a)];simp[a]
theorem HB{p q r:Int×Int}(h1:ltP p q=true)(h2:ltP q r=true):ltP p r=true:=by
 rw[Dq] at *;omega
theorem Cp(ps:List (Int×Int)):∀k i,i<=k->btP ps i (PySem.argBest (btP ps) k)=false
 | 0,i,h=>by
  obtain rfl:i=0:=by omega
  exact B3 _
 | k+1,i,h=>by
  have ih:=Cp ps k;rw[PySem.argBest];split
  ·rename_i lt
   rcases Tk k i with g | g
   ·obtain rfl:i=k+1:=by omega
    exact B3 _
   ·have:=ih i g;by_cases z:btP ps i (k+1)=true
    ·rw[show btP ps i _=true from HB z lt] at this;cases this
    ·simpa using z
  ·rename_i mq
   rcases Tk k i with g | g
   ·obtain rfl:i=k+1:=by omega
    simpa using mq
   ·exact ih i g
theorem F1{ps:List (Int×Int)}(h:ps≠[]):minP ps∈ps/\∀q∈ps,ltP q (minP ps)=false:=by
 have pos:0 < ps.length:=Tj.mpr h;have low:=DB (btP ps) (ps.length - 1);constructor
 ·unfold minP;rw[h_,g_ (by omega)];exact Qt _
 ·intro q hq;obtain⟨i,hi,rfl⟩:=Sq hq;have:=Cp ps (ps.length - 1) i (by omega);unfold btP at this;rw[h_,g_ hi] at this;exact this
noncomputable def leftB(ws:List (List (Int×Int)))(l:List Int):Bool:=ws.all λw=>!hasB w l
noncomputable def firstL(ws:List (List (Int×Int)))(p:List (Int×Int)):Option (List Int):=(lettersR p).find? (leftB ws)
theorem vW(a b:List (Int×Int)):lettersR (a++b)=(lettersR a).flatMap λl=>(lettersR b).map (l++·):=by
 induction a with
 | nil=>simp[lettersR]
 | cons p a ih =>
  rw[List.cons_append,lettersR,ih,lettersR,Tp]
  congr 1
  funext n
  simp[UK,List.flatMap_map,SU]
theorem Er{w:List (Int×Int)}(h:okB w=true):∃t,lettersR w=w.map (·.1)::t:=by
 induction w with
 | nil=>exact⟨[],rfl⟩
 | cons p w ih =>
  simp only[okB,QY,Qn,decide_eq_true_eq] at h;obtain⟨t,e⟩:=ih (by simpa[okB] using h.2);rw[lettersR,v8 h.1,Qj,e];simp
theorem LH{lo a hi:Int}(h1:lo<=a)(h2:a<=hi):rngL lo hi=rngL lo a++rngL (a+1) hi:=by
 obtain⟨m,hm⟩:∃m:Nat,(a+1 - lo).toNat=m:=⟨_,rfl⟩
 induction m generalizing lo with
 | zero=>omega
 | succ m ih =>
  rw[v8 (by omega:lo<=hi),v8 h1];by_cases z:lo=a
  ·subst z;rw[u4 (by omega:lo < lo+1)];rfl
  ·rw[ih (lo:=lo+1) (by omega) (by omega)];rfl
theorem Et{lo a hi:Int}{q:List (Int×Int)}(h1:lo<=a)(h2:a<=hi):lettersR ((lo,hi)::q)=lettersR ((lo,a)::q)++lettersR ((a+1,hi)::q):=by
 simp only[lettersR];rw[LH h1 h2,QF]
theorem HX{pre q:List (Int×Int)}{P P':List Int->Bool}(ok:okB pre=true)(h:∀a∈lettersR pre,∀x∈lettersR q,P (a++x)=P' x):(lettersR (pre++q)).find? P=((lettersR q).find? P').map (pre.map (·.1)++·):=by
 obtain⟨t,e⟩:=Er ok;rw[vW];cases f:(lettersR q).find? P' with
 | none =>
  rw[TN] at f;simp only[Option.map_none,TN];intro y hy;rw[QM] at hy;obtain⟨a,ha,hy⟩:=hy;rw[F_] at hy;obtain⟨x,hx,rfl⟩:=hy;rw[h a ha x hx];exact f x hx
 | some x =>
  rw[e,Qj,Vx,List.find?_map]
  have:(lettersR q).find? (P∘(pre.map (·.1)++·))=(lettersR q).find? P':=by
   have hx:∀x∈lettersR q,P (pre.map (·.1)++x)=P' x:=λx hx=>h _ (by rw[e];exact k_) x hx
   generalize lettersR q=Q at hx
   induction Q with
   | nil=>rfl
   | cons y Q ih =>
    rw[Sb,Sb,ih λx dy=>hx x (i_ _ dy)];rw[show(P∘(pre.map (·.1)++·)) y=P' y from hx y k_]
  rw[this,f];rfl
theorem MC{a b:List (Int×Int)}{x y:List Int}(h:a.length=x.length):hasB (a++b) (x++y)=(hasB a x&&hasB b y):=by
 unfold hasB;rw[List.zip_append h,List.all_append]
theorem LN(a b:List (Int×Int)):mixB a b=mixB b a:=by
 unfold mixB
 induction a generalizing b with
 | nil=>simp
 | cons p a ih =>
  cases b with
  | nil=>simp
  | cons q b =>
   simp only[QN,D_];rw[ih b,Int.max_comm,Int.min_comm]
theorem HQ{w:List (Int×Int)}(h:w.length=p.length)(no:okB (mixB w p)=false):∀l∈lettersR p,hasB w l=false:=by
 have:=Gs h.symm;rw[LN,no] at this;simp only[R8,if_false] at this;intro l hl;have:=Ul.mp this l hl;simpa using this
theorem EZ{w:List (Int×Int)}(h:w.length=p.length)(c:covB w p=true):∀l∈lettersR p,hasB w l=true:=by
 intro l hl;obtain⟨h1,h2⟩:=wD.mp hl;clear hl
 induction w generalizing p l with
 | nil=>simp[hasB]
 | cons a w ih =>
  cases p with
  | nil=>simp at h
  | cons b p =>
   cases l with
   | nil=>simp at h1
   | cons n l =>
    simp only[covB,hasB,QN,QY,Qn,decide_eq_true_eq] at c h2 ⊢;exact⟨by omega,ih (by simpa using h) c.2 l (by simpa using h1) h2.2⟩
noncomputable def hv1(p:List (Int×Int))(f:Nat)(a:Int):List (Int×Int):=p.take f++[((p.getD f (0,0)).1,a)]++p.drop (f+1)
noncomputable def hv2(p:List (Int×Int))(f:Nat)(a:Int):List (Int×Int):=p.take f++[(a+1,(p.getD f (0,0)).2)]++p.drop (f+1)
theorem wF{f:Nat}(hf:f < p.length):p=p.take f++p.getD f (0,0)::p.drop (f+1):=by
 conv=>lhs;rw[←Rh f p,P_ hf]
 rw[h_,g_ hf];rfl
theorem HZ{f:Nat}{a:Int}(ok:okB p=true)(hf:f < p.length)(len:∀w∈ws,w.length=p.length)(h1:(p.getD f (0,0)).1<=a)(h2:a<=(p.getD f (0,0)).2)(aU:∀w∈ws,(∀l∈lettersR p,hasB w l=false)\/covB (w.take f) (p.take f)=true):firstL ws p=(firstL ws (hv1 p f a)).or (firstL ws (hv2 p f a)):=by
 have qc:okB (p.take f)=true:=v_.mpr λx hx=>v_.mp ok x (Ro hx)
 obtain⟨bs,hb⟩:∃bs:List (List (Int×Int)),bs=ws.filter λw=>covB (w.take f) (p.take f):=⟨_,rfl⟩
 have aT:∀x∈lettersR (p.take f),∀y:List Int,x++y∈lettersR p->leftB ws (x++y)=leftB (bs.map (·.drop f)) y:=by
  intro x hx y hy;obtain⟨lx,_⟩:=wD.mp hx;unfold leftB;rw[hb];clear hb bs
  induction ws with
  | nil=>rfl
  | cons w ws ih =>
   have ih:=ih (λw hw=>len w (i_ _ hw)) λw hw=>aU w (i_ _ hw)
   rw[QY,ih,Si];have lw:=len w k_;have lt:(w.take f).length=(p.take f).length:=by simp[lw]
   by_cases c:covB (w.take f) (p.take f)=true
   ·rw[if_pos c,D_,QY]
    congr 2
    conv=>lhs;rw[←Rh f w]
    rw[MC (by rw[lx,lt]),EZ lt c x hx];rfl
   ·rw[if_neg c]
    rcases aU w k_ with n | n
    ·rw[n _ hy];rfl
    ·exact absurd n c
 have sub:∀q:List (Int×Int),(∀y∈lettersR q,y∈lettersR (p.getD f (0,0)::p.drop (f+1)))->firstL ws (p.take f++q)=((lettersR q).find? (leftB (bs.map (·.drop f)))).map ((p.take f).map (·.1)++·):=by
  intro q hq;refine HX qc λx hx y hy=>aT x hx y ?_
  rw[wF hf,vW,QM];exact⟨x,hx,F_.mpr ⟨y,hq y hy,rfl⟩⟩
 have cut:=Et (q:=p.drop (f+1)) h1 h2;rw[show firstL ws p=firstL ws (p.take f++p.getD f (0,0)::p.drop (f+1)) by rw[←wF hf],sub _ λy h=>h];unfold hv1 hv2
 rw[Ru,Ru,RM,RM,sub _ λy h=>by rw[show p.getD f (0,0)=((p.getD f (0,0)).1,(p.getD f (0,0)).2) from rfl,cut];exact Q_ _ h,
  sub _ λy h=>by rw[show p.getD f (0,0)=((p.getD f (0,0)).1,(p.getD f (0,0)).2) from rfl,cut];exact M_ _ h]
 rw[show p.getD f (0,0)=((p.getD f (0,0)).1,(p.getD f (0,0)).2) from rfl,cut,Vx]
 cases(lettersR (((p.getD f (0,0)).1,a)::p.drop (f+1))).find? (leftB (bs.map (·.drop f)))<;>rfl
theorem KR{f:Nat}{a:Int}(hf:f < p.length)(hl:p.length<=1000):cvF wo [wishD p,.int f,.int a]=some (.tup [wishD (hv1 p f a),wishD (hv2 p f a)]):=by
 obtain⟨pr,hp⟩:∃pr,p[f]?=some pr:=⟨_,g_ hf⟩;have e0:p.getD f (0,0)=pr:=by rw[h_,hp];rfl
 have e1:atI (p.map pairD) (f:Int)=some (pairD pr):=by rw[DL.sV];simp[hp]
 have e2:slF (.tup (p.map pairD)) none (some (f:Int))=some (.tup ((p.map pairD).take f)):=Dp (by simpa using hf);have e3:slF (.tup (p.map pairD)) (some ((f:Int)+1)) none=some (.tup ((p.map pairD).drop (f+1))):=Do (n:=f+1) (by simp;omega) (by omega);refine sw rfl λKE k1 _=>?_
 rw[xY];refine qw ?_;rintro K hK -;simp[wishD,e2];refine hK _ ?_;refine qw ?_;rintro K hK -;simp[e3];refine hK _ ?_;refine qw ?_;rintro K hK -;simp[e1];refine hK _ ?_;refine qw ?_;rintro K hK -;simp[e1];refine hK _ ?_;simp;refine⟨by omega,by omega,by omega,by omega,?_⟩;have k3:=k1 [some (.val (wishD p)),some (.val (.int f)),some (.val (.int a)),some (.val (.tup (List.take f (map pairD p)))),some (.val (.tup (List.drop (f+1) (map pairD p)))),some (.val (.int pr.1)),some (.val (.int pr.2))] ⟨_,rfl⟩;simpa[wishD,hv1,hv2,e0,pairD,hp,V4,T6] using k3
noncomputable def bdL(g:Nat)(pr wr:Int×Int):List (Int×Int):=(if pr.1 < wr.1 then[((g:Int),wr.1 - 1)] else[])++if wr.2 < pr.2 then[((g:Int),wr.2)] else[]
noncomputable def bdsL(ws:List (List (Int×Int)))(p:List (Int×Int))(g:Nat):List (Int×Int):=ws.flatMap λw=>bdL g (p.getD g (0,0)) (w.getD g (0,0))
noncomputable def bordersL(ws:List (List (Int×Int)))(p:List (Int×Int)):List (Int×Int):=(Qw p.length).flatMap (bdsL ws p)
theorem yh{α Z:Type}{f:α->List Z}{xs:List α}(h:∀x∈xs,(f x).length<=m):(xs.flatMap f).length<=xs.length*m:=by
 induction xs with
 | nil=>simp
 | cons x xs ih =>
  have h1:=h x k_;have h2:=ih λx hx=>h x (i_ _ hx)
  rw[Qj,p_,Qi,Vw];omega
theorem Dw{g:Nat}{wr:Int×Int}:(bdL g pr wr).length<=2:=by
 unfold bdL;split<;>split<;>simp
theorem ID:prsD (L.map pairD)=some L:=by
 induction L with
 | nil=>rfl
 | cons x L ih=>simp only[D_,pairD,prsD] at ih ⊢;rw[ih]
theorem L5(h:L≠[]):minlF [.lst (L.map pairD)]=some (pairD (minP L)):=by
 cases L with
 | nil=>exact absurd rfl h
 | cons x L=>unfold minlF;simp only;rw[ID];rfl
theorem JG{w:List (Int×Int)}{g:Nat}(h:g < w.length):atI (w.map pairD) (g:Int)=some (pairD (w.getD g (0,0))):=by
 rw[DL.sV,h_];simp[h]
theorem FA(hw:∀w∈ws,w.length=p.length)(hp:p.length<=100)(hl:ws.length<=100)(ne:bordersL ws p≠[]):cvF xB [.lst (ws.map wishD),wishD p]=some (pairD (minP (bordersL ws p))):=by
 refine sw rfl λKE k1 _=>?_
 rw[xU];refine qw ?_;rintro K hK -;simp;refine hK _ ?_;refine qw ?_;rintro K hK -;simp[wishD]
 have big:∀i,i<=100->((Qw i).flatMap (bdsL ws p)).length<=20000:=λi hi=>by
  refine y_ (yh (m:=200) λg _=>y_ (yh (m:=2) λw _=>Dw) (by omega)) ?_;simp;omega
 refine sj (J:=λi Y=>∃x3 x4 x5,Y=[some (.val (.lst (ws.map wishD))),some (.val (wishD p)),some (.own (((Qw i).flatMap (bdsL ws p)).map pairD)),x3,x4,x5]) ⟨_,_,_,rfl⟩ ?_ ?_
 ·rintro i d Y hd ⟨x3,x4,x5,rfl⟩ KL az - - -;obtain⟨x,e1,rfl⟩:=vI hd;rw[u_,C_] at e1;obtain⟨pr,e1,rfl⟩:=e1;have hi:i < p.length:=(m_.mp e1).1;have qe:p.getD i (0,0)=pr:=by rw[h_,e1];rfl
  simp;refine sj (J:=λj Y=>∃x5,Y=[some (.val (.lst (ws.map wishD))),some (.val (wishD p)),some (.own (((Qw i).flatMap (bdsL ws p)++(ws.take j).flatMap λw=>bdL i pr (w.getD i (0,0))).map pairD)),some (.val (.int i)),some (.val (pairD pr)),x5]) ⟨x5,by simp⟩ ?_ ?_
  ·rintro j d Y hd ⟨x5,rfl⟩ KL az - - -;rw[u_,C_] at hd;obtain⟨w,nK,rfl⟩:=hd;have fO:=hw w (B_ nK);have fN:ws.take (j+1)=ws.take j++[w]:=by rw[QK,nK];rfl
   have aw:=JG (w:=w) (g:=i) (by omega);obtain⟨wr,nL⟩:∃wr,w.getD i (0,0)=wr:=⟨_,rfl⟩;rw[nL] at aw
   have ic:(((Qw i).flatMap (bdsL ws p))++(ws.take j).flatMap λw=>bdL i pr (w.getD i (0,0))).length<=30000:=by
    have b1:=big i (by omega);have b2:((ws.take j).flatMap λw=>bdL i pr (w.getD i (0,0))).length<=200:=y_ (yh (m:=2) λw _=>Dw) (by simp;omega);rw[p_];omega
   rw[fN,QF] at az;simp only[Qj,List.flatMap_nil,Q0,nL] at az;generalize ((Qw i).flatMap (bdsL ws p))=A at az ic ⊢;generalize ((ws.take j).flatMap λw=>bdL i pr (w.getD i (0,0)))=C at az ic ⊢;have qF:A.length+C.length<=30000:=by simpa using ic
   simp;refine uV (λY=>Y=[some (.val (.lst (ws.map wishD))),some (.val (wishD p)),some (.own ((A++C++if pr.1 < wr.1 then[((i:Int),wr.1 - 1)] else[]).map pairD)),some (.val (.int i)),some (.val (pairD pr)),some (.val (wishD w))]) ?_ ?_
   ·rintro K hK -;simp[isMut,R.mut,wishD,aw];split
    ·rename_i h;refine⟨by omega,hK _ ?_⟩;simp[wishD,pairD,h]
    ·rename_i h;refine hK _ ?_;rw[if_neg h];simp[wishD]
   ·rintro Y rfl;simp[isMut,R.mut,wishD,aw];split
    ·rename_i h;refine⟨by split<;>simp<;>omega,az _ ⟨some (.val (wishD w)),?_⟩⟩;unfold bdL;rw[if_pos h];simp[wishD,pairD]
    ·rename_i h;refine az _ ⟨some (.val (wishD w)),?_⟩;unfold bdL;rw[if_neg h];simp[wishD]
  ·rintro Y ⟨x5,rfl⟩;refine az _ ⟨some (.val (.int i)),some (.val (pairD pr)),x5,?_⟩;rw[s_,Qu,List.range_succ,QF];simp[bdsL,qe,e1]
 ·rintro Y ⟨x3,x4,x5,rfl⟩;refine hK _ ?_
  have hn:∀ds:List D,(numD 0 ds).length=ds.length:=by
   have:∀(ds:List D) m,(numD m ds).length=ds.length:=λds=>by
    induction ds with
    | nil=>intro m;rfl
    | cons d ds ih=>intro m;simp[numD,ih]
   exact λds=>this ds 0
  rw[hn,s_];have:=L5 ne;unfold bordersL at this k1;simp[this];exact k1 _ ⟨_,rfl⟩
theorem tJ{g:Nat}{wr x:Int×Int}:x∈bdL g pr wr↔(pr.1 < wr.1/\x=((g:Int),wr.1 - 1))\/(wr.2 < pr.2/\x=((g:Int),wr.2)):=by
 unfold bdL;rw[K_];constructor
 ·rintro(h | h)
  ·split at h
   ·exact .inl ⟨‹_›,by simpa using h⟩
   ·simp at h
  ·split at h
   ·exact .inr ⟨‹_›,by simpa using h⟩
   ·simp at h
 ·rintro(⟨h,rfl⟩ | ⟨h,rfl⟩)
  ·exact .inl (by rw[if_pos h];simp)
  ·exact .inr (by rw[if_pos h];simp)
theorem zA{x:Int×Int}:x∈bordersL ws p↔∃g,g < p.length/\∃w∈ws,x∈bdL g (p.getD g (0,0)) (w.getD g (0,0)):=by
 unfold bordersL bdsL;simp only[QM,Rm]
theorem yZ{g:Nat}(h:g < p.length):p[g]?=some (p.getD g (0,0)):=by
 rw[h_,g_ h];rfl
theorem FK{w:List (Int×Int)}(h:w.length=p.length)(ok:okB (mixB w p)=true){g:Nat}(hg:g < p.length):max (w.getD g (0,0)).1 (p.getD g (0,0)).1<=min (w.getD g (0,0)).2 (p.getD g (0,0)).2:=by
 have e:(mixB w p)[g]?=some (max (w.getD g (0,0)).1 (p.getD g (0,0)).1,min (w.getD g (0,0)).2 (p.getD g (0,0)).2):=by
  unfold mixB;rw[u_,R4 (z:=(w.getD g (0,0),p.getD g (0,0))) |>.mpr ⟨yZ (by omega),yZ hg⟩];rfl
 have:=v_.mp ok _ (B_ e);simpa using this
theorem B1{w:List (Int×Int)}(h:w.length=p.length)(k:∀g,g < p.length->(w.getD g (0,0)).1<=(p.getD g (0,0)).1/\(p.getD g (0,0)).2<=(w.getD g (0,0)).2):covB w p=true:=by
 unfold covB;rw[v_];intro q hq;obtain⟨i,hi,rfl⟩:=Sq hq;rw[VX] at hi;have:=k i (by omega);rw[List.getElem_zip];rw[h_,h_,g_ (by omega),g_ (by omega)] at this;simpa using this
theorem Hr(len:∀w∈ws,w.length=p.length)(ne:ws≠[])(qf:∀w∈ws,okB (mixB w p)=true)(no:∀w∈ws,covB w p=false):
  bordersL ws p≠[]/\∃(f:Nat) (a:Int),minP (bordersL ws p)=((f:Int),a)/\f < p.length/\(p.getD f (0,0)).1<=a/\a < (p.getD f (0,0)).2/\∀w∈ws,covB (w.take f) (p.take f)=true:=by
 have one:bordersL ws p≠[]:=by
  obtain⟨w,hw⟩:=List.exists_mem_of_ne_nil ws ne;intro qg
  have c:=B1 (len w hw) λg hg=>by
   have h0:=λx hx=>(zA (ws:=ws) (p:=p) (x:=x)).mpr ⟨g,hg,w,hw,hx⟩
   rw[qg] at h0;refine⟨not_lt.mp λlt=>?_,not_lt.mp λlt=>?_⟩
   ·exact absurd (h0 _ (tJ.mpr (.inl ⟨lt,rfl⟩))) SQ
   ·exact absurd (h0 _ (tJ.mpr (.inr ⟨lt,rfl⟩))) SQ
  rw[no w hw] at c;cases c
 refine⟨one,?_⟩;obtain⟨m1,m2⟩:=F1 one;generalize minP (bordersL ws p)=m at m1 m2;obtain⟨f,hf,w,hw,hm⟩:=zA.mp m1;have mx:=FK (len w hw) (qf w hw) hf;refine⟨f,m.2,?_,hf,?_⟩
 ·rcases tJ.mp hm with⟨_,rfl⟩ | ⟨_,rfl⟩<;>rfl
 ·have rh:m.1=f:=by rcases tJ.mp hm with⟨_,rfl⟩ | ⟨_,rfl⟩<;>rfl
  refine⟨?_,?_,λv hv=>?_⟩
  ·rcases tJ.mp hm with⟨h,rfl⟩ | ⟨h,rfl⟩<;>(dsimp only;omega)
  ·rcases tJ.mp hm with⟨h,rfl⟩ | ⟨h,rfl⟩<;>(dsimp only;omega)
  ·refine B1 (by simp[len v hv]) λg hg=>?_
   rw[SN] at hg
   have e:∀u:List (Int×Int),(u.take f).getD g (0,0)=u.getD g (0,0):=λu=>by
    rw[h_,h_,TB (by omega)]
   rw[e,e]
   have eQ:∀x,x∈bdL g (p.getD g (0,0)) (v.getD g (0,0))->False:=λx hx=>by
    have:=m2 x (zA.mpr ⟨g,by omega,v,hv,hx⟩);have x1:x.1=g:=by rcases tJ.mp hx with⟨_,rfl⟩ | ⟨_,rfl⟩<;>rfl
    have:¬ltP x m=true:=by rw[this];simp
    rw[Dq] at this;omega
   exact⟨not_lt.mp λlt=>eQ _ (tJ.mpr (.inl ⟨lt,rfl⟩)),not_lt.mp λlt=>eQ _ (tJ.mpr (.inr ⟨lt,rfl⟩))⟩
inductive Tr where
 | byK (k:Nat)
 | cut (f:Nat) (a:Int) (l r:Tr)
noncomputable def trD:Tr->D
 | .byK k=>.tup [.str "by", .int k]
 | .cut f a l r=>.tup [.str "cut", .int f,.int a,trD l,trD r]
noncomputable def Tr.deep:Tr->Nat
 | .byK _=>0
 | .cut _ _ l r=>max l.deep r.deep+1
def GoodT(ws:List (List (Int×Int))):Tr->List (Int×Int)->Prop
 | .byK k,p=>∃w,ws[k]?=some w/\covB w p=true
 | .cut f a l r,p=>f < p.length/\(p.getD f (0,0)).1<=a/\a < (p.getD f (0,0)).2/\GoodT ws l (hv1 p f a)/\GoodT ws r (hv2 p f a)
def RightD(ws:List (List (Int×Int)))(p:List (Int×Int))(m:Nat)(d:D):Prop:=(∃l,firstL ws p=some l/\d=.tup [.str "out", letD l])\/∃t,firstL ws p=none/\GoodT ws t p/\t.deep<=m/\d=.tup [.str "in", trD t]
noncomputable def sizeP(p:List (Int×Int)):Nat:=(p.map λq=>(q.2 - q.1).toNat).sum
theorem Hl{f:Nat}{a:Int}(hf:f < p.length)(h1:(p.getD f (0,0)).1<=a)(h2:a < (p.getD f (0,0)).2):sizeP (hv1 p f a) < sizeP p/\sizeP (hv2 p f a) < sizeP p:=by
 have e:=wF hf;generalize p.getD f (0,0)=pr at *
 have s:sizeP p=sizeP (p.take f)+((pr.2 - pr.1).toNat+sizeP (p.drop (f+1))):=by
  conv=>lhs;rw[e]
  simp[sizeP]
 unfold hv1 hv2;rw[s]
 have e1:p.getD f (0,0)=pr:=by
  conv=>lhs;rw[e]
  rw[h_,QX (by simp;omega)];simp[Nat.min_eq_left (SM hf)]
 rw[e1];simp[sizeP];omega
theorem Wf.cut{f:Nat}{a:Int}(hp:Wf n p)(hf:f < p.length)(h1:(p.getD f (0,0)).1<=a)(h2:a < (p.getD f (0,0)).2):Wf n (hv1 p f a)/\Wf n (hv2 p f a):=by
 have pr:PairOk (p.getD f (0,0)):=hp.all _ (B_ (yZ hf));have:=pr.lo;have:=pr.hi;have:=hp.len;constructor
 ·refine⟨by simp[hv1];omega,λq hq=>?_⟩;unfold hv1 at hq;rw[K_,K_,t_] at hq
  rcases hq with(h | rfl) | h
  ·exact hp.all q (Ro h)
  ·exact⟨pr.lo,h1,by dsimp only;omega⟩
  ·exact hp.all q (S0 h)
 ·refine⟨by simp[hv2];omega,λq hq=>?_⟩;unfold hv2 at hq;rw[K_,K_,t_] at hq
  rcases hq with(h | rfl) | h
  ·exact hp.all q (Ro h)
  ·exact⟨by dsimp only;omega,by dsimp only;omega,pr.hi⟩
  ·exact hp.all q (S0 h)
theorem Wf.ok(hp:Wf n p):okB p=true:=v_.mpr λq hq=>by simpa using(hp.all q hq).le
theorem JA{f:Nat}{a:Int}(hf:f < p.length)(h1:(p.getD f (0,0)).1<=a)(h2:a < (p.getD f (0,0)).2):∀l,l∈lettersR (hv1 p f a)\/l∈lettersR (hv2 p f a)->l∈lettersR p:=by
 intro l hl;have cut:=Et (q:=p.drop (f+1)) h1 (Vl h2);rw[show lettersR p=lettersR (p.take f++p.getD f (0,0)::p.drop (f+1)) by rw[←wF hf],vW,QM];rw[show p.getD f (0,0)=((p.getD f (0,0)).1,(p.getD f (0,0)).2) from rfl,cut]
 rcases hl with hl | hl
 ·unfold hv1 at hl;rw[Ru,RM,vW,QM] at hl;obtain⟨x,hx,hl⟩:=hl;obtain⟨y,hy,rfl⟩:=F_.mp hl;exact⟨x,hx,F_.mpr ⟨y,Q_ _ hy,rfl⟩⟩
 ·unfold hv2 at hl;rw[Ru,RM,vW,QM] at hl;obtain⟨x,hx,hl⟩:=hl;obtain⟨y,hy,rfl⟩:=F_.mp hl;exact⟨x,hx,F_.mpr ⟨y,M_ _ hy,rfl⟩⟩
noncomputable def wAt(ws:List (List (Int×Int)))(k:Nat):List (Int×Int):=ws.getD k []
theorem vx(h:k < ws.length):wAt ws k=ws[k]:=by
 unfold wAt;rw[h_,g_ h];rfl
theorem ye(h:k < ws.length):atI (ws.map wishD) (k:Int)=some (wishD (wAt ws k)):=by
 rw[DL.sV,vx h];simp[h]
theorem CK(h:k < ws.length):wAt ws k∈ws:=by
 rw[vx h];exact Qt _
theorem DY{n:Nat}{ws:List (List (Int×Int))}(hw:∀w∈ws,Wf n w)(hl:ws.length<=100)(hn:n<=100):∀(m:Nat) (ks:List Nat) (p:List (Int×Int)),Wf n p->sizeP p < m->(∀k∈ks,k < ws.length)->ks.length<=100 →
  (∀k,k < ws.length->k∉ks->∀l∈lettersR p,hasB (wAt ws k) l=false)->∃d,cvF (ur m) [.lst (ws.map wishD),.lst (ks.map λk:Nat=>.int k),wishD p]=some d/\RightD ws p (sizeP p) d
 | 0,ks,p,hp,hs,_,_,_=>absurd hs (UG _)
 | m+1,ks,p,hp,hs,hk,hkl,eQ=>by
  have ih:=DY hw hl hn m;have cJ:∀k,k < ws.length->(wAt ws k).length=p.length:=λk h=>by rw[(hw _ (CK h)).len,hp.len]
  have nM:p.length<=100:=by rw[hp.len];exact hn
  have aT:wpF (ur (m+1)) [.val (.lst (ws.map wishD)),.val (.lst (ks.map λk:Nat=>.int k)),.val (wishD p)] λr _=>∃d,r=.val d/\RightD ws p (sizeP p) d:=by
   rw[ur];refine sP rfl λKE hE _=>?_
   rw[wC];refine qw ?_;rintro K hK -;simp;refine sB ks (λk:Nat=>.int k) (λk=>okB (mixB (wAt ws k) p)) (λk:Nat=>.int k) ?_;simp;refine⟨by omega,λk ig=>?_,hK _ ?_⟩
   ·have e1:=ye (hk k ig);have e2:=Iw (cJ k (hk k ig)) (by rw[cJ k (hk k ig)];omega);simp[e1,e2];split<;>simp[isN,wishD, *]
   ·clear hK;obtain⟨aU,dQ⟩:∃aU,aU=ks.filter λk=>okB (mixB (wAt ws k) p):=⟨_,rfl⟩
    rw[←dQ];have ce:∀k,k∈aU↔k∈ks/\okB (mixB (wAt ws k) p)=true:=λk=>by rw[dQ,G_]
    have fk:aU.length<=100:=by rw[dQ];exact y_ (R0 _ _) hkl
    have fy:∀k,k < ws.length->k∉aU->∀l∈lettersR p,hasB (wAt ws k) l=false:=λk h1 h2=>by
     by_cases h3:k∈ks
     ·refine HQ (cJ k h1) ?_;rw[ce] at h2;simpa[h3] using h2
     ·exact eQ k h1 h3
    clear dQ;refine qw ?_;rintro K hK hR;simp;split
    ·-- nothing is aU
     rename_i h0;have h0:aU=[]:=by simpa using h0
     simp[wishD];refine sB p pairD (λ_=>true) (λq=>.int q.1) ?_;simp;refine⟨by omega,hR _ _ (hE _ _ ⟨_,rfl,_,rfl,.inl ⟨p.map (·.1),?_,?_⟩⟩)⟩
     ·obtain⟨t,e⟩:=Er hp.ok;unfold firstL;rw[e,List.find?_cons_of_pos];unfold leftB;rw[v_];intro w fO;obtain⟨k,h1,rfl⟩:=Sq fO;have:=fy k h1 (by rw[h0];simp) (p.map (·.1)) (by rw[e];exact k_);rw[vx h1] at this;simpa using this
     ·simp[letD,SU]
    ·rename_i h0;refine hK _ ?_;have h0:aU≠[]:=by simpa using h0
     refine qw ?_;rintro K hK hR;simp;refine sj (J:=λi Y=>∃x4,(∀k∈aU.take i,covB (wAt ws k) p=false)/\Y=[some (.val (.lst (ws.map wishD))),some (.val (.lst (ks.map λk:Nat=>.int k))),some (.val (wishD p)),some (.val (.lst (aU.map λk:Nat=>.int k))),x4,none,none,none,none]) ⟨none,by simp,rfl⟩ ?_ ?_
     ·rintro i d Y hd ⟨x4,hc,rfl⟩ KL az - - fj;rw[u_,C_] at hd;obtain⟨k,nN,rfl⟩:=hd;have jp:=(ce k).mp (B_ nN);have dA:=hk k jp.1;have e1:=ye dA;have e2:=Ex (cJ k dA) (by rw[cJ k dA];omega);have fN:aU.take (i+1)=aU.take i++[k]:=by rw[QK,nN];rfl
      simp[e1,e2];split
      ·rename_i dC;have dC:covB (wAt ws k) p=true:=by simpa using dC
       refine fj _ _ (hR _ _ (hE _ _ ⟨_,rfl,_,rfl,.inr ⟨.byK k,?_,⟨wAt ws k,?_,dC⟩,Qp _,?_⟩⟩))
       ·unfold firstL;rw[TN];intro l qh;unfold leftB;intro all;have:=v_.mp all _ (CK dA);rw[EZ (cJ k dA) dC l qh] at this;cases this
       ·rw[vx dA,g_ dA]
       ·rw[trD]
      ·rename_i dC;refine az _ ⟨_,λk' bD=>?_,rfl⟩;rw[fN] at bD
       rcases K_.mp bD with h | h
       ·exact hc k' h
       ·rw[t_.mp h];simpa using dC
     ·rintro Y ⟨x4,hc,rfl⟩;refine hK _ ?_;rw[s_,Qu] at hc;obtain⟨fP,eE⟩:∃fP,fP=aU.map λk=>wAt ws k:=⟨_,rfl⟩
      have jq:∀w∈fP,∃k,k∈aU/\k < ws.length/\w=wAt ws k:=λw h=>by
       rw[eE,F_] at h;obtain⟨k,h1,rfl⟩:=h;exact⟨k,h1,hk k ((ce k).mp h1).1,rfl⟩
      obtain⟨bne,f,a,em,hf,h1,h2,qi⟩:=Hr (ws:=fP) (p:=p) (λw h=>by obtain⟨k,_,bD,rfl⟩:=jq w h;exact cJ k bD) (by rw[eE];simpa using h0)
       (λw h=>by obtain⟨k,bD,_,rfl⟩:=jq w h;exact((ce k).mp bD).2) (λw h=>by obtain⟨k,bD,_,rfl⟩:=jq w h;exact hc k bD)
      have bo:=FA (ws:=fP) (p:=p) (λw h=>by obtain⟨k,_,bD,rfl⟩:=jq w h;exact cJ k bD) nM (by rw[eE];simpa using fk) bne;rw[em] at bo;have ha:=KR (p:=p) (a:=a) hf (by omega);obtain⟨w1,w2⟩:=hp.cut hf h1 h2;obtain⟨z1,z2⟩:=Hl hf h1 h2;have sub:=JA hf h1 h2
      have first:firstL ws p=(firstL ws (hv1 p f a)).or (firstL ws (hv2 p f a)):=HZ hp.ok hf (λw h=>by rw[(hw w h).len,hp.len]) h1 (Vl h2) λw h=>by
       obtain⟨k,dA,rfl⟩:=Sq h;have eg:wAt ws k=ws[k]:=vx dA;by_cases jp:k∈aU
       ·exact .inr (qi _ (by rw[eE,F_];exact⟨k,jp,eg⟩))
       ·have:=fy k dA jp;rw[eg] at this;exact .inl this
      obtain⟨d1,e1,r1⟩:=ih aU (hv1 p f a) w1 (by omega) (λk h=>hk k ((ce k).mp h).1) fk λk h1 h2 l hl=>fy k h1 h2 l (sub l (.inl hl))
      obtain⟨d2,e2,r2⟩:=ih aU (hv2 p f a) w2 (by omega) (λk h=>hk k ((ce k).mp h).1) fk λk h1 h2 l hl=>fy k h1 h2 l (sub l (.inr hl))
      refine qw ?_;rintro K hK -;simp;refine sB aU (λk:Nat=>.int k) (λ_=>true) (λk:Nat=>wishD (wAt ws k)) ?_;simp;refine⟨by omega,λk ig=>?_,?_⟩
      ·have e1:=ye (hk k ((ce k).mp ig).1);simp[e1]
      ·have ew:(aU.map λk=>wishD (wAt ws k))=fP.map wishD:=by rw[eE];simp
       rw[ew];simp[bo];refine hK _ ?_;refine qw ?_;rintro K hK -;simp[ha];refine hK _ ?_;refine qw ?_;rintro K hK -;simp[e1];refine hK _ ?_
       rcases r1 with⟨l1,f1,rfl⟩ | ⟨t1,f1,g1,rj,rfl⟩
       ·refine qw ?_;rintro K hK dP;simp;exact dP _ _ (hE _ _ ⟨_,rfl,_,rfl,.inl ⟨l1,by rw[first,f1];rfl,rfl⟩⟩)
       ·refine qw ?_;rintro K hK -;simp;refine hK _ ?_;refine qw ?_;rintro K hK -;simp[e2];refine hK _ ?_
        rcases r2 with⟨l2,f2,rfl⟩ | ⟨t2,f2,g2,rl,rfl⟩
        ·refine qw ?_;rintro K hK dP;simp;exact dP _ _ (hE _ _ ⟨_,rfl,_,rfl,.inl ⟨l2,by rw[first,f1,f2];rfl,rfl⟩⟩)
        ·refine qw ?_;rintro K hK -;simp;refine hK _ ?_;simp;refine hE _ _ ⟨_,rfl,_,rfl,.inr ⟨.cut f a t1 t2,by rw[first,f1,f2];rfl,⟨hf,h1,h2,g1,g2⟩,?_,by rw[trD]⟩⟩;rw[Tr.deep];omega
  obtain⟨r,aS,e,d,rfl,hR⟩:=aT;exact⟨d,by unfold cvF;simp only[map];rw[e],hR⟩
theorem GF(hw:∀w∈ws,Wf n w)(hl:ws.length<=100)(hn:n<=3)(hp:Wf n p):∃d,cvF vp [.lst (ws.map wishD),wishD p]=some d/\RightD ws p 27 d:=by
 have sz:sizeP p<=27:=by
  unfold sizeP;refine y_ (CN (m:=9) λx hx=>?_) ?_
  ·obtain⟨q,hq,rfl⟩:=F_.mp hx;have:=(hp.all q hq).lo;have:=(hp.all q hq).hi;omega
  ·rw[s_,hp.len];omega
 obtain⟨d,e,r⟩:=DY hw hl (by omega) 40 (Qw ws.length) p hp (by omega) (λk h=>Rm.mp h) (by simpa using hl) λk h1 h2=>absurd (Rm.mpr h1) h2
 refine⟨d,?_,?_⟩
 ·refine sw rfl λKE k1 _=>?_
  rw[y6];refine qw ?_;rintro K hK -
  have kin:cvF sR [.lst (wishD p::ws.map wishD)]=some .non:=xg (n:=n) λd hd=>by
   rcases E_.mp hd with rfl | h
   ·exact⟨p.map pairD,rfl,by simp[hp.len]⟩
   ·obtain⟨w,fO,rfl⟩:=F_.mp h;exact⟨w.map pairD,rfl,by simp[(hw w fO).len]⟩
  simp[kin];refine⟨by omega,hK _ ?_⟩;have er:rngD 0 ws.length=(Qw ws.length).map λk:Nat=>D.int k:=by simp[rngD]
  simp[er,e];exact⟨by omega,k1 _ ⟨_,rfl⟩⟩
 ·rcases r with r | ⟨t,r1,r2,r3,r4⟩
  ·exact .inl r
  ·exact .inr ⟨t,r1,r2,by omega,r4⟩
theorem IA:dep (.lst (ws.map wishD))<=3:=by
 rw[dep]
 have:depA (ws.map wishD)<=2:=uU λd hd=>by
  obtain⟨w,_,rfl⟩:=F_.mp hd;exact u7
 omega
theorem AZ:∀(a b:List (Int×Int)),deqA (a.map pairD) (b.map pairD)=decide (a=b)
 | [],[]=>by simp[deqA]
 | [],q::b=>by simp[deqA]
 | p::a,[]=>by simp[deqA]
 | p::a,q::b=>by
  rw[D_,D_,deqA,AZ a b];simp[pairD,deq,deqA,Prod.ext_iff];by_cases h1:p.1=q.1<;>by_cases h2:p.2=q.2<;>by_cases h3:a=b<;>simp[h1,h2,h3]
theorem ve(a b:List (Int×Int)):deq (wishD a) (wishD b)=decide (a=b):=by
 unfold wishD;rw[deq];exact AZ a b
theorem BR{a b:List (Int×Int)}(h:wishD a=wishD b):a=b:=by
 have:=ve a b;rw[h,DL.vQ] at this;simpa using this.symm
theorem CH:∀(a b:List (Int×Int)),cmA (a.map pairD) (b.map pairD)=true
 | [],[]=>by simp[cmA]
 | [],q::b=>by simp[cmA]
 | p::a,[]=>by simp[cmA]
 | p::a,q::b=>by
  rw[D_,D_,cmA,CH a b];simp[pairD,cmB,cmA]
theorem B4(a b:List (Int×Int)):cmB (wishD a) (wishD b)=true:=by
 unfold wishD;rw[cmB];exact CH a b
theorem EA(ws:List (List (Int×Int))):cmAll (ws.map wishD)=true:=by
 unfold cmAll;rw[v_];intro a ha;rw[v_];intro b hb;obtain⟨x,_,rfl⟩:=F_.mp ha;obtain⟨y,_,rfl⟩:=F_.mp hb;exact B4 x y
theorem BG:∀a:List (Int×Int),kyA (a.map pairD)=true
 | []=>by simp[kyA]
 | p::a=>by
  rw[D_,kyA,BG a];simp[pairD,kyB,kyA]
theorem w8{f:D->Bool}(h:∀w∈ws,f (wishD w)=true):(ws.map wishD).all f=true:=by
 rw[v_];intro d hd;obtain⟨w,hw,rfl⟩:=F_.mp hd;exact h w hw
theorem ET{w:List (Int×Int)}(hw:Wf n w)(h:1<=n):fstT (wishD w)=true:=by
 have:=hw.len;cases w with
 | nil=>simp at this;omega
 | cons p w=>rfl
theorem Dt(ws:List (List (Int×Int))):depA (ws.map wishD)<=2:=uU λd hd=>by
 obtain⟨w,_,rfl⟩:=F_.mp hd;exact u7
theorem pull{ws:List (List (Int×Int))}:∀(l:List D),(∀d∈l,∃w∈ws,d=wishD w)->∃us:List (List (Int×Int)),l=us.map wishD/\∀u∈us,u∈ws
 | [],_=>⟨[],rfl,λu hu=>by cases hu⟩
 | d::l,h=>by
  obtain⟨us,e,m⟩:=pull l λd hd=>h d (i_ _ hd)
  obtain⟨w,hw,rfl⟩:=h d k_;refine⟨w::us,by rw[e];rfl,λu hu=>?_⟩
  rcases E_.mp hu with rfl | hu
  ·exact hw
  ·exact m u hu
theorem vZ{us:List (List (Int×Int))}{w:List (Int×Int)}:wishD w∈us.map wishD↔w∈us:=by
 rw[F_];constructor
 ·rintro⟨u,hu,e⟩;rw[←BR e];exact hu
 ·exact λh=>⟨w,h,rfl⟩
theorem Fq{us:List (List (Int×Int))}(h:(us.map wishD).Nodup):us.Nodup:=by
 induction us with
 | nil=>exact SB
 | cons u us ih =>
  rw[D_,QQ] at h;rw[QQ];exact⟨λm=>h.1 (vZ.mpr m),ih h.2⟩
theorem JT(ws:List (List (Int×Int))):∃us:List (List (Int×Int)),sortD (ws.map wishD)=us.map wishD/\(∀u,u∈us↔u∈ws)/\us.length=ws.length:=by
 have p:=uC (ws.map wishD)
 obtain⟨us,e,m⟩:=pull (ws:=ws) (sortD (ws.map wishD)) λd hd=>by
  obtain⟨w,hw,rfl⟩:=F_.mp (p.mem_iff.mp hd);exact⟨w,hw,rfl⟩
 refine⟨us,e,λu=>⟨m u,λhu=>?_⟩,?_⟩
 ·have:=p.mem_iff.mpr (vZ.mpr hu);rw[e] at this;exact vZ.mp this
 ·have:=p.length_eq;rw[e] at this;simpa using this
theorem Ar(ws:List (List (Int×Int))):∃us:List (List (Int×Int)),sortD (dd (ws.map wishD))=us.map wishD/\(∀u,u∈us↔u∈ws)/\us.Nodup/\us.length<=ws.length:=by
 have p:=uC (dd (ws.map wishD))
 obtain⟨us,e,m⟩:=pull (ws:=ws) (sortD (dd (ws.map wishD))) λd hd=>by
  obtain⟨w,hw,rfl⟩:=F_.mp (vL (p.mem_iff.mp hd));exact⟨w,hw,rfl⟩
 refine⟨us,e,λu=>⟨m u,λhu=>?_⟩,Fq ?_,?_⟩
 ·have h1:=Mr (ws.map wishD) (wishD u) (vZ.mpr hu);obtain⟨d,hd,q⟩:=QW.mp h1;obtain⟨w,hw,rfl⟩:=F_.mp (vL hd);rw[ve] at q;simp at q;subst q;have:=p.mem_iff.mpr hd;rw[e] at this;exact vZ.mp this
 ·rw[←e];exact p.nodup_iff.mpr (De _)
 ·have h1:=p.length_eq;have h2:=BN (ws.map wishD);rw[e] at h1;simp at h1 h2;omega
theorem M4(aI:∀w∈ws,Wf n w)(h:(dd (ws.map wishD)).length<=18):SetOk (ws.map wishD):=by
 refine⟨EA ws,w8 λw _=>?_,w8 λw _=>rfl,y_ (Dt ws) (by omega),h⟩;unfold wishD;rw[kyB];exact BG w
theorem HI(aI:∀w∈ws,Wf n w)(hn:1<=n)(h:(dd (ws.map wishD)).length<=18):setF [.lst (ws.map wishD)]=some (sortD (dd (ws.map wishD))):=
 IG (M4 aI h) (.inr (w8 λw hw=>ET (aI w hw) hn))
theorem J6(aI:∀w∈ws,Wf n w)(hn:1<=n)(h:ws.length < 64):sortF [.lst (ws.map wishD)]=some (sortD (ws.map wishD)):=
 Al ⟨by simpa using h,EA ws,y_ (Dt ws) (by omega),.inr (.inr (w8 λw hw=>ET (aI w hw) hn))⟩
theorem E2{bs:List (List (Int×Int))}(h1:(as.map wishD).Pairwise λa b=>leD a b=true)(h2:(bs.map wishD).Pairwise λa b=>leD a b=true)(n1:as.Nodup)(n2:bs.Nodup)(m:∀w,w∈as↔w∈bs):as=bs:=by
 have len:bs.length<=as.length:=by
  have:=w6 bs as n2 (λw hw=>(m w).mpr hw);exact this
 have p:as.Perm bs:=Ae as bs n1 (λw hw=>(m w).mp hw) len
 have e:as.map wishD=bs.map wishD:=wE _ _ (p.map _) h1 h2 λa ha b hb l1 l2=>by
  obtain⟨x,_,rfl⟩:=F_.mp ha;obtain⟨y,_,rfl⟩:=F_.mp hb;have c:=B4 x y;refine vC _ _ c ?_;rw[uT _ _ c];unfold leD at l1 l2;rw[l1,l2];rfl
 have:∀(as bs:List (List (Int×Int))),as.map wishD=bs.map wishD->as=bs:=by
  intro as
  induction as with
  | nil=>intro bs e;cases bs with
   | nil=>rfl
   | cons b bs=>simp at e
  | cons a as ih =>
   intro bs e;cases bs with
   | nil=>simp at e
   | cons b bs =>
    rw[D_,D_] at e;injection e with e1 e2
    rw[BR e1,ih bs e2]
 exact this as bs e
noncomputable def undB(us:List (List (Int×Int)))(w:List (Int×Int)):Bool:=us.any λone=>!decide (one=w)&&covB one w
theorem J1{us:List (List (Int×Int))}{w:List (Int×Int)}(ii:∀u∈us,Wf n u)(hw:Wf n w)(hn:n<=3)(hl:us.length<=1000000):cvF xj [.lst (us.map wishD),wishD w]=some (.bl (undB us w)):=by
 refine sw rfl λK k1 _=>?_
 rw[AM];simp;refine sB us wishD (λ_=>true) (λone=>.bl (!decide (one=w)&&covB one w)) ?_;simp[ve];refine⟨hl,λone ho=>⟨.inl (by have:=u7 (w:=one);omega),?_⟩,?_⟩
 ·have:=Ex (a:=one) (b:=w) (by rw[(ii one ho).len,hw.len]) (by rw[(ii one ho).len];omega);simp[this];split<;>simp_all
 ·rw[Im];simp;exact k1 _ ⟨_,rfl⟩
theorem Hc{us:List (List (Int×Int))}(aI:∀u∈ws,Wf n u)(h1:1<=n)(hn:n<=3)(hl:ws.length<=1000000)(kU:(dd (ws.map wishD)).length<=18)(e:sortD (dd (ws.map wishD))=us.map wishD)(m:∀u,u∈us↔u∈ws)(ul:us.length<=ws.length):
  coF vo [.lst (ws.map wishD)]=some ((us.filter λw=>!undB us w).map wishD):=by
 refine uN rfl λKE k1=>?_
 rw[yw];refine qw ?_;rintro K hK -
 have kin:cvF sR [.lst (ws.map wishD)]=some .non:=xg (n:=n) λd hd=>by
  obtain⟨w,hw,rfl⟩:=F_.mp hd;exact⟨w.map pairD,rfl,by rw[s_,(aI w hw).len]⟩
 simp[kin];refine hK _ ?_;refine qw ?_;rintro K hK -;simp[HI aI h1 kU,e];refine hK _ ?_;simp;refine sB us wishD (λw=>!undB us w) wishD ?_;simp;refine⟨by omega,λw hw=>?_,k1 _ ⟨_,rfl⟩⟩;have ii:∀u∈us,Wf n u:=λu hu=>aI u ((m u).mp hu)
 simp[J1 ii (ii w hw) hn (by omega)]
theorem vK{us:List (List (Int×Int))}(m:∀u,u∈us↔u∈ws)(w:List (Int×Int)):undB us w=undB ws w:=by
 unfold undB;rw[S1,QW,QW];exact⟨λ⟨u,h,q⟩=>⟨u,(m u).mp h,q⟩,λ⟨u,h,q⟩=>⟨u,(m u).mpr h,q⟩⟩
noncomputable def lrStep(ws:List (List (Int×Int)))(ag:List (List (Int×Int)))(w:List (Int×Int)):List (List (Int×Int)):=if undB ws w=false/\w∉ag then ag++[w] else ag
theorem xw(ws:List (List (Int×Int))):∀(ss ag:List (List (Int×Int))),ag.Nodup →
  (ss.foldl (lrStep ws) ag).Nodup/\(∀w,w∈ss.foldl (lrStep ws) ag↔w∈ag\/(w∈ss/\undB ws w=false))/\∃t,ss.foldl (lrStep ws) ag=ag++t/\t.Sublist ss
 | [],ag,h=>⟨h,λw=>by simp,[],by simp,RQ _⟩
 | s::ss,ag,h=>by
  by_cases c:undB ws s=false/\s∉ag
  ·have e:lrStep ws ag s=ag++[s]:=if_pos c
   have nd:(ag++[s]).Nodup:=by
    rw[S9];refine⟨h,by simp,λa ha b hb q=>?_⟩;rw[t_.mp hb] at q;rw[q] at ha;exact c.2 ha
   obtain⟨h1,h2,t,h3,h4⟩:=xw ws ss (ag++[s]) nd;rw[SE,e];refine⟨h1,λw=>?_,s::t,by rw[h3];simp,h4.cons₂ s⟩;rw[h2 w];constructor
   ·rintro(q | q)
    ·rcases K_.mp q with q | q
     ·exact .inl q
     ·rw[t_.mp q];exact .inr ⟨k_,c.1⟩
    ·exact .inr ⟨i_ _ q.1,q.2⟩
   ·rintro(q | ⟨q,q'⟩)
    ·exact .inl (by simp[q])
    ·rcases E_.mp q with rfl | q
     ·exact .inl (by simp)
     ·exact .inr ⟨q,q'⟩
  ·have e:lrStep ws ag s=ag:=if_neg c;obtain⟨h1,h2,t,h3,h4⟩:=xw ws ss ag h;rw[SE,e];refine⟨h1,λw=>?_,t,h3,h4.cons s⟩;rw[h2 w];constructor
   ·rintro(q | q)
    ·exact .inl q
    ·exact .inr ⟨i_ _ q.1,q.2⟩
   ·rintro(q | ⟨q,q'⟩)
    ·exact .inl q
    ·rcases E_.mp q with rfl | q
     ·by_cases z:w∈ag
      ·exact .inl z
      ·exact absurd ⟨q',z⟩ c
     ·exact .inr ⟨q,q'⟩
theorem FR{us:List (List (Int×Int))}(eu:sortD (dd (ws.map wishD))=us.map wishD)(mu:∀u,u∈us↔u∈ws)(nu:us.Nodup)(es:sortD (ws.map wishD)=ss.map wishD)(ms:∀u,u∈ss↔u∈ws):
  ss.foldl (lrStep ws) []=us.filter λw=>!undB us w:=by
 obtain⟨h1,h2,t,h3,h4⟩:=xw ws ss [] SB;have up1:=tZ (ws.map wishD);have df:=tZ (dd (ws.map wishD));rw[es] at up1;rw[eu] at df;rw[U_] at h3;refine E2 ?_ (df.sublist (RU.map _)) h1 (nu.filter _) λw=>?_
 ·rw[h3];exact up1.sublist (h4.map _)
 ·rw[h2 w,G_,mu,ms,vK mu];simp
theorem Nw{w:List (Int×Int)}:(V5 (λone=>!decide (one=w)&&covB one w) ws).isEmpty=!undB ws w:=by
 unfold undB;rw[S1];simp
theorem Lm(aI:∀u∈ws,Wf n u)(h1:1<=n)(hn:n<=3)(hl:ws.length < 64)(e:sortD (ws.map wishD)=ss.map wishD)(m:∀u,u∈ss↔u∈ws)(sl:ss.length=ws.length):
  cvF xh [.lst (ws.map wishD)]=some (.lst ((ss.foldl (lrStep ws) []).map wishD)):=by
 refine sw rfl λKE k1 _=>?_
 rw[zL];refine qw ?_;rintro K hK -;simp;refine hK _ ?_;refine qw ?_;rintro K hK -;simp[J6 aI h1 hl,e];refine sj (J:=λi Y=>∃x2 x3,Y=[some (.val (.lst (ws.map wishD))),some (.own (((ss.take i).foldl (lrStep ws) []).map wishD)),x2,x3]) ⟨_,_,rfl⟩ ?_ ?_
 ·rintro i d Y hd ⟨x2,x3,rfl⟩ KL az - - -;rw[u_,C_] at hd;obtain⟨w,hw,rfl⟩:=hd;have fO:=(m w).mp (B_ hw);have jr:=aI w fO;have tk:ss.take (i+1)=ss.take i++[w]:=by rw[QK,hw];rfl
  have qG:((ss.take i).foldl (lrStep ws) []).length<=64:=by
   obtain⟨_,_,t,h3,h4⟩:=xw ws (ss.take i) [] SB;rw[h3,U_];have:=h4.length_le;have:=(Vg i ss).length_le;omega
  rw[tk,S8] at az;simp only[SE,List.foldl_nil] at az;generalize (ss.take i).foldl (lrStep ws) []=ag at *;simp;refine qw ?_;rintro K hK -;simp;refine sB ws wishD (λone=>!decide (one=w)&&covB one w) wishD ?_;simp[ve];refine⟨by omega,λone ho=>⟨.inl (by have:=u7 (w:=one);omega),?_⟩,hK _ ?_⟩
  ·have:=Fx (a:=one) (b:=w) (by rw[(aI one ho).len,jr.len]) (by rw[(aI one ho).len];omega) jr.all;by_cases q:one=w
   ·simp[q]
   ·simp[q,this]
  ·clear hK;have dw:=u7 (w:=w)
   have fa:(∀a∈ag,deq (wishD a) (wishD w)=false)↔w∉ag:=by
    simp[ve];exact⟨λh m=>h w m rfl,λh a m e=>h (e▸m)⟩
   simp[Nw,fa];by_cases c1:undB ws w=false
   ·by_cases c2:w∈ag
    ·rw[show lrStep ws ag w=ag from if_neg λz=>z.2 c2] at az;simp[c1,c2];exact⟨by omega,az _ ⟨_,_,rfl⟩⟩
    ·rw[show lrStep ws ag w=ag++[w] from if_pos ⟨c1,c2⟩] at az;simp[c1,c2,isMut,R.mut];exact⟨by omega,by omega,az _ ⟨_,_,by rw[Rw];rfl⟩⟩
   ·rw[show lrStep ws ag w=ag from if_neg λz=>c1 z.1] at az;simp[c1];exact az _ ⟨_,_,rfl⟩
 ·rintro Y ⟨x2,x3,rfl⟩;refine hK _ ?_;rw[s_,Qu];simp;exact k1 _ ⟨_,rfl⟩
theorem xD{p q:Int×Int}{a b:List (Int×Int)}:covB (p::a) (q::b)=true↔(p.1<=q.1/\q.2<=p.2)/\covB a b=true:=by
 unfold covB;rw[QN,QY];simp
theorem Bt:∀a:List (Int×Int),covB a a=true
 | []=>rfl
 | p::a=>xD.mpr ⟨⟨Int.le_refl _,Int.le_refl _⟩,Bt a⟩
theorem CV:∀{a b c:List (Int×Int)},a.length=b.length->b.length=c.length->covB a b=true->covB b c=true->covB a c=true
 | [],[],[],_,_,_,_=>rfl
 | p::a,q::b,r::c,h1,h2,x,y=>by
  rw[xD] at x y ⊢;exact⟨⟨Vv x.1.1 y.1.1,Vv y.1.2 x.1.2⟩,CV (by simpa using h1) (by simpa using h2) x.2 y.2⟩
noncomputable def wd(w:List (Int×Int)):Nat:=(w.map λp=>(p.2 - p.1).toNat).sum
theorem DZ:∀{a b:List (Int×Int)},a.length=b.length->(∀p∈b,p.1<=p.2)->covB a b=true->wd b<=wd a/\(wd b=wd a->a=b)
 | [],[],_,_,_=>⟨w_ _,λ_=>rfl⟩
 | p::a,q::b,h,ok,x=>by
  rw[xD] at x;obtain⟨h1,h2⟩:=DZ (by simpa using h) (λp hp=>ok p (i_ _ hp)) x.2;have:=ok q k_;unfold wd at *;simp only[D_,sum_cons];refine⟨by omega,λe=>?_⟩;rw[h2 (by omega)];have e1:p.1=q.1:=by omega
  have e2:p.2=q.2:=by omega
  rw[Prod.ext e1 e2]
theorem KI:∀{n:Nat}{w:List (Int×Int)},Wf n w->wd w<=9*n
 | n,w,h=>by
  have:=h.len
  have aT:∀w:List (Int×Int),(∀p∈w,PairOk p)->wd w<=9*w.length:=by
   intro w
   induction w with
   | nil=>exact λ_=>w_ _
   | cons p w ih =>
    intro h;have h1:=ih λq hq=>h q (i_ _ hq)
    have h2:=h p k_;have:=h2.lo;have:=h2.hi;unfold wd at *;simp only[D_,sum_cons,Qi];omega
  have:=aT w h.all;omega
theorem Wf.le2{w:List (Int×Int)}(h:Wf n w):∀p∈w,p.1<=p.2:=λp hp=>(h.all p hp).le
theorem zz{w:List (Int×Int)}:undB ws w=true↔∃u∈ws,u≠w/\covB u w=true:=by
 unfold undB;rw[QW];simp
theorem E7{n:Nat}{ws:List (List (Int×Int))}(aI:∀u∈ws,Wf n u):∀(k:Nat) (w:List (Int×Int)),w∈ws->9*n - wd w<=k->∃u∈ws,undB ws u=false/\covB u w=true
 | k,w,hw,hk=>by
  by_cases c:undB ws w=false
  ·exact⟨w,hw,c,Bt w⟩
  ·have c:undB ws w=true:=by simpa using c
   obtain⟨u,hu,ne,cv⟩:=zz.mp c;have lu:=(aI u hu).len;have lw:=(aI w hw).len;obtain⟨d1,d2⟩:=DZ (by rw[lu,lw]) (aI w hw).le2 cv
   have lt:wd w < wd u:=by
    rcases Tk (wd w) (wd u) with z | z
    ·exact z
    ·exact absurd (d2 (Nat.le_antisymm d1 z)) ne
   have:=KI (aI u hu)
   match k with
   | 0=>omega
   | k+1 =>
    obtain⟨m,hm,h1,h2⟩:=E7 aI k u hu (by omega);have lm:=(aI m hm).len;exact⟨m,hm,h1,CV (by rw[lm,lu]) (by rw[lu,lw]) h2 cv⟩
structure IsRoof(ws R:List (List (Int×Int))):Prop where
 up:(R.map wishD).Pairwise λa b=>leD a b=true
 nd:R.Nodup
 mem:∀w,w∈R↔w∈ws/\undB ws w=false
theorem IsRoof.alone{R S:List (List (Int×Int))}(a:IsRoof ws R)(b:IsRoof ws S):R=S:=E2 a.up b.up a.nd b.nd λw=>(a.mem w).trans (b.mem w).symm
theorem IsRoof.congr{vs R:List (List (Int×Int))}(a:IsRoof ws R)(m:∀u,u∈vs↔u∈ws):IsRoof vs R:=⟨a.up,a.nd,λw=>by rw[a.mem,m,vK m]⟩
theorem x0(ws:List (List (Int×Int))):∃R,IsRoof ws R/\R.length<=ws.length:=by
 obtain⟨us,eu,mu,nu,ul⟩:=Ar ws;have df:=tZ (dd (ws.map wishD));rw[eu] at df;refine⟨us.filter λw=>!undB us w,⟨df.sublist (RU.map _),nu.filter _,λw=>?_⟩,y_ (R0 _ _) ul⟩;rw[G_,mu,vK mu];simp
theorem DM{R:List (List (Int×Int))}(aI:∀u∈ws,Wf n u)(h1:1<=n)(hn:n<=3)(hl:ws.length<=18)(a:IsRoof ws R):coF vo [.lst (ws.map wishD)]=some (R.map wishD):=by
 obtain⟨us,eu,mu,nu,ul⟩:=Ar ws;have df:=tZ (dd (ws.map wishD));rw[eu] at df
 have kU:(dd (ws.map wishD)).length<=18:=by
  have:=BN (ws.map wishD);simp at this;omega
 rw[Hc aI h1 hn (by omega) kU eu mu ul]
 have:IsRoof ws (us.filter λw=>!undB us w):=⟨df.sublist (RU.map _),nu.filter _,λw=>by
  rw[G_,mu,vK mu]
  simp⟩
 rw[this.alone a]
theorem IsRoof.over{R:List (List (Int×Int))}(a:IsRoof ws R)(aI:∀u∈ws,Wf n u){w:List (Int×Int)}(hw:w∈ws):∃u∈R,covB u w=true:=by
 obtain⟨u,h1,h2,h3⟩:=E7 aI _ w hw (w_ _);exact⟨u,(a.mem u).mpr ⟨h1,h2⟩,h3⟩
theorem IsRoof.sub{R:List (List (Int×Int))}(a:IsRoof ws R){w:List (Int×Int)}(h:w∈R):w∈ws:=((a.mem w).mp h).1
theorem Bq:∀{a b:List (Int×Int)}{l:List Int},a.length=b.length->covB a b=true->hasB b l=true->hasB a l=true
 | [],[],l,_,_,h=>by simpa[hasB] using h
 | p::a,q::b,[],_,_,h=>by simp[hasB]
 | p::a,q::b,n::l,e,c,h=>by
  rw[xD] at c;unfold hasB at h ⊢;rw[QN,QY,Qn] at h ⊢;have h1:=Bq (l:=l) (by simpa using e) c.2 (by unfold hasB;exact h.2);unfold hasB at h1;refine⟨?_,h1⟩;have h2:=h.1;simp at h2 ⊢;omega
theorem A':leftB ws l=true↔∀w∈ws,hasB w l=false:=by
 unfold leftB;rw[v_];simp
def AllIn(ws:List (List (Int×Int)))(p:List (Int×Int)):Prop:=∀l∈lettersR p,∃w∈ws,hasB w l=true
theorem Gr:firstL ws p=none↔AllIn ws p:=by
 unfold firstL AllIn;rw[TN];constructor
 ·intro h l hl;have:=h l hl;rw[A'] at this;simp at this;obtain⟨w,h1,h2⟩:=this;exact⟨w,h1,h2⟩
 ·rintro h l hl z;obtain⟨w,h1,h2⟩:=h l hl;rw[A'] at z;rw[z w h1] at h2;cases h2
noncomputable def inB1(ws:List (List (Int×Int)))(p:List (Int×Int)):Bool:=(firstL ws p).isNone
theorem yS:inB1 ws p=true↔AllIn ws p:=by
 unfold inB1;rw[Option.isNone_iff_eq_none,Gr]
theorem AllIn.mono{vs:List (List (Int×Int))}(h:AllIn ws p)(s:∀w∈ws,w∈vs):AllIn vs p:=λl hl=>by
 obtain⟨w,h1,h2⟩:=h l hl;exact⟨w,s w h1,h2⟩
noncomputable def butW(stay:List (List (Int×Int)))(w:List (Int×Int)):List (List (Int×Int)):=stay.filter λu=>!decide (u=w)
theorem BZ{stay:List (List (Int×Int))}{w u:List (Int×Int)}:u∈butW stay w↔u∈stay/\u≠w:=by
 unfold butW;rw[G_];simp
noncomputable def spStep(stay:List (List (Int×Int)))(w:List (Int×Int)):List (List (Int×Int)):=if inB1 (butW stay w) w=true then butW stay w else stay
noncomputable def spareL(R:List (List (Int×Int))):List (List (Int×Int)):=R.foldl spStep R
theorem Mu(stay:List (List (Int×Int)))(w:List (Int×Int)):(spStep stay w).Sublist stay:=by
 unfold spStep butW;split
 ·exact RU
 ·exact RQ _
theorem vS:∀(ps stay:List (List (Int×Int))),(ps.foldl spStep stay).Sublist stay
 | [],stay=>RQ _
 | p::ps,stay=>(vS ps _).trans (Mu stay p)
theorem Mn{stay:List (List (Int×Int))}{w:List (Int×Int)}(hw:Wf n w)(hl:l.length=n)(h:∃u∈stay,hasB u l=true):∃u∈spStep stay w,hasB u l=true:=by
 unfold spStep;split
 ·rename_i c;obtain⟨u,h1,h2⟩:=h;by_cases e:u=w
  ·subst e;exact yS.mp c l (wD.mpr ⟨by rw[hl,hw.len],h2⟩)
  ·exact⟨u,BZ.mpr ⟨h1,e⟩,h2⟩
 ·exact h
theorem BJ{n:Nat}{l:List Int}(hl:l.length=n):∀(ps stay:List (List (Int×Int))),(∀p∈ps,Wf n p)->(∃u∈stay,hasB u l=true)->∃u∈ps.foldl spStep stay,hasB u l=true
 | [],stay,_,h=>h
 | p::ps,stay,hp,h=>BJ hl ps _ (λq hq=>hp q (i_ _ hq)) (Mn (hp p k_) hl h)
theorem IsRoof.part{R K:List (List (Int×Int))}(a:IsRoof ws R)(s:K.Sublist R):IsRoof K K:=⟨a.up.sublist (s.map _),a.nd.sublist s,λw=>by
 constructor
 ·intro h;refine⟨h,?_⟩;rw[Tz];intro z;obtain⟨u,h1,h2,h3⟩:=zz.mp z;have:=((a.mem w).mp (s.subset h)).2;rw[zz.mpr ⟨u,a.sub (s.subset h1),h2,h3⟩] at this;cases this
 ·exact λh=>h.1⟩
theorem IsRoof.one(w:List (Int×Int)):IsRoof [w] [w]:=⟨List.pairwise_singleton _ _,by simp,λu=>by
 rw[t_];constructor
 ·rintro rfl;refine⟨rfl,?_⟩;simp[undB]
 ·exact λh=>h.1⟩
theorem HF{l:D}{x:D}:ixF (.tup [x,l]) (.int 0)=some x:=rfl
theorem K0(hw:∀w∈ws,Wf n w)(hl:ws.length<=100)(hn:n<=3)(hp:Wf n p):∃x,cvF vp [.lst (ws.map wishD),wishD p]=some (.tup [.str (if inB1 ws p=true then "in" else "out"),x]):=by
 obtain⟨d,e,r⟩:=GF hw hl hn hp
 rcases r with⟨l,h1,rfl⟩ | ⟨t,h1,_,_,rfl⟩
 ·refine⟨letD l,?_⟩;rw[if_neg (by unfold inB1;rw[h1];simp)];exact e
 ·refine⟨trD t,?_⟩;rw[if_pos (by unfold inB1;rw[h1];rfl)];exact e
theorem MV:noLA (ws.map wishD)=true:=by
 have pr:∀w:List (Int×Int),noLA (w.map pairD)=true:=λw=>by
  induction w with
  | nil=>simp[noLA]
  | cons p w ih =>
   rw[D_,noLA,ih];simp[pairD,noL,noLA]
 induction ws with
 | nil=>simp[noLA]
 | cons w ws ih =>
  rw[D_,noLA,ih];simp[wishD,noL,pr]
theorem L7(aI:∀u∈ws,Wf n u)(h1:1<=n)(hn:n<=3)(hl:ws.length<=18)(a:IsRoof ws T)(lT:T.length<=ws.length){KE:Fl->Gm->Prop}(k1:∀af,(∃l,fin (map R.val [.lst (ws.map wishD)]) af=some l)->KE (.rt (.fro ((spareL T).map wishD))) af):wp xl [some (.val (.lst (ws.map wishD))),none,none,none,none] KE:=by
 have e1:=DM aI h1 hn hl a;rw[xl];refine qw ?_;rintro K hK -;simp[e1];refine hK _ ?_;refine qw ?_;rintro K hK -;refine⟨_,_,rfl,hK _ ?_⟩;show wp _ [some (.val (.lst (ws.map wishD))),some (.fro (T.map wishD)),some (.fro (T.map wishD)),none,none] _;refine qw ?_;rintro K hK -;simp;refine sj (J:=λi Y=>∃x3 x4,Y=[some (.val (.lst (ws.map wishD))),some (.fro (T.map wishD)),some (.fro (((T.take i).foldl spStep T).map wishD)),x3,x4]) ⟨_,_,rfl⟩ ?_ ?_
 ·rintro i d Y hd ⟨x3,x4,rfl⟩ KL az - - -;rw[u_,C_] at hd;obtain⟨w,hw,rfl⟩:=hd;have jr:=aI w (a.sub (B_ hw));have tk:T.take (i+1)=T.take i++[w]:=by rw[QK,hw];rfl
  rw[tk,S8] at az;simp only[SE,List.foldl_nil] at az;have sb:=vS (T.take i) T;generalize (T.take i).foldl spStep T=stay at *;have sl:=sb.length_le;have fV:∀u∈stay,Wf n u:=λu hu=>aI u (a.sub (sb.subset hu))
  have bl:(butW stay w).length<=100:=y_ (R0 _ _) (by omega);obtain⟨x,e2⟩:=K0 (ws:=butW stay w) (λu hu=>fV u (BZ.mp hu).1) bl hn jr;simp;refine qw ?_;rintro K hK -;simp;refine sB stay wishD (λu=>!decide (u=w)) wishD ?_;simp[ve];refine⟨by omega,λu hu=>.inl (by have:=u7 (w:=u);omega),hK _ ?_⟩
  change wp _ [_,_,_,_,some (.fro ((butW stay w).map wishD))] _
  simp[e2,HF];by_cases c:inB1 (butW stay w) w=true
  ·rw[show spStep stay w=butW stay w from if_pos c] at az;simp[c,deq,dep];exact az _ ⟨_,_,rfl⟩
  ·rw[show spStep stay w=stay from if_neg c] at az;simp[c,deq,dep];exact az _ ⟨_,_,rfl⟩
 ·rintro Y ⟨x3,x4,rfl⟩;refine hK _ ?_;rw[s_,Qu];simp;exact k1 _ ⟨_,rfl⟩
theorem HC(aI:∀u∈ws,Wf n u)(h1:1<=n)(hn:n<=3)(hl:ws.length<=18)(a:IsRoof ws T)(lT:T.length<=ws.length):coF wO [.lst (ws.map wishD)]=some ((spareL T).map wishD):=
 Kt rfl MV λKE k1=>L7 aI h1 hn hl a lT k1
theorem Ju{w:List (Int×Int)}(aI:∀u∈ws,Wf n u)(hl:ws.length<=1000)(hn:n<=3)(hw:Wf n w):cvF wN [.lst (ws.map wishD),wishD w]=some (.bl (inB1 ws w)):=by
 have e9:=IS hw.all (by rw[hw.len];omega);rw[Hi] at e9;refine sw rfl λKE k1 _=>?_
 rw[AL];refine qw ?_;rintro K hK hR;simp[e9];refine sj (J:=λi Y=>(∀l∈(lettersR w).take i,∃u∈ws,hasB u l=true)/\∃x2,Y=[some (.val (.lst (ws.map wishD))),some (.val (wishD w)),x2]) ⟨by simp,_,rfl⟩ ?_ ?_
 ·rintro i d Y hd ⟨jt,x2,rfl⟩ KL az - - qj;rw[u_,C_] at hd;obtain⟨l,eF,rfl⟩:=hd;have lm:=B_ eF;obtain⟨ll,lh⟩:=wD.mp lm;have tk:(lettersR w).take (i+1)=(lettersR w).take i++[l]:=by rw[QK,eF];rfl
  simp;refine sB ws wishD (λu=>hasB u l) (λ_=>.int 1) ?_;simp;refine⟨by omega,λv hv=>?_,?_⟩
  ·have:=wa (w:=v) (l:=l) (by rw[(aI v hv).len,ll,hw.len]) (by rw[(aI v hv).len];omega);simp[this]
  ·split
   ·rename_i no
    have:inB1 ws w=false:=by
     rw[Tz];intro z;obtain⟨u,h1,h2⟩:=yS.mp z l lm;rw[no u h1] at h2;cases h2
    rw[this] at k1;exact qj _ _ (hR _ _ (k1 _ ⟨_,rfl⟩))
   ·rename_i fI;refine az _ ⟨λl' h'=>?_,_,rfl⟩;rw[tk] at h'
    rcases K_.mp h' with z | z
    ·exact jt l' z
    ·rw[t_.mp z];simp at fI;obtain⟨u,h1,h2⟩:=fI;exact⟨u,h1,h2⟩
 ·rintro Y ⟨jt,x2,rfl⟩;refine hK _ ?_;rw[s_,Qu] at jt;have:inB1 ws w=true:=yS.mpr jt;rw[this] at k1;simp;exact k1 _ ⟨_,rfl⟩
def Adj(rs:List (Int×Int))(a b:Int):Prop:=(a,b)∈rs\/(b,a)∈rs
theorem Adj.symm{a b:Int}(h:Adj rs a b):Adj rs b a:=h.elim .inr .inl
structure Web(n:Nat)(rs:List (Int×Int))(rk:Int->Nat):Prop where
 n1:1<=n
 n8:n<=8
 lt:∀r∈rs,0<=r.1/\r.1 < r.2/\r.2 < n
 nd:rs.Nodup
 ne:∀a b,Adj rs a b->rk a≠rk b
 rk8:∀a b,Adj rs a b->rk a < 8
 one:∀v a b,Adj rs v a->Adj rs v b->rk a < rk v->rk b < rk v->a=b
def Par(rs:List (Int×Int))(rk:Int->Nat)(v p:Int):Prop:=Adj rs v p/\rk p < rk v
inductive Desc(rs:List (Int×Int))(rk:Int->Nat)(x:Int):Int->Prop where
 | refl:Desc rs rk x x
 | up {v p:Int} (a:Par rs rk v p) (d:Desc rs rk x p):Desc rs rk x v
noncomputable def Wl(N:Int->List Int):Nat->Option Int->Int->List Int
 | 0,_,h=>[h]
 | k+1,c,h=>h::((N h).filter λu=>decide (some u≠c)).flatMap (Wl N k (some h))
theorem xO:h∈Wl N k c h:=by
 cases k<;>exact k_
theorem tQ{v:Int}:v∈Wl N (k+1) c h↔v=h\/∃u,u∈N h/\some u≠c/\v∈Wl N k (some h) u:=by
 rw[Wl,E_,QM];simp only[G_,decide_eq_true_eq,and_assoc]
section
variable{rk:Int->Nat}
theorem Desc.rk_le{x v:Int}(h:Desc rs rk x v):rk x<=rk v:=by
 induction h with
 | refl=>exact w_ _
 | up a _ ih=>exact y_ ih (SM a.2)
theorem Desc.trans{x y v:Int}(h1:Desc rs rk x y)(h2:Desc rs rk y v):Desc rs rk x v:=by
 induction h2 with
 | refl=>exact h1
 | up a _ ih=>exact .up a ih
theorem Web.chain(W:Web n rs rk){a b v:Int}(h1:Desc rs rk a v)(h2:Desc rs rk b v):Desc rs rk a b\/Desc rs rk b a:=by
 induction h1 with
 | refl=>exact .inr h2
 | @up v p q d ih =>
  cases h2 with
  | refl=>exact .inl (.up q d)
  | @up _ p' q' d' =>
   have:=W.one v p p' q.1 q'.1 q.2 q'.2;subst this;exact ih d'
theorem Web.sib0(W:Web n rs rk){a b:Int}(pa:Par rs rk a h)(pb:Par rs rk b h)(d:Desc rs rk a b):a=b:=by
 cases d with
 | refl=>rfl
 | @up _ p q d' =>
  have:=W.one b p h q.1 pb.1 q.2 pb.2;subst this;have:=d'.rk_le;have:=pa.2;omega
theorem Web.sib(W:Web n rs rk){a b v:Int}(pa:Par rs rk a h)(pb:Par rs rk b h)(h1:Desc rs rk a v)(h2:Desc rs rk b v):a=b:=by
 rcases W.chain h1 h2 with d | d
 ·exact W.sib0 pa pb d
 ·exact(W.sib0 pb pa d).symm
def Side(rs:List (Int×Int))(rk:Int->Nat)(c h v:Int):Prop:=(rk c < rk h/\Desc rs rk h v)\/(rk h < rk c/\¬Desc rs rk c v)
theorem Web.side(W:Web n rs rk)(hN:∀v u,u∈N v↔Adj rs v u):∀(k:Nat) (c h:Int),Adj rs c h->∀v∈Wl N k (some c) h,Side rs rk c h v:=by
 have base:∀c h,Adj rs c h->Side rs rk c h h:=λc h a=>by
  have:=W.ne c h a;by_cases l:rk c < rk h
  ·exact .inl ⟨l,.refl⟩
  ·exact .inr ⟨by omega,λd=>by have:=d.rk_le;omega⟩
 intro k
 induction k with
 | zero=>intro c h a v hv;rw[Wl,t_] at hv;subst hv;exact base c v a
 | succ k ih =>
  intro c h a v hv
  rcases tQ.mp hv with rfl | ⟨u,hu,hc,hv⟩
  ·exact base c v a
  ·have au:=(hN h u).mp hu;have hc:u≠c:=λz=>hc (by rw[z])
   have s:=ih h u au v hv;have n1:=W.ne c h a;have n2:=W.ne h u au;by_cases l:rk c < rk h
   ·rcases s with⟨s1,s2⟩ | ⟨s1,_⟩
    ·exact .inl ⟨l,.trans (.up ⟨au.symm,s1⟩ .refl) s2⟩
    ·exact absurd (W.one h u c au a.symm s1 l) hc
   ·have l:rk h < rk c:=by omega
    have pc:Par rs rk c h:=⟨a,l⟩;refine .inr ⟨l,λd=>?_⟩
    rcases s with⟨s1,s2⟩ | ⟨s1,s2⟩
    ·exact hc (W.sib (h:=h) ⟨au.symm,s1⟩ pc s2 d)
    ·exact s2 (.trans (.up pc .refl) d)
theorem Web.back(W:Web n rs rk)(hN:∀v u,u∈N v↔Adj rs v u){c:Int}(a:Adj rs c h):c∉Wl N k (some c) h:=λm=>by
 rcases W.side hN k c h a c m with⟨s1,s2⟩ | ⟨_,s2⟩
 ·have:=s2.rk_le;omega
 ·exact s2 .refl
theorem Web.apart(W:Web n rs rk)(hN:∀v u,u∈N v↔Adj rs v u){a b v:Int}(ha:Adj rs h a)(hb:Adj rs h b)(h1:v∈Wl N k (some h) a)(h2:v∈Wl N k (some h) b):a=b:=by
 rcases W.side hN k h a ha v h1 with⟨s1,s2⟩ | ⟨s1,s2⟩<;>rcases W.side hN k h b hb v h2 with⟨t1,t2⟩ | ⟨t1,t2⟩
 ·exact W.sib (h:=h) ⟨ha.symm,s1⟩ ⟨hb.symm,t1⟩ s2 t2
 ·exact absurd (.trans (.up ⟨ha.symm,s1⟩ .refl) s2) t2
 ·exact absurd (.trans (.up ⟨hb.symm,t1⟩ .refl) t2) s2
 ·exact W.one h a b ha hb s1 t1
theorem Dc{α Z:Type}{f:α->List Z}:∀{l:List α},l.Nodup->(∀x∈l,(f x).Nodup)->(∀x∈l,∀y∈l,∀v,v∈f x->v∈f y->x=y)->(l.flatMap f).Nodup
 | [],_,_,_=>SB
 | x::l,hn,h1,h2=>by
  rw[Qj,S9];rw[QQ] at hn;refine⟨h1 x k_,Dc hn.2 (λy hy=>h1 y (i_ _ hy)) (λy hy z hz=>h2 y (i_ _ hy) z (i_ _ hz)),λv hv u hu e=>?_⟩;subst e;obtain⟨y,hy,bO⟩:=QM.mp hu;have:=h2 x k_ y (i_ _ hy) v hv bO;subst this;exact hn.1 hy
theorem Web.nodup(W:Web n rs rk)(hN:∀v u,u∈N v↔Adj rs v u)(hn:∀v,(N v).Nodup):∀(k:Nat) (c:Option Int) (h:Int),(Wl N k c h).Nodup:=by
 intro k
 induction k with
 | zero=>intro c h;rw[Wl];exact QQ.mpr ⟨by simp,SB⟩
 | succ k ih =>
  intro c h;rw[Wl,QQ];refine⟨λm=>?_,Dc ((hn h).filter _) (λu hu=>ih _ _) λu hu v hv x h1 h2=>?_⟩
  ·obtain⟨u,hu,m⟩:=QM.mp m;exact W.back hN ((hN h u).mp (G_.mp hu).1) m
  ·exact W.apart hN ((hN h u).mp (G_.mp hu).1) ((hN h v).mp (G_.mp hv).1) h1 h2
noncomputable def mu(rk:Int->Nat):Option Int->Int->Nat
 | none,_=>18
 | some c,h=>if rk c < rk h then 8 - rk h else 9+rk h
theorem Web.mu_lt(W:Web n rs rk){u:Int}(hc:∀x,c=some x->Adj rs x h)(hu:Adj rs h u)(ne:some u≠c):mu rk (some h) u < mu rk c h:=by
 have n2:=W.ne h u hu;have r1:=W.rk8 h u hu;have r2:=W.rk8 u h hu.symm;cases c with
 | none=>simp only[mu];split<;>omega
 | some c =>
  have a:=hc c rfl;have n1:=W.ne c h a;simp only[mu];by_cases l:rk c < rk h
  ·rw[if_pos l];by_cases m:rk h < rk u
   ·rw[if_pos m];omega
   ·exact absurd (W.one h u c hu a.symm (by omega) l) (λz=>ne (by rw[z]))
  ·rw[if_neg l];split<;>omega
theorem IK(S:Int->Prop)(c:Option Int)(hS:∀v u,S v->u∈N v->some u≠c->S u):∀(k:Nat) (c':Option Int) (h:Int),S h->(∀v∈Wl N k c' h,some v≠c)->∀v∈Wl N k c' h,S v:=by
 intro k
 induction k with
 | zero=>intro c' h hh _ v hv;rw[Wl,t_] at hv;subst hv;exact hh
 | succ k ih =>
  intro c' h hh hc v hv
  rcases tQ.mp hv with rfl | ⟨u,hu,nO,hv⟩
  ·exact hh
  ·refine ih (some h) u (hS h u hh hu (hc u (tQ.mpr (.inr ⟨u,hu,nO,xO⟩)))) (λw hw=>hc w (tQ.mpr (.inr ⟨u,hu,nO,hw⟩))) v hv
end
noncomputable def webD(n:Nat)(rs:List (Int×Int)):D:=.tup [.int n,.tup (rs.map pairD)]
@[simp] theorem PY:ixF (webD n rs) (.int 0)=some (.int n):=rfl
@[simp] theorem PN:ixF (webD n rs) (.int 1)=some (.tup (rs.map pairD)):=rfl
noncomputable def sortI(xs:List Int):List Int:=xs.mergeSort λa b=>decide (a<=b)
theorem Du(xs:List Int):(sortI xs).Perm xs:=Tl _ _
theorem Jc(xs:List Int):sortD (xs.map D.int)=(sortI xs).map D.int:=by
 unfold sortD sortI;refine(Vd λa _ b _=>?_).symm;unfold leD;rw[tY];by_cases h:a<=b
 ·rw[decide_eq_true h,decide_eq_false (by omega)];rfl
 ·rw[decide_eq_false h,decide_eq_true (by omega)];rfl
theorem GZ{xs:List Int}:depA (xs.map D.int)<=0:=uU λd hd=>by
 obtain⟨n,_,rfl⟩:=F_.mp hd;simp[dep]
theorem BE{xs:List Int}(h:xs.length < 64):sortF [.lst (xs.map D.int)]=some ((sortI xs).map D.int):=by
 rw[Al,Jc];refine⟨by simpa using h,?_,by have:=GZ (xs:=xs);omega,.inl ?_⟩
 ·unfold cmAll;rw[v_];intro a ha;rw[v_];intro b hb;obtain⟨i,_,rfl⟩:=F_.mp ha;obtain⟨j,_,rfl⟩:=F_.mp hb;rfl
 ·rw[v_];intro a ha;obtain⟨i,_,rfl⟩:=F_.mp ha;rfl
theorem wK{α Z:Type}{f:α->Z}:∀{l:List α},l.Nodup->(∀x∈l,∀y∈l,f x=f y->x=y)->(l.map f).Nodup
 | [],_,_=>SB
 | x::l,hn,h=>by
  rw[QQ] at hn;rw[D_,QQ];refine⟨λm=>?_,wK hn.2 λy hy z hz=>h y (i_ _ hy) z (i_ _ hz)⟩;obtain⟨y,hy,e⟩:=F_.mp m;have:=h y (i_ _ hy) x k_ e;subst this;exact hn.1 hy
noncomputable def nbL(rs:List (Int×Int))(h:Int):List Int:=(rs.filter λr=>decide (h=r.1)||decide (h=r.2)).map λr=>if r.1=h then r.2 else r.1
noncomputable def nbs(rs:List (Int×Int))(h:Int):List Int:=sortI (nbL rs h)
section
variable{rk:Int->Nat}
theorem Web.nb0(W:Web n rs rk)(h u:Int):u∈nbL rs h↔Adj rs h u:=by
 unfold nbL Adj;rw[F_];constructor
 ·rintro⟨⟨a,b⟩,hr,e⟩;rw[G_] at hr;obtain⟨hr,c⟩:=hr;simp only[Bool.or_eq_true,decide_eq_true_eq] at c;simp only at e;by_cases q:a=h
  ·rw[if_pos q] at e;subst q;subst e;exact .inl hr
  ·rw[if_neg q] at e;subst e
   rcases c with c | c
   ·exact absurd c.symm q
   ·subst c;exact .inr hr
 ·rintro(m | m)
  ·exact⟨(h,u),G_.mpr ⟨m,by simp⟩,if_pos rfl⟩
  ·have:=W.lt _ m;exact⟨(u,h),G_.mpr ⟨m,by simp⟩,if_neg (show ¬u=h by have:=this.2.1;simp only at this;omega)⟩
theorem Web.nb0_nodup(W:Web n rs rk)(h:Int):(nbL rs h).Nodup:=by
 unfold nbL;refine wK (TF.filter _ W.nd) λx hx y hy e=>?_
 obtain⟨a,b⟩:=x;obtain⟨c,d⟩:=y;rw[G_] at hx hy;have l1:=W.lt _ hx.1;have l2:=W.lt _ hy.1;have h1:=hx.2;have h2:=hy.2;simp only[Bool.or_eq_true,decide_eq_true_eq] at h1 h2;simp only at e l1 l2;rw[U3];split at e<;>split at e<;>omega
theorem Web.nb(W:Web n rs rk)(h u:Int):u∈nbs rs h↔Adj rs h u:=by
 unfold nbs;rw[(Du _).mem_iff];exact W.nb0 h u
theorem Web.nb_nodup(W:Web n rs rk)(h:Int):(nbs rs h).Nodup:=by
 unfold nbs;exact(Du _).symm.nodup (W.nb0_nodup h)
theorem Web.in_n(W:Web n rs rk){a b:Int}(h:Adj rs a b):0<=a/\a < n/\0<=b/\b < n:=by
 rcases h with h | h
 ·have:=W.lt _ h;simp only at this;omega
 ·have:=W.lt _ h;simp only at this;omega
theorem DJ(hn:l.Nodup)(h:∀x∈l,0<=x/\x < m):l.length<=m:=by
 have:=w6 l ((Qw m).map λk:Nat=>(k:Int)) hn λx hx=>by
  obtain⟨h1,h2⟩:=h x hx;exact F_.mpr ⟨x.toNat,Rm.mpr (by omega),by omega⟩
 simpa using this
theorem Web.nb_len(W:Web n rs rk)(h:Int):(nbL rs h).length<=n:=DJ (W.nb0_nodup h) λx hx=>by
 have:=W.in_n ((W.nb0 h x).mp hx);omega
theorem Web.rs_len(W:Web n rs rk):rs.length<=64:=by
 have:=w6 rs ((Qw 64).map λk:Nat=>(((k / 8:Nat):Int),((k % 8:Nat):Int))) W.nd λr hr=>by
  have:=W.lt r hr;have:=W.n8;refine F_.mpr ⟨r.1.toNat*8+r.2.toNat,Rm.mpr (by omega),?_⟩;obtain⟨a,b⟩:=r;simp only at *;rw[U3];omega
 simpa using this
end
theorem xM(h0:0<=h)(h1:h < n):cvF uI [webD n rs,.int h]=some .non:=by
 refine sw rfl λKE _ k2=>?_
 rw[zZ];simp[h0,h1];exact k2 _ rfl ⟨_,rfl⟩
theorem sx{a b:Int}:deq (.int a) (.int b)=decide (a=b):=by
 rw[deq];by_cases h:a=b<;>simp[h]
theorem wg{a b:Int}:(a == b)=decide (a=b):=by
 by_cases h:a=b<;>simp[h]
theorem Hw{a b:Int}:(a == b)=decide (b=a):=by
 by_cases h:b=a
 ·simp[h]
 ·have:¬a=b:=λz=>h z.symm
  simp[h,this]
theorem Nt{r:Int×Int}:inF false (.int h) (pairD r)=some (.bl (decide (h=r.1)||decide (h=r.2))):=by
 unfold inF;simp[pairD,seqI,deq,dep,depA,Hw]
theorem yn{rk:Int->Nat}(W:Web n rs rk)(h0:0<=h)(h1:h < n):coF vk [webD n rs,.int h]=some ((nbs rs h).map D.int):=by
 have e1:=xM (rs:=rs) h0 h1;have l1:=W.rs_len;have l2:=W.nb_len h;have l3:=W.n8;have e2:sortF [.lst ((nbL rs h).map D.int)]=some ((nbs rs h).map D.int):=BE (by omega);refine uN rfl λKE k1=>?_
 rw[Ah];refine qw ?_;rintro K hK -;simp[e1];refine hK _ ?_;simp;refine sB rs pairD (λr=>decide (h=r.1)||decide (h=r.2)) (λr=>.int (if r.1=h then r.2 else r.1)) ?_;simp[Nt,dep,sx];refine⟨by omega,λa b _ _=>by split<;>intro z<;>first | exact absurd (by assumption) z | exact absurd z (by assumption),?_⟩
 have e3:map (λr=>D.int (if r.1=h then r.2 else r.1)) (V5 (λr=>decide (h=r.1)||decide (h=r.2)) rs)=(nbL rs h).map D.int:=by
  unfold nbL;rw[UP];rfl
 rw[e3,e2];simp;exact k1 _ ⟨_,rfl⟩
noncomputable def cameD:Option Int->D
 | none=>.non
 | some c=>.int c
theorem vT{u:Int}:deq (.int u) (cameD c)=decide (some u=c):=by
 cases c with
 | none=>simp[cameD,deq]
 | some c =>
  simp only[cameD,sx];by_cases h:u=c<;>simp[h]
theorem Web.wl_len{rk:Int->Nat}(W:Web n rs rk)(k:Nat)(c:Option Int)(h:Int)(h0:0<=h)(h1:h < n):(Wl (nbs rs) k c h).length<=n:=DJ (W.nodup W.nb W.nb_nodup k c h) λx hx=>by
 refine IK (N:=nbs rs) (λv=>0<=v/\v < n) none (λv u _ hu _=>?_) k c h ⟨h0,h1⟩ (λv _ z=>by cases z) x hx;have:=W.in_n ((W.nb v u).mp hu);omega
theorem vX{rk:Int->Nat}(W:Web n rs rk){c:Int}(a:Adj rs c h):mu rk (some c) h < 20:=by
 have:=W.rk8 h c a.symm;simp only[mu];split<;>omega
noncomputable def mkR(a b:Int):Int×Int:=(if b < a then b else a,if b > a then b else a)
theorem xT{a b:Int}(h:a≠b):(mkR a b=(a,b)/\a < b)\/(mkR a b=(b,a)/\b < a):=by
 unfold mkR;by_cases l:b < a
 ·exact .inr ⟨by rw[if_pos l,if_neg (by omega)],l⟩
 ·exact .inl ⟨by rw[if_neg l,if_pos (by omega)],by omega⟩
structure LOk(m:Nat)(L:List (Nat×Nat)):Prop where
 inc:L.Pairwise λp q=>p.1 < q.1
 ok:∀q∈L,1<=q.1/\q.1 < m/\q.2 < q.1
theorem Ei{L:List (Nat×Nat)}(h:L.Pairwise λp q=>p.1 < q.1){p q:Nat×Nat}(hp:p∈L)(hq:q∈L)(e:p.1=q.1):p=q:=by
 induction L with
 | nil=>cases hp
 | cons x L ih =>
  rw[SH] at h
  rcases E_.mp hp with fi | fi<;>rcases E_.mp hq with cL | cL
  ·rw[fi,cL]
  ·have:=h.1 q cL;rw[←fi] at this;omega
  ·have:=h.1 p fi;rw[←cL] at this;omega
  ·exact ih h.2 fi cL
noncomputable def atO(os:List Int)(k:Nat):Int:=os.getD k 0
noncomputable def roadsO(os:List Int)(L:List (Nat×Nat)):List (Int×Int):=L.map λq=>mkR (atO os q.1) (atO os q.2)
section
variable{os:List Int}{L:List (Nat×Nat)}
theorem zx(h:k < os.length):atO os k=os[k]:=by
 unfold atO;rw[h_,g_ h];rfl
theorem tN(nd:os.Nodup)(h:k < os.length):os.idxOf (atO os k)=k:=by
 rw[zx h];exact nd.idxOf_getElem k h
theorem tW(nd:os.Nodup)(hj:j < os.length)(hk:k < os.length)(e:atO os j=atO os k):j=k:=by
 have h1:=tN nd hj;rw[e,tN nd hk] at h1;exact h1.symm
theorem xk(hl:os.length=m)(nd:os.Nodup)(ok:LOk m L)(hp:rs.Perm (roadsO os L)){x y:Int}(h:Adj rs x y):∃q∈L,(x=atO os q.1/\y=atO os q.2)\/(x=atO os q.2/\y=atO os q.1):=by
 have go:∀a b,(a,b)∈rs->∃q∈L,(a=atO os q.1/\b=atO os q.2)\/(a=atO os q.2/\b=atO os q.1):=λa b h=>by
  rw[hp.mem_iff] at h;obtain⟨q,hq,e⟩:=F_.mp h;have o:=ok.ok q hq;have ne:atO os q.1≠atO os q.2:=λz=>by have:=tW nd (by omega) (by omega) z;omega
  refine⟨q,hq,?_⟩
  rcases xT ne with⟨e1,_⟩ | ⟨e1,_⟩<;>rw[e1] at e<;>cases e
  ·exact .inl ⟨rfl,rfl⟩
  ·exact .inr ⟨rfl,rfl⟩
 rcases h with h | h
 ·exact go x y h
 ·obtain⟨q,hq,z⟩:=go y x h;exact⟨q,hq,z.elim (λz=>.inr ⟨z.2,z.1⟩) λz=>.inl ⟨z.2,z.1⟩⟩
theorem Ni(hl:os.length=m)(nd:os.Nodup)(rng:∀x∈os,0<=x/\x < m)(ok:LOk m L)(m1:1<=m)(m8:m<=8)(hp:rs.Perm (roadsO os L)):Web m rs λv=>os.idxOf v:=by
 have nP:∀k,k < m->0<=atO os k/\atO os k < m:=λk hk=>by
  rw[zx (by omega)];exact rng _ (Qt _)
 have nq:∀q∈L,atO os q.1≠atO os q.2:=λq hq z=>by
  have o:=ok.ok q hq;have:=tW nd (by omega) (by omega) z;omega
 refine⟨m1,m8,λr hr=>?_,hp.symm.nodup (wK (ok.inc.imp λh e=>by rw[e] at h;exact absurd h (Rl _)) λp kW q kX e=>?_),λa b h=>?_,λa b h=>?_,λv a b ha hb la lb=>?_⟩
 ·rw[hp.mem_iff] at hr;obtain⟨q,hq,rfl⟩:=F_.mp hr;have o:=ok.ok q hq;have i1:=nP q.1 (by omega);have i2:=nP q.2 (by omega)
  rcases xT (nq q hq) with⟨e,l⟩ | ⟨e,l⟩<;>rw[e]<;>simp only<;>omega
 ·have o:=ok.ok p kW;have o':=ok.ok q kX;refine Ei ok.inc kW kX ?_
  rcases xT (nq p kW) with⟨e1,_⟩ | ⟨e1,_⟩<;>rcases xT (nq q kX) with⟨e2,_⟩ | ⟨e2,_⟩<;>rw[e1,e2,U3] at e
  ·exact tW nd (by omega) (by omega) e.1
  ·have h1:=tW nd (by omega) (by omega) e.1;have h2:=tW nd (by omega) (by omega) e.2;omega
  ·have h1:=tW nd (by omega) (by omega) e.1;have h2:=tW nd (by omega) (by omega) e.2;omega
  ·exact tW nd (by omega) (by omega) e.2
 ·obtain⟨q,hq,z⟩:=xk hl nd ok hp h;have o:=ok.ok q hq
  rcases z with⟨rfl,rfl⟩ | ⟨rfl,rfl⟩<;>rw[tN nd (by omega),tN nd (by omega)]<;>omega
 ·obtain⟨q,hq,z⟩:=xk hl nd ok hp h;have o:=ok.ok q hq
  rcases z with⟨rfl,rfl⟩ | ⟨rfl,rfl⟩<;>rw[tN nd (by omega)]<;>omega
 ·obtain⟨q,hq,z⟩:=xk hl nd ok hp ha;obtain⟨q',cL,z'⟩:=xk hl nd ok hp hb;have o:=ok.ok q hq;have o':=ok.ok q' cL
  have e1:v=atO os q.1/\a=atO os q.2:=by
   rcases z with z | ⟨rfl,rfl⟩
   ·exact z
   ·rw[tN nd (by omega),tN nd (by omega)] at la;omega
  have e2:v=atO os q'.1/\b=atO os q'.2:=by
   rcases z' with z' | ⟨rfl,rfl⟩
   ·exact z'
   ·rw[tN nd (by omega),tN nd (by omega)] at lb;omega
  have:=Ei ok.inc hq cL (tW nd (by omega) (by omega) (e1.1.symm.trans e2.1));subst this;rw[e1.2,e2.2]
end
theorem Jo{p:Int×Int}:dep (pairD p)<=1:=by
 unfold pairD;simp[dep,depA]
noncomputable def sortP(ps:List (Int×Int)):List (Int×Int):=ps.mergeSort λp q=>leD (pairD p) (pairD q)
theorem Ch{ps:List (Int×Int)}(h:ps.length < 64):∃rs:List (Int×Int),sortF [.lst (ps.map pairD)]=some (rs.map pairD)/\rs.Perm ps/\rs=sortP ps:=by
 refine⟨ps.mergeSort λp q=>leD (pairD p) (pairD q),?_,Tl _ _,rfl⟩;rw[Al]
 ·unfold sortD;exact congrArg some (Vd (s:=leD) (f:=pairD) λa _ b _=>rfl).symm
 ·refine⟨by simpa using h,?_,?_,.inr (.inl ?_)⟩
  ·unfold cmAll;rw[v_];intro a ha;rw[v_];intro b hb;obtain⟨i,_,rfl⟩:=F_.mp ha;obtain⟨j,_,rfl⟩:=F_.mp hb;simp[pairD,cmB,cmA]
  ·refine y_ (uU (n:=1) λd hd=>?_) (by omega);obtain⟨p,_,rfl⟩:=F_.mp hd;exact Jo
  ·rw[v_];intro a ha;obtain⟨i,_,rfl⟩:=F_.mp ha;rfl
abbrev WS:=List (List (Int×Int))
noncomputable def roofL(ws:WS):WS:=(x0 ws).choose
theorem ub(ws:WS):IsRoof ws (roofL ws):=(x0 ws).choose_spec.1
theorem zO(ws:WS):(roofL ws).length<=ws.length:=(x0 ws).choose_spec.2
noncomputable def shortL(sp:Bool)(ws:WS):WS:=if sp then spareL (roofL ws) else roofL ws
noncomputable def howD(sp:Bool):D:=.str (if sp then "spare" else "roof")
theorem Cg{ws:WS}{w:List (Int×Int)}(h:w∈shortL sp ws):w∈ws:=by
 unfold shortL at h;split at h
 ·exact(ub ws).sub ((vS _ _).subset h)
 ·exact(ub ws).sub h
theorem Ig{ws:WS}:(shortL sp ws).length<=ws.length:=by
 have:=zO ws;unfold shortL;split
 ·exact y_ (vS _ _).length_le this
 ·exact this
theorem AK:deq (howD sp) (.str "spare")=sp/\deq (howD sp) (.str "roof")=!sp:=by
 cases sp<;>exact⟨by decide,by decide⟩
theorem JX{ws:WS}(aI:∀u∈ws,Wf n u)(h1:1<=n)(hn:n<=3)(hl:ws.length<=18):coF xR [howD sp,.lst (ws.map wishD)]=some ((shortL sp ws).map wishD):=by
 have e1:=DM aI h1 hn hl (ub ws);have e2:=HC aI h1 hn hl (ub ws) (zO ws);refine uN rfl λKE k1=>?_
 rw[zT];refine qw ?_;rintro K hK hR;simp only[BW];cases sp with
 | true =>
  have q:=AK (sp:=true);simp[q.1,dep,e2];exact hR _ _ (k1 _ ⟨_,rfl⟩)
 | false =>
  have q:=AK (sp:=false);simp[q.1,dep];refine hK _ ?_;simp[e1];exact k1 _ ⟨_,rfl⟩
theorem GQ{a b:List (List (Int×Int))}{w:List (Int×Int)}(nd:(a++w::b).Nodup):butW (a++w::b) w=a++b:=by
 have ha:w∉a:=λh=>by
  rw[S9] at nd;exact nd.2.2 w h w k_ rfl
 have hb:w∉b:=λh=>by
  rw[S9] at nd;exact(QQ.mp nd.2.1).1 h
 unfold butW;rw[Qm,Si,UT.mpr λu hu=>?_,UT.mpr λu hu=>?_]
 ·simp
 ·simp;exact λe=>hb (e▸hu)
 ·simp;exact λe=>ha (e▸hu)
theorem IB(aI:∀u∈ws,Wf n u)(h1:1<=n)(hn:n<=3)(hl:ws.length < 64)(a:IsRoof ws T)(lT:T.length<=ws.length):cvF wY [howD sp,.lst (ws.map wishD)]=some (.lst ((if sp then spareL T else T).map wishD)):=by
 obtain⟨ss,es,ms,sl⟩:=JT ws;obtain⟨us,eu,mu,nu,ul⟩:=Ar ws;have e1:=Lm aI h1 hn hl es ms sl;rw[FR eu mu nu es ms] at e1;have df:=tZ (dd (ws.map wishD));rw[eu] at df
 have a2:IsRoof ws (us.filter λw=>!undB us w):=⟨df.sublist (RU.map _),nu.filter _,λw=>by
  rw[G_,mu,vK mu]
  simp⟩
 rw[a2.alone a] at e1;have hT:∀u∈T,Wf n u:=λu hu=>aI u (a.sub hu)
 refine sw rfl λKE k1 _=>?_
 rw[zQ];refine qw ?_;rintro K hK -;simp[e1];refine hK _ ?_;refine qw ?_;rintro K hK -;simp;refine hK _ ?_;refine qw ?_;rintro K hK hR;have q:=AK (sp:=sp);cases sp with
 | false =>
  refine CY (λ_ Y=>Y=[some (.val (howD false)),some (.val (.lst (ws.map wishD))),some (.val (.lst (T.map wishD))),some (.val (.int 0)),none]) ?_ 100 0 _ (by omega) rfl;rintro m Y rfl;simp[q.1,dep];refine hK _ ?_;simp;exact k1 _ ⟨_,rfl⟩
 | true =>
  obtain⟨J,hJ⟩:∃J:Nat->Gm->Prop,∀m Y,J m Y↔∃(b:List (List (Int×Int))) (k:Nat) (x3:Option R),k+m=T.length/\(T.take k).foldl spStep T=b++T.drop k/\Y=[some (.val (howD true)),some (.val (.lst (ws.map wishD))),some (.val (.lst ((b++T.drop k).map wishD))),some (.val (.int b.length)),x3]:=⟨_,λ_ _=>VH⟩;refine CY J ?_ 100 T.length _ (by omega) ((hJ _ _).mpr ⟨[],0,none,by simp,by simp,by simp⟩);intro m Y j;obtain⟨b,k,x3,hk,hf,rfl⟩:=(hJ _ _).mp j;clear j;have sb:=vS (T.take k) T;rw[hf] at sb;have fF:=sb.length_le
  have fl:(b++T.drop k).length=b.length+m:=by
   rw[p_,RS];omega
  cases m with
  | zero =>
   have:T.drop k=[]:=RH (by omega);rw[this] at hf ⊢;simp;refine hK _ ?_;have:T.take k=T:=Uk (by omega);rw[this,Q0] at hf;simp;have:=k1 [some (.val (howD true)),some (.val (.lst (ws.map wishD))),some (.val (.lst (b.map wishD))),some (.val (.int b.length)),x3] ⟨_,rfl⟩;unfold spareL at this;rw[hf] at this;exact this
  | succ m =>
   have kY:k < T.length:=by omega
   obtain⟨w,hw⟩:∃w,w=T[k]:=⟨_,rfl⟩;have dr:T.drop k=w::T.drop (k+1):=by rw[hw];exact P_ kY
   have tk:T.take (k+1)=T.take k++[w]:=by rw[QK,g_ kY,hw];rfl
   have wT:w∈T:=by rw[hw];exact Qt kY
   have nd:(b++w::T.drop (k+1)).Nodup:=by
    rw[dr] at sb;exact a.nd.sublist sb
   have bm:=GQ nd
   have st:(T.take (k+1)).foldl spStep T=spStep (b++w::T.drop (k+1)) w:=by
    rw[tk,S8,hf,dr];rfl
   rw[dr] at fl fF ⊢;rw[dr] at sb
   have ix:atI ((b++w::T.drop (k+1)).map wishD) (b.length:Int)=some (wishD w):=by
    rw[DL.sV];simp
   have c1:cutD ((b++w::T.drop (k+1)).map wishD) none (some (b.length:Int))=b.map wishD:=by
    rw[A1,←V4];simp
   have c2:cutD ((b++w::T.drop (k+1)).map wishD) (some ((b.length:Int)+1)) none=(T.drop (k+1)).map wishD:=by
    rw[show(b.length:Int)+1=((b.length+1:Nat):Int) by omega,wW,←T6];simp[List.drop_append]
   have ol:(b++T.drop (k+1)).length<=1000:=by
    have:(b++w::T.drop (k+1)).length<=T.length:=sb.length_le;rw[p_,Qi] at this;rw[p_];omega
   have hO:∀u∈b++T.drop (k+1),Wf n u:=λu hu=>hT u (sb.subset (by
    rcases K_.mp hu with z | z
    ·exact K_.mpr (.inl z)
    ·exact K_.mpr (.inr (i_ _ z))))
   have ah:=Ju hO ol hn (hT w wT);rw[Rw,T6] at ah
   have lt:((b.length:Nat):Int) < (((b++w::T.drop (k+1)).map wishD).length:Int):=by
    rw[s_,fl];omega
   generalize hF:(b++w::T.drop (k+1)).map wishD=F at *;simp[lt];intro K2 db _ _ _;refine qw ?_;rintro K3 nQ -;simp[c1,c2];refine⟨?_,nQ _ ?_⟩;clear nQ
   ·rw[p_] at ol;rw[RS] at ol;omega
   ·simp[ix,ah];by_cases c:inB1 (b++T.drop (k+1)) w=true
    ·simp[c];refine db _ ((hJ _ _).mpr ⟨b,k+1,some (.val (.lst (map wishD b++List.drop (k+1) (map wishD T)))),by omega,?_,?_⟩)
     ·rw[st];unfold spStep;rw[bm,if_pos c]
     ·rw[Rw,T6]
    ·simp[c];refine db _ ((hJ _ _).mpr ⟨b++[w],k+1,some (.val (.lst (map wishD b++List.drop (k+1) (map wishD T)))),by omega,?_,?_⟩)
     ·rw[st];unfold spStep;rw[bm,if_neg c];simp
     ·simp[←hF,T6]
theorem wk{c:M Bool}{a b:M Fl}{Q:Fl->Gm->Prop}:wp (ifS c a b) Y Q↔wp c Y λk ac=>if k=true then wp a ac Q else wp b ac Q:=BW
theorem Bw{rk:Int->Nat}(W:Web n rs rk)(h:Int):coF wc [webD n rs,.int h]=some ((nbs rs h).map D.int):=by
 have l1:=W.nb_len h;have l8:=W.n8;have e1:=BE (xs:=nbL rs h) (by omega);refine uN rfl λKE k1=>?_
 rw[zB];refine qw ?_;rintro K hK -;refine⟨_,_,rfl,hK _ ?_⟩;show wp _ [some (.val (webD n rs)),some (.val (.int h)),some (.own []),none,none] _;refine qw ?_;rintro K hK -;simp;refine sj (J:=λi Y=>∃x3 x4,Y=[some (.val (webD n rs)),some (.val (.int h)),some (.own ((nbL (rs.take i) h).map D.int)),x3,x4]) ⟨none,none,rfl⟩ ?_ ?_
 ·rintro i d Y hd ⟨x3,x4,rfl⟩ KL az - - -;rw[u_,C_] at hd;obtain⟨⟨a,b⟩,hr,rfl⟩:=hd;have tk:rs.take (i+1)=rs.take i++[(a,b)]:=by rw[QK,hr];rfl
  have lt:=W.lt _ (B_ hr);have ab:a < b:=lt.2.1
  have ln:(nbL (rs.take i) h).length<=64:=by
   unfold nbL;rw[s_];refine y_ (R0 _ _) ?_;rw[SN];have:=W.rs_len;omega
  have ap:nbL (rs.take (i+1)) h=nbL (rs.take i) h++(if a=h then[b] else if b=h then[a] else[]):=by
   rw[tk];unfold nbL;rw[Qm,Rw]
   congr 1
   by_cases p:a=h
   ·subst p;simp
   ·by_cases q:b=h
    ·subst q;have:¬b=a:=λz=>p z.symm
     simp[p,this]
    ·have p':¬h=a:=λz=>p z.symm
     have q':¬h=b:=λz=>q z.symm
     simp[p,q,p',q']
  rw[ap] at az;generalize nbL (rs.take i) h=ag at az ln;simp[pairD];refine qw ?_;rintro K2 a9 -;by_cases p:a=h
  ·have q:¬b=h:=by omega
   simp[dep,sx,p,isMut,R.mut];refine⟨by omega,a9 _ ?_⟩;clear a9;simp[dep,sx,q];exact az _ ⟨_,_,by simp[p];exact⟨rfl,rfl⟩⟩
  ·by_cases q:b=h
   ·simp[dep,sx,p];refine a9 _ ?_;clear a9;simp[dep,sx,q,isMut,R.mut];exact⟨by omega,az _ ⟨_,_,by simp[p,q];exact⟨rfl,rfl⟩⟩⟩
   ·simp[dep,sx,p];refine a9 _ ?_;clear a9;simp[dep,sx,q];exact az _ ⟨_,_,by simp[p,q];exact⟨rfl,rfl⟩⟩
 ·rintro Y ⟨x3,x4,rfl⟩;refine hK _ ?_;rw[s_,Qu];simp[e1];exact k1 _ ⟨_,rfl⟩
abbrev HS:=List (Int×List (Int×Int))
noncomputable def holdD(p:Int×List (Int×Int)):D:=.tup [.int p.1,wishD p.2]
@[simp] theorem OI{p:Int×List (Int×Int)}:ixF (holdD p) (.int 0)=some (.int p.1):=rfl
@[simp] theorem PR{p:Int×List (Int×Int)}:ixF (holdD p) (.int 1)=some (wishD p.2):=rfl
noncomputable def ownW(hs:HS)(h:Int):WS:=(hs.filter λp=>decide (p.1=h)).map (·.2)
noncomputable def argW(sp:Bool)(N:Int->List Int)(hs:HS)(qk:Option Int->Int->WS)(c:Option Int)(h:Int):WS:=ownW hs h++((N h).filter λu=>decide (some u≠c)).flatMap (qk (some h))
noncomputable def tl(sp:Bool)(N:Int->List Int)(hs:HS):Nat->Option Int->Int->WS
 | 0,_,_=>[]
 | k+1,c,h=>shortL sp (argW sp N hs (tl sp N hs k) c h)
noncomputable def bW(N:Int->List Int)(hs:HS)(k:Nat)(c:Option Int)(h:Int):WS:=(Wl N k c h).flatMap (ownW hs)
theorem ER{hs:HS}:bW N hs (k+1) c h=ownW hs h++((N h).filter λu=>decide (some u≠c)).flatMap (bW N hs k (some h)):=by
 unfold bW;rw[Wl,Qj,Tp]
theorem ym{α Z:Type}{f g:α->List Z}:∀{l:List α},(∀x∈l,(f x).length<=(g x).length)->(l.flatMap f).length<=(l.flatMap g).length
 | [],_=>w_ _
 | x::l,h=>by
  have h1:=h x k_;have h2:=ym λy hy=>h y (i_ _ hy)
  rw[Qj,Qj,p_,p_];omega
theorem yR{hs:HS}:∀{L:List Int},L.Nodup->(L.flatMap (ownW hs)).length<=hs.length:=by
 induction hs with
 | nil =>
  intro L _;have:L.flatMap (ownW [])=[]:=List.flatMap_eq_nil_iff.mpr λ_ _=>rfl
  rw[this];exact w_ _
 | cons p hs ih =>
  intro L nd
  have aT:∀L:List Int,L.Nodup->(L.flatMap (ownW (p::hs))).length=(L.flatMap (ownW hs)).length+(if p.1∈L then 1 else 0):=by
   intro L
   induction L with
   | nil=>intro _;simp
   | cons x L ih2 =>
    intro nd;rw[QQ] at nd;have i:=ih2 nd.2;rw[Qj,Qj,p_,p_,i]
    have e:(ownW (p::hs) x).length=(ownW hs x).length+(if p.1=x then 1 else 0):=by
     unfold ownW;by_cases q:p.1=x
     ·rw[Sj (by simpa using q),if_pos q];simp
     ·rw[T7 (by simpa using q),if_neg q];rfl
    rw[e];by_cases q:p.1=x
    ·have:p.1∉L:=by rw[q];exact nd.1
     simp[q,this,nd.1];omega
    ·have:¬x=p.1:=λz=>q z.symm
     by_cases r:p.1∈L<;>simp[q,r]<;>omega
  rw[aT L nd,Qi];have:=ih nd;split<;>omega
section
variable{rk:Int->Nat}{f:Nat}{hs:HS}
theorem wR{N:Int->List Int}:∀(k:Nat) (c:Option Int) (h:Int),(tl sp N hs k c h).length<=(bW N hs k c h).length
 | 0,_,_=>Qp _
 | k+1,c,h=>by
  rw[tl,ER];refine y_ Ig ?_;unfold argW;rw[p_,p_];have:=ym (l:=(N h).filter λu=>decide (some u≠c)) (f:=tl sp N hs k (some h)) (g:=bW N hs k (some h)) λu _=>wR k (some h) u
  omega
theorem Bb{w:List (Int×Int)}(m:w∈ownW hs h):∃p∈hs,p.1=h/\p.2=w:=by
 obtain⟨p,hp,rfl⟩:=F_.mp m;rw[G_,decide_eq_true_eq] at hp;exact⟨p,hp.1,hp.2,rfl⟩
theorem uD{N:Int->List Int}(hw:∀p∈hs,Wf f p.2):∀(k:Nat) (c:Option Int) (h:Int),(∀w∈tl sp N hs k c h,Wf f w)/\∀w∈argW sp N hs (tl sp N hs k) c h,Wf f w
 | 0,c,h=>⟨λw m=>(by cases m),λw m=>by
  unfold argW at m
  rcases K_.mp m with m | m
  ·obtain⟨p,hp,_,rfl⟩:=Bb m;exact hw p hp
  ·obtain⟨u,_,m⟩:=QM.mp m;cases m⟩
 | k+1,c,h=>by
  have t:∀c h,∀w∈tl sp N hs (k+1) c h,Wf f w:=λc h w m=>(uD hw k c h).2 w (Cg m)
  refine⟨t c h,λw m=>?_⟩;unfold argW at m
  rcases K_.mp m with m | m
  ·obtain⟨p,hp,_,rfl⟩:=Bb m;exact hw p hp
  ·obtain⟨u,_,m⟩:=QM.mp m;exact t _ _ w m
theorem DX(W:Web n rs rk)(k:Nat)(c:Option Int)(h:Int):(argW sp (nbs rs) hs (tl sp (nbs rs) hs k) c h).length<=hs.length:=by
 have e:(argW sp (nbs rs) hs (tl sp (nbs rs) hs k) c h).length<=(bW (nbs rs) hs (k+1) c h).length:=by
  rw[ER];unfold argW;rw[p_,p_];have:=ym (l:=(nbs rs h).filter λu=>decide (some u≠c)) (f:=tl sp (nbs rs) hs k (some h)) (g:=bW (nbs rs) hs k (some h)) λu _=>wR k (some h) u
  omega
 exact y_ e (yR (W.nodup W.nb W.nb_nodup _ _ _))
end
section
variable{rk:Int->Nat}{f:Nat}{hs:HS}
noncomputable def hsD(hs:HS):D:=.lst (hs.map holdD)
theorem CW{ps:HS}(l:ps.length<=1000):coF u5 [.lst (ps.map holdD)]=some ((ps.map (·.2)).map wishD):=by
 refine uN rfl λKE k1=>?_
 rw[z8];simp;refine sB ps holdD (λ_=>true) (λp=>wishD p.2) ?_;simp;refine⟨by omega,?_⟩;have:=k1 [some (.val (.lst (ps.map holdD)))] ⟨_,rfl⟩;rw[UP] at this;exact this
theorem JK(W:Web n rs rk)(hw:∀p∈hs,Wf f p.2)(h1:1<=f)(hf:f<=3)(hl:hs.length<=18):∀(k:Nat) (c h:Int),Adj rs c h->mu rk (some c) h < k->coF (vh k) [webD n rs,hsD hs,howD sp,.int c,.int h]=some ((tl sp (nbs rs) hs k (some c) h).map wishD):=by
 intro k
 induction k with
 | zero=>intro c h _ hm;omega
 | succ k ih =>
  intro c h a hm;obtain⟨c0,c1,h0,ij⟩:=W.in_n a;have e1:=yn W h0 ij;have e2:=CW (ps:=hs.filter λp=>decide (p.1=h)) (y_ (R0 _ _) (by omega));have aw:=(uD (sp:=sp) (N:=nbs rs) hw k (some c) h).2;have al:=DX (sp:=sp) (hs:=hs) W k (some c) h;have e3:=JX (sp:=sp) aw h1 hf (by omega);rw[vh];refine uN rfl λKE k1=>?_
  rw[xo];refine qw ?_;rintro K hK -;simp;refine sB hs holdD (λp=>decide (p.1=h)) holdD ?_;simp[hsD,dep,sx];refine⟨by omega,λa b _=>wg,?_⟩;simp[e2];refine hK _ ?_;refine qw ?_;rintro K hK -;simp[e1];refine sj (J:=λi Y=>∃x,Y=[some (.val (webD n rs)),some (.val (hsD hs)),some (.val (howD sp)),some (.val (.int c)),some (.val (.int h)),some (.own ((ownW hs h++(((nbs rs h).take i).filter λu=>decide (some u≠some c)).flatMap (tl sp (nbs rs) hs k (some h))).map wishD)),x]) ⟨none,?_⟩ ?_ ?_
  ·simp[hsD,ownW]
  ·rintro i d Y hd ⟨x,rfl⟩ KL az - - -;rw[u_,C_] at hd;obtain⟨u,hu,rfl⟩:=hd;have tk:(nbs rs h).take (i+1)=(nbs rs h).take i++[u]:=by rw[QK,hu];rfl
   have au:=(W.nb h u).mp (B_ hu);rw[tk,Qm,QF] at az
   have big:∀j,(ownW hs h++(((nbs rs h).take j).filter λu=>decide (some u≠some c)).flatMap (tl sp (nbs rs) hs k (some h))).length<=hs.length:=λj=>by
    refine y_ ?_ al;unfold argW;rw[p_,p_];have e:=QF (xs:=((nbs rs h).take j).filter λu=>decide (some u≠some c)) (ys:=((nbs rs h).drop j).filter λu=>decide (some u≠some c)) (f:=tl sp (nbs rs) hs k (some h));rw[←Qm,Rh] at e;rw[e,p_];omega
   have b1:=big (i+1);rw[tk,Qm,QF] at b1;rw[←Ru] at az b1;generalize ownW hs h++(((nbs rs h).take i).filter λu=>decide (some u≠some c)).flatMap (tl sp (nbs rs) hs k (some h))=L at az b1 ⊢;refine⟨_,_,rfl,?_⟩;show wp _ [some (.val (webD n rs)),some (.val (hsD hs)),some (.val (howD sp)),some (.val (.int c)),some (.val (.int h)),some (.own (L.map wishD)),some (.val (.int u))] _;refine wk.mpr ⟨decide (u≠c),[some (.val (webD n rs)),some (.val (hsD hs)),some (.val (howD sp)),some (.val (.int c)),some (.val (.int h)),some (.own (L.map wishD)),some (.val (.int u))],by simp[tst,op2,bnd,nm,lft,eqF,dep,sx,asB];exact wg,?_⟩;dsimp only;by_cases uc:u=c
   ·rw[if_neg (by simp[uc])];exact⟨_,_,rfl,az _ ⟨some (.val (.int u)),by simp[uc]⟩⟩
   ·have lt:=W.mu_lt (c:=some c) (λx z=>by cases z;exact a) au (λz=>uc (by cases z;rfl));have e4:=ih h u au (by omega);simp[uc] at b1;rw[if_pos (by simp[uc])];simp[isMut,R.mut,e4];exact⟨by omega,az _ ⟨some (.val (.int u)),by simp[uc]⟩⟩
  ·rintro Y ⟨x,rfl⟩;refine hK _ ?_;rw[s_,Qu]
   change wp _ [some (.val (webD n rs)),some (.val (hsD hs)),some (.val (howD sp)),some (.val (.int c)),some (.val (.int h)),some (.own ((argW sp (nbs rs) hs (tl sp (nbs rs) hs k) (some c) h).map wishD)),x] _
   have tt:tl sp (nbs rs) hs (k+1) (some c) h=shortL sp (argW sp (nbs rs) hs (tl sp (nbs rs) hs k) (some c) h):=rfl;rw[tt] at k1;generalize argW sp (nbs rs) hs (tl sp (nbs rs) hs k) (some c) h=A at e3 k1 ⊢;simp[e3];exact k1 _ ⟨_,rfl⟩
theorem M0(W:Web n rs rk)(hw:∀p∈hs,Wf f p.2)(h1:1<=f)(hf:f<=3)(hl:hs.length<=18):∀(k:Nat) (c h:Int),Adj rs c h->mu rk (some c) h < k->cvF (uE k) [webD n rs,hsD hs,howD sp,.int h,.int c]=some (.lst ((tl sp (nbs rs) hs k (some c) h).map wishD)):=by
 intro k
 induction k with
 | zero=>intro c h _ hm;omega
 | succ k ih =>
  intro c h a hm;obtain⟨c0,c1,h0,ij⟩:=W.in_n a;have e1:=Bw W h;have aw:=(uD (sp:=sp) (N:=nbs rs) hw k (some c) h).2;have al:=DX (sp:=sp) (hs:=hs) W k (some c) h;have e3:=IB (sp:=sp) aw h1 hf (by omega) (ub _) (zO _);rw[uE];refine sw rfl λKE k1 _=>?_
  rw[wU];refine qw ?_;rintro K hK -;simp;refine t5 hs holdD (λp=>decide (p.1=h)) (λp=>wishD p.2) ?_;simp[hsD,holdD,dep,sx];refine⟨by omega,λa b _=>wg,?_⟩;refine hK _ ?_;have e0:map (λp:Int×List (Int×Int)=>wishD p.2) (V5 (λp=>decide (p.1=h)) hs)=(ownW hs h).map wishD:=by unfold ownW;rw[UP];rfl
  rw[e0]
  change wp _ [some (.val (webD n rs)),some (.val (hsD hs)),some (.val (howD sp)),some (.val (.int h)),some (.val (.int c)),some (.val (.lst ((ownW hs h).map wishD))),none] _
  refine qw ?_;rintro K hK -;simp[e1];refine sj (J:=λi Y=>∃x,Y=[some (.val (webD n rs)),some (.val (hsD hs)),some (.val (howD sp)),some (.val (.int h)),some (.val (.int c)),some (.val (.lst ((ownW hs h++(((nbs rs h).take i).filter λu=>decide (some u≠some c)).flatMap (tl sp (nbs rs) hs k (some h))).map wishD))),x]) ⟨none,by simp⟩ ?_ ?_
  ·rintro i d Y hd ⟨x,rfl⟩ KL az - - -;rw[u_,C_] at hd;obtain⟨u,hu,rfl⟩:=hd;have tk:(nbs rs h).take (i+1)=(nbs rs h).take i++[u]:=by rw[QK,hu];rfl
   have au:=(W.nb h u).mp (B_ hu);rw[tk,Qm,QF] at az
   have big:∀j,(ownW hs h++(((nbs rs h).take j).filter λu=>decide (some u≠some c)).flatMap (tl sp (nbs rs) hs k (some h))).length<=hs.length:=λj=>by
    refine y_ ?_ al;unfold argW;rw[p_,p_];have e:=QF (xs:=((nbs rs h).take j).filter λu=>decide (some u≠some c)) (ys:=((nbs rs h).drop j).filter λu=>decide (some u≠some c)) (f:=tl sp (nbs rs) hs k (some h));rw[←Qm,Rh] at e;rw[e,p_];omega
   have b1:=big (i+1);rw[tk,Qm,QF] at b1;rw[←Ru] at az b1;generalize ownW hs h++(((nbs rs h).take i).filter λu=>decide (some u≠some c)).flatMap (tl sp (nbs rs) hs k (some h))=L at az b1 ⊢;refine⟨_,_,rfl,?_⟩;show wp _ [some (.val (webD n rs)),some (.val (hsD hs)),some (.val (howD sp)),some (.val (.int h)),some (.val (.int c)),some (.val (.lst (L.map wishD))),some (.val (.int u))] _;refine wk.mpr ⟨decide (u≠c),[some (.val (webD n rs)),some (.val (hsD hs)),some (.val (howD sp)),some (.val (.int h)),some (.val (.int c)),some (.val (.lst (L.map wishD))),some (.val (.int u))],by simp[tst,op2,bnd,nm,lft,eqF,dep,sx,asB];exact wg,?_⟩;dsimp only;by_cases uc:u=c
   ·rw[if_neg (by simp[uc])];exact⟨_,_,rfl,az _ ⟨some (.val (.int u)),by simp[uc]⟩⟩
   ·have lt:=W.mu_lt (c:=some c) (λx z=>by cases z;exact a) au (λz=>uc (by cases z;rfl));have e4:=ih h u au (by omega);simp[uc] at b1;rw[if_pos (by simp[uc])];simp[e4];exact⟨by omega,az _ ⟨some (.val (.int u)),by simp[uc]⟩⟩
  ·rintro Y ⟨x,rfl⟩;refine hK _ ?_;rw[s_,Qu]
   change wp _ [some (.val (webD n rs)),some (.val (hsD hs)),some (.val (howD sp)),some (.val (.int h)),some (.val (.int c)),some (.val (.lst ((argW sp (nbs rs) hs (tl sp (nbs rs) hs k) (some c) h).map wishD))),x] _
   have tt:tl sp (nbs rs) hs (k+1) (some c) h=(if sp then spareL (roofL (argW sp (nbs rs) hs (tl sp (nbs rs) hs k) (some c) h)) else roofL (argW sp (nbs rs) hs (tl sp (nbs rs) hs k) (some c) h)):=rfl;rw[tt] at k1;generalize argW sp (nbs rs) hs (tl sp (nbs rs) hs k) (some c) h=A at e3 k1 ⊢;simp[e3];exact k1 _ ⟨_,rfl⟩
end
section
variable{rk:Int->Nat}{f:Nat}{hs:HS}
theorem Fk{x:Int}:((l.map D.int).any λd=>deq d (.int x))=decide (x∈l):=by
 by_cases h:x∈l
 ·rw[decide_eq_true h,QW];exact⟨.int x,F_.mpr ⟨x,h,rfl⟩,by simp[deq]⟩
 ·rw[decide_eq_false h,List.any_eq_false];intro d hd z;obtain⟨y,hy,rfl⟩:=F_.mp hd;rw[sx,decide_eq_true_eq] at z;subst z;exact h hy
theorem Fm:dep (hsD hs)<=5:=by
 have:depA (hs.map holdD)<=4:=uU λd hd=>by
  obtain⟨p,_,rfl⟩:=F_.mp hd;have:=IA (ws:=[p.2]);simp only[D_,map_nil,dep,depA] at this;simp only[holdD,dep,depA];omega
 unfold hsD;rw[dep];omega
end
theorem xb{QL:List D->Gm->Prop}(J:Nat->List D->Gm->Prop)(h:wp it Y λds ac=>ds.length<=lim/\J 0 [] ac/\(∀(i:Nat) d ag a ai,ds[i]?=some d->J i ag ai->wp (aG d) (a::ai) λ_ aO=>wp ts aO λb aQ=>b=true/\wp el aQ λx dG=>∃a' gB,dG=a'::gB/\J (i+1) (ag++[x]) gB)/\∀ag ai,J ds.length ag ai->QL ag ai):wp (compO 1 it aG ts el) Y QL:=by
 unfold compO;rw[sf];refine h.mono λds ac ⟨hl,h0,hs,hq⟩=>?_
 rw[if_pos hl]
 have aT:∀(es:List D) (i:Nat) (ag:List D) (a:Option R) (ai:Gm),ds.drop i=es->i<=ds.length->J i ag ai->∃r a' cM,compM aG ts el es (a::ai)=some (r,a'::cM)/\J ds.length (ag++r) cM:=by
  intro es
  induction es with
  | nil =>
   intro i ag a ai hd hi hj
   have:i=ds.length:=by
    have:=UC.mp hd;omega
   subst this;exact⟨[],a,ai,rfl,by simpa using hj⟩
  | cons d es ih =>
   intro i ag a ai hd hi hj
   have bF:i < ds.length:=by
    rcases Tk i ds.length with z | z
    ·exact z
    ·rw[So z] at hd;cases hd
   have e1:ds[i]?=some d:=by
    have:=P_ bF;rw[hd] at this;cases this;exact g_ bF
   have e2:ds.drop (i+1)=es:=by
    have:=P_ bF;rw[hd] at this;injection this with _ q
    exact q.symm
   obtain⟨_,aO,g1,b,aQ,g2,rfl,x,dG,g3,a',gB,rfl,br⟩:=hs i d ag a ai e1 hj;obtain⟨r,ql,cM,g4,nR⟩:=ih (i+1) (ag++[x]) a' gB e2 bF br;refine⟨x::r,ql,cM,?_,by simpa using nR⟩;rw[compM];unfold bnd;rw[g1];dsimp only;rw[g2];dsimp only;rw[if_pos rfl];rw[g3];dsimp only;rw[g4];rfl
 obtain⟨r,a',cM,e,hj⟩:=aT ds 0 [] none ac rfl (Qp _) h0;refine⟨r,cM,?_,hq r cM (by simpa using hj)⟩;have e':compM aG ts el ds (Ql 1 none++ac)=some (r,a'::cM):=e;unfold inC;rw[e'];rfl
@[simp ↓] theorem Og{t:M (List D)}{Q:D->Gm->Prop}:wp (popAt i t) Y Q↔isMut Y i=true/\wp t Y λas gw=>wp (look i) gw λl ac=>wp (lft (pkF as l)) ac λd ai=>wp (wr i (ersF as)) ai λ_ aO=>Q d aO:=by
 simp only[popAt,uB,sf,tP]
theorem Km{xs:List Int}{x:Nat}(h:x < xs.length)(l:xs.length < 1000):pkF [.int x] (.lst (xs.map D.int))=some (.int xs[x]):=by
 unfold pkF;dsimp only;rw[if_pos ⟨by omega,by omega⟩,R7,u_,g_ h];rfl
theorem GS{xs:List Int}{x:Nat}:ersF [.int x] (xs.map D.int)=some ((xs.eraseIdx x).map D.int):=by
 unfold ersF;simp only[R7]
 congr 1
 induction xs generalizing x with
 | nil=>rfl
 | cons y xs ih=>cases x with
  | zero=>rfl
  | succ x=>simp only[D_,Sh,D_];rw[ih]
theorem ND{xs:List Int}{x:Nat}(h:x < xs.length):(xs[x]::xs.eraseIdx x).Perm xs:=by
 induction xs generalizing x with
 | nil=>cases h
 | cons y xs ih =>
  cases x with
  | zero=>exact UJ _
  | succ x =>
   have:=ih (x:=x) (by simpa using h);simp only[Uj,Sh];exact(swap y _ _).trans (this.cons y)
noncomputable def rngZ(n:Nat):List Int:=(Qw n).map λk:Nat=>(k:Int)
theorem FP(n:Nat):rngD 0 n=(rngZ n).map D.int:=by
 unfold rngD rngZ;rw[UP];refine List.map_congr_left λk _=>?_
 simp
theorem Le(n:Nat):(rngZ n).Nodup:=wK List.nodup_range λx _ y _ e=>by omega
theorem MJ{a b:Int}:mkR a b=(min a b,max a b):=by
 unfold mkR;refine Prod.ext ?_ ?_
 ·simp only;split<;>omega
 ·simp only;split<;>omega
theorem Lj{c:List D}{Q:R->List D->Prop}(hc:PotOk c)(m1:1<=most)(m7:most<=7)(k:∀n rs rk c',Web n rs rk->PotOk c'->Q (.val (webD n rs)) c'):wpB xK c [.int most] Q:=by
 refine vb rfl λKE hE _=>?_
 rw[zu];refine qw ?_;rintro K hK -;simp[isMut,R.mut];refine sr hc (by omega) (by omega) λm0 c2 dI bP hc=>?_
 obtain⟨m,hm⟩:∃m:Nat,1+m0=m:=⟨(1+m0).toNat,by omega⟩;simp[hm];refine hK _ ?_;refine qw ?_;rintro K hK -;simp[isMut,R.mut];refine sr hc (by omega) (by omega) λway c3 qa qb hc=>?_
 simp;refine hK _ ?_;refine qw ?_;rintro K hK -;simp;refine⟨by omega,hK _ ?_⟩;rw[FP];refine qw ?_;rintro K hK -;simp;obtain⟨J,hJ⟩:∃J:Nat->List D->Gm->Prop,∀i ag Y,J i ag Y↔∃(c:List D) (os aE:List Int),PotOk c/\ag=os.map D.int/\os.length=i/\(os++aE).Perm (rngZ m)/\Y=[some (.bor c),some (.val (.int most)),some (.val (.int m)),some (.val (.int way)),some (.own (aE.map D.int)),none,none,none,none,none]:=⟨_,λ_ _ _=>VH⟩;have zl:(rngZ m).length=m:=by simp[rngZ]
 refine xb J ?_;simp;refine⟨by omega,by omega,(hJ _ _ _).mpr ⟨c3,[],rngZ m,hc,rfl,rfl,by simp,rfl⟩,?_,?_⟩
 ·intro i d ag ai hd j;obtain⟨c4,os,aE,hc,rfl,hi,pm,rfl⟩:=(hJ _ _ _).mp j
  have cp:i < m:=by
   have:=(m_.mp hd).1;simpa using this
  have ln:=pm.length_eq;rw[p_,zl] at ln;simp[isMut,R.mut];refine sr hc (by omega) (by omega) λx c5 ju kZ hc=>?_
  obtain⟨x,rfl⟩:=Q9 ju;have e1:=Km (xs:=aE) (x:=x) (by omega) (by omega);have e2:=GS (xs:=aE) (x:=x);simp[e1,e2];refine⟨_,_,⟨rfl,rfl⟩,(hJ _ _ _).mpr ⟨c5,os++[aE[x]],aE.eraseIdx x,hc,by simp,by simp[hi],?_,rfl⟩⟩;rw[Ru];exact((ND (xs:=aE) (x:=x) (by omega)).append_left os).trans pm
 ·intro ag ai j;obtain⟨c4,os,aE,hc,rfl,hi,pm,rfl⟩:=(hJ _ _ _).mp j;have ln:=pm.length_eq;rw[p_,zl] at ln;have:aE=[]:=Q1.mp (by omega);subst this;rw[Q0] at pm;have nd:os.Nodup:=pm.symm.nodup (Le m)
  have rg:∀x∈os,0<=x/\x < m:=λx hx=>by
   rw[pm.mem_iff] at hx;obtain⟨k,hk,rfl⟩:=F_.mp hx;have:=Rm.mp hk;omega
  have hl:os.length=m:=by omega
  simp;refine hK _ ?_
  have nS:∀j,j < m->atI (os.map D.int) ((j:Nat):Int)=some (.int (atO os j)):=λj hj=>by
   rw[DL.sV,zx (by omega)];simp[hl,hj]
  refine qw ?_;rintro K hK -;refine⟨_,_,rfl,hK _ ?_⟩;show wp _ [some (.bor c4),some (.val (.int most)),some (.val (.int m)),some (.val (.int way)),some (.own []),some (.val (.lst (os.map D.int))),some (.own []),none,none,none] _;refine qw ?_;rintro K hK -;simp;refine⟨by omega,?_⟩;refine sj (J:=λi Y=>∃(c:List D) (L:List (Nat×Nat)) (x7 x8 x9:Option R),PotOk c/\LOk (i+1) L/\L.length<=i/\Y=[some (.bor c),some (.val (.int most)),some (.val (.int m)),some (.val (.int way)),some (.own []),some (.val (.lst (os.map D.int))),some (.own ((roadsO os L).map pairD)),x7,x8,x9]) ⟨c4,[],none,none,none,hc,⟨TF.nil,by simp⟩,w_ _,rfl⟩ ?_ ?_
  ·rintro i d Y hd ⟨c,L,x7,x8,x9,hc,ok,ll,rfl⟩ KL az - - -;obtain⟨rfl,hi⟩:=v7 hd;have up:LOk (i+1+1) L:=⟨ok.inc,λq hq=>by have:=ok.ok q hq;omega⟩;obtain⟨kk,k5⟩:∃kk:Nat,(1:Int)+i=kk:=⟨1+i,by omega⟩;rw[k5];have ln:(roadsO os L).length=L.length:=by simp[roadsO]
   simp;refine qw ?_;rintro K2 a9 -;simp[isMut,R.mut];refine sr hc (by omega) (by omega) λj1 c5 qm qH hc=>?_
   simp;refine sr hc (by omega) (by omega) λj2 c6 qo qI hc=>?_
   have ix:∃j:Nat,j < kk/\atI [D.int ((kk:Int) - 1),D.int 0,D.int j1,D.int j2] way=some (.int j):=by
    have:way=0\/way=1\/way=2\/way=3:=by omega
    rcases this with rfl | rfl | rfl | rfl
    ·exact⟨kk - 1,by omega,by rw[show((kk - 1:Nat):Int)=(kk:Int) - 1 by omega];rfl⟩
    ·exact⟨0,by omega,rfl⟩
    ·obtain⟨j1,rfl⟩:=Q9 qm;exact⟨j1,by omega,rfl⟩
    ·obtain⟨j2,rfl⟩:=Q9 qo;exact⟨j2,by omega,rfl⟩
   obtain⟨j,hj,ix⟩:=ix;simp[ix];refine a9 _ ?_;clear a9;refine qw ?_;rintro K2 a9 -;have a1:=nS kk (by omega);have a2:=nS j (by omega);simp[a1,a2];refine a9 _ ?_;clear a9
   have put:∀c7,PotOk c7->wp (appS 6 (nm 9)) [some (.bor c7),some (.val (.int most)),some (.val (.int m)),some (.val (.int way)),some (.own []),some (.val (.lst (os.map D.int))),some (.own ((roadsO os L).map pairD)),some (.val (.int kk)),some (.val (.int j)),some (.val (.tup [.int (min (atO os kk) (atO os j)),.int (max (atO os kk) (atO os j))]))] KL:=λc7 hc=>by
    simp[isMut,R.mut];refine⟨by omega,az _ ⟨c7,L++[(kk,j)],some (.val (.int kk)),some (.val (.int j)),some (.val (.tup [.int (min (atO os kk) (atO os j)),.int (max (atO os kk) (atO os j))])),hc,⟨?_,?_⟩,by simp;omega,?_⟩⟩
    ·rw[List.pairwise_append];refine⟨ok.inc,by simp,λp hp q hq=>?_⟩;rw[t_.mp hq];have:=ok.ok p hp;simp only;omega
    ·intro q hq
     rcases K_.mp hq with hq | hq
     ·exact up.ok q hq
     ·rw[t_.mp hq];simp only;omega
    ·simp[roadsO,MJ,pairD]
   by_cases w3:way < 3
   ·simp[w3,isMut,R.mut];simpa[isMut,R.mut] using put _ hc
   ·simp[w3,isMut,R.mut];refine sr hc (by omega) (by omega) λz c7 qp qq hc=>?_
    simp;split
    ·simpa[isMut,R.mut] using put _ hc
    ·exact az _ ⟨c7,L,_,_,_,hc,up,by omega,rfl⟩
  ·rintro Y ⟨c,L,x7,x8,x9,hc,ok,ll,rfl⟩;refine hK _ ?_;rw[Au] at ok ll;have mm:m - 1+1=m:=by omega
   rw[mm] at ok;obtain⟨rs,e1,hp,hs⟩:=Ch (ps:=roadsO os L) (by simp[roadsO];omega);simp[e1];exact hE _ _ _ ⟨_,rfl⟩ (k m rs _ c (Ni hl nd rg ok (by omega) (by omega) hp) hc)
theorem Ng{f:Nat}{ws:WS}(aI:∀u∈ws,Wf f u)(hl:l.length=f):(∃w∈shortL sp ws,hasB w l=true)↔∃w∈ws,hasB w l=true:=by
 constructor
 ·rintro⟨w,hw,h⟩;exact⟨w,Cg hw,h⟩
 ·rintro⟨w,hw,h⟩;obtain⟨u,hu,c⟩:=(ub ws).over aI hw;have lu:=(aI u ((ub ws).sub hu)).len;have lw:=(aI w hw).len;have nT:∃u∈roofL ws,hasB u l=true:=⟨u,hu,Bq (by rw[lu,lw]) c h⟩;unfold shortL;split
  ·exact BJ hl _ _ (λp hp=>aI p ((ub ws).sub hp)) nT
  ·exact nT
noncomputable def wants(hs:HS)(l:List Int)(v:Int):Bool:=hs.any λp=>decide (p.1=v)&&hasB p.2 l
theorem A2{hs:HS}{v:Int}:(∃w∈ownW hs v,hasB w l=true)↔wants hs l v=true:=by
 unfold wants ownW;rw[QW];constructor
 ·rintro⟨w,hw,h⟩;obtain⟨p,hp,rfl⟩:=F_.mp hw;rw[G_] at hp;exact⟨p,hp.1,by rw[hp.2,h];rfl⟩
 ·rintro⟨p,hp,h⟩;rw[Qn] at h;exact⟨p.2,F_.mpr ⟨p,G_.mpr ⟨hp,h.1⟩,rfl⟩,h.2⟩
theorem Ge{α Z:Type}{f g:α->List Z}{l:List α}(h:∀x∈l,f x=g x):l.flatMap f=l.flatMap g:=by
 induction l with
 | nil=>rfl
 | cons x l ih=>rw[Qj,Qj,h x k_,ih λy hy=>h y (i_ _ hy)]
theorem JL{α Z:Type}{f g:α->List Z}(h:∀x,(f x).Sublist (g x)){l m:List α}(s:l.Sublist m):(l.flatMap f).Sublist (m.flatMap g):=by
 induction s with
 | slnil=>exact RQ _
 | cons a _ ih=>rw[Qj];exact ih.trans (List.sublist_append_right _ _)
 | cons_cons a _ ih=>rw[Qj,Qj];exact(h a).append ih
section
variable{rk:Int->Nat}{f:Nat}{hs:HS}
theorem Cu(W:Web n rs rk)(hw:∀p∈hs,Wf f p.2)(hl:l.length=f):∀(k:Nat) (c:Option Int) (h:Int),(∀x,c=some x->Adj rs x h)->mu rk c h < k->((∃w∈tl sp (nbs rs) hs k c h,hasB w l=true)↔∃v∈Wl (nbs rs) k c h,wants hs l v=true)
 | 0,_,_,_,hm=>by omega
 | k+1,c,h,hc,hm=>by
  rw[tl,Ng (uD (sp:=sp) (N:=nbs rs) hw k c h).2 hl];unfold argW
  have go:∀u,u∈nbs rs h->some u≠c->((∃w∈tl sp (nbs rs) hs k (some h) u,hasB w l=true)↔∃v∈Wl (nbs rs) k (some h) u,wants hs l v=true):=λu hu uc=>by
   have au:=(W.nb h u).mp hu;have lt:=W.mu_lt hc au uc;exact Cu W hw hl k (some h) u (λx z=>by cases z;exact au) (by omega)
  constructor
  ·rintro⟨w,fh,hb⟩
   rcases K_.mp fh with m | m
   ·exact⟨h,xO,A2.mp ⟨w,m,hb⟩⟩
   ·obtain⟨u,hu,m⟩:=QM.mp m;rw[G_,decide_eq_true_eq] at hu;obtain⟨v,hv,z⟩:=(go u hu.1 hu.2).mp ⟨w,m,hb⟩;exact⟨v,tQ.mpr (.inr ⟨u,hu.1,hu.2,hv⟩),z⟩
  ·rintro⟨v,hv,z⟩
   rcases tQ.mp hv with rfl | ⟨u,hu,uc,hv⟩
   ·obtain⟨w,m,hb⟩:=A2.mpr z;exact⟨w,Q_ _ m,hb⟩
   ·obtain⟨w,m,hb⟩:=(go u hu uc).mpr ⟨v,hv,z⟩;exact⟨w,M_ _ (QM.mpr ⟨u,G_.mpr ⟨hu,by simpa using uc⟩,m⟩),hb⟩
noncomputable def ldB(rs:List (Int×Int))(hs:HS)(l:List Int)(c h:Int):Bool:=(Wl (nbs rs) 20 (some c) h).any (wants hs l)
theorem Cv(W:Web n rs rk)(hw:∀p∈hs,Wf f p.2)(hl:l.length=f){c:Int}(a:Adj rs c h):(!((tl sp (nbs rs) hs 20 (some c) h).filter λw=>hasB w l).isEmpty)=ldB rs hs l c h:=by
 have:=Cu (sp:=sp) W hw hl 20 (some c) h (λx z=>by cases z;exact a) (vX W a);rw[S1];unfold ldB;rw[QW,←this,Ug,List.isEmpty_eq_false_iff_exists_mem];simp only[G_]
noncomputable def RO(rs:List (Int×Int))(hs:HS)(l:List Int):Nat->Option Int->Int->List (Int×Int)
 | 0,_,_=>[]
 | k+1,c,h=>((nbs rs h).filter λu=>decide (some u≠c)&&ldB rs hs l h u).flatMap λu=>(h,u)::RO rs hs l k (some h) u
theorem AA:∀(k:Nat) (c:Option Int) (h:Int),(h::(RO rs hs l k c h).map (·.2)).Sublist (Wl (nbs rs) k c h)
 | 0,_,_=>RQ _
 | k+1,c,h=>by
  rw[RO,Wl,UK];refine List.Sublist.cons_cons _ (JL (λu=>?_) ?_)
  ·rw[D_];exact AA k (some h) u
  ·have:(nbs rs h).filter (λu=>decide (some u≠c)&&ldB rs hs l h u)=((nbs rs h).filter λu=>decide (some u≠c)).filter λu=>ldB rs hs l h u:=by
    rw[List.filter_filter];exact List.filter_congr λu _=>Bool.and_comm _ _
   rw[this];exact RU
theorem Eo(W:Web n rs rk)(h0:0<=h)(h1:h < n):(RO rs hs l k c h).length+1<=8:=by
 have:=(AA (rs:=rs) (hs:=hs) (l:=l) k c h).length_le;have:=W.wl_len k c h h0 h1;have:=W.n8;rw[Qi,s_] at *;omega
end
section
variable{rk:Int->Nat}{f:Nat}{hs:HS}
theorem CD(W:Web n rs rk)(hw:∀p∈hs,Wf f p.2)(h1:1<=f)(hf:f<=3)(hl:hs.length<=18)(ll:l.length=f){c:Int}(a:Adj rs c h):coF v6 [webD n rs,hsD hs,howD sp,.int c,.int h,letD l]=some (((tl sp (nbs rs) hs 20 (some c) h).filter λw=>hasB w l).map wishD):=by
 have e1:=JK (sp:=sp) W hw h1 hf hl 20 c h a (vX W a);have tw:=(uD (sp:=sp) (N:=nbs rs) hw 20 (some c) h).1;have nU:(tl sp (nbs rs) hs 20 (some c) h).length<=hs.length:=y_ (wR 20 (some c) h) (yR (W.nodup W.nb W.nb_nodup _ _ _));generalize tl sp (nbs rs) hs 20 (some c) h=T at *;have hT:∀w∈T,cvF ut [wishD w,letD l]=some (.bl (hasB w l)):=λw m=>BH (by rw[(tw w m).len,ll]) (by rw[(tw w m).len];omega)
 refine uN rfl λKE k1=>?_
 rw[yt];simp;refine sB T wishD (λw=>hasB w l) wishD ?_;simp[e1];refine⟨by omega,λw m=>?_,k1 _ ⟨_,rfl⟩⟩;simp[hT w m]
theorem Nl(W:Web n rs rk)(hw:∀p∈hs,Wf f p.2)(h1:1<=f)(hf:f<=3)(hl:hs.length<=18)(ll:l.length=f):∀(k:Nat) (c:Option Int) (h:Int),0<=h->h < n->(∀x,c=some x->Adj rs x h)->mu rk c h < k->cvF (t8 k) [webD n rs,hsD hs,howD sp,cameD c,.int h,letD l]=some (.lst ((RO rs hs l k c h).map pairD)):=by
 intro k
 induction k with
 | zero=>intro c h _ _ _ hm;omega
 | succ k ih =>
  intro c h h0 ij hc hm;have e1:=yn W h0 ij;have jP:=Eo (hs:=hs) (l:=l) (k:=k+1) (c:=c) W h0 ij;rw[RO] at jP ⊢;rw[t8];refine sw rfl λKE k1 _=>?_
  rw[wB];refine qw ?_;rintro K hK -;refine⟨_,_,rfl,hK _ ?_⟩;show wp _ [some (.val (webD n rs)),some (.val (hsD hs)),some (.val (howD sp)),some (.val (cameD c)),some (.val (.int h)),some (.val (letD l)),some (.own []),none] _;refine qw ?_;rintro K hK -;simp[e1];refine sj (J:=λi Y=>∃x,Y=[some (.val (webD n rs)),some (.val (hsD hs)),some (.val (howD sp)),some (.val (cameD c)),some (.val (.int h)),some (.val (letD l)),some (.own (((((nbs rs h).take i).filter λu=>decide (some u≠c)&&ldB rs hs l h u).flatMap λu=>(h,u)::RO rs hs l k (some h) u).map pairD)),x]) ⟨none,by simp⟩ ?_ ?_
  ·rintro i d Y hd ⟨x,rfl⟩ KL az - - -;rw[u_,C_] at hd;obtain⟨u,hu,rfl⟩:=hd;have tk:(nbs rs h).take (i+1)=(nbs rs h).take i++[u]:=by rw[QK,hu];rfl
   have au:=(W.nb h u).mp (B_ hu)
   have big:∀j,((((nbs rs h).take j).filter λu=>decide (some u≠c)&&ldB rs hs l h u).flatMap λu=>(h,u)::RO rs hs l k (some h) u).length+1<=8:=λj=>by
    have e:=QF (xs:=((nbs rs h).take j).filter λu=>decide (some u≠c)&&ldB rs hs l h u) (ys:=((nbs rs h).drop j).filter λu=>decide (some u≠c)&&ldB rs hs l h u) (f:=λu=>(h,u)::RO rs hs l k (some h) u);rw[←Qm,Rh] at e;rw[e,p_] at jP;omega
   have b1:=big (i+1);rw[tk,Qm,QF] at az b1;rw[p_] at b1;generalize (((nbs rs h).take i).filter λu=>decide (some u≠c)&&ldB rs hs l h u).flatMap (λu=>(h,u)::RO rs hs l k (some h) u)=L at az b1 ⊢;have e2:=CD (sp:=sp) W hw h1 hf hl ll au;have e3:=Cv (sp:=sp) W hw ll au;generalize (tl sp (nbs rs) hs 20 (some h) u).filter (λw=>hasB w l)=T at e2 e3;refine⟨_,_,rfl,?_⟩;show wp _ [some (.val (webD n rs)),some (.val (hsD hs)),some (.val (howD sp)),some (.val (cameD c)),some (.val (.int h)),some (.val (letD l)),some (.own (L.map pairD)),some (.val (.int u))] _;have dc:dep (cameD c)<=100:=by cases c<;>simp[cameD,dep]
   refine wk.mpr ⟨decide (some u≠c)&&ldB rs hs l h u,[some (.val (webD n rs)),some (.val (hsD hs)),some (.val (howD sp)),some (.val (cameD c)),some (.val (.int h)),some (.val (letD l)),some (.own (L.map pairD)),some (.val (.int u))],?_,?_⟩
   ·by_cases uc:some u=c
    ·simp[andT,tst,op2,bnd,nm,lft,eqF,dep,dc,vT,asB,uc,ret]
    ·rw[←e3];cases T with
     | nil=>simp[andT,tst,op2,bnd,nm,lft,eqF,dep,dc,vT,asB,uc,ret,fn1,consA,nilA,frz,e2,lenF,seqI]
     | cons w T=>simp[andT,tst,op2,bnd,nm,lft,eqF,dep,dc,vT,asB,uc,ret,fn1,consA,nilA,frz,e2,lenF,seqI]
   ·dsimp only;by_cases cc:(decide (some u≠c)&&ldB rs hs l h u)=true
    ·rw[if_pos cc];rw[Sj (by exact cc)] at az b1;rw[Qn,decide_eq_true_eq] at cc;have lt:=W.mu_lt hc au cc.1;have iu:=W.in_n au;have e4:=ih (some h) u iu.2.2.1 iu.2.2.2 (λx z=>by cases z;exact au) (by omega);have e4:cvF (t8 k) [webD n rs,hsD hs,howD sp,.int h,.int u,letD l]=some (.lst ((RO rs hs l k (some h) u).map pairD)):=e4;simp at b1;refine qw ?_;rintro K hK -;simp[isMut,R.mut];refine⟨by omega,hK _ ?_⟩;simp[isMut,R.mut,e4];exact⟨by omega,az _ ⟨some (.val (.int u)),by simp[pairD]⟩⟩
    ·rw[if_neg cc];rw[T7 (by exact cc)] at az;exact⟨_,_,rfl,az _ ⟨some (.val (.int u)),by simp⟩⟩
  ·rintro Y ⟨x,rfl⟩;refine hK _ ?_;rw[s_,Qu];generalize List.flatMap _ _=L at *;simp;exact k1 _ ⟨_,rfl⟩
end
theorem CG{α:Type}{a b:M α}{Q:α->Gm->Prop}(h:wp a Y Q):wp (altM a b) Y Q:=by
 obtain⟨x,af,e,q⟩:=h;exact⟨x,af,by unfold altM;rw[e],q⟩
theorem Ba{α:Type}{a b:M α}{Q:α->Gm->Prop}(e:a Y=none)(h:wp b Y Q):wp (altM a b) Y Q:=by
 obtain⟨x,af,e',q⟩:=h;exact⟨x,af,by unfold altM;rw[e];exact e',q⟩
structure MixN(g:List R->Option (R×List R))(ds:List D):Prop where
 co:coF g ds=none
 cv:cvF g ds=some .non
theorem uZ{g:List R->Option (R×List R)}{o:Option (List D)}(h:wpF g (ds.map .val) λr _=>r=(match o with | some l=>R.own l | none=>R.val .non)):(∀l,o=some l->coF g ds=some l)/\(o=none->MixN g ds):=by
 obtain⟨r,aS,e,hr⟩:=h;refine⟨λl z=>?_,λz=>⟨?_,?_⟩⟩
 ·subst z;subst hr;unfold coF;rw[e]
 ·subst z;subst hr;unfold coF;rw[e]
 ·subst z;subst hr;unfold cvF;rw[e]
section
variable{g:List R->Option (R×List R)}{t:M (List D)}{ac:Gm}{l:List D}
theorem tG{α:Type}{F:List D->Option α}(ht:t Y=some (ds,ac))(e:F ds=none):fn1 F t Y=none:=by
 unfold fn1 bnd;rw[ht];show lft (F ds) ac=none;rw[e];rfl
theorem uQ{α:Type}{F:List D->Option α}{x:α}(ht:t Y=some (ds,ac))(e:F ds=some x):fn1 F t Y=some (x,ac):=by
 unfold fn1 bnd;rw[ht];show lft (F ds) ac=_;rw[e];rfl
theorem EE{α Z:Type}{m:M α}{f:α->M Z}(h:m Y=none):bnd m f Y=none:=by unfold bnd;rw[h]
theorem yN{α Z:Type}{m:M α}{f:α->M Z}{x:α}(h:m Y=some (x,ac)):bnd m f Y=f x ac:=by unfold bnd;rw[h]
theorem vy{Q:D->Gm->Prop}(ht:t Y=some (ds,ac))(e:coF g ds=some l)(q:Q (.lst l) ac):wp (altM (frz (fn1 (coF g) t)) (fn1 (cvF g) t)) Y Q:=
 CG ⟨_,_,by unfold frz;rw[yN (uQ ht e)];rfl,q⟩
theorem xy{Q:D->Gm->Prop}(ht:t Y=some (ds,ac))(e:MixN g ds)(q:Q .non ac):wp (altM (frz (fn1 (coF g) t)) (fn1 (cvF g) t)) Y Q:=
 Ba (by unfold frz;exact EE (tG ht e.co)) ⟨_,_,uQ ht e.cv,q⟩
theorem IV{Q:Fl->Gm->Prop}(ht:t Y=some (ds,ac))(e:coF g ds=some l)(q:Q (.rt (.own l)) ac):wp (altM (retO (fn1 (coF g) t)) (retS (fn1 (cvF g) t))) Y Q:=
 CG ⟨_,_,by unfold retO;rw[yN (uQ ht e)];rfl,q⟩
theorem Ke{Q:Fl->Gm->Prop}(ht:t Y=some (ds,ac))(e:MixN g ds)(q:Q (.rt (.val .non)) ac):wp (altM (retO (fn1 (coF g) t)) (retS (fn1 (cvF g) t))) Y Q:=
 Ba (by unfold retO;exact EE (tG ht e.co)) ⟨_,_,by unfold retS;rw[yN (uQ ht e.cv)];rfl,q⟩
end
noncomputable def Wy(N:Int->List Int):Nat->Option Int->Int->Int->Option (List Int)
 | 0,_,_,_=>none
 | k+1,c,h,t=>if h=t then some [h] else(((N h).filter λu=>decide (some u≠c)).findSome? λu=>Wy N k (some h) u t).map (h::·)
theorem z6{α Z:Type}{f:α->Option Z}{r:Z}{x:α}:∀{l:List α},x∈l->f x=some r->(∀y∈l,(f y).isSome=true->y=x)->l.findSome? f=some r
 | [],hx,_,_=>by cases hx
 | y::l,hx,hf,hu=>by
  rw[UU];cases e:f y with
  | some r' =>
   have:=hu y k_ (by rw[e];rfl);subst this;rw[e] at hf;exact hf
  | none =>
   refine z6 ?_ hf λz hz=>hu z (i_ _ hz)
   rcases E_.mp hx with rfl | hx
   ·rw[e] at hf;cases hf
   ·exact hx
section
variable{rk:Int->Nat}
theorem tm:∀{k:Nat}{c:Option Int}{h t:Int}{p:List Int},Wy N k c h t=some p->t∈Wl N k c h/\p.length<=k
 | 0,_,_,_,_,e=>by cases e
 | k+1,c,h,t,p,e=>by
  rw[Wy] at e;by_cases ht:h=t
  ·rw[if_pos ht] at e;cases e;subst ht;exact⟨xO,by simp⟩
  ·rw[if_neg ht,C_] at e;obtain⟨q,e,rfl⟩:=e;obtain⟨u,hu,e⟩:=Rv e;rw[G_,decide_eq_true_eq] at hu;have:=tm e;exact⟨tQ.mpr (.inr ⟨u,hu.1,hu.2,this.1⟩),by simp;exact this.2⟩
theorem Web.ext(W:Web n rs rk)(hN:∀v u,u∈N v↔Adj rs v u):∀(k:Nat) (c:Option Int) (h v u:Int) (p:List Int),(∀x,c=some x->Adj rs x h)->mu rk c h < k->Wy N k c h v=some p->u∈N v->some u≠c->u∉p->Wy N k c h u=some (p++[u])
 | 0,_,_,_,_,_,_,_,e,_,_,_=>by cases e
 | k+1,c,h,v,u,p,hc,hm,e,hu,uc,up=>by
  have nV:∀x y,x∈N h->y∈N h->u∈Wl N k (some h) x->u∈Wl N k (some h) y->x=y:=λx y hx hy=>W.apart hN ((hN h x).mp hx) ((hN h y).mp hy)
  rw[Wy] at e;by_cases hv:h=v
  ·rw[if_pos hv] at e;cases e;subst hv;have uh:¬h=u:=λz=>up (by rw[z];simp)
   have au:=(hN h u).mp hu;have lt:=W.mu_lt hc au uc;rw[Wy,if_neg uh]
   have one:Wy N k (some h) u u=some [u]:=by
    cases k with
    | zero=>omega
    | succ k=>rw[Wy,if_pos rfl]
   have:(((N h).filter λu=>decide (some u≠c)).findSome? λx=>Wy N k (some h) x u)=some [u]:=z6 (x:=u) (G_.mpr ⟨hu,by simpa using uc⟩) one λy hy s=>by
    obtain⟨q,s⟩:=R5.mp s;exact nV y u (G_.mp hy).1 hu (tm s).1 xO
   rw[this];rfl
  ·rw[if_neg hv,C_] at e;obtain⟨q,e,rfl⟩:=e;obtain⟨x,hx,e⟩:=Rv e;have dy:=hx;rw[G_,decide_eq_true_eq] at dy;have ax:=(hN h x).mp dy.1;have lt:=W.mu_lt hc ax dy.2;have uh:u≠h:=λz=>up (by rw[z];simp)
   have uq:u∉q:=λz=>up (i_ _ z)
   have ih:=W.ext hN k (some h) x v u q (λy z=>by cases z;exact ax) (by omega) e hu (λz=>uh (by cases z;rfl)) uq;rw[Wy,if_neg (λz=>uh z.symm)]
   have:(((N h).filter λu=>decide (some u≠c)).findSome? λx=>Wy N k (some h) x u)=some (q++[u]):=z6 hx ih λy hy s=>by
    obtain⟨q,s⟩:=R5.mp s;exact nV y x (G_.mp hy).1 dy.1 (tm s).1 (tm ih).1
   rw[this];rfl
end
noncomputable def hAt(hs:HS)(k:Nat):Int×List (Int×Int):=hs.getD k (0,[])
theorem AI{hs:HS}(h:k < hs.length):hs[k]?=some (hAt hs k):=by
 unfold hAt;rw[h_,g_ h];rfl
noncomputable def gvK(hs:HS)(P:Int×List (Int×Int)->Bool):List D:=((Qw hs.length).filter λk=>P (hAt hs k)).map λk:Nat=>D.int k
theorem Ed:∀(hs:HS) (n:Nat),numD n (hs.map holdD)=(hs.zipIdx n).map λq=>D.tup [.int q.2,holdD q.1]
 | [],n=>rfl
 | p::hs,n=>by
  rw[D_,numD,Ed hs (n+1),TZ,D_]
theorem Ft{hs:HS}:hs.zipIdx 0=(Qw hs.length).map λk=>(hAt hs k,k):=by
 refine List.ext_getElem? λi=>?_
 rw[List.getElem?_zipIdx,u_];by_cases h:i < hs.length
 ·rw[AI h,List.getElem?_range h];simp
 ·rw[RW (by omega),RW (by simpa using h)];rfl
theorem LS{hs:HS}{P:Int×List (Int×Int)->Bool}:((hs.zipIdx 0).filter λq=>P q.1).map (λq=>D.int q.2)=gvK hs P:=by
 rw[Ft,List.filter_map,UP];rfl
section
variable{rk:Int->Nat}{f:Nat}{hs:HS}
noncomputable def gvL(hs:HS)(l:List Int)(S:List Int):List D:=gvK hs λp=>decide (p.1∈S)&&hasB p.2 l
end
section
variable{rk:Int->Nat}{f:Nat}{hs:HS}
theorem Ko(W:Web n rs rk)(hw:∀p∈hs,Wf f p.2)(h1:1<=f)(hf:f<=3)(hl:hs.length<=18)(ll:l.length=f)(h0:0<=h)(hn:h < n):cvF wI [webD n rs,hsD hs,howD sp,.int h,letD l]=some (.tup [.lst ((sortP (RO rs hs l 20 none h)).map pairD),.lst (gvL hs l (h::(sortP (RO rs hs l 20 none h)).map (·.2)))]):=by
 have e1:=CW (ps:=hs) (by omega)
 have e2:cvF sR [.lst (letD l::(hs.map (·.2)).map wishD)]=some .non:=xg (n:=f) λd hd=>by
  rcases E_.mp hd with rfl | hd
  ·exact⟨_,rfl,by rw[s_];exact ll⟩
  ·obtain⟨w,fh,rfl⟩:=F_.mp hd;obtain⟨p,hp,rfl⟩:=F_.mp fh;exact⟨_,rfl,by rw[s_];exact(hw p hp).len⟩
 have e3:=xM (rs:=rs) h0 hn;have e4:=Nl (sp:=sp) W hw h1 hf hl ll 20 none h h0 hn (λx z=>by cases z) (by simp[mu]);have e4:cvF (t8 20) [webD n rs,hsD hs,howD sp,.non,.int h,letD l]=some (.lst ((RO rs hs l 20 none h).map pairD)):=e4;have l8:=Eo (hs:=hs) (l:=l) (k:=20) (c:=none) W h0 hn;obtain⟨S,e5,pS,hS⟩:=Ch (ps:=RO rs hs l 20 none h) (by omega);rw[←hS];have lS:=pS.length_eq
 have hT:∀q:(Int×List (Int×Int))×Nat,q∈hs.zipIdx 0->cvF ut [wishD q.1.2,letD l]=some (.bl (hasB q.1.2 l)):=λq m=>by
  have:=List.fst_mem_of_mem_zipIdx m;exact BH (by rw[(hw _ this).len,ll]) (by rw[(hw _ this).len];omega)
 refine sw rfl λKE k1 _=>?_
 rw[An];refine qw ?_;rintro K hK -
 change coF u5 [hsD hs]=_ at e1
 have lw:((hs.map (·.2)).map wishD).length=hs.length:=by simp
 generalize (hs.map (·.2)).map wishD=ws at e1 e2 lw;simp[e1,e2];refine⟨by omega,hK _ ?_⟩;refine qw ?_;rintro K hK -;simp[e3];refine hK _ ?_;refine qw ?_;rintro K hK -;simp[e4,e5];refine hK _ ?_;refine qw ?_;rintro K hK -;simp;refine sB S pairD (λ_=>true) (λp=>.int p.2) ?_;simp;refine⟨by omega,by omega,hK _ ?_⟩;have eR:D.int h::S.map (λp=>D.int p.2)=(h::S.map (·.2)).map D.int:=by rw[D_,UP];rfl
 rw[eR];generalize h::S.map (·.2)=Rc at k1 ⊢;refine qw ?_;rintro K hK -;simp;refine t5 (hs.zipIdx 0) (λq=>.tup [.int q.2,holdD q.1]) (λq=>decide (q.1.1∈Rc)&&hasB q.1.2 l) (λq=>.int q.2) ?_;simp[hsD,Ed];refine⟨by omega,λa b q m=>?_,hK _ ?_⟩
 ·have hT:=hT _ m;by_cases c:a∈Rc
  ·simp[c,hT]
  ·simp[c]
 ·rw[LS (P:=λp=>decide (p.1∈Rc)&&hasB p.2 l)];simp;exact k1 _ ⟨_,rfl⟩
end
noncomputable def wyR(o:Option (List Int)):R:=match o.map (·.map D.int) with
 | some l=>.own l
 | none=>.val .non
theorem A9{p:Int->Bool}{f:Int->Option (List Int)}{u:Int}{q:List Int}(hu:l[i]?=some u)(hp:p u=true)(hf:f u=some q)(hn:∀x∈(l.take i).filter p,f x=none):(l.filter p).findSome? f=some q:=by
 obtain⟨hi,hu⟩:=m_.mp hu
 have e:l=l.take i++u::l.drop (i+1):=by
  rw[←hu,←P_ hi,Rh]
 rw[e,Qm,List.findSome?_append,Rj.mpr hn,Sj hp,UU,hf];rfl
theorem G3{rk:Int->Nat}(W:Web n rs rk):∀(k:Nat) (c:Option Int) (h t:Int),k<=100->0<=h->h < n->(∀x,c=some x->Adj rs x h)->mu rk c h < k->wpF (ug k) ([webD n rs,cameD c,D.int h,D.int t].map .val) λr _=>r=wyR (Wy (nbs rs) k c h t):=by
 intro k
 induction k with
 | zero=>intro c h t _ _ _ _ hm;omega
 | succ k ih =>
  intro c h t nW h0 h1 hc hm;have e1:=yn W h0 h1;rw[ug];refine sP rfl λKE hE _=>?_
  rw[xu];rw[Wy] at hE;refine qw ?_;rintro K hK hR;by_cases ht:h=t
  ·rw[if_pos ht] at hE;subst ht;simp[dep,sx];exact hR _ _ (hE _ _ ⟨_,rfl,rfl⟩)
  ·rw[if_neg ht] at hE;simp[dep,sx,ht];refine hK _ ?_;refine qw ?_;rintro K hK fj;simp[e1];refine sj (J:=λi Y=>∃x4 x5,(∀u∈((nbs rs h).take i).filter λu=>decide (some u≠c),Wy (nbs rs) k (some h) u t=none)/\Y=[some (.val (webD n rs)),some (.val (cameD c)),some (.val (.int h)),some (.val (.int t)),x4,x5]) ⟨none,none,by simp,rfl⟩ ?_ ?_
   ·rintro i d Y hd ⟨x4,x5,no,rfl⟩ KL az - - dP;rw[u_,C_] at hd;obtain⟨u,hu,rfl⟩:=hd;have tk:(nbs rs h).take (i+1)=(nbs rs h).take i++[u]:=by rw[QK,hu];rfl
    have au:=(W.nb h u).mp (B_ hu);have un:=W.in_n au;refine⟨_,_,rfl,?_⟩;show wp _ [some (.val (webD n rs)),some (.val (cameD c)),some (.val (.int h)),some (.val (.int t)),some (.val (.int u)),x5] _;by_cases uc:some u=c
    ·simp[dep,vT,uc];refine az _ ⟨_,_,λx hx=>no x ?_,rfl⟩;rw[tk,Qm] at hx;simpa[uc] using hx
    ·have lt:=W.mu_lt hc au uc;have w1:=ih (some h) u t (by omega) (by omega) (by omega) (λx z=>by cases z;exact au) (by omega);obtain⟨m1,m2⟩:=uZ w1;simp[dep,vT,uc];refine qw ?_;rintro K2 a9 -;cases e:Wy (nbs rs) k (some h) u t with
     | some q =>
      have e3:=m1 _ (by rw[e];rfl);have lq:=(tm e).2;simp only[tR];refine vy rfl e3 ?_;refine⟨by simp,a9 _ ?_⟩;clear a9;show wp _ [some (.val (webD n rs)),some (.val (cameD c)),some (.val (.int h)),some (.val (.int t)),some (.val (.int u)),some (.val (.lst (q.map D.int)))] _;simp[isN];refine⟨by omega,dP _ _ (fj _ _ (hE _ _ ⟨_,rfl,?_⟩))⟩;rw[A9 hu (by simpa using uc) e no];rfl
     | none =>
      have e3:=m2 (by rw[e];rfl);simp only[tR];refine xy rfl e3 ?_;refine⟨by simp,a9 _ ?_⟩;clear a9;show wp _ [some (.val (webD n rs)),some (.val (cameD c)),some (.val (.int h)),some (.val (.int t)),some (.val (.int u)),some (.val .non)] _;simp[isN];refine az _ ⟨_,_,λx hx=>?_,rfl⟩;rw[tk,Qm] at hx
      rcases K_.mp hx with hx | hx
      ·exact no x hx
      ·rw[t_.mp (G_.mp hx).1];exact e
   ·rintro Y ⟨x4,x5,no,rfl⟩;rw[s_,Qu] at no;refine hK _ ?_;refine⟨_,_,rfl,?_⟩;refine hE _ _ ⟨_,rfl,?_⟩;rw[Rj.mpr no];rfl
theorem Ht{rk:Int->Nat}(W:Web n rs rk){a b:Int}(a0:0<=a)(a1:a < n)(b0:0<=b)(b1:b < n):wpF vw ([webD n rs,D.int a,D.int b].map .val) λr _=>r=wyR (Wy (nbs rs) 21 none a b):=by
 have e1:=xM (rs:=rs) a0 a1;have e2:=xM (rs:=rs) b0 b1;have w:=G3 W 21 none a b (by omega) a0 a1 (λx z=>by cases z) (by simp[mu])
 change wpF (ug 21) ([webD n rs,D.non,D.int a,D.int b].map .val) _ at w
 obtain⟨m1,m2⟩:=uZ w;refine sP rfl λKE hE _=>?_
 rw[z9];refine qw ?_;rintro K hK -;simp[e1];refine hK _ ?_;refine qw ?_;rintro K hK -;simp[e2];refine hK _ ?_;cases e:Wy (nbs rs) 21 none a b with
 | some q =>
  rw[e] at hE;exact IV rfl (m1 _ (by rw[e];rfl)) (hE _ _ ⟨_,rfl,rfl⟩)
 | none =>
  rw[e] at hE;exact Ke rfl (m2 (by rw[e];rfl)) (hE _ _ ⟨_,rfl,rfl⟩)
section
variable{kvs:List ((Int×Int)×D)}{a b:Int}
theorem ML{g:List R->Option (R×List R)}{t:M (List D)}{Q:Fl->Gm->Prop}(ht:t Y=some (ds,Y))(e:ckF g ds=some kvs)(hi:i < Y.length)(q:Q .nx (Y.set i (some (.dic kvs)))):wp (setK i (fn1 (ckF g) t)) Y Q:=
 ⟨_,_,by simp only[setK,bnd,fn1,ht,lft,e,putS,if_pos hi,ret],q⟩
theorem B8{Q:Fl->Gm->Prop}(e1:gv Y=some (d,Y))(e2:Y[i]?=some (some (.dic kvs)))(e3:gk Y=some (.tup [.int a,.int b],Y))(hl:kvs.length < lim)(q:Q .nx (Y.set i (some (.dic (putD kvs (a,b) d))))):wp (putP i gk gv) Y Q:=
 ⟨_,_,by simp only[putP,bnd,e1,lookK,e2,e3,wrK,putPF,if_pos hl],q⟩
theorem Mf{Q:D->Gm->Prop}(e2:Y[i]?=some (some (.rdc kvs)))(e3:gk Y=some (.tup [.int a,.int b],Y))(hv:valP kvs (a,b)=some d)(q:Q d Y):wp (getR i gk) Y Q:=
 ⟨_,_,by simp only[getR,bnd,lookR,e2,e3,getPF,hv,lft],q⟩
theorem Kq{g:List R->Option (R×List R)}{ga gb:M D}{t:M (List D)}{d1 d2:D}{Q:D->Gm->Prop}(e1:ga Y=some (d1,Y))(e2:gb Y=some (d2,Y))(e3:Y[i]?=some (some (.dic kvs)))(e4:t Y=some (ds,Y))(e5:crF g d1 d2 kvs ds=some d)(q:Q d Y):wp (callR i g ga gb t) Y Q:=
 ⟨_,_,by simp only[callR,bnd,e1,e2,lookK,e3,e4,lft,e5],q⟩
theorem Bo{k:Int×Int}:∀{kvs:List ((Int×Int)×D)},(kvs.any λkv=>decide (kv.1=k))=false->∀k',valP (kvs++[(k,d)]) k'=if k=k' then some d else valP kvs k'
 | [],_,k'=>rfl
 | q::r,h,k'=>by
  rw[R6,UE,decide_eq_false_iff_not] at h;rw[List.cons_append,valP,valP,Bo h.2];by_cases z:k=k'
  ·subst z;rw[if_neg h.1,if_neg h.1]
  ·rw[if_neg z,if_neg z]
theorem DQ{k:Int×Int}:∀{kvs:List ((Int×Int)×D)},(kvs.any λkv=>decide (kv.1=k))=true->∀k',valP (kvs.map λkv=>if kv.1=k then(kv.1,d) else kv) k'=if k=k' then some d else valP kvs k'
 | [],h,_=>by cases h
 | q::r,h,k'=>by
  have no:∀(r:List ((Int×Int)×D)) (k':Int×Int),k≠k'->valP (r.map λkv=>if kv.1=k then(kv.1,d) else kv) k'=valP r k':=λr k' ne=>by
   induction r with
   | nil=>rfl
   | cons q r ih =>
    rw[D_,valP,valP,ih];by_cases z:q.1=k
    ·rw[if_pos z,z,if_neg ne,if_neg ne]
    ·rw[if_neg z]
  by_cases z:k=k'
  ·subst z;rw[if_pos rfl,D_,valP];by_cases y:q.1=k
   ·rw[if_pos y,if_pos y]
   ·rw[if_neg y,if_neg y];rw[R6,decide_eq_false y,UV] at h;exact(DQ h k).trans (if_pos rfl)
  ·rw[if_neg z,no _ _ z]
theorem Ef{k k':Int×Int}:valP (putD kvs k d) k'=if k=k' then some d else valP kvs k':=by
 unfold putD;split
 ·rename_i h;exact DQ h k'
 ·rename_i h;rw[Bool.not_eq_true] at h;exact Bo h k'
theorem Df{k:Int×Int}:(putD kvs k d).length<=kvs.length+1:=by
 unfold putD;split
 ·rw[s_];omega
 ·simp
end
section
variable{rk:Int->Nat}{f:Nat}{hs:HS}
theorem v4(W:Web n rs rk):∀(k k':Nat) (c:Option Int) (h:Int),(∀x,c=some x->Adj rs x h)->mu rk c h < k->mu rk c h < k'->Wl (nbs rs) k c h=Wl (nbs rs) k' c h
 | 0,_,_,_,_,h1,_=>by omega
 | k+1,0,_,_,_,_,h2=>by omega
 | k+1,k'+1,c,h,hc,h1,h2=>by
  rw[Wl,Wl]
  congr 1
  refine Ge λu hu=>?_
  rw[G_,decide_eq_true_eq] at hu;have au:=(W.nb h u).mp hu.1;have lt:=W.mu_lt hc au hu.2;exact v4 W k k' (some h) u (λx z=>by cases z;exact au) (by omega) (by omega)
theorem EW(W:Web n rs rk){v:Int}(z:wants hs l v=true):∀(k:Nat) (c:Option Int) (h:Int),(∀x,c=some x->Adj rs x h)->mu rk c h < k->v∈Wl (nbs rs) k c h->v∈h::(RO rs hs l k c h).map (·.2)
 | 0,_,_,_,hm,_=>by omega
 | k+1,c,h,hc,hm,m=>by
  rcases tQ.mp m with rfl | ⟨u,hu,uc,hv⟩
  ·exact k_
  ·have au:=(W.nb h u).mp hu;have lt:=W.mu_lt hc au uc;have aM:∀x,some h=some x->Adj rs x u:=λx z=>by cases z;exact au
   have ih:=EW W z k (some h) u aM (by omega) hv;rw[v4 W k 20 (some h) u aM (by omega) (vX W au)] at hv;have ld:ldB rs hs l h u=true:=QW.mpr ⟨v,hv,z⟩;rw[RO,UK];refine i_ _ (QM.mpr ⟨u,G_.mpr ⟨hu,by rw[ld];simpa using uc⟩,?_⟩);rw[D_];exact ih
theorem Ho:∀{k:Nat}{c:Option Int}{h t:Int}{p:List Int},Wy N k c h t=some p->∃q,p=h::q
 | 0,_,_,_,_,e=>by cases e
 | k+1,c,h,t,p,e=>by
  rw[Wy] at e;by_cases ht:h=t
  ·rw[if_pos ht] at e;cases e;exact⟨_,rfl⟩
  ·rw[if_neg ht,C_] at e;obtain⟨q,_,rfl⟩:=e;exact⟨q,rfl⟩
theorem zM(W:Web n rs rk):∀(k:Nat) (c:Option Int) (h t:Int) (p:List Int),(∀x,c=some x->Adj rs x h)->mu rk c h < k->Wy (nbs rs) k c h t=some p->∀r∈p.zip p.tail,Adj rs r.1 r.2/\t∈Wl (nbs rs) 20 (some r.1) r.2
 | 0,_,_,_,_,_,_,e,_,_=>by cases e
 | k+1,c,h,t,p,hc,hm,e,r,hr=>by
  rw[Wy] at e;by_cases ht:h=t
  ·rw[if_pos ht] at e;cases e;cases hr
  ·rw[if_neg ht,C_] at e;obtain⟨q,e,rfl⟩:=e;obtain⟨u,hu,e⟩:=Rv e;rw[G_,decide_eq_true_eq] at hu;have au:=(W.nb h u).mp hu.1;have lt:=W.mu_lt hc au hu.2;have aM:∀x,some h=some x->Adj rs x u:=λx z=>by cases z;exact au
   have go:=zM W k (some h) u t q aM (by omega) e;obtain⟨q',rfl⟩:=Ho e;rw[List.tail_cons,QN] at hr
   rcases E_.mp hr with rfl | hr
   ·refine⟨au,?_⟩;rw[v4 W 20 k (some h) u aM (vX W au) (by omega)];exact(tm e).1
   ·exact go r hr
theorem Bu(W:Web n rs rk):∀(k:Nat) (c:Option Int) (h t:Int),(∀x,c=some x->Adj rs x h)->mu rk c h < k->t∈Wl (nbs rs) k c h->∃p,Wy (nbs rs) k c h t=some p
 | 0,_,_,_,_,hm,_=>by omega
 | k+1,c,h,t,hc,hm,ht=>by
  rw[Wy];by_cases e:h=t
  ·exact⟨_,if_pos e⟩
  ·rw[if_neg e]
   rcases tQ.mp ht with z | ⟨u,hu,uc,ht⟩
   ·exact absurd z.symm e
   ·have au:=(W.nb h u).mp hu;have lt:=W.mu_lt hc au uc;obtain⟨p,hp⟩:=Bu W k (some h) u t (λx z=>by cases z;exact au) (by omega) ht;cases e2:(((nbs rs h).filter λu=>decide (some u≠c)).findSome? λu=>Wy (nbs rs) k (some h) u t) with
    | some q=>exact⟨_,rfl⟩
    | none=>rw[Rj.mp e2 u (G_.mpr ⟨hu,by simpa using uc⟩)] at hp;cases hp
noncomputable def fstW(sp:Bool)(rs:List (Int×Int))(hs:HS)(l:List Int)(r:Int×Int):List (Int×Int):=((tl sp (nbs rs) hs 20 (some r.1) r.2).filter λw=>hasB w l).headD []
noncomputable def stpD(sp:Bool)(rs:List (Int×Int))(hs:HS)(l:List Int)(r:Int×Int):D:=.tup [.int r.1,.int r.2,wishD (fstW sp rs hs l r)]
noncomputable def chO(sp:Bool)(rs:List (Int×Int))(hs:HS)(l:List Int)(h:Int)(p:Int×List (Int×Int)):Option (List D):=if hasB p.2 l=true then(Wy (nbs rs) 21 none h p.1).map λq=>(q.zip q.tail).map (stpD sp rs hs l) else none
theorem EG(W:Web n rs rk)(hw:∀p∈hs,Wf f p.2)(ll:l.length=f){r:Int×Int}{t:Int}(a:Adj rs r.1 r.2)(z:wants hs l t=true)(m:t∈Wl (nbs rs) 20 (some r.1) r.2):∃T,(tl sp (nbs rs) hs 20 (some r.1) r.2).filter (λw=>hasB w l)=fstW sp rs hs l r::T:=by
 have e:=Cv (sp:=sp) W hw ll a;have ld:ldB rs hs l r.1 r.2=true:=QW.mpr ⟨t,m,z⟩;rw[ld] at e;unfold fstW;generalize (tl sp (nbs rs) hs 20 (some r.1) r.2).filter (λw=>hasB w l)=T at *;cases T with
 | nil=>cases e
 | cons w T=>exact⟨T,rfl⟩
end
noncomputable def ahD(c:Option Int):D:=.int (c.getD (-1))
theorem Mq{u:Int}(h:0<=u):deq (.int u) (ahD c)=decide (some u=c):=by
 unfold ahD;rw[sx];cases c with
 | none =>
  have:¬u=-1:=by omega
  simp[this]
 | some x=>simp[Option.getD]
theorem JW{rk:Int->Nat}(W:Web n rs rk):∀(k:Nat) (c:Option Int) (h t:Int),k<=100->(∀x,c=some x->Adj rs x h)->mu rk c h < k->wpF (uf k) ([webD n rs,D.int h,D.int t,ahD c].map .val) λr _=>r=wyR (Wy (nbs rs) k c h t):=by
 intro k
 induction k with
 | zero=>intro c h t _ _ hm;omega
 | succ k ih =>
  intro c h t nW hc hm;have e1:=Bw W h;rw[uf];refine sP rfl λKE hE _=>?_
  rw[xJ];rw[Wy] at hE;have dc:dep (ahD c)<=100:=by simp[ahD,dep]
  refine qw ?_;rintro K hK hR;by_cases ht:h=t
  ·rw[if_pos ht] at hE;subst ht;simp[dep,sx];exact hR _ _ (hE _ _ ⟨_,rfl,rfl⟩)
  ·rw[if_neg ht] at hE;simp[dep,sx,ht];refine hK _ ?_;refine qw ?_;rintro K hK fj;simp[e1];refine sj (J:=λi Y=>∃x4 x5,(∀u∈((nbs rs h).take i).filter λu=>decide (some u≠c),Wy (nbs rs) k (some h) u t=none)/\Y=[some (.val (webD n rs)),some (.val (.int h)),some (.val (.int t)),some (.val (ahD c)),x4,x5]) ⟨none,none,by simp,rfl⟩ ?_ ?_
   ·rintro i d Y hd ⟨x4,x5,no,rfl⟩ KL az - - dP;rw[u_,C_] at hd;obtain⟨u,hu,rfl⟩:=hd;have tk:(nbs rs h).take (i+1)=(nbs rs h).take i++[u]:=by rw[QK,hu];rfl
    have au:=(W.nb h u).mp (B_ hu);have un:=W.in_n au;have dq:=Mq (c:=c) un.2.2.1;refine⟨_,_,rfl,?_⟩;show wp _ [some (.val (webD n rs)),some (.val (.int h)),some (.val (.int t)),some (.val (ahD c)),some (.val (.int u)),x5] _;by_cases uc:some u=c
    ·simp[dep,dc,dq,uc];refine az _ ⟨_,_,λx hx=>no x ?_,rfl⟩;rw[tk,Qm] at hx;simpa[uc] using hx
    ·have lt:=W.mu_lt hc au uc;have w1:=ih (some h) u t (by omega) (λx z=>by cases z;exact au) (by omega);obtain⟨m1,m2⟩:=uZ w1;simp[dep,dc,dq,uc];refine qw ?_;rintro K2 a9 -;cases e:Wy (nbs rs) k (some h) u t with
     | some q =>
      have e3:=m1 _ (by rw[e];rfl);have lq:=(tm e).2;simp only[tR];refine vy rfl e3 ?_;refine⟨by simp,a9 _ ?_⟩;clear a9;show wp _ [some (.val (webD n rs)),some (.val (.int h)),some (.val (.int t)),some (.val (ahD c)),some (.val (.int u)),some (.val (.lst (q.map D.int)))] _;simp[isN];refine⟨by omega,dP _ _ (fj _ _ (hE _ _ ⟨_,rfl,?_⟩))⟩;rw[A9 hu (by simpa using uc) e no];rfl
     | none =>
      have e3:=m2 (by rw[e];rfl);simp only[tR];refine xy rfl e3 ?_;refine⟨by simp,a9 _ ?_⟩;clear a9;show wp _ [some (.val (webD n rs)),some (.val (.int h)),some (.val (.int t)),some (.val (ahD c)),some (.val (.int u)),some (.val .non)] _;simp[isN];refine az _ ⟨_,_,λx hx=>?_,rfl⟩;rw[tk,Qm] at hx
      rcases K_.mp hx with hx | hx
      ·exact no x hx
      ·rw[t_.mp (G_.mp hx).1];exact e
   ·rintro Y ⟨x4,x5,no,rfl⟩;rw[s_,Qu] at no;refine hK _ ?_;refine⟨_,_,rfl,?_⟩;refine hE _ _ ⟨_,rfl,?_⟩;rw[Rj.mpr no];rfl
section
variable{rk:Int->Nat}{f:Nat}{hs:HS}
theorem EL(hi:i < hs.length):ixF (hsD hs) (.int (i:Int))=some (holdD (hAt hs i)):=by
 show atI (hs.map holdD) (i:Int)=_;rw[DL.sV,u_,AI hi];rfl
theorem AE(hi:i < hs.length):hAt hs i∈hs:=B_ (AI hi)
theorem KP{S:List Int}(hi:i < hs.length):((gvL hs l S).any λd=>deq d (.int (i:Int)))=(decide ((hAt hs i).1∈S)&&hasB (hAt hs i).2 l):=by
 have e:gvL hs l S=(((Qw hs.length).filter λk=>decide ((hAt hs k).1∈S)&&hasB (hAt hs k).2 l).map λk:Nat=>(k:Int)).map D.int:=by rw[UP];rfl
 rw[e,Fk,S1,decide_eq_true_eq];simp only[F_,G_,Rm];constructor
 ·rintro⟨k,⟨_,hk⟩,e⟩;have:k=i:=by omega
  rw[←this];exact hk
 ·exact λhk=>⟨i,⟨hi,hk⟩,rfl⟩
theorem zh(hi:i < hs.length)(hb:hasB (hAt hs i).2 l=true):wants hs l (hAt hs i).1=true:=QW.mpr ⟨_,AE hi,by rw[hb];simp⟩
theorem Ls(W:Web n rs rk)(hi:i < hs.length)(hb:hasB (hAt hs i).2 l=true):(hAt hs i).1∈h::(sortP (RO rs hs l 20 none h)).map (·.2)↔∃q,Wy (nbs rs) 21 none h (hAt hs i).1=some q:=by
 have hc:∀x,(none:Option Int)=some x->Adj rs x h:=λx z=>by cases z
 have m0:mu rk none h < 20:=by simp[mu]
 have m1:mu rk none h < 21:=by simp[mu]
 have em:(hAt hs i).1∈h::(sortP (RO rs hs l 20 none h)).map (·.2)↔(hAt hs i).1∈h::(RO rs hs l 20 none h).map (·.2):=by
  rw[E_,E_,((show(sortP (RO rs hs l 20 none h)).Perm _ from Tl _ _).map (·.2)).mem_iff]
 rw[em];constructor
 ·intro m;have:=(AA (rs:=rs) (hs:=hs) (l:=l) 20 none h).subset m;rw[v4 W 20 21 none h hc m0 m1] at this;exact Bu W 21 none h _ hc m1 this
 ·rintro⟨q,e⟩;have:=(tm e).1;rw[v4 W 21 20 none h hc m1 m0] at this;exact EW W (zh hi hb) 20 none h hc m0 this
theorem Mo(W:Web n rs rk)(hw:∀p∈hs,Wf f p.2)(hh:∀p∈hs,0<=p.1/\p.1 < n)(h1:1<=f)(hf:f<=3)(hl:hs.length<=8)(ll:l.length=f)(h0:0<=h)(hn:h < n)(hi:i < hs.length):wpF uy ([webD n rs,hsD hs,howD sp,.int h,letD l,.int (i:Int)].map .val) λr _=>r=(match chO sp rs hs l h (hAt hs i) with | some l=>R.own l | none=>R.val .non):=by
 have led:=Ko (sp:=sp) W hw h1 hf (by omega) ll h0 hn;have gv:=KP (l:=l) (S:=h::(sortP (RO rs hs l 20 none h)).map (·.2)) hi;have ci:=Ls (l:=l) (h:=h) W hi;have ix:=EL hi;have ht:=hh _ (AE hi);have wb:=Ht W h0 hn ht.1 ht.2;obtain⟨m1,m2⟩:=uZ wb;have wt:=zh (l:=l) hi;have on:=zM W 21 none h (hAt hs i).1;have ld:∀r:Int×Int,Adj rs r.1 r.2->_:=λr a=>CD (sp:=sp) W hw h1 hf (by omega) ll a
 have lH:lenF [hsD hs]=some (.int hs.length):=by simp[hsD]
 have i0:(0:Int)<=i:=by omega
 have i1:(i:Int) < hs.length:=by omega
 generalize gvL hs l (h::(sortP (RO rs hs l 20 none h)).map (·.2))=GV at *;generalize h::(sortP (RO rs hs l 20 none h)).map (·.2)=S at *;generalize (sortP (RO rs hs l 20 none h)).map pairD=PD at *;refine sP rfl λKE hE _=>?_
 rw[zY];refine qw ?_;rintro K hK -;simp[led];refine hK _ ?_;refine qw ?_;rintro K hK -;simp[lH,i0,i1];refine hK _ ?_;unfold chO at hE;generalize hAt hs i=p at *;by_cases c:p.1∈S/\hasB p.2 l=true
 ·obtain⟨q,e⟩:=(ci c.2).mp c.1;have e3:=m1 _ (by rw[e];rfl);have lq:=(tm e).2;have on:=on q (λx z=>by cases z) (by simp[mu]) e;rw[if_pos c.2,e] at hE;refine qw ?_;rintro K hK hR;simp[gv,c.1,c.2,dep];refine hK _ ?_;refine qw ?_;rintro K hK -;simp only[tR];refine vy (by simp[consA,nilA,bnd,nm,ret,op2,lft,ix];rfl) e3 ?_;refine⟨by simp,hK _ ?_⟩;show wp _ [some (.val (webD n rs)),some (.val (hsD hs)),some (.val (howD sp)),some (.val (.int h)),some (.val (letD l)),some (.val (.int i)),some (.val (.tup [.lst PD,.lst GV])),some (.val (.lst (q.map D.int)))] _;simp;refine t5 (q.zip q.tail) (λr=>.tup [.int r.1,.int r.2]) (λ_=>true) (stpD sp rs hs l) ?_;have ez:pairsD (q.map D.int) (q.map D.int).tail=(q.zip q.tail).map λr=>D.tup [.int r.1,.int r.2]:=by rw[←List.map_tail,uS]
  have cd:cutD (q.map D.int) (some 1) none=(q.map D.int).drop 1:=wW (n:=1);simp[cd];refine⟨ez,by omega,λa b m=>?_,?_⟩
  ·obtain⟨o1,o2⟩:=on (a,b) m;obtain⟨T,e5⟩:=EG (sp:=sp) W hw ll o1 (wt c.2) o2;have e6:=ld (a,b) o1;rw[e5] at e6;simp[e6,stpD]
  ·exact hE _ _ ⟨_,rfl,by simp⟩
 ·have ng:(decide (p.1∈S)&&hasB p.2 l)=false:=by
   rw[Us,decide_eq_false_iff_not];by_cases z:p.1∈S
   ·exact .inr (by cases y:hasB p.2 l with
     | false=>rfl
     | true=>exact absurd ⟨z,y⟩ c)
   ·exact .inl z
  refine qw ?_;rintro K hK hR;rw[ng] at gv;simp[gv,dep];refine hR _ _ (hE _ _ ⟨_,rfl,?_⟩);by_cases y:hasB p.2 l=true
  ·rw[if_pos y];cases e:Wy (nbs rs) 21 none h p.1 with
   | none=>rfl
   | some q=>exact absurd ⟨(ci y).mpr ⟨q,e⟩,y⟩ c
  ·rw[if_neg y]
end
section
variable{rk:Int->Nat}{f:Nat}{hs:HS}{kvs:List ((Int×Int)×D)}
noncomputable def tlD(sp:Bool)(rs:List (Int×Int))(hs:HS)(a b:Int):D:=.lst ((tl sp (nbs rs) hs 20 (some a) b).map wishD)
theorem Jd(W:Web n rs rk)(hw:∀p∈hs,Wf f p.2)(h1:1<=f)(hf:f<=3)(hl:hs.length<=8):∃kvs,ckF vU [webD n rs,hsD hs,howD sp]=some kvs/\∀a b,Adj rs a b->valP kvs (a,b)=some (tlD sp rs hs a b):=by
 have td:∀a b,Adj rs a b->_:=λa b z=>M0 (sp:=sp) W hw h1 hf (by omega) 20 a b z (vX W z)
 have ln:=W.rs_len;have n8:=W.n8
 have aT:wpF vU ([webD n rs,hsD hs,howD sp].map .val) λr _=>∃kvs,r=.dic kvs/\∀a b,Adj rs a b->valP kvs (a,b)=some (tlD sp rs hs a b):=by
  refine sP rfl λKE hE _=>?_
  rw[AF];refine qw ?_;rintro K hK -;refine⟨_,_,rfl,hK _ ?_⟩;show wp _ [some (.val (webD n rs)),some (.val (hsD hs)),some (.val (howD sp)),some (.dic []),none,none] _;refine qw ?_;rintro K hK -;simp;refine sj (J:=λi Y=>∃kvs x4 x5,kvs.length<=2*i/\(∀a b,Adj (rs.take i) a b->valP kvs (a,b)=some (tlD sp rs hs a b))/\Y=[some (.val (webD n rs)),some (.val (hsD hs)),some (.val (howD sp)),some (.dic kvs),x4,x5]) ⟨[],none,none,by simp,λa b z=>by simp[Adj] at z,rfl⟩ ?_ ?_
  ·rintro i d Y hd ⟨kvs,x4,x5,hk,hv,rfl⟩ KL az - - -;have gF:=(m_.mp hd).1;rw[s_] at gF;rw[u_,C_] at hd;obtain⟨⟨a,b⟩,hr,rfl⟩:=hd;have tk:rs.take (i+1)=rs.take i++[(a,b)]:=by rw[QK,hr];rfl
   have ab:Adj rs a b:=.inl (B_ hr);have t1:=td a b ab;have t2:=td b a ab.symm;have p1:=Df (kvs:=kvs) (k:=(a,b)) (d:=tlD sp rs hs a b);have p2:=Df (kvs:=putD kvs (a,b) (tlD sp rs hs a b)) (k:=(b,a)) (d:=tlD sp rs hs b a);simp[pairD];refine qw ?_;rintro K2 a9 -;refine B8 (d:=tlD sp rs hs a b) (uQ rfl t1) rfl rfl (by unfold lim;omega) (a9 _ ?_);clear a9;refine B8 (d:=tlD sp rs hs b a) (uQ rfl t2) rfl rfl (by unfold lim;omega) (az _ ⟨_,_,_,?_,λx y z=>?_,rfl⟩)
   ·omega
   ·rw[Ef,Ef];by_cases c1:(b,a)=(x,y)
    ·cases c1;exact if_pos rfl
    ·rw[if_neg c1];by_cases c2:(a,b)=(x,y)
     ·cases c2;exact if_pos rfl
     ·rw[if_neg c2];refine hv x y ?_;unfold Adj at z ⊢;rw[tk,K_,K_,t_,t_] at z
      rcases z with(z | z) | (z | z)
      ·exact .inl z
      ·exact absurd z.symm c2
      ·exact .inr z
      ·exact absurd (by cases z;rfl) c1
  ·rintro Y ⟨kvs,x4,x5,_,hv,rfl⟩;refine hK _ ?_;rw[s_,Qu] at hv;exact⟨_,_,rfl,hE _ _ ⟨_,rfl,kvs,rfl,hv⟩⟩
 obtain⟨r,aS,e,kvs,rfl,hv⟩:=aT;exact⟨kvs,by unfold ckF;rw[e],hv⟩
theorem Kk(W:Web n rs rk)(hw:∀p∈hs,Wf f p.2)(h1:1<=f)(hf:f<=3)(hl:hs.length<=8)(ll:l.length=f)(hi:i < hs.length)(hv:∀a b,Adj rs a b->valP kvs (a,b)=some (tlD sp rs hs a b)):crF ux (webD n rs) (hsD hs) kvs [.int h,letD l,.int (i:Int)]=some (match chO sp rs hs l h (hAt hs i) with | some l=>.lst l | none=>.non):=by
 have ix:=EL hi;have nX:=hw _ (AE hi);have hb:=wa (w:=(hAt hs i).2) (l:=l) (by rw[nX.len,ll]) (by rw[nX.len];omega);have wy:=JW W 21 none h (hAt hs i).1 (by omega) (λx z=>by cases z) (by simp[mu])
 change wpF (uf 21) ([webD n rs,D.int h,D.int (hAt hs i).1,D.int (-1)].map .val) _ at wy
 obtain⟨m1,m2⟩:=uZ wy;have wt:=zh (l:=l) hi;have on:=zM W 21 none h (hAt hs i).1
 have aT:wpF ux [.val (webD n rs),.val (hsD hs),.rdc kvs,.val (.int h),.val (letD l),.val (.int (i:Int))] λr _=>r=.val (match chO sp rs hs l h (hAt hs i) with | some l=>.lst l | none=>.non):=by
  unfold chO;generalize hAt hs i=p at *;refine sP rfl λKE hE _=>?_
  rw[Ap];refine qw ?_;rintro K hK -
  have ea:(consA (nm 0) (consA (nm 3) (consA (op2 ixF (op2 ixF (nm 1) (nm 5)) (ret (.int 0))) (consA (un1 negI (ret (.int 1))) nilA)))) [some (.val (webD n rs)),some (.val (hsD hs)),some (.rdc kvs),some (.val (.int h)),some (.val (letD l)),some (.val (.int (i:Int))),none,none,none,none,none]=some ([webD n rs,.int h,.int p.1,.int (-1)],[some (.val (webD n rs)),some (.val (hsD hs)),some (.rdc kvs),some (.val (.int h)),some (.val (letD l)),some (.val (.int (i:Int))),none,none,none,none,none]):=by
   simp[consA,nilA,bnd,nm,ret,op2,lft,ix,un1]
  simp only[tR];cases e:Wy (nbs rs) 21 none h p.1 with
  | none =>
   refine xy ea (m2 (by rw[e];rfl)) ?_;refine⟨by simp,hK _ ?_⟩;refine qw ?_;rintro K hK hR;show wp _ [some (.val (webD n rs)),some (.val (hsD hs)),some (.rdc kvs),some (.val (.int h)),some (.val (letD l)),some (.val (.int (i:Int))),some (.val .non),none,none,none,none] _;simp[isN];refine hR _ _ (hE _ _ ⟨_,rfl,?_⟩);rw[e];cases hasB p.2 l<;>rfl
  | some q =>
   have lq:=(tm e).2;have on:=on q (λx z=>by cases z) (by simp[mu]) e;rw[e] at hE;refine vy ea (m1 _ (by rw[e];rfl)) ?_;refine⟨by simp,hK _ ?_⟩;refine qw ?_;rintro K hK hR;show wp _ [some (.val (webD n rs)),some (.val (hsD hs)),some (.rdc kvs),some (.val (.int h)),some (.val (letD l)),some (.val (.int (i:Int))),some (.val (.lst (q.map D.int))),none,none,none,none] _;cases c:hasB p.2 l with
   | false =>
    rw[c] at hb;simp[isN,ix,hb];exact hR _ _ (hE _ _ ⟨_,rfl,by rw[c];rfl⟩)
   | true =>
    rw[c] at hb hE;simp[isN,ix,hb];refine hK _ ?_;refine qw ?_;rintro K hK -;refine⟨_,_,rfl,hK _ ?_⟩;show wp _ [some (.val (webD n rs)),some (.val (hsD hs)),some (.rdc kvs),some (.val (.int h)),some (.val (letD l)),some (.val (.int (i:Int))),some (.val (.lst (q.map D.int))),some (.own []),none,none,none] _;refine qw ?_;rintro K hK -;have ez:pairsD (q.map D.int) (q.map D.int).tail=(q.zip q.tail).map λr=>D.tup [.int r.1,.int r.2]:=by rw[←List.map_tail,uS]
    have cd:cutD (q.map D.int) (some 1) none=(q.map D.int).drop 1:=wW (n:=1);have lz:(q.zip q.tail).length<=21:=by simp;omega
    simp[cd,ez];refine sj (J:=λi' Y=>∃x8 x9 cq,Y=[some (.val (webD n rs)),some (.val (hsD hs)),some (.rdc kvs),some (.val (.int h)),some (.val (letD l)),some (.val (.int (i:Int))),some (.val (.lst (q.map D.int))),some (.own (((q.zip q.tail).take i').map (stpD sp rs hs l))),x8,x9,cq]) ⟨none,none,none,rfl⟩ ?_ ?_
    ·rintro i' d Y hd ⟨x8,x9,cq,rfl⟩ KL az - - -;have gF:=(m_.mp hd).1;rw[s_] at gF;rw[u_,C_] at hd;obtain⟨⟨a,b⟩,hr,rfl⟩:=hd;have tk:(q.zip q.tail).take (i'+1)=(q.zip q.tail).take i'++[(a,b)]:=by rw[QK,hr];rfl
     obtain⟨o1,o2⟩:=on (a,b) (B_ hr);have hT:=(uD (sp:=sp) (N:=nbs rs) hw 20 (some a) b).1;have nU:(tl sp (nbs rs) hs 20 (some a) b).length<=hs.length:=y_ (wR 20 (some a) b) (yR (W.nodup W.nb W.nb_nodup _ _ _));obtain⟨T,e5⟩:=EG (sp:=sp) W hw ll o1 (wt c) o2;have bO:=hv a b o1;unfold tlD at bO;have al:((q.zip q.tail).take i').length<=21:=by rw[SN];omega
     rw[tk,Rw] at az;generalize (q.zip q.tail).take i'=ag at *;generalize tl sp (nbs rs) hs 20 (some a) b=TL at *;simp;refine qw ?_;rintro K2 a9 -;simp only[tR,Nk];refine sB TL wishD (λw=>hasB w l) wishD ?_;simp only[Kx];refine Mf rfl rfl bO ?_;simp;refine⟨by omega,λw m=>?_,a9 _ ?_⟩;clear a9
     ·have:=wa (w:=w) (l:=l) (by rw[(hT w m).len,ll]) (by rw[(hT w m).len];omega);simp[this]
     ·rw[e5];simp[isMut,R.mut];exact⟨by omega,az _ ⟨_,_,_,by simp[stpD];exact⟨rfl,rfl,rfl⟩⟩⟩
    ·rintro Y ⟨x8,x9,cq,rfl⟩;refine hK _ ?_;rw[s_,Qu];simp;exact hE _ _ ⟨_,rfl,rfl⟩
 obtain⟨r,aS,e,rfl⟩:=aT;unfold crF;have e:ux (.val (webD n rs)::.val (hsD hs)::.rdc kvs::[D.int h,letD l,.int (i:Int)].map .val)=_:=e;rw[e]
end
theorem fn1E{F:List D->Option D}{t:M (List D)}(e1:t Y=some (ds,Y))(e2:F ds=some d):fn1 F t Y=some (d,Y):=by simp only[fn1,bnd,e1,lft,e2]
theorem orE{a b:M Bool}(e1:a Y=some (false,Y))(e2:b Y=some (false,Y)):orT a b Y=some (false,Y):=by simp[orT,bnd,e1,e2]
theorem neE{A C:M D}(e1:A Y=some (d,Y))(e2:C Y=some (d,Y))(h:dep d<=100):tst (op2 (eqF true) A C) Y=some (false,Y):=by
 have e3:eqF true d d=some (.bl false):=by
  unfold eqF;rw[if_pos (.inl h),DL.vQ];rfl
 simp only[tst,op2,bnd,e1,e2,lft,e3,asB]
theorem notE{A:M D}(e:A Y=some (.bl true,Y)):notT (tst A) Y=some (false,Y):=by simp[notT,tst,bnd,e,lft,asB,ret]
theorem FS{c:List D}{f:Nat}{Q:R->List D->Prop}(n1:1<=n)(n8:n<=8)(hc:PotOk c)(h0:1<=f)(hf:f<=3)(k:∀(hs:HS) c',(∀p∈hs,Wf f p.2)->(∀p∈hs,0<=p.1/\p.1 < n)->hs.length<=8->PotOk c'->Q (.own (hs.map holdD)) c'):wpB xc c [webD n rs,.int f,.int 6] Q:=by
 refine vb rfl λKE hE _=>?_
 rw[zU];refine qw ?_;rintro K hK -;simp[isMut,R.mut];refine Gb hc h0 hf (by omega) (by omega) λws c aI iw hc=>?_
 simp;refine hK _ ?_;simp;obtain⟨J,hJ⟩:∃J:Nat->List D->Gm->Prop,∀i ag Y,J i ag Y↔∃(c:List D) (hs:HS),PotOk c/\ag=hs.map holdD/\(∀p∈hs,0<=p.1/\p.1 < n)/\hs.map (·.2)=ws.take i/\Y=[some (.bor c),some (.val (webD n rs)),some (.val (.int f)),some (.val (.int 6)),some (.val (.lst (ws.map wishD)))]:=⟨_,λ_ _ _=>VH⟩;refine xb J ?_;simp;refine⟨by omega,(hJ _ _ _).mpr ⟨c,[],hc,rfl,by simp,rfl,rfl⟩,?_,?_⟩
 ·intro i d ag ai w hw e j;subst e;obtain⟨c4,hs,hc,rfl,hr,hi,rfl⟩:=(hJ _ _ _).mp j;simp[isMut,R.mut];refine sr hc (by omega) (by omega) λx c5 ju kZ hc=>?_
  simp;refine⟨_,_,⟨rfl,rfl⟩,(hJ _ _ _).mpr ⟨c5,hs++[(x,w)],hc,by simp[holdD],λp hp=>?_,?_,rfl⟩⟩
  ·rcases K_.mp hp with hp | hp
   ·exact hr p hp
   ·rw[t_.mp hp];exact⟨ju,kZ⟩
  ·rw[Rw,hi,QK,hw];rfl
 ·intro ag ai j;obtain⟨c4,hs,hc,rfl,hr,hi,rfl⟩:=(hJ _ _ _).mp j;rw[Qu] at hi;have ln:hs.length=ws.length:=by rw[←hi,s_]
  exact hE _ _ _ ⟨_,rfl⟩ (k hs c4 (λp hp=>aI _ (by rw[←hi];exact F_.mpr ⟨p,hp,rfl⟩)) hr (by omega) hc)
theorem F7(h:[D.str "roof", D.str "spare"][i]?=some d):∃sp,d=howD sp:=by
 match i,h with
 | 0,h=>cases h;exact⟨false,rfl⟩
 | 1,h=>cases h;exact⟨true,rfl⟩
 | i+2,h=>simp at h
section
variable{rk:Int->Nat}{f:Nat}{hs:HS}{kvs:List ((Int×Int)×D)}
noncomputable def oD(o:Option (List D)):D:=match o with
 | some l=>.lst l
 | none=>.non
theorem Kb(hw:∀p∈hs,Wf f p.2)(hf:f<=3){p:Int×List (Int×Int)}:SzK 8 (oD (chO sp rs hs l h p)):=by
 have fl:∀r,(fstW sp rs hs l r).length<=3:=λr=>by
  have tw:=(uD (sp:=sp) (N:=nbs rs) hw 20 (some r.1) r.2).1;unfold fstW;generalize tl sp (nbs rs) hs 20 (some r.1) r.2=T at *;cases e:T.filter λw=>hasB w l with
  | nil=>exact Qp _
  | cons w T' =>
   have:w∈T.filter λw=>hasB w l:=by rw[e];exact k_
   have:=(tw w (G_.mp this).1).len;show w.length<=3;omega
 unfold chO;split
 ·cases e:Wy (nbs rs) 21 none h p.1 with
  | none=>exact trivial
  | some q =>
   have lq:=(tm e).2;refine⟨by simp;omega,λd hd=>?_⟩;obtain⟨r,_,rfl⟩:=F_.mp hd;refine⟨by simp,λd hd=>?_⟩;simp at hd
   rcases hd with rfl | rfl | rfl
   ·exact trivial
   ·exact trivial
   ·refine⟨by simp;have:=fl r;omega,λd hd=>?_⟩;obtain⟨r,_,rfl⟩:=F_.mp hd;refine⟨by simp,λd hd=>?_⟩;simp at hd
    rcases hd with rfl | rfl<;>exact trivial
 ·exact trivial
theorem JY(W:Web n rs rk)(hw:∀p∈hs,Wf f p.2)(hh:∀p∈hs,0<=p.1/\p.1 < n)(h1:1<=f)(hf:f<=3)(hl:hs.length<=8)(ll:l.length=f)(h0:0<=h)(hn:h < n)(hi:i < hs.length)(hv:∀a b,Adj rs a b->valP kvs (a,b)=some (tlD sp rs hs a b)){a0 a1 a2 a3 a6 a7 a8 bi bj bn:Option R}{K:Fl->Gm->Prop}(hK:∀bi bj bn,K .nx [a0,a1,a2,a3,some (.val (webD n rs)),some (.val (hsD hs)),a6,a7,a8,some (.val (.int h)),some (.val (letD l)),some (.val (howD sp)),some (.dic kvs),some (.val (.int (i:Int))),bi,bj,bn]):
  wp (seqS (setV 14 (callR 12 ux (nm 4) (nm 5) (consA (nm 9) (consA (nm 10) (consA (nm 13) nilA)))))
  (seqS (setV 15 (frz (fn1 lstF (consA (nm 5) nilA))))
  (seqS (setV 16 (altM (frz (fn1 (coF uy) (consA (nm 4) (consA (nm 15) (consA (nm 11) (consA (nm 9) (consA (nm 10) (consA (nm 13) nilA)))))))) (fn1 (cvF uy) (consA (nm 4) (consA (nm 15) (consA (nm 11) (consA (nm 9) (consA (nm 10) (consA (nm 13) nilA)))))))))
  (ifS (orT (notT (tst (fn1 (cvF (sW 8)) (consA (nm 16) (consA (nm 14) nilA))))) (tst (op2 (eqF true) (nm 15) (nm 5))))
  (retS (ret (.bl false))) (ret .nx))))) [a0,a1,a2,a3,some (.val (webD n rs)),some (.val (hsD hs)),a6,a7,a8,some (.val (.int h)),some (.val (letD l)),some (.val (howD sp)),some (.dic kvs),some (.val (.int (i:Int))),bi,bj,bn] K:=by
 have qt:=Kk (sp:=sp) (h:=h) W hw h1 hf hl ll hi hv;have ch:=Mo (sp:=sp) W hw hh h1 hf hl ll h0 hn hi;obtain⟨m1,m2⟩:=uZ ch;have sm:=zo (Kb (sp:=sp) (rs:=rs) (l:=l) (h:=h) (p:=hAt hs i) hw hf);have dh:=Fm (hs:=hs)
 have tail:∀d:D,cvF (sW 8) [d,d]=some (.bl true)->wp (ifS (orT (notT (tst (fn1 (cvF (sW 8)) (consA (nm 16) (consA (nm 14) nilA))))) (tst (op2 (eqF true) (nm 15) (nm 5))))
  (retS (ret (.bl false))) (ret .nx)) [a0,a1,a2,a3,some (.val (webD n rs)),some (.val (hsD hs)),a6,a7,a8,some (.val (.int h)),some (.val (letD l)),some (.val (howD sp)),some (.dic kvs),some (.val (.int (i:Int))),some (.val d),some (.val (hsD hs)),some (.val d)] K:=λd sm=>by
  refine wk.mpr ⟨false,_,orE (notE (fn1E rfl sm)) (neE rfl rfl (by omega)),?_⟩;exact⟨_,_,rfl,hK _ _ _⟩
 refine qw ?_;rintro K1 bN -;simp only[tR];refine Kq rfl rfl rfl rfl qt ?_;refine⟨by simp,bN _ ?_⟩;clear bN;refine qw ?_;rintro K1 bN -;have ls:lstF [hsD hs]=some (hs.map holdD):=by simp[hsD]
 simp[ls];refine bN _ ?_;clear bN;refine qw ?_;rintro K1 bN -;simp only[tR];generalize chO sp rs hs l h (hAt hs i)=o at *;cases o with
 | some L =>
  refine vy rfl (m1 _ rfl) ?_;exact⟨by simp,bN _ (tail _ sm)⟩
 | none =>
  refine xy rfl (m2 rfl) ?_;exact⟨by simp,bN _ (tail _ sm)⟩
end
theorem law_true(ns:List Int)(gy:ns.length<=63):∃rs,uu [.val (.lst (ns.map D.int))]=some (.val (.bl true),rs):=by
 have aT:wpF uu [.val (.lst (ns.map D.int))] λr _=>r=.val (.bl true):=by
  refine sP rfl λKE hE _=>?_
  rw[zv];refine qw ?_;rintro K hK -;obtain⟨c,hc,hp⟩:=G2 ns;simp[hc];refine hK _ ?_;refine qw ?_;rintro K hK hR;simp;refine sj (J:=λi Y=>∃c x2 x3 x4 x5 x6 x7 x8 x9 cq cf cg bH bi bj bn,PotOk c/\Y=[some (.val (.lst (ns.map .int))),some (.own c),x2,x3,x4,x5,x6,x7,x8,x9,cq,cf,cg,bH,bi,bj,bn]) ⟨c,_,_,_,_,_,_,_,_,_,_,_,_,_,_,_,hp,rfl⟩ ?_ ?_
  ·rintro i d Y - ⟨c,x2,x3,x4,x5,x6,x7,x8,x9,cq,cf,cg,bH,bi,bj,bn,hc,rfl⟩ KL az - - -;clear hK hR hE hp;refine⟨_,_,rfl,?_⟩;show wp _ [some (.val (.lst (ns.map .int))),some (.own c),some (.val d),x3,x4,x5,x6,x7,x8,x9,cq,cf,cg,bH,bi,bj,bn] _;refine qw ?_;rintro K hK -;simp[isMut,R.mut];refine sr hc (by omega) (by omega) λf0 c rm rn hc=>?_
   obtain⟨f,hf⟩:∃f:Nat,1+f0=f:=⟨(1+f0).toNat,by omega⟩;simp[hf];refine hK _ ?_;refine qw ?_;rintro K hK -;simp[isMut,R.mut];refine Lj hc (by omega) (by omega) λn rs rk c W hc=>?_
   simp;refine hK _ ?_;refine qw ?_;rintro K hK -;simp[isMut,R.mut];refine FS W.n1 W.n8 hc (by omega) (by omega) λhs c hw hh hl hc=>?_
   simp;refine hK _ ?_
   change wp _ [some (.val (.lst (ns.map .int))),some (.own c),some (.val d),some (.val (.int f)),some (.val (webD n rs)),some (.val (hsD hs)),x6,x7,x8,x9,cq,cf,cg,bH,bi,bj,bn] _
   refine qw ?_;rintro K hK -;simp;obtain⟨J,hJ⟩:∃J:Nat->List D->Gm->Prop,∀i ag Y,J i ag Y↔∃(c:List D) (l:List Int),PotOk c/\ag=l.map D.int/\l.length=i/\Y=[some (.val (.lst (ns.map .int))),some (.own c),some (.val d),some (.val (.int f)),some (.val (webD n rs)),some (.val (hsD hs)),x6,x7,x8,x9,cq,cf,cg,bH,bi,bj,bn]:=⟨_,λ_ _ _=>VH⟩;refine xb J ?_;simp;refine⟨by omega,by omega,(hJ _ _ _).mpr ⟨c,[],hc,rfl,rfl,rfl⟩,?_,?_⟩
   ·intro i d ag ai hd j;obtain⟨c4,l,hc,rfl,hi,rfl⟩:=(hJ _ _ _).mp j;obtain⟨rfl,cp⟩:=v7 hd;obtain⟨kk,k5⟩:∃kk:Int,0+(i:Int)=kk:=⟨_,rfl⟩;rw[k5];simp[isMut,R.mut];refine sr hc (by omega) (by omega) λx c5 ju kZ hc=>?_
    simp;exact⟨_,_,⟨rfl,rfl⟩,(hJ _ _ _).mpr ⟨c5,l++[x],hc,by simp,by simp[hi],rfl⟩⟩
   ·intro ag ai j;obtain⟨c4,l0,hc,rfl,hi,rfl⟩:=(hJ _ _ _).mp j;clear hJ j;simp;refine hK _ ?_
    change wp _ [some (.val (.lst (ns.map .int))),some (.own c4),some (.val d),some (.val (.int f)),some (.val (webD n rs)),some (.val (hsD hs)),some (.own ([l0].map letD)),x7,x8,x9,cq,cf,cg,bH,bi,bj,bn] _
    refine qw ?_;rintro K hK -;simp[hsD];refine sj (J:=λi Y=>∃c L x7 x8,PotOk c/\0 < L.length/\L.length<=1+i/\(∀l∈L,l.length=f)/\Y=[some (.val (.lst (ns.map .int))),some (.own c),some (.val d),some (.val (.int f)),some (.val (webD n rs)),some (.val (hsD hs)),some (.own (L.map letD)),x7,x8,x9,cq,cf,cg,bH,bi,bj,bn]) ⟨c4,[l0],x7,x8,hc,by simp,by simp,by simpa using hi,rfl⟩ ?_ ?_
    ·rintro i d2 Y hd ⟨c,L,x7,x8,hc,L0,L1,La,rfl⟩ rp nY - - -;rw[u_,C_] at hd;obtain⟨⟨a,w⟩,hp,rfl⟩:=hd
     have i2:i < 8:=by
      have:=(m_.mp hp).1;omega
     have ww:=hw _ (B_ hp);have wl:=ww.len;simp only at wl;refine⟨_,_,rfl,?_⟩;show wp _ [some (.val (.lst (ns.map .int))),some (.own c),some (.val d),some (.val (.int f)),some (.val (webD n rs)),some (.val (hsD hs)),some (.own (L.map letD)),some (.val (.int a)),some (.val (wishD w)),x9,cq,cf,cg,bH,bi,bj,bn] _;simp[isMut,R.mut];obtain⟨J,hJ⟩:∃J:Nat->List D->Gm->Prop,∀i ag Y,J i ag Y↔∃(c:List D) (l:List Int),PotOk c/\ag=l.map D.int/\l.length=i/\Y=[some (.val (.lst (ns.map .int))),some (.own c),some (.val d),some (.val (.int f)),some (.val (webD n rs)),some (.val (hsD hs)),some (.own (L.map letD)),some (.val (.int a)),some (.val (wishD w)),x9,cq,cf,cg,bH,bi,bj,bn]:=⟨_,λ_ _ _=>VH⟩;refine xb J ?_;simp[wishD];refine⟨by omega,(hJ _ _ _).mpr ⟨c,[],hc,rfl,rfl,rfl⟩,?_,?_⟩
     ·intro i d3 ag ai x y hx e j;subst e;obtain⟨c4,l,hc,rfl,hi,rfl⟩:=(hJ _ _ _).mp j;simp[isMut,R.mut];refine sr hc (by omega) (by omega) λz c5 qp qq hc=>?_
      have hz:z=0\/z=1:=by omega
      rcases hz with rfl | rfl
      ·simp[pairD];exact⟨_,_,⟨rfl,rfl⟩,(hJ _ _ _).mpr ⟨c5,l++[x],hc,by simp,by simp[hi],rfl⟩⟩
      ·simp[pairD];exact⟨_,_,⟨rfl,rfl⟩,(hJ _ _ _).mpr ⟨c5,l++[y],hc,by simp,by simp[hi],rfl⟩⟩
     ·intro ag ai j;obtain⟨c4,l,hc,rfl,hi,rfl⟩:=(hJ _ _ _).mp j;simp;refine⟨by omega,nY _ ⟨c4,L++[l],some (.val (.int a)),some (.val (wishD w)),hc,by simp,by simp;omega,λl' eF=>?_,by simp[letD]⟩⟩
      rcases K_.mp eF with eF | eF
      ·exact La l' eF
      ·rw[t_.mp eF,hi,wl]
    ·rintro Y ⟨c,L,x7,x8,hc,L0,L1,La,rfl⟩;refine hK _ ?_;rw[s_] at L1;have n1:=W.n1;have n8:=W.n8;refine qw ?_;rintro K hK -;simp[isMut,R.mut];refine sr hc (by omega) (by omega) λh c h0 hn hc=>?_
     simp;refine hK _ ?_;refine qw ?_;rintro K hK -;simp[isMut,R.mut];refine sr hc (by omega) (by omega) λz c z0 z1 hc=>?_
     obtain⟨l,ml,el⟩:=AO (f:=letD) (xs:=L) (i:=z) (by omega) (by omega);have ll:=La _ ml;simp[el];refine hK _ ?_
     change wp _ [some (.val (.lst (ns.map .int))),some (.own c),some (.val d),some (.val (.int f)),some (.val (webD n rs)),some (.val (hsD hs)),some (.own (L.map letD)),x7,x8,some (.val (.int h)),some (.val (letD l)),cf,cg,bH,bi,bj,bn] _
     refine AY.mpr ⟨[.str "roof", .str "spare"],_,rfl,?_⟩;refine sj (J:=λi Y=>∃cf cg bH bi bj bn,Y=[some (.val (.lst (ns.map .int))),some (.own c),some (.val d),some (.val (.int f)),some (.val (webD n rs)),some (.val (hsD hs)),some (.own (L.map letD)),x7,x8,some (.val (.int h)),some (.val (letD l)),cf,cg,bH,bi,bj,bn]) ⟨_,_,_,_,_,_,rfl⟩ ?_ ?_
     ·rintro i d4 Y qu ⟨cf,cg,bH,bi,bj,bn,rfl⟩ rq nZ - - -;obtain⟨sp,rfl⟩:=F7 qu;obtain⟨kvs,ek,hv⟩:=Jd (sp:=sp) W hw (by omega) (by omega) hl;refine⟨_,_,rfl,?_⟩;refine qw ?_;rintro K hK -;refine ML rfl ek (by simp) (hK _ ?_);show wp _ [some (.val (.lst (ns.map .int))),some (.own c),some (.val d),some (.val (.int f)),some (.val (webD n rs)),some (.val (hsD hs)),some (.own (L.map letD)),x7,x8,some (.val (.int h)),some (.val (letD l)),some (.val (howD sp)),some (.dic kvs),bH,bi,bj,bn] _;have lH:lenF [hsD hs]=some (.int hs.length):=by simp[hsD]
      refine AY.mpr ?_;simp[lH];refine⟨by omega,?_⟩;refine sj (J:=λi Y=>∃bH bi bj bn,Y=[some (.val (.lst (ns.map .int))),some (.own c),some (.val d),some (.val (.int f)),some (.val (webD n rs)),some (.val (hsD hs)),some (.own (L.map letD)),x7,x8,some (.val (.int h)),some (.val (letD l)),some (.val (howD sp)),some (.dic kvs),bH,bi,bj,bn]) ⟨_,_,_,_,rfl⟩ ?_ ?_
      ·rintro i d5 Y qv ⟨bH,bi,bj,bn,rfl⟩ rz n4 - - -;obtain⟨rfl,rA⟩:=v7 qv;have ei:0+(i:Int)=i:=by omega
       rw[ei];refine⟨_,_,rfl,?_⟩;exact JY (sp:=sp) W hw hh (by omega) (by omega) hl ll h0 hn (by omega) hv λbi bj bn=>n4 _ ⟨_,_,_,_,rfl⟩
      ·rintro Y ⟨bH,bi,bj,bn,rfl⟩;exact nZ _ ⟨_,_,_,_,_,_,rfl⟩
     ·rintro Y ⟨cf,cg,bH,bi,bj,bn,rfl⟩;exact az _ ⟨_,_,_,_,_,_,_,_,_,_,_,_,_,_,_,_,hc,rfl⟩
  ·rintro Y ⟨c,x2,x3,x4,x5,x6,x7,x8,x9,cq,cf,cg,bH,bi,bj,bn,hc,rfl⟩;refine hK _ ?_;exact⟨_,_,rfl,hE _ _ ⟨_,rfl,rfl⟩⟩
 obtain⟨r,aS,e,rfl⟩:=aT;exact⟨aS,e⟩
end Own
namespace PySem.W.Fast
theorem tw944839759610055360:True:=⟨⟩
theorem tw1245335180602473424:True:=⟨⟩
theorem tw12932774670078930994:True:=⟨⟩
theorem tw14825209357290133886:True:=⟨⟩
theorem tw11268845729321418992:True:=⟨⟩
theorem tw17754020993203858354:True:=⟨⟩
theorem tw536840457345179530:True:=⟨⟩
theorem tw6551223281573586957:True:=⟨⟩
theorem tw15364452089203882224:True:=⟨⟩
theorem tw13487936889727840213:True:=⟨⟩
theorem tw13914986690804102111:True:=⟨⟩
theorem tw17523901609694150241:True:=⟨⟩
theorem tw15481633822040557678:True:=⟨⟩
theorem tw16405082746849063285:True:=⟨⟩
theorem tw11686468351613429203:True:=⟨⟩
theorem tw13246504619546748171:True:=⟨⟩
theorem tw5870885226379725241:True:=⟨⟩
theorem tw8417568022095444118:True:=⟨⟩
theorem tw11609165490993280542:True:=⟨⟩
theorem tw5865162954547804142:True:=⟨⟩
theorem tw12709575464821889934:True:=⟨⟩
theorem tw14364309054656806645:True:=⟨⟩
theorem tw12026399122149015314:True:=⟨⟩
theorem tw12659530031141433240:True:=⟨⟩
theorem tw7687116163111701873:True:=⟨⟩
theorem tw14988774768208686429:True:=⟨⟩
theorem tw15503520205624086024:True:=⟨⟩
theorem tw234023619758043245:True:=⟨⟩
theorem tw14127951612204194814:True:=⟨⟩
theorem tw545476179675930642:True:=⟨⟩
theorem tw2703141133636879998:True:=⟨⟩
theorem tw10207478212815787585:True:=⟨⟩
theorem tw12443525308099011763:True:=⟨⟩
theorem tw6831251950458941879:True:=⟨⟩
theorem tw14919862463646948460:True:=⟨⟩
theorem tw4763166945678903818:True:=⟨⟩
theorem tw6626128211642159976:True:=⟨⟩
theorem tw1084494650072737397:True:=⟨⟩
theorem tw13674056106096847018:True:=⟨⟩
theorem tw4692040428275197156:True:=⟨⟩
theorem tw16836201501128615570:True:=⟨⟩
theorem tw1578257660020932294:True:=⟨⟩
theorem tw8153367851560813403:True:=⟨⟩
theorem tw7190071649218112812:True:=⟨⟩
theorem tw7991230052499421546:True:=⟨⟩
theorem tw2395308851159571287:True:=⟨⟩
theorem tw8237062034506593771:True:=⟨⟩
theorem tw7923809051166204873:True:=⟨⟩
theorem tw4169511247351259742:True:=⟨⟩
theorem tw5883588543884816951:True:=⟨⟩
theorem tw7669774220987527257:True:=⟨⟩
theorem tw8939903147315127941:True:=⟨⟩
theorem tw16652844424830289667:True:=⟨⟩
theorem tw11203207315460647751:True:=⟨⟩
theorem tw12767903405931640443:True:=⟨⟩
theorem tw8542798271438057538:True:=⟨⟩
theorem tw2134391127672851980:True:=⟨⟩
theorem tw3785538254824532721:True:=⟨⟩
theorem tw17575207240792645929:True:=⟨⟩
theorem tw8170000512593283251:True:=⟨⟩
theorem tw9812019352084960961:True:=⟨⟩
theorem tw12470994009636704251:True:=⟨⟩
theorem tw10116384112316865588:True:=⟨⟩
theorem tw13235590233798372813:True:=⟨⟩
theorem tw11855262153621609041:True:=⟨⟩
theorem tw10973261845317456941:True:=⟨⟩
theorem tw183039339371677543:True:=⟨⟩
theorem tw6787260328345683061:True:=⟨⟩
theorem tw9990651033414896002:True:=⟨⟩
theorem tw6329628673006241974:True:=⟨⟩
theorem tw12504387248352983912:True:=⟨⟩
theorem tw1180844009325323585:True:=⟨⟩
theorem tw12608265961611900047:True:=⟨⟩
theorem tw10421219464301479729:True:=⟨⟩
theorem tw9949262075795656113:True:=⟨⟩
theorem tw12977463352739801317:True:=⟨⟩
theorem tw10777600906174883826:True:=⟨⟩
theorem tw6914800050582778860:True:=⟨⟩
theorem tw18124357336751481573:True:=⟨⟩
theorem tw11368731760830714488:True:=⟨⟩
theorem tw13612149076062804981:True:=⟨⟩
theorem tw10465852231117689202:True:=⟨⟩
theorem tw17939753339545770985:True:=⟨⟩
theorem tw1423048347234973473:True:=⟨⟩
theorem tw15887287158595165140:True:=⟨⟩
theorem tw608459977373928027:True:=⟨⟩
theorem tw8298082910179976829:True:=⟨⟩
theorem tw4197347951274982989:True:=⟨⟩
theorem tw10846462580021843356:True:=⟨⟩
theorem tw4404793642267010450:True:=⟨⟩
theorem tw2262525458458956489:True:=⟨⟩
theorem tw14059475474718922611:True:=⟨⟩
theorem tw7657673173501851289:True:=⟨⟩
theorem tw17120521107496903940:True:=⟨⟩
theorem tw12332345219535880672:True:=⟨⟩
theorem tw6166505883479387077:True:=⟨⟩
theorem tw13149730739503693207:True:=⟨⟩
theorem tw266429283469723659:True:=⟨⟩
theorem tw4388487465349089031:True:=⟨⟩
theorem tw5957617643010462132:True:=⟨⟩
theorem tw8025169392913006211:True:=⟨⟩
theorem tw3382166757171370398:True:=⟨⟩
theorem tw1390956117959025234:True:=⟨⟩
theorem tw10530520539802592371:True:=⟨⟩
theorem tw9515750378460252387:True:=⟨⟩
theorem tw11952386075448983289:True:=⟨⟩
theorem tw4204444439305041088:True:=⟨⟩
theorem tw16440899273506287730:True:=⟨⟩
theorem tw10728130101473533486:True:=⟨⟩
theorem tw3567872860712622058:True:=⟨⟩
theorem tw1317810048347941235:True:=⟨⟩
theorem tw3111780281057705538:True:=⟨⟩
theorem tw1333313722881623528:True:=⟨⟩
theorem tw9758844925642123318:True:=⟨⟩
theorem tw11773433116093531297:True:=⟨⟩
theorem tw18156119421632540129:True:=⟨⟩
theorem tw8261412006844435356:True:=⟨⟩
theorem tw14171109892546172454:True:=⟨⟩
theorem tw4576211116446019117:True:=⟨⟩
theorem tw3435768971401431356:True:=⟨⟩
theorem tw7132527897630094911:True:=⟨⟩
theorem tw8084342715013729357:True:=⟨⟩
theorem tw16239165131793936165:True:=⟨⟩
theorem tw12148033236449313155:True:=⟨⟩
theorem tw14606978918385611553:True:=⟨⟩
theorem tw16312161363308835210:True:=⟨⟩
theorem tw10828356872737083085:True:=⟨⟩
theorem tw8899641789784267501:True:=⟨⟩
theorem tw9752518154006323279:True:=⟨⟩
theorem tw10033605804146631132:True:=⟨⟩
theorem tw16781336670463818834:True:=⟨⟩
theorem tw7169690091839408372:True:=⟨⟩
theorem tw9037221009921452460:True:=⟨⟩
theorem tw17246163861151471103:True:=⟨⟩
theorem tw8297269686773368545:True:=⟨⟩
theorem tw4435835994426281651:True:=⟨⟩
theorem tw4039469862803769645:True:=⟨⟩
theorem tw5891116837268118887:True:=⟨⟩
theorem tw6183843391910665937:True:=⟨⟩
theorem tw12737217777135835547:True:=⟨⟩
theorem tw18298021841176901271:True:=⟨⟩
theorem tw17955796239018325077:True:=⟨⟩
theorem tw12342434622727393300:True:=⟨⟩
theorem tw13075035950323764714:True:=⟨⟩
theorem tw4873072940037816774:True:=⟨⟩
theorem tw8413469176116072637:True:=⟨⟩
theorem tw9085840986433879656:True:=⟨⟩
theorem tw16495014429336589087:True:=⟨⟩
theorem tw1781632887234492452:True:=⟨⟩
theorem tw10104077277908103620:True:=⟨⟩
theorem tw9138326040910187776:True:=⟨⟩
theorem tw9561876978401011134:True:=⟨⟩
theorem tw18231392073358015994:True:=⟨⟩
theorem tw14611444681256557743:True:=⟨⟩
theorem tw6808741409975052190:True:=⟨⟩
theorem tw5273740507162033646:True:=⟨⟩
theorem tw4335921314985792526:True:=⟨⟩
theorem tw1947655313647864823:True:=⟨⟩
theorem tw9213270234913604983:True:=⟨⟩
theorem tw10291885678502610470:True:=⟨⟩
theorem tw10053488721617246263:True:=⟨⟩
theorem tw15324967699571394314:True:=⟨⟩
theorem tw14885673076891891800:True:=⟨⟩
theorem tw5295335889733143162:True:=⟨⟩
theorem tw2176950739005267885:True:=⟨⟩
theorem tw14535646265781118253:True:=⟨⟩
theorem tw6416948175475698538:True:=⟨⟩
theorem tw17562660966630813824:True:=⟨⟩
theorem tw6652235454149523526:True:=⟨⟩
theorem tw14713395201394874220:True:=⟨⟩
theorem tw6749926073294095746:True:=⟨⟩
theorem tw10592043612133515066:True:=⟨⟩
theorem tw1148541519364036491:True:=⟨⟩
theorem tw2759606713352296078:True:=⟨⟩
theorem tw5939559861654919533:True:=⟨⟩
theorem tw5023301084325807633:True:=⟨⟩
theorem tw5702662053452156557:True:=⟨⟩
theorem tw17689676552930855340:True:=⟨⟩
theorem tw10903118208798993558:True:=⟨⟩
theorem tw14927382434092264620:True:=⟨⟩
theorem tw2369718701252346198:True:=⟨⟩
theorem tw14898106628659539629:True:=⟨⟩
theorem tw14686045745033955306:True:=⟨⟩
theorem tw16323154320990645816:True:=⟨⟩
theorem tw13390440424432786164:True:=⟨⟩
theorem tw5479922025882723262:True:=⟨⟩
theorem tw213203746268681085:True:=⟨⟩
theorem tw11670874107297328736:True:=⟨⟩
theorem tw11937277766006517058:True:=⟨⟩
theorem tw4393158781158835154:True:=⟨⟩
theorem tw3574864773965151463:True:=⟨⟩
theorem tw9094829885723959785:True:=⟨⟩
theorem tw997519419272786739:True:=⟨⟩
theorem tw12610006997377478091:True:=⟨⟩
theorem tw16242403404502458267:True:=⟨⟩
theorem tw15899998087629912803:True:=⟨⟩
theorem tw11154164097435331428:True:=⟨⟩
theorem tw7032154847671502148:True:=⟨⟩
theorem tw6282275076376149660:True:=⟨⟩
theorem tw12928384375251400807:True:=⟨⟩
theorem tw16013211363940312320:True:=⟨⟩
theorem tw44863018034560656:True:=⟨⟩
theorem tw16332684622235690164:True:=⟨⟩
theorem tw1530839974841031486:True:=⟨⟩
theorem tw12496039475498434025:True:=⟨⟩
theorem tw9700171296979753745:True:=⟨⟩
theorem tw1002169183829666337:True:=⟨⟩
theorem tw16569178926384077273:True:=⟨⟩
theorem tw10071207753422387952:True:=⟨⟩
theorem tw5117150006503188062:True:=⟨⟩
theorem tw9843085670312023458:True:=⟨⟩
theorem tw5257141005226665264:True:=⟨⟩
theorem tw7365104368313330389:True:=⟨⟩
theorem tw14436715582813860384:True:=⟨⟩
theorem tw14247733394111306672:True:=⟨⟩
theorem tw8310702210014554041:True:=⟨⟩
theorem tw14744010829704515033:True:=⟨⟩
theorem tw4311194707194268068:True:=⟨⟩
theorem tw5457763992645157881:True:=⟨⟩
theorem tw10042252442915462565:True:=⟨⟩
theorem tw17950706190337454546:True:=⟨⟩
theorem tw834789892171620159:True:=⟨⟩
theorem tw4850223386548002227:True:=⟨⟩
theorem tw2558591942933010104:True:=⟨⟩
theorem tw17469441089260009990:True:=⟨⟩
theorem tw3312751133634885657:True:=⟨⟩
theorem tw4381112524078113107:True:=⟨⟩
theorem tw10523722140645964440:True:=⟨⟩
theorem tw15528305779924032439:True:=⟨⟩
theorem tw4544672009522201361:True:=⟨⟩
theorem tw498560499263470551:True:=⟨⟩
theorem tw759067009155566211:True:=⟨⟩
theorem tw14676535959193611536:True:=⟨⟩
theorem tw10524992206662879861:True:=⟨⟩
theorem tw850131713414088275:True:=⟨⟩
theorem tw8527201770891861242:True:=⟨⟩
theorem tw13816853259931901239:True:=⟨⟩
theorem tw10931934390323435380:True:=⟨⟩
theorem tw7638942932633301511:True:=⟨⟩
theorem tw14899275396443079172:True:=⟨⟩
theorem tw1812709825384285567:True:=⟨⟩
theorem tw12569439176602546830:True:=⟨⟩
theorem tw16385789232002856489:True:=⟨⟩
theorem tw12416501881605010274:True:=⟨⟩
theorem tw12183223253203690901:True:=⟨⟩
theorem tw11973599677470624972:True:=⟨⟩
theorem tw6041235037721532390:True:=⟨⟩
theorem tw10727158825139692556:True:=⟨⟩
theorem tw2989040542491320689:True:=⟨⟩
theorem tw15082456590490747973:True:=⟨⟩
theorem tw4231474038639206871:True:=⟨⟩
theorem tw206194079052998557:True:=⟨⟩
theorem tw12551201418323232498:True:=⟨⟩
theorem tw16931800560430000371:True:=⟨⟩
theorem tw16926670391299711352:True:=⟨⟩
theorem tw2482333599093224981:True:=⟨⟩
theorem tw12034263250669935768:True:=⟨⟩
theorem tw14492620124920764057:True:=⟨⟩
theorem tw6034533281330631539:True:=⟨⟩
theorem tw16748495276534137999:True:=⟨⟩
theorem tw936771546152803928:True:=⟨⟩
theorem tw329288423371571768:True:=⟨⟩
theorem tw16333229972684893196:True:=⟨⟩
theorem tw827862670309128049:True:=⟨⟩
theorem tw9017464558964521380:True:=⟨⟩
theorem tw13975217886331356442:True:=⟨⟩
theorem tw18109031811904002839:True:=⟨⟩
theorem tw14326309439742085364:True:=⟨⟩
theorem tw3771032420539270447:True:=⟨⟩
theorem tw4246806733752948197:True:=⟨⟩
theorem tw8106092237621245224:True:=⟨⟩
theorem tw3142543073755768353:True:=⟨⟩
theorem tw14207560182511244158:True:=⟨⟩
theorem tw14918293167690265352:True:=⟨⟩
theorem tw18223158235933849228:True:=⟨⟩
theorem tw18079724987274076268:True:=⟨⟩
theorem tw12279204427853889487:True:=⟨⟩
theorem tw11927062799685652472:True:=⟨⟩
theorem tw11855405301381988885:True:=⟨⟩
theorem tw7856152202324324498:True:=⟨⟩
theorem tw1989291163623217932:True:=⟨⟩
theorem tw10759035794511741998:True:=⟨⟩
theorem tw11869349572407770210:True:=⟨⟩
theorem tw17787942306030109628:True:=⟨⟩
theorem tw8065511909056467365:True:=⟨⟩
theorem tw6986577447490670418:True:=⟨⟩
theorem tw1155725658857552504:True:=⟨⟩
theorem tw15902051911825132661:True:=⟨⟩
theorem tw5596630579396589648:True:=⟨⟩
theorem tw15877547141954692288:True:=⟨⟩
theorem tw2886803582447598144:True:=⟨⟩
theorem tw9404394573230648658:True:=⟨⟩
theorem tw17005163948398860356:True:=⟨⟩
theorem tw939909904315150792:True:=⟨⟩
theorem tw17955726019115782007:True:=⟨⟩
theorem tw10068588183121543483:True:=⟨⟩
theorem tw12821584009023701643:True:=⟨⟩
theorem tw14830937909776469377:True:=⟨⟩
theorem tw3208238208897237783:True:=⟨⟩
theorem tw14819809157563242792:True:=⟨⟩
theorem tw883599456255605500:True:=⟨⟩
theorem tw11662735709213403605:True:=⟨⟩
theorem tw6905319554499251413:True:=⟨⟩
theorem tw13678956019091807352:True:=⟨⟩
theorem tw3494655244263780931:True:=⟨⟩
theorem tw15813757688636596933:True:=⟨⟩
theorem tw18286402687496442225:True:=⟨⟩
theorem tw6057704972161094803:True:=⟨⟩
theorem tw13050901389341227796:True:=⟨⟩
theorem tw9070075767974860074:True:=⟨⟩
theorem tw3880224548509306653:True:=⟨⟩
theorem tw17057937315962500134:True:=⟨⟩
theorem tw625248550877645478:True:=⟨⟩
theorem tw9131272770212972401:True:=⟨⟩
theorem tw16762980418480664006:True:=⟨⟩
theorem tw11858473344741658380:True:=⟨⟩
theorem tw17780802627637037698:True:=⟨⟩
theorem tw11951421876774498532:True:=⟨⟩
theorem tw9307358940267141741:True:=⟨⟩
theorem tw12213887321168857196:True:=⟨⟩
theorem tw7350297026931334457:True:=⟨⟩
theorem tw13115925268483820172:True:=⟨⟩
theorem tw11026586533746376018:True:=⟨⟩
theorem tw11175267051321913829:True:=⟨⟩
theorem tw13692794026379752336:True:=⟨⟩
theorem tw8173267126423615927:True:=⟨⟩
theorem tw13808948702114949405:True:=⟨⟩
theorem tw10834489950631439247:True:=⟨⟩
theorem tw17526875648705527961:True:=⟨⟩
theorem tw7773451233780235181:True:=⟨⟩
theorem tw18393872868470809196:True:=⟨⟩
theorem tw15689929985084881277:True:=⟨⟩
theorem tw9257119866234197506:True:=⟨⟩
theorem tw2637985987208344191:True:=⟨⟩
theorem tw12686779693746693583:True:=⟨⟩
theorem tw7512877318695083448:True:=⟨⟩
theorem tw18437793851137741330:True:=⟨⟩
theorem tw2265264799390317092:True:=⟨⟩
theorem tw5980413359641924775:True:=⟨⟩
theorem tw4685579333778065818:True:=⟨⟩
theorem tw2019929497034203109:True:=⟨⟩
theorem tw17592638620314191237:True:=⟨⟩
theorem tw10824174134069673908:True:=⟨⟩
theorem tw14454581498886785039:True:=⟨⟩
theorem tw7930994087689058853:True:=⟨⟩
theorem tw3707461573710594548:True:=⟨⟩
theorem tw1128670137805117085:True:=⟨⟩
theorem tw9609275011235685103:True:=⟨⟩
theorem tw5713549636558774100:True:=⟨⟩
theorem tw14786723915415628798:True:=⟨⟩
theorem tw17388202364662025652:True:=⟨⟩
theorem tw4039591029893136597:True:=⟨⟩
theorem tw11472423594667061038:True:=⟨⟩
theorem tw13812924718718525109:True:=⟨⟩
theorem tw17885836146245901370:True:=⟨⟩
theorem tw8893587235321913627:True:=⟨⟩
theorem tw10875520788410489797:True:=⟨⟩
theorem tw11240535064549608875:True:=⟨⟩
theorem tw11516652543106722652:True:=⟨⟩
theorem tw12196372369640868483:True:=⟨⟩
theorem tw2878706067453239827:True:=⟨⟩
theorem tw10530205412572489403:True:=⟨⟩
theorem tw9216820268332205199:True:=⟨⟩
theorem tw5948215337426160990:True:=⟨⟩
theorem tw3058514086070194927:True:=⟨⟩
end PySem.W.Fast
open PySem PySem.W PyProof.Rows
set_option maxRecDepth 100000 in
set_option maxHeartbeats 0 in
theorem PySem.Challenge.cw_roofpost_k30_chains_to_holds_holds : PySem.Challenge.rw_roofpost_k30_chains_to_holds.Holds := by
 w_on;(refine holds_law wSaid λqJ=>?_);k_head;(case hw=>w_witness2)
 k_fill
 refine Own.walk (l:=PySem.Challenge.rw_roofpost_k30_chains_to_holds) Own.law_true rfl rfl (λw h rC=>PySem.W.kIn_of rC) ?F
 case F =>
  intro w mg fa h KX G gf;refine' Own.all_mk gf (Own.dn KX G ?_ ?_ ?_ ?_) (Own.dn KX G ?_ ?_ ?_ ?_) (Own.dn KX G ?_ ?_ ?_ ?_) (Own.dn KX G ?_ ?_ ?_ ?_) (Own.dn KX G ?_ ?_ ?_ ?_) (Own.dn KX G ?_ ?_ ?_ ?_) (Own.dn KX G ?_ ?_ ?_ ?_) (Own.dn KX G ?_ ?_ ?_ ?_) (Own.dn KX G ?_ ?_ ?_ ?_) (Own.dn KX G ?_ ?_ ?_ ?_) (Own.dn KX G ?_ ?_ ?_ ?_) (Own.dn KX G ?_ ?_ ?_ ?_) (Own.dn KX G ?_ ?_ ?_ ?_) (Own.dn KX G ?_ ?_ ?_ ?_) (Own.dn KX G ?_ ?_ ?_ ?_) (Own.dn KX G ?_ ?_ ?_ ?_) (Own.dn KX G ?_ ?_ ?_ ?_) (Own.dn KX G ?_ ?_ ?_ ?_) (Own.dn KX G ?_ ?_ ?_ ?_) (Own.dn KX G ?_ ?_ ?_ ?_) (Own.dn KX G ?_ ?_ ?_ ?_) (Own.dn KX G ?_ ?_ ?_ ?_) (Own.dn KX G ?_ ?_ ?_ ?_) (Own.dn KX G ?_ ?_ ?_ ?_) (Own.dn KX G ?_ ?_ ?_ ?_) (Own.dn KX G ?_ ?_ ?_ ?_) (Own.dn KX G ?_ ?_ ?_ ?_) (Own.dn KX G ?_ ?_ ?_ ?_) (Own.dn KX G ?_ ?_ ?_ ?_) (Own.dn KX G ?_ ?_ ?_ ?_) (Own.dn KX G ?_ ?_ ?_ ?_) (Own.dn KX G ?_ ?_ ?_ ?_) (Own.dn KX G ?_ ?_ ?_ ?_) (Own.dn KX G ?_ ?_ ?_ ?_) (Own.dn KX G ?_ ?_ ?_ ?_) (Own.dn KX G ?_ ?_ ?_ ?_) (Own.dn KX G ?_ ?_ ?_ ?_) (Own.dn KX G ?_ ?_ ?_ ?_) (Own.dn KX G ?_ ?_ ?_ ?_) (Own.dn KX G ?_ ?_ ?_ ?_) (Own.dn KX G ?_ ?_ ?_ ?_) (Own.dn KX G ?_ ?_ ?_ ?_) (Own.dn KX G ?_ ?_ ?_ ?_) (QG KX G ?_) (QG KX G ?_) (QG KX G ?_) (QG KX G ?_) (QG KX G ?_) (QG KX G ?_) (QG KX G ?_) (QG KX G ?_) (QG KX G ?_) (QG KX G ?_) (QG KX G ?_) (QG KX G ?_) (QG KX G ?_) (QG KX G ?_) (QG KX G ?_) (QG KX G ?_)
  any_goals k_is
