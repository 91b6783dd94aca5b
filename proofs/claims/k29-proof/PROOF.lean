import PyProof.Rows.All
import Wide.All
import OpenK.AllK
import Wide.FinOn
import Lean
import PyProof.EqAt
import PyProof.EqKinds
import PyProof.TupleCall
import PyProof.NeKinds
import PyProof.IsiSeqPairs
import PyProof.IsiNone
import KE.KSortTup
import KE.KRevSl
import PySem.Challenge.RW_roofpost_k29_where_a_letter_goes
set_option Elab.async false
set_option linter.all false
open Array (toList)
open Array.Perm (trans)
open Int (not_lt)
open List (filter length map map_drop sum_cons)
open List.Pairwise (imp_of_mem)
open List.Perm (swap)
open Option (getD_none map_some)
open Or (inr)
open PUnit (unit)
open PySem.Builtin.Frozenset (newClass slot0 updateFrom)
open PySem.Builtin.List (listExtendWith listLengthHint)
open PySem.Builtin.Range (rangeSize)
open PySem.Builtin.Slice (sliceApplied)
open PySem.Builtin.SmallTypes (stopIteration)
open PySem.Builtin.Tuple (tupleHashOf tupleItemsOf)
open PySem.Data (fields seq)
open PySem.IsiPair (bool_bool bool_int bool_list bool_str int_bool int_list int_str int_tuple str_bool str_int str_list str_str str_tuple)
open PySem.Obj (putSet)
open PySem.SeqAt (ne_of_list_tuple)
open PySem.Value (type)
open PySem.W (codeIn methodObj nsIn)
open Sum (inl)
set_option maxRecDepth 100000
open PySem renaming wpAny_bind→a_,Value→b_,Shared→c_,starEach→d_,wpAny_pure→e_,Addr→k_,wpAny→s_,model→t_,Program→A_,sizeLine→C_,World→I_,Heap→J_,eval→Nr,Expr→Ny,wpAny_newObj_type→NC,backTo→ND,compareOp→NJ,wpAny_callSpecial?_slot→NL,wpAny_holding→NN,Stmt→NO,wpAny_call_entry→NP,wpAny_truthy_bool→NQ,foldedSetIterable→NR,wpAny_setState_of→NT,NameKind→NV,SetTable→N0,wpAny_mono→N2,wpAny_seqItems→N4,swapsWith→N8,bootBuiltins→Ob,mainGlobals→Od,Around→Oe,sizeLine_eq→Of,assignEach→Oi,codeAny_builtin→Oj,plainId_quiet→Ol,wpAny_passesOwn→Os,Builtin→Ov,wpAny_field→Ow,wpAny_pyIter_list→Ox,behindInMarks→Oz,attributeBase→OB,cLine→OC,binaryOp→OF,bindArgs→OG,wpAny_of_eq→OM,wpAny_Call_Name_kw→ON,FuncData→O1,codeAny_mono→O6,wpAny_isInstance→O8,argBest→Pf,wpAny_updateSeq→Pg,IsPair→Pi,wpAny_setField_rec→Pj,sliceBounds→Pn,codeAny→Pp,wpAny_setField→Pr,ofAClassStatement→Py,searchCouldBeSeen→Pz,pyNext→PL,wpAny_attempt→PQ,wpAny_letGo→P0,wpAny_execs_nil→P7,assign→P8,letOwnedTupleGo→P9,wpAny_setEntries_of→Qc,holding→Qd,Keyword→Qe,Scope→Ql,keywordEach→QA,hashByValue→QH,swapsWithSole→QJ,swappedStores→QK,wpAny_comprehension_free→QQ,PassesOwn→QX,lastMarks→QY,noFill_tuple_add→QZ,pickOrder→Q9,wpAny_askSetting→Q_,rawInt→Rb,call_meets→Rj,wpAny_specialOf→Rq,builtinLookup_eq_fast→Rt,firstArgMember→Rz,wpAny_updateSeq_pair→RA,isSubtype_stop→RB,wpAny_tryCatch→RD,callerA→RM,wpAny_standAt→RS,seq_tuple_add→RT,IsZip→RU,pyIter→RW,IsPart→RX,wpAny_pyIter_tuple→RZ,wpAny_rule→R0,wpAny_assign_Name→R8,BindsTo→R9,concat_meets→R_,wpAny_typeOf→Sa,slot_list_getitem→Sb,backToKw→Sc,wpAny_pyIter_enum→Sg,wpAny_storeSet_of→Sk,wpAny_pyIter_slot→Sm,again→Sw,seqIndex_of→Sy,getItem→SA,builtinsNs→SF,isTrue→SG,wpAny_Name→SH,bindL→SK,bindC→SL,typeOf→SN,standAt→S2,collect→S7,setNext→S'
open PySem.Heap renaming get?_push_of_some→f_,get?_push_size→x_,lt_size→E_,get?_update_other→Nv,get?_update_self→NZ,size_push→OS
open List renaming getElem?_eq_getElem→g_,getD_eq_getElem?_getD→h_,mem_cons_of_mem→j_,mem_cons_self→m_,size_toArray→n_,length_append→o_,getElem?_eq_some_iff→p_,all_eq_true→q_,mem_singleton→r_,length_map→u_,mem_map→w_,getElem?_map→y_,mem_of_getElem?→B_,mem_cons→D_,mem_append_right→F_,map_cons→H_,mem_filter→K_,mem_append→L_,exists_cons_of_length_eq_add_one→M_,flatMap_cons→Nq,length_replicate→Nu,getElem?_set_ne→NE,replicate→NF,length_cons→NG,mem_append_left→NI,drop_eq_getElem_cons→NM,getElem_mem→NS,flatMap_append→NW,range→NY,append_nil→N3,any_eq_true→N5,mem_flatMap→N6,getElem?_append_right→N7,nodup_cons→N9,length_eq_zero_iff→N_,length_filter_le→Oa,append_assoc→Oc,getElem?_set_self→Og,zip_cons_cons→Om,take_length→On,length_singleton→Oo,mem_of_mem_take→Ot,getElem?_append_left→Ou,all_cons→Oy,length_set→OA,mem_range→OE,getElem?_replicate→OH,eraseIdx_cons_succ→OI,filter_cons_of_neg→OL,filter_eq_nil_iff→OQ,take_succ→OU,filter_append→OV,singleton_append→OX,concat_eq_append→OY,range_succ_eq_map→OZ,mergeSort_perm→O3,map_append→O5,getElem?_eq_none→O7,take_append_drop→O_,getElem?_zip_eq_some→Pa,isEmpty_eq_false_iff_exists_mem→Pb,forIn_cons→Ph,length_take→Pl,filter_cons_of_pos→Po,drop_of_length_le→Pq,drop_eq_nil_of_le→Pu,getElem_of_mem→Pw,eraseIdxIfInBounds_toArray→PC,eq_nil_or_concat→PK,getElem?_drop→PP,pairwise_cons→PR,length_drop→PZ,not_mem_nil→P3,getElem_toArray→P5,filter_cons→P6,mem_of_mem_drop→Qb,length_range→Qf,perm_append_comm_assoc→Qi,forIn_nil→Qj,Perm→Qk,filterMap_cons→Qm,mem_filterMap→Qp,drop_succ_cons→Qr,length_pos_iff→Qt,filter_sublist→Qw,pairwise_iff_getElem→Qx,getElem_map→QE,pairwise_map→QG,foldl_append→QI,getElem?_take_of_lt→QM,Pairwise→QN,getElem_range→QP,length_erase_of_mem→QV,find?_eq_none→QW,zipIdx_cons→Q6,pairwise_mergeSort→Q7,getElem_cons_succ→Rm,nodup_append→Rn,map_map→Ro,dropLast_eq_take→Ru,drop_eq_nil_iff→RC,cons_append→RJ,flatMap_nil→RK,nodup_nil→RN,take_succ_cons→RP,append_of_mem→R5,flatMap_assoc→R6,map_mergeSort→R7,map_take→Sq,find?_append→Sr,of_mem_zip→SM,any_cons→SR,length_zip→SU,Nodup→SY,foldl_cons→S0,set_set→S6
open Bool renaming false_ne_true→i_,and_eq_true→Nx,false_eq_true→Pd,not_eq_true'→Pv,not_true→PX,eq_iff_iff→Rr,false_and→Rw,eq_false_iff→Sl
open Array renaming getElem?_eq_getElem→l_,getElem?_eq_some_iff→Nw,length_toList→NU,getD_eq_getD_getElem?→Op,getElem?_eq_none→OP,getElem_mem→O0,perm_iff_toList_perm→O4,mem_iff_getElem?→O',getElem?_toList→PD,mem_of_getElem?→PJ,getElem_of_mem→P4,size_extract→Qh,getElem?_extract→Rk,forIn_toList→Rl,getElem_toList→RE,mem_toList_iff→RG,getElem?_push→RR,getD→Tb
open Nat renaming le_refl→v_,le_trans→z_,lt_of_lt_of_le→G_,ne_of_lt→NB,zero_le→NK,lt_irrefl→Oq,le_add_right→OO,lt_succ_of_lt→Pt,lt_trichotomy→PU,le_of_lt→PY,lt_succ_self→Qg,ne_of_gt→Qo,lt_or_ge→Qu,le_of_not_lt→Q5,le_of_ble_eq_true→Rv,not_lt_zero→RF,le_of_eq→Sd,le_of_lt_succ→Si,le_succ→SB,zero_add→SV,succ_pos→SX,mod_lt→S9
open PyProof.Rows renaming callWith_type1→Nt,slot_tuple_getitem→OD,callWith_builtin1→PM,seqObj→PN,AllBare→Qy,envOfC→Re,subscriptTail_builtinR→Rg,IntsAre→SC,IsTup→SE,boot_range→SJ,Call_→S_
open Option.some renaming inj→Nz
open Option renaming map_eq_some_iff→NA
open Ne renaming symm→NH
open PySem.W renaming mg_none_of→NX,keepIn→O2,fnOf→Rf,kas_rev→Sh,less→SQ,Looks→SW,OpenLaw→S4,WShape→S5
open PySem.SetTable renaming insertAt→N1,runEnd→OW,below→PH,bits→RQ,turns→SZ,leap→S8
open Int renaming eq_ofNat_of_zero_le→Oh,toNat_natCast→Pc,emod_lt_of_pos→Px,emod_nonneg→QF,le_of_lt→Se,le_trans→So
open PySem.F renaming plain_min_loop→OJ,plainAttrs_list→OR,called_set→Pk,slot_zip_next→P_,slot_tuple_iterator_next→Qs,args_tuple_add_2→Q0,entry_tuple_add→Rp,slot_enumerate_next→Rs,slot_tuple_add→Rx,args_zip_next_1→Sf,slot_tuple_hash→Sj,plain_list_iadd→Sn
open PyProof.Rows.F renaming plain_set_update_loop→OK,entry_set_update_loop→Q8
open PySem.Around renaming under_plainId→OT
open Nat.succ renaming inj→O9
open PySem.PassesOwn renaming never→Pe
open PySem.Obj renaming data_mapFields→Ps,isFreed_of_fields→PF,cls_mapFields→QC,mapSeq→Rh
open List.Sublist renaming refl→PB
open PySem.SetTable.layClean renaming free→PV
open Classical renaming byContradiction→Qa
open PySem.Calls renaming Name_function_global→Qn,spliced_cons→Qq,spliced_nil→Qz,callWith_builtin→Ri
open PySem.SetTable.probe renaming go→Qv
open PySem.AutoSeq1 renaming wpAny_loadPart'→QT
open PySem.Str renaming ofString→Q1
open Sum renaming inr→Ra
open PySem.Builtin.Slice renaming slicePlaces→Ry,sliceAdjust→Sx
open ForInStep renaming done→RH,yield→SO
open Function renaming comp_def→RI
open PySem.Data renaming cell→RL
open Prod.mk renaming injEq→RV
open PySem.Builtin.Tuple renaming tupleExact→RY
open PySem.Walks renaming list→R4
open Iff renaming rfl→Ss
open And renaming intro→Su
open PySem.SeqAt renaming RcNeAt→Sv,EqAt→S1
open PySem.Builtin.List renaming listTooLong→Sz
open PySem.Builtin.SmallTypes renaming nextOf→SS
open False renaming elim→S3
theorem wSaid:PySem.Challenge.rw_roofpost_k29_where_a_letter_goes.wellSaid=true:=by decide +kernel
local macro_rules|`(tactic|omega)=>`(tactic|first|with_reducible decide|with_reducible assumption|with_reducible (refine Nat.le_trans (m:=?x) ?p ?q;(case p=>assumption);(case q=>decide))|with_reducible (refine Int.le_trans (b:=?x) ?p ?q;(case p=>assumption);(case q=>decide))|with_reducible (refine Int.lt_of_lt_of_le (b:=?x) ?p ?q;(case p=>assumption);(case q=>decide))|with_reducible (refine Nat.lt_of_le_of_lt (m:=?x) ?p ?q;(case p=>assumption);(case q=>decide))|lia|omega (config:={}))
noncomputable section
variable{us vs ae its' fK:List PySem.Value}{a b f l1 l2 fa S:PySem.Addr}{h z low most:Int}{u cd pm ct oc vl vu:PySem.Value}{x y qual q:PySem.Str}{g':Array PySem.GenState}{t' i j k n tk m x1 ep jc ar kk:Nat}{d':PySem.Drawn}{ch fp:List PySem.Addr}{e tg iter ie:PySem.Expr}{fC aa:List (PySem.Addr×PySem.Obj)}{N ps cp:List PySem.Str}{A:PySem.Around}{s' s2 aB:PySem.Shared}{pos aH p1 aK aC p2 py bM tp cD p' px pc:PySem.Pos}{c hi:Option Int}{es:Array (Int×PySem.Value)}{p rs L qs:List (Int×Int)}{op bV:PySem.CmpOp}{fd:PySem.FuncData}{mg:PySem.Str->Option PySem.Value}{base h':PySem.Heap}{scope:PySem.Scope}{params:PySem.Arguments}{an od:Option PySem.Addr}{dO:Array (Option PySem.Value)}{sp neg:Bool}{ws T as:List (List (Int×Int))}{ai cells ah:Array PySem.Value}{l ns lb:List Int}{args:List PySem.W.WData}{g0 aZ bE:List PySem.Expr}{env:PySem.Env}{C:Int->Int->Bool}{bt:Nat->Nat->Bool}{eqf:Nat->Bool}{pr:Int×Int}
namespace L2
open PySem PySem.Spec PyProof.Rows
abbrev Key:=Sum Int Str
noncomputable def keyIs:Key->b_->Bool
 | .inl k,v=>b_.isInt k v
 | .inr x,v=>b_.isStrOf x v
noncomputable def keyH(w:I_):Key->Int
 | .inl k=>hashInt k
 | .inr x=>hashStr w x
theorem su:∀{k:Key}{v:b_},keyIs k v=true->(∃i t,k=inl i/\v=b_.int i t)\/(∃x t,k=Ra x/\v=b_.str x t)
 | .inl i,v,h=>by
  obtain⟨t,e⟩:=b_.isInt_shape (k:=i) (v:=v) h;exact .inl ⟨i,t,rfl,e⟩
 | .inr x,v,h=>by
  obtain⟨t,e⟩:=b_.isStrOf_shape (x:=x) (v:=v) h;exact .inr ⟨x,t,rfl,e⟩
theorem Hx(a b:Int):decide ((inl a:Key)=inl b)=(a == b):=by
 by_cases e:a=b
 ·subst e;simp
 ·have h:¬(inl a:Key)=inl b:=λq=>e (inl.inj q)
  rw[decide_eq_false h];exact(beq_eq_false_iff_ne.mpr e).symm
theorem F3(a b:Str):decide ((Ra a:Key)=Ra b)=decide (a=b):=by
 by_cases e:a=b
 ·subst e;simp
 ·have h:¬(Ra a:Key)=Ra b:=λq=>e (Ra.inj q)
  rw[decide_eq_false h,decide_eq_false e]
theorem Kf(a:Int)(b:Str):decide ((inl a:Key)=Ra b)=false:=decide_eq_false (λq=>nomatch q)
theorem K7(a:Str)(b:Int):decide ((Ra a:Key)=inl b)=false:=decide_eq_false (λq=>nomatch q)
noncomputable def mixKind(prog:A_)(w:I_):PySem.KeyKind prog w Key where
 is:=keyIs
 hash:=keyH w
 inj:=λv a b ha hb=>by
  rcases su ha with⟨i,t,rfl,rfl⟩ | ⟨x,t,rfl,rfl⟩
  ·rcases su hb with⟨j,u,rfl,e⟩ | ⟨y,u,rfl,e⟩
   ·injection e with e1 _;rw[e1]
   ·exact nomatch e
  ·rcases su hb with⟨j,u,rfl,e⟩ | ⟨y,u,rfl,e⟩
   ·exact nomatch e
   ·injection e with e1 _;rw[e1]
 byValue:=λk v h=>by
  rcases su h with⟨i,t,rfl,rfl⟩ | ⟨x,t,rfl,rfl⟩<;>rfl
 pyHash:=λhv h=>by
  rcases su hv with⟨i,t,rfl,rfl⟩ | ⟨x,t,rfl,rfl⟩
  ·exact wpAny_pyHash_int h
  ·exact wpAny_pyHash_str h
 eqBool:=λhu hv h=>by
  rcases su hu with⟨i,t,rfl,rfl⟩ | ⟨x,t,rfl,rfl⟩
  ·rcases su hv with⟨j,u,rfl,rfl⟩ | ⟨y,u,rfl,rfl⟩
   ·rw[Hx] at h;exact wpAny_eqBool_int h
   ·rw[Kf] at h;exact SeqAt.EqAt.int_str i t y u _ _ _ _ h
  ·rcases su hv with⟨j,u,rfl,rfl⟩ | ⟨y,u,rfl,rfl⟩
   ·rw[K7] at h;exact SeqAt.EqAt.str_int x t j u _ _ _ _ h
   ·rw[F3] at h;exact wpAny_eqBool_str h
 «strs»:=λk x t v h=>by
  rcases su h with⟨i,u,rfl,e⟩ | ⟨y,u,rfl,e⟩
  ·exact nomatch e
  ·injection e with e1 _
   subst e1;cases v<;>rfl
inductive V where
 | non | bl (b:Bool) | int (i:Int) | str (x:Str) | byt (b:Array UInt8) | flt (b:UInt64) | ref (a:k_) | ty (n:String)
 deriving DecidableEq
def RelV:V->b_->Prop
 | .non,u=>u=b_.none
 | .bl b,u=>u=b_.bool b
 | .int i,u=>∃t,u=b_.int i t
 | .str x,u=>∃t,u=b_.str x t
 | .byt b,u=>∃t,u=b_.bytes b t
 | .flt b,u=>∃t,u=b_.float b t
 | .ref a,u=>u=b_.ref a
 | .ty n,u=>u=type n
abbrev Vals:List V->List b_->Prop:=Paired RelV
theorem Vals.length{xs:List V}(r:Vals xs us):xs.length=us.length:=Paired.length r
theorem Vals.get:∀{xs:List V}{us:List b_}{i:Nat}{x:V},Vals xs us->xs[i]?=some x->∃u,us[i]?=some u/\RelV x u
 | _,_,_,_,.nil,e=>by simp at e
 | _,_,0,_,.cons r _,e=>by simp at e;subst e;exact⟨_,rfl,r⟩
 | _,_,i+1,x,.cons _ t,e=>by
  obtain⟨u,h1,h2⟩:=Vals.get (i:=i) (x:=x) t (by simpa using e);exact⟨u,by simpa using h1,h2⟩
theorem Vals.set{x:V}{u:b_}(r:RelV x u):∀{xs:List V}{us:List b_} (i:Nat),Vals xs us->Vals (xs.set i x) (us.set i u)
 | _,_,_,.nil=>.nil
 | _,_,0,.cons _ t=>.cons r t
 | _,_,i+1,.cons q t=>.cons q (Vals.set r i t)
theorem Vals.append:∀{xs ys:List V}{us ws:List b_},Vals xs us->Vals ys ws->Vals (xs++ys) (us++ws)
 | _,_,_,_,.nil,s=>s
 | _,_,_,_,.cons r t,s=>.cons r (Vals.append t s)
theorem Vals.take:∀{xs:List V}{us:List b_} (n:Nat),Vals xs us->Vals (xs.take n) (us.take n)
 | _,_,0,_=>.nil
 | _,_,_+1,.nil=>.nil
 | _,_,n+1,.cons r t=>.cons r (Vals.take n t)
theorem Vals.drop:∀{xs:List V}{us:List b_} (n:Nat),Vals xs us->Vals (xs.drop n) (us.drop n)
 | _,_,0,r=>r
 | _,_,_+1,.nil=>.nil
 | _,_,n+1,.cons _ t=>Vals.drop n t
def RelO:Option V->Option b_->Prop
 | some v,some u=>RelV v u
 | none,none=>True
 | _,_=>False
def KV{κ:Type}:List (κ×V)->List (κ×b_)->Prop:=Paired λ(p:κ×V) (q:κ×b_)=>p.1=q.1/\RelV p.2 q.2
noncomputable def kV:Key->V
 | .inl i=>.int i
 | .inr x=>.str x
inductive HO where
 | lst (xs:List V)
 | tup (xs:List V)
 | dK (aY:List (Key×V)) | dT (aY:List (List Key×V))
 | set (S:Int->Bool) (n:Nat)
 | ins (C dx:k_) (fs:List (Str×V))
 | own (x:k_)
 | xd (fs:List (Str×V))
 | met (f x:k_)
 | rng (lo hi:Int)
 | frz (o:Obj) (u:HO)
 | tbl (ps:Array b_)
 | ext (φ:J_->Prop)
abbrev Hp:=k_->Option HO
noncomputable def upd(H:Hp)(a:k_)(o:HO):Hp:=λb=>if b=a then some o else H b
theorem qQ{H:Hp}{o:HO}:upd H a o a=some o:=by unfold upd;rw[if_pos rfl]
theorem qH{H:Hp}{o:HO}(h:b≠a):upd H a o b=H b:=by unfold upd;rw[if_neg h]
theorem r8{H:Hp}{o:HO}(h:H a=some o)(h':H b=none):a≠b:=by
 intro e;subst e;rw[h] at h';cases h'
section
variable (P:A_)(w:I_)
def ObjOk(H:Hp)(h:J_)(a:k_):HO->Prop
 | .lst xs=>xs.length<=C_/\∃(ae:List b_) (n:Nat),Vals xs ae/\h.get? a=some { cls:=.type "list", data:=.seq ae.toArray n }
 | .tup xs=>xs.length<=C_/\∃ae:List b_,Vals xs ae/\SE h a ae.toArray
 | .dK aY=>aY.length<=C_/\(a == sysModules)=false/\∃vs,KV aY vs/\h.DictOf (mixKind P w) a vs
 | .dT aY=>aY.length<=C_/\(a == sysModules)=false/\∃xs:List (List Key×k_×b_),
   Paired (λ(p:List Key×V) (q:List Key×k_×b_)=>p.1=q.1/\H q.2.1=some (.tup (p.1.map kV))/\RelV p.2 q.2.2) aY xs ∧
   ∃o es ep,h.get? a=some o/\o.ExactDict/\o.data=.dict es ep/\es.toList=xs.map (entryOfKey (tupleKind (mixKind P w)))/\(xs.map (·.1)).Nodup
 | .set S n=>h.SetOf (intKind P w) a S n
 | .ins C dx fs=>H dx=some (.own a)/\fs.length<=1000/\dx≠a/\h.get? a=some (PySem.W.instObj C dx) ∧
   ∃mA,h.Ns1 dx mA/\(∀f,RelO (fs.lookup f) (mA f))/\PySem.Within mA (fs.map (·.1))
 | .own _=>∃o,h.get? a=some o
 | .xd fs=>∃mA,h.Ns1 a mA/\∀f,RelO (fs.lookup f) (mA f)
 | .rng lo hi=>∃t u v,h.get? a=some { cls:=.type "range", data:=.fields #[.int lo t,.int hi u,.int 1 v] }
 | .frz o u=>h.get? a=some o/\ObjOk H h a u
 | .tbl ps=>h.get? a=some { cls:=.none,data:=.fields ps }
 | .met f x=>h.get? a=some (methodObj (.ref f) (.ref x))
 | .ext φ=>φ h/\(∃o,h.get? a=some o)/\∀h1 h2:J_,φ h1->(∀o,h1.get? a=some o->h2.get? a=some o)->φ h2
def HOk(H:Hp)(h:J_):Prop:=∀a o,H a=some o->ObjOk P w H h a o
end
section
variable{P:A_}{w:I_}{H H':Hp}{h:J_}{o:HO}
theorem ObjOk.lt(x:ObjOk P w H h a o):a < h.objs.size:=by
 cases o with
 | lst xs=>obtain⟨_,_,_,_,e⟩:=x;exact E_ e
 | tup xs=>obtain⟨_,_,_,p⟩:=x;exact p.lt
 | dK aY=>obtain⟨_,_,_,_,o,_,_,e,_⟩:=x;exact E_ e
 | dT aY=>obtain⟨_,_,_,_,o,_,_,e,_⟩:=x;exact E_ e
 | set S n=>obtain⟨o,_,_,_,e,_⟩:=x;exact E_ e
 | ins C dx fs=>obtain⟨_,_,_,e,_⟩:=x;exact E_ e
 | own y=>obtain⟨_,e⟩:=x;exact E_ e
 | xd fs=>obtain⟨_,⟨_,_,_,e,_⟩,_⟩:=x;exact E_ e
 | rng lo hi=>obtain⟨_,_,_,e⟩:=x;exact E_ e
 | frz ob u=>obtain⟨e,_⟩:=x;exact E_ e
 | tbl ps=>exact E_ (show h.get? a=some _ from x)
 | met f y=>exact E_ (show h.get? a=some _ from x)
 | ext φ=>obtain⟨_,⟨_,e⟩,_⟩:=x;exact E_ e
theorem Paired.mapP{α Z:Type}{F G:α->Z->Prop}:∀{iY:List α}{iZ:List Z},Paired F iY iZ->(∀a b,F a b->G a b)->Paired G iY iZ
 | _,_,.nil,_=>.nil
 | _,_,.cons r t,f=>.cons (f _ _ r) (Paired.mapP t f)
theorem ObjOk.stay(x:ObjOk P w H h a o)(k:∀b u,(b=a\/H b=some (.own a))->h.get? b=some u->h'.get? b=some u)(ho:∀b,H b=some (.own a)->H' b=some (.own a))(ht:∀b xs,H b=some (.tup xs)->H' b=some (.tup xs)):ObjOk P w H' h' a o:=by
 induction o with
 | lst xs=>obtain⟨z,ae,n,r,e⟩:=x;exact⟨z,ae,n,r,k _ _ (.inl rfl) e⟩
 | tup xs=>obtain⟨z,ae,r,ob,e,c⟩:=x;exact⟨z,ae,r,ob,k _ _ (.inl rfl) e,c⟩
 | dK aY=>obtain⟨z,y,vs,r,ob,es,ep,e,c⟩:=x;exact⟨z,y,vs,r,ob,es,ep,k _ _ (.inl rfl) e,c⟩
 | dT aY =>
  obtain⟨z,y,xs,r,ob,es,ep,e,c⟩:=x;exact⟨z,y,xs,Paired.mapP r λp q z=>⟨z.1,ht _ _ z.2.1,z.2.2⟩,ob,es,ep,k _ _ (.inl rfl) e,c⟩
 | set S n=>obtain⟨ob,es,ep,t,e,c⟩:=x;exact⟨ob,es,ep,t,k _ _ (.inl rfl) e,c⟩
 | ins C dx fs =>
  obtain⟨d,z,ne,e,mA,⟨od,es,ep,e2,c⟩,r⟩:=x;exact⟨ho _ d,z,ne,k _ _ (.inl rfl) e,mA,⟨od,es,ep,k _ _ (.inr d) e2,c⟩,r⟩
 | own y=>obtain⟨ob,e⟩:=x;exact⟨ob,k _ _ (.inl rfl) e⟩
 | xd fs=>obtain⟨mA,⟨od,es,ep,e,c⟩,r⟩:=x;exact⟨mA,⟨od,es,ep,k _ _ (.inl rfl) e,c⟩,r⟩
 | rng lo hi=>obtain⟨t,u,v,e⟩:=x;exact⟨t,u,v,k _ _ (.inl rfl) e⟩
 | frz ob u ih=>obtain⟨e,q⟩:=x;exact⟨k _ _ (.inl rfl) e,ih q⟩
 | tbl ps =>
  have e:h.get? a=some { cls:=.none,data:=.fields ps }:=x;show h'.get? a=some { cls:=.none,data:=.fields ps };exact k a _ (.inl rfl) e
 | met f y =>
  have e:h.get? a=some (methodObj (.ref f) (.ref y)):=x;show h'.get? a=some (methodObj (.ref f) (.ref y));exact k a _ (.inl rfl) e
 | ext φ=>obtain⟨p,⟨o,e⟩,st⟩:=x;exact⟨st _ _ p λo q=>k _ _ (.inl rfl) q,⟨o,k _ _ (.inl rfl) e⟩,st⟩
theorem HOk.lt(x:HOk P w H h)(e:H a=some o):a < h.objs.size:=(x a o e).lt
theorem HOk.fresh(x:HOk P w H h)(e:h.objs.size<=a):H a=none:=by
 cases q:H a with
 | none=>rfl
 | some u=>exact absurd (G_ (x.lt q) e) (Oq _)
theorem HOk.kept(x:HOk P w H h)(k:∀b u,h.get? b=some u->h'.get? b=some u):HOk P w H h':=λa o e =>
 (x a o e).stay (λb u _ q=>k b u q) (λ_ q=>q) λ_ _ q=>q
theorem HOk.laid(x:HOk P w H h)(k:∀b u,h.get? b=some u->h'.get? b=some u)(hp:h.objs.size<=a)(new:ObjOk P w (upd H a o) h' a o):HOk P w (upd H a o) h':=λb u e=>by
 have hn:=x.fresh hp;by_cases hb:b=a
 ·subst hb;rw[qQ] at e;cases e;exact new
 ·rw[qH hb] at e;exact(x b u e).stay (λc v _ q=>k c v q) (λc q=>by rw[qH (r8 q hn)];exact q) λc xs q=>by rw[qH (r8 q hn)];exact q
end
def Rd(H:Hp)(a:k_)(u:HO):Prop:=H a=some u\/∃o,H a=some (.frz o u)
theorem Rd.ok{P:A_}{w:I_}{H:Hp}{h:J_}{u:HO}(r:Rd H a u)(x:HOk P w H h):ObjOk P w H h a u:=by
 rcases r with r | ⟨o,r⟩
 ·exact x a u r
 ·obtain⟨_,q⟩:=x a _ r;exact q
def Mut:Option HO->Prop
 | some (.lst _)=>True
 | some (.dK _)=>True
 | some (.dT _)=>True
 | some (.set _ _)=>True
 | some (.ins _ _ _)=>True
 | some (.ext _)=>True
 | _=>False
section
variable{P:A_}{w:I_}{H:Hp}{h:J_}{x e:k_}{o':HO}
theorem HOk.write(ok:HOk P w H h)(mu:Mut (H x))(he:e=x\/H e=some (.own x))(k:∀b u,b≠e->h.get? b=some u->h'.get? b=some u)(fh:∃u,h'.get? e=some u)(new:ObjOk P w (upd H x o') h' x o'):HOk P w (upd H x o') h':=λb u q=>by
 have i0:∀c y,H c=some (.own y)->c≠x:=λc y r z=>by subst z;rw[r] at mu;exact mu
 have kq:∀c xs,H c=some (.tup xs)->c≠x:=λc xs r z=>by subst z;rw[r] at mu;exact mu
 by_cases hb:b=x
 ·subst hb;rw[qQ] at q;cases q;exact new
 ·rw[qH hb] at q;by_cases hbe:b=e
  ·have q':H b=some (.own x):=by
    rcases he with z | z
    ·exact absurd (hbe.trans z) hb
    ·rw[hbe];exact z
   rw[q] at q';cases q';obtain⟨v,hv⟩:=fh;exact⟨v,by rw[hbe];exact hv⟩
  ·refine(ok b u q).stay (λc v hc r=>k c v ?_ r) (λc r=>by rw[qH (i0 c b r)];exact r) λc xs r=>by rw[qH (kq c xs r)];exact r
   rcases hc with rfl | hc
   ·exact hbe
   ·rintro rfl
    rcases he with z | z
    ·exact i0 c b hc z
    ·rw[hc] at z;cases z;exact hb rfl
end
structure Un(fs ex:List k_)(H H':Hp)(h h':J_):Prop where
 keep:∀b o,h.get? b=some o->H b=none->b∉fs->b∉ex->h'.get? b=some o
 slot:∀b o,h.get? b=some o->H b=none->b∈fs->b∉ex->∃sl,h'.get? b=some { o with slots:=sl }
 free:∀b o,h.get? b=some o->H b=none->b∉ex->H' b=none
 there:∀b o,h.get? b=some o->b∉ex->∃o',h'.get? b=some o'
 tups:∀b xs,H b=some (.tup xs)->H' b=some (.tup xs)
 frzs:∀b o u,H b=some (.frz o u)->H' b=some (.frz o u)
 tbls:∀b ps,H b=some (.tbl ps)->∃more,H' b=some (.tbl (ps++more))
section
variable{fs nc ex pU:List k_}{H H1 H2:Hp}{h h1 h2:J_}{x e:k_}{o:HO}
theorem Un.any(u:Un fs ex H H1 h h1){ob:Obj}(q:h.get? b=some ob)(n:H b=none)(hx:b∉ex):∃sl,h1.get? b=some { ob with slots:=sl }:=by
 by_cases hb:b∈fs
 ·exact u.slot b ob q n hb hx
 ·exact⟨ob.slots,u.keep b ob q n hb hx⟩
theorem Un.kept(k:∀b u,h.get? b=some u->h'.get? b=some u):Un fs ex H H h h':=
 ⟨λb ob q _ _ _=>k b ob q,λb ob q _ _ _=>⟨ob.slots,k b ob q⟩,λ_ _ _ n _=>n,λb ob q _=>⟨ob,k b ob q⟩,λ_ _ q=>q,λ_ _ _ q=>q,λ_ ps q=>⟨#[],by rw[q];simp⟩⟩
theorem Un.refl:Un fs ex H H h h:=Un.kept λ_ _ q=>q
theorem Un.laid(k:∀b u,h.get? b=some u->h'.get? b=some u)(hp:h.objs.size<=a)(hn:H a=none):Un fs ex H (upd H a o) h h' where
 keep:=λb u q _ _ _=>k b u q
 slot:=λb u q _ _ _=>⟨u.slots,k b u q⟩
 free:=λb u q n _=>by rw[qH (NB (G_ (E_ q) hp))];exact n
 there:=λb u q _=>⟨u,k b u q⟩
 tups:=λb xs q=>by rw[qH (r8 q hn)];exact q
 frzs:=λb u xs q=>by rw[qH (r8 q hn)];exact q
 tbls:=λb ps q=>⟨#[],by rw[qH (r8 q hn),q];simp⟩
theorem Un.write(mu:Mut (H x))(he:e=x\/H e=some (.own x))(k:∀b u,b≠e->h.get? b=some u->h'.get? b=some u)(fh:∃u,h'.get? e=some u):Un fs ex H (upd H x o) h h':=by
 have hx:∀b,H b=none->b≠x:=λb n z=>by subst z;rw[n] at mu;exact mu
 have hb:∀b,H b=none->b≠e:=λb n z=>by
  subst z
  rcases he with r | r
  ·exact hx b n r
  ·rw[n] at r;cases r
 have hm:∀b u,H b=some u->¬Mut (some u)->b≠x:=λb u q nm z=>by subst z;rw[q] at mu;exact nm mu
 refine⟨λb u q n _ _=>k b u (hb b n) q,λb u q n _ _=>⟨u.slots,k b u (hb b n) q⟩,λb u q n _=>by rw[qH (hx b n)];exact n,λb u q _=>?_,
  λb xs q=>by rw[qH (hm b _ q λz=>z)];exact q,λb u xs q=>by rw[qH (hm b _ q λz=>z)];exact q,λb ps q=>⟨#[],by rw[qH (hm b _ q λz=>z),q];simp⟩⟩
 by_cases hbe:b=e
 ·subst hbe;exact fh
 ·exact⟨u,k b u hbe q⟩
end
noncomputable def trk(h:J_)(H:Hp):List k_:=(NY h.objs.size).filter λa=>(H a).isSome
noncomputable def hidT(h:J_)(H:Hp):J_:=PySem.W.hideAll h (trk h H)
theorem EQ(h:J_)(H:Hp):(hidT h H).objs.size=h.objs.size:=PySem.W.hideAll_size _ _
theorem Fd{h:J_}{H:Hp}{o:Obj}(e:h.get? b=some o)(n:H b=none):(hidT h H).get? b=some o:=
 PySem.W.hideAll_get _ e λhm=>by
  have q:(H b).isSome=true:=(K_.mp hm).2;rw[n] at q;simp at q
theorem Ds{h:J_}{H:Hp}{o:Obj}(e:(hidT h H).get? b=some o):h.get? b=some o/\H b=none:=by
 have e':h.get? b=some o:=PySem.W.of_hideAll (trk h H) e;refine⟨e',?_⟩;cases q:H b with
 | none=>rfl
 | some x =>
  have hm:b∈trk h H:=K_.mpr ⟨OE.mpr (E_ e'),by simp[q]⟩;have z:(hidT h H).get? b=none:=PySem.W.hideAll_none (trk h H) hm;rw[z] at e;cases e
structure Mod(K:PySem.W.Frag)(mg:Str->Option b_)(base:J_):Prop where
 kin:K.In base
 glob:base.Ns Od mg
 blt:∃mb,base.Ns SF mb/\∀x:Str,x ≠ "__name__"->mb x=Ob x
 nolimit:base.NoLimit
structure Cx where
 prog:A_
 w:I_
 K:PySem.W.Frag
 mg:Str->Option b_
 base:J_
 A:Oe
 N:List Str
 s₀:c_
 H₀:Hp
 env:Env
 outer:List Env
 stack:List Env
 ex:List k_
 fn:Str->Bool
 calm:Bool
 pn:List (k_×Obj)
 xe:b_->c_->Prop
noncomputable def frs(l:List Env):List k_:=l.filterMap (·.frame)
noncomputable abbrev Cx.fs(X:Cx):List k_:=frs X.outer
def Vis(sc:Ql)(x:Str):Prop:=sc.names.lookup x=some .local\/sc.names.lookup x=some .cell\/sc.names.lookup x=some .free
def Loc(sc:Ql)(x:Str):Prop:=sc.names.lookup x=some .local\/sc.names.lookup x=some .cell
noncomputable def visB(s:Ql)(x:Str):Bool:=match s.names.lookup x with|some .local=>true|some .cell=>true|some .free=>true|_=>false
noncomputable def locB(s:Ql)(x:Str):Bool:=match s.names.lookup x with|some .local=>true|some .cell=>true|_=>false
noncomputable def fnB(X:Cx)(x:Str):Bool:=X.fn x||match X.env.scope.names.lookup x with|some .local=>true|_=>false
theorem visI{s:Ql}(h:visB s x=true):Vis s x:=by
 unfold visB at h;unfold Vis;split at h<;>simp_all
theorem locI{s:Ql}(h:locB s x=true):Loc s x:=by
 unfold locB at h;unfold Loc;split at h<;>simp_all
theorem fnI{X:Cx}(h:fnB X x=true):X.fn x=true\/X.env.scope.names.lookup x=some .local:=by
 unfold fnB at h;cases e:X.fn x with
 | true=>exact .inl rfl
 | false=>rw[e,Bool.false_or] at h;split at h<;>simp_all
def Look(env:Env)(h:J_)(m:Str->Option b_)(x:Str)(u:b_):Prop:=
 (env.kindOf x=some .local/\m x=some u)\/((env.kindOf x=some .cell\/env.kindOf x=some .free)/\∃c,env.cells.lookup x=some c/\h.IsCell c (some u))
structure Cx.Ok(X:Cx):Prop where
 mod:Mod X.K X.mg X.base
 kind:X.env.scope.kind=.function
 glob:X.env.globals=Od
 blt:X.env.builtins=SF
 above:X.s₀.heap.objs.size<=X.env.locals
 inj:∀x y c,X.env.cells.lookup x=some c->X.env.cells.lookup y=some c->x=y
 has:∀x,(X.env.kindOf x=some .cell\/X.env.kindOf x=some .free)->∃c,X.env.cells.lookup x=some c
 cab:∀x c,X.fn x=true->X.env.cells.lookup x=some c->X.s₀.heap.objs.size<=c
 hd:X.calm=true->X.A.handled=none
 frames:X.A.frames=some X.stack
 stk:X.stack=X.outer\/(X.stack=X.env::X.outer/\X.env.frame=some X.env.locals)
 exf:∀b∈X.ex,b≠X.env.locals/\∀x c,X.env.cells.lookup x=some c->c≠b
 bs:∀b o,X.base.get? b=some o->X.s₀.heap.get? b=some o/\X.H₀ b=none
 bsz:X.base.objs.size<=X.s₀.heap.objs.size
 noex:∀b o,X.base.get? b=some o->b∉X.ex
 exfs:∀b∈X.ex,b∉X.fs
 funs:X.s₀.heap.FunFrames X.base X.outer
 frf:∀b∈X.fs,X.H₀ b=none
structure Inv(X:Cx)(aa:List (k_×Obj))(U:List (Option V))(H:Hp)(s:c_):Prop where
 ok:X.Ok
 os:s.os=X.s₀.os
 bare:Qy s.gens
 base:Un X.fs X.ex X.H₀ H X.s₀.heap s.heap
 loc:∃m,s.heap.Ns X.env.locals m/\∀(i:Nat) (x:Str) (v:V),X.N[i]?=some x->U[i]?=some (some v)->Vis X.env.scope x->∃u,RelV v u/\Look X.env s.heap m x u
 cell:∀x c,X.env.cells.lookup x=some c->∃v,s.heap.IsCell c v
 free:H X.env.locals=none
 freeC:∀x c,X.env.cells.lookup x=some c->H c=none
 pin:∀p∈X.pn++aa,s.heap.get? p.1=some p.2/\H p.1=none/\p.1≠X.env.locals/\p.1∉X.fs/\∀v,p.2.data≠.cell v
 hok:HOk X.prog X.w H s.heap
 len:U.length=X.N.length
section
variable{X:Cx}{U:List (Option V)}{H H':Hp}{s:c_}
theorem Cx.Ok.nofr(ok:X.Ok){o:Obj}(e:X.base.get? b=some o):b∉X.fs:=λhb=>by
 have:=(ok.funs.mem hb).1;rw[e] at this;cases this
theorem Inv.bs(I:Inv X aa U H s):∀b o,X.base.get? b=some o->s.heap.get? b=some o/\H b=none:=λb o e =>
 ⟨I.base.keep b o (I.ok.bs b o e).1 (I.ok.bs b o e).2 (I.ok.nofr e) (I.ok.noex b o e),I.base.free b o (I.ok.bs b o e).1 (I.ok.bs b o e).2 (I.ok.noex b o e)⟩
theorem Inv.bk(I:Inv X aa U H s):∀b o,X.base.get? b=some o->s.heap.get? b=some o:=λb o e=>(I.bs b o e).1
theorem Inv.mod(I:Inv X aa U H s):Mod X.K X.mg X.base:=I.ok.mod
theorem Inv.kIn(I:Inv X aa U H s):X.K.In s.heap:=I.ok.mod.kin.keeps I.bk
theorem Inv.lt(I:Inv X aa U H s):X.env.locals < s.heap.objs.size:=let ⟨_,hn,_⟩:=I.loc;hn.lt
theorem Inv.sz(I:Inv X aa U H s):X.s₀.heap.objs.size<=s.heap.objs.size:=z_ I.ok.above (PY I.lt)
theorem Inv.nofs(I:Inv X aa U H s)(h:s.heap.objs.size<=a):a∉X.fs:=λhb=>by
 obtain⟨_,o,ho,_⟩:=I.ok.funs.mem hb;exact absurd (G_ (E_ ho) (z_ I.sz h)) (Oq _)
theorem Inv.cne(I:Inv X aa U H s):∀x c,X.env.cells.lookup x=some c->c≠X.env.locals:=λx c e z=>by
 obtain⟨v,o,ho,hd⟩:=I.cell x c e;obtain⟨m,⟨o',es,ep,bU,ck,_⟩,_⟩:=I.loc;rw[z,bU] at ho;cases ho;rw[ck] at hd;cases hd
theorem Inv.funs(I:Inv X aa U H s):s.heap.FunFrames X.base X.outer:=by
 have all:∀(l:List Env),(∀b∈frs l,b∈X.fs)->X.s₀.heap.FunFrames X.base l->s.heap.FunFrames X.base l:=by
  intro l
  induction l with
  | nil=>intro _ _;trivial
  | cons env r ih =>
   intro hs hl;obtain⟨hk,⟨L,o,hf,hn,ho,hd⟩,hr⟩:=hl;have hL:L∈X.fs:=hs L (by unfold frs;rw[Qm,hf];exact m_);obtain⟨sl,e⟩:=I.base.slot L o ho (I.ok.frf L hL) hL λz=>I.ok.exfs L z hL
   exact⟨hk,⟨L,_,hf,hn,e,hd⟩,ih (λb hb=>hs b (by unfold frs;rw[Qm,hf];exact j_ _ hb)) hr⟩
 exact all X.outer (λ_ hb=>hb) I.ok.funs
theorem Inv.stack(I:Inv X aa U H s):s.heap.FunFrames X.base X.stack:=by
 rcases I.ok.stk with e | ⟨e,hf⟩
 ·rw[e];exact I.funs
 ·rw[e];obtain⟨m,hn,_⟩:=I.loc;refine .cons (by rw[I.ok.kind];decide) hf hn ?_ I.funs;exact J_.get?_none_of_le (z_ I.ok.bsz I.ok.above)
theorem Inv.stkSub(I:Inv X aa U H s):∀b∈frs X.stack,b∈X.env.locals::X.fs:=λb hb=>by
 rcases I.ok.stk with e | ⟨e,hf⟩
 ·rw[e] at hb;exact j_ _ hb
 ·rw[e] at hb;unfold frs at hb;rw[Qm,hf] at hb;exact hb
theorem Inv.stkFree(I:Inv X aa U H s):∀b∈frs X.stack,H b=none:=λb hb=>by
 rcases D_.mp (I.stkSub b hb) with e | hb
 ·rw[e];exact I.free
 ·obtain⟨_,o,ho,_⟩:=I.ok.funs.mem hb;exact I.base.free b o ho (I.ok.frf b hb) λz=>I.ok.exfs b z hb
theorem Inv.step(I:Inv X aa U H s)(br:∀b∈ch,(b∈X.ex\/X.s₀.heap.objs.size<=b)/\b≠X.env.locals/\(∀x c,X.env.cells.lookup x=some c->c≠b)/\∀p∈X.pn++aa,p.1≠b)(keep:∀b o,b≠X.env.locals->b∉X.fs->b∉ch->s.heap.get? b=some o->H b=none->h'.get? b=some o)(slot:∀b o,b≠X.env.locals->b∈X.fs->b∉ch->s.heap.get? b=some o->H b=none->∃sl,h'.get? b=some { o with slots:=sl })(free:∀b o,b∉ch->s.heap.get? b=some o->H b=none->H' b=none)(there:∀b o,b∉ch->s.heap.get? b=some o->∃o',h'.get? b=some o')(tups:∀b xs,H b=some (.tup xs)->H' b=some (.tup xs))(frzs:∀b o u,H b=some (.frz o u)->H' b=some (.frz o u))(tbls:∀b ps,H b=some (.tbl ps)->∃more,H' b=some (.tbl (ps++more)))(ns:∀m,s.heap.Ns X.env.locals m->h'.Ns X.env.locals m)(hok:HOk X.prog X.w H' h')(hg:Qy g'):
  Inv X aa U H' { s with heap:=h',gens:=g',drawn:=d',toks:=t' }:=by
 have fi:∀b o,X.s₀.heap.get? b=some o->b≠X.env.locals:=λb o e=>NB (G_ (E_ e) I.ok.above)
 have fj:∀b o,X.s₀.heap.get? b=some o->b∉X.ex->b∉ch:=λb o e hx hb=>by
  rcases(br b hb).1 with z | z
  ·exact hx z
  ·exact absurd (G_ (E_ e) z) (Oq _)
 have fB:∀x c,X.env.cells.lookup x=some c->∀v,s.heap.IsCell c v->h'.IsCell c v:=λx c e v ⟨o,ho,hd⟩=>by
  have cM:c∉ch:=λz=>(br c z).2.2.1 x c e rfl
  by_cases hc:c∈X.fs
  ·obtain⟨sl,q⟩:=slot c o (I.cne x c e) hc cM ho (I.freeC x c e);exact⟨_,q,hd⟩
  ·exact⟨o,keep c o (I.cne x c e) hc cM ho (I.freeC x c e),hd⟩
 refine⟨I.ok,I.os,hg,⟨λb o e n hb hx=>?_,λb o e n hb hx=>?_,λb o e n hx=>?_,λb o e hx=>?_,λb xs e=>tups b xs (I.base.tups b xs e),λb o xs e=>frzs b o xs (I.base.frzs b o xs e),λb ps e=>?_⟩,?_,λx c e=>?_,?_,λx c e=>?_,λp hp=>?_,hok,I.len⟩
 ·exact keep b o (fi b o e) hb (fj b o e hx) (I.base.keep b o e n hb hx) (I.base.free b o e n hx)
 ·obtain⟨sl,e1⟩:=I.base.slot b o e n hb hx;obtain⟨ng,e2⟩:=slot b _ (fi b o e) hb (fj b o e hx) e1 (I.base.free b o e n hx);exact⟨ng,e2⟩
 ·obtain⟨o',e1⟩:=I.base.there b o e hx;exact free b o' (fj b o e hx) e1 (I.base.free b o e n hx)
 ·obtain⟨o',e1⟩:=I.base.there b o e hx;exact there b o' (fj b o e hx) e1
 ·obtain⟨m1,e1⟩:=I.base.tbls b ps e;obtain⟨m2,e2⟩:=tbls b _ e1;exact⟨m1++m2,by rw[e2,Array.append_assoc]⟩
 ·obtain⟨m,hn,hl⟩:=I.loc;refine⟨m,ns m hn,λi x v e1 e2 e3=>?_⟩;obtain⟨u,r,l⟩:=hl i x v e1 e2 e3;refine⟨u,r,?_⟩
  rcases l with l | ⟨k,c,e,z⟩
  ·exact .inl l
  ·exact .inr ⟨k,c,e,fB x c e _ z⟩
 ·obtain⟨v,z⟩:=I.cell x c e;exact⟨v,fB x c e v z⟩
 ·obtain⟨m,⟨o,_,_,ho,_⟩,_⟩:=I.loc;exact free _ o (λz=>(br _ z).2.1 rfl) ho I.free
 ·obtain⟨v,o,ho,hd⟩:=I.cell x c e;exact free c o (λz=>(br c z).2.2.1 x c e rfl) ho (I.freeC x c e)
 ·obtain⟨e,n,ne,nf,d⟩:=I.pin p hp;have cM:p.1∉ch:=λz=>(br p.1 z).2.2.2 p hp rfl
  exact⟨keep p.1 p.2 ne nf cM e n,free p.1 p.2 cM e n,ne,nf,d⟩
theorem Inv.un(I:Inv X aa U H s)(u:Un X.fs [] H H' s.heap h')(hok:HOk X.prog X.w H' h'):Inv X aa U H' { s with heap:=h',toks:=t' }:=by
 obtain⟨m,⟨o,es,ep,ho,r⟩,_⟩:=id I.loc;obtain⟨sl,hL⟩:=u.any ho I.free (by simp)
 exact I.step (g':=s.gens) (d':=s.drawn) (ch:=[]) (λ_ z=>nomatch z) (λb o _ hb _ e n=>u.keep b o e n hb (by simp)) (λb o _ hb _ e n=>u.slot b o e n hb (by simp)) (λb o _ e n=>u.free b o e n (by simp)) (λb o _ e=>u.there b o e (by simp)) u.tups u.frzs u.tbls (λm' hm=>by
  obtain⟨o',es',jm,bU,r'⟩:=hm;rw[ho] at bU;cases bU
  exact⟨_,es',jm,hL,r'⟩) hok I.bare
theorem Inv.call(I:Inv X aa U H s)(u:Un (frs X.stack) ch H H' s.heap h')(hok:HOk X.prog X.w H' h')(hg:Qy g')(br:∀b∈ch,(b∈X.ex\/X.s₀.heap.objs.size<=b)/\b≠X.env.locals/\(∀x c,X.env.cells.lookup x=some c->c≠b)/\∀p∈X.pn++aa,p.1≠b):
  Inv X aa U H' { s with heap:=h',gens:=g',drawn:=d',toks:=t' }:=by
 obtain⟨m,⟨o,es,ep,ho,r⟩,_⟩:=id I.loc;obtain⟨sl,hL⟩:=u.any ho I.free λz=>(br _ z).2.1 rfl
 exact I.step (ch:=ch) br (λb o hL hb hc e n=>u.keep b o e n (λz=>(D_.mp (I.stkSub b z)).elim hL hb) hc) (λb o _ _ hc e n=>u.any e n hc) (λb o hc e n=>u.free b o e n hc) (λb o hc e=>u.there b o e hc) u.tups u.frzs u.tbls (λm' hm=>by
  obtain⟨o',es',jm,bU,r'⟩:=hm;rw[ho] at bU;cases bU
  exact⟨_,es',jm,hL,r'⟩) hok hg
theorem Inv.turned{it:k_}(I:Inv X aa U H s)(k:∀b o,b≠it->s.heap.get? b=some o->h'.get? b=some o)(hn:H it=none)(hL:it≠X.env.locals)(h1:it∈X.ex\/X.s₀.heap.objs.size<=it)(h2:∀x c,X.env.cells.lookup x=some c->c≠it)(h3:∀p∈X.pn++aa,p.1≠it):Inv X aa U H { s with heap:=h',toks:=t' }:=by
 have kt:∀b u,H b=some u->b≠it:=λb u e z=>by rw[z,hn] at e;cases e
 refine I.step (g':=s.gens) (d':=s.drawn) (ch:=[it]) (λb hb=>?_) (λb o _ _ hc e _=>k b o (λz=>hc (by simp[z])) e) (λb o _ _ hc e _=>⟨o.slots,k b o (λz=>hc (by simp[z])) e⟩) (λ_ _ _ _ n=>n)
  (λb o hc e=>⟨o,k b o (λz=>hc (by simp[z])) e⟩) (λ_ _ e=>e) (λ_ _ _ e=>e) (λb ps e=>⟨#[],by rw[e];simp⟩) (λm hm=>?_) (λb u e=>?_) I.bare
 ·have e:b=it:=by simpa using hb
  subst e;exact⟨h1,hL,h2,h3⟩
 ·obtain⟨o,es,ep,ho,r⟩:=hm;exact⟨o,es,ep,k _ o (NH hL) ho,r⟩
 ·refine(I.hok b u e).stay (λc v hc q=>k c v ?_ q) (λ_ q=>q) λ_ _ q=>q
  rcases hc with z | z
  ·rw[z];exact kt b u e
  ·exact kt c _ z
theorem Inv.tok(I:Inv X aa U H s)(t:Nat):Inv X aa U H { s with toks:=t }:=I.un (h':=s.heap) (t':=t) Un.refl I.hok
theorem Inv.kept(I:Inv X aa U H s)(k:∀b u,s.heap.get? b=some u->h'.get? b=some u):Inv X aa U H { s with heap:=h',toks:=t' }:=I.un (Un.kept k) (I.hok.kept k)
theorem Inv.laid{o:HO}(I:Inv X aa U H s)(k:∀b u,s.heap.get? b=some u->h'.get? b=some u)(hp:s.heap.objs.size<=a)(new:ObjOk X.prog X.w (upd H a o) h' a o):
  Inv X aa U (upd H a o) { s with heap:=h',toks:=t' }:=I.un (Un.laid k hp (I.hok.fresh hp)) (I.hok.laid k hp new)
theorem Inv.write{x e:k_}{o:HO}(I:Inv X aa U H s)(mu:Mut (H x))(he:e=x\/H e=some (.own x))(k:∀b u,b≠e->s.heap.get? b=some u->h'.get? b=some u)(fh:∃u,h'.get? e=some u)(new:ObjOk X.prog X.w (upd H x o) h' x o):Inv X aa U (upd H x o) { s with heap:=h',toks:=t' }:=I.un (Un.write mu he k fh) (I.hok.write mu he k fh new)
theorem Inv.pins_of(I:Inv X aa U H s)(h:∀p∈fC,s.heap.get? p.1=some p.2/\H p.1=none/\p.1≠X.env.locals/\p.1∉X.fs/\∀v,p.2.data≠.cell v):Inv X fC U H s:=
 ⟨I.ok,I.os,I.bare,I.base,I.loc,I.cell,I.free,I.freeC,λp hp=>(L_.mp hp).elim (λz=>I.pin p (NI _ z)) (h p),I.hok,I.len⟩
theorem CV(hN:N.Nodup)(a:N[i]?=some x)(b:N[j]?=some x):i=j:=by
 obtain⟨h1,e1⟩:=p_.mp a;obtain⟨h2,e2⟩:=p_.mp b;exact(List.getElem_inj hN).mp (e1.trans e2.symm)
theorem AQ{M:Model}{E:b_->c_->Prop}{v:V}{Q:Unit->c_->Prop}(I:Inv X aa U H s)(hN:X.N.Nodup)(hi:X.N[i]?=some x)(hx:Loc X.env.scope x)(r:RelV v u)(h:∀s',Inv X aa (U.set i (some v)) H s'->(∃a,J_.SameBut a s.heap s'.heap/\(a=X.env.locals\/X.env.cells.lookup x=some a))->Q () s')(hf:X.fn x=true\/X.env.scope.names.lookup x=some .local):s_ M A (storeName X.env x u) Q E s:=by
 obtain⟨m,hn,hl⟩:=id I.loc;have kw:(X.env.scope.kind == .class||(X.env.scope.kind == .module&&X.env.locals != X.env.globals))=false:=by rw[I.ok.kind];rfl
 have i4:i < U.length:=by rw[I.len];exact(p_.mp hi).1
 have cne:=I.cne
 have cN:∀{a:k_}{h':J_},(∃o,s.heap.get? a=some o/\H a=none)->J_.SameBut a s.heap h'->HOk X.prog X.w H h':=λ{a h'} ha hs b ob e=>by
  obtain⟨_,_,fD⟩:=ha;refine(I.hok b ob e).stay (λc w' hc q=>(hs.2 c ?_).trans q) (λ_ q=>q) λ_ _ q=>q
  rintro rfl
  rcases hc with rfl | hc
  ·rw[fD] at e;cases e
  ·rw[fD] at hc;cases hc
 rcases hx with hk | hk
 ·refine wpAny_storeName_local hk hn (λh' fE hs=>?_) kw;obtain⟨oL,_,_,ni,_⟩:=id hn;refine h _ ⟨I.ok,I.os,I.bare,⟨λb o e n hb hx=>?_,λb o e n hb hx=>?_,I.base.free,λb o e hx=>?_,I.base.tups,I.base.frzs,I.base.tbls⟩,⟨_,fE,λj y v' e1 e2 e3=>?_⟩,λy c e=>?_,I.free,I.freeC,λp hp=>?_,cN ⟨oL,ni,I.free⟩ hs,by simpa using I.len⟩ ⟨_,hs,.inl rfl⟩
  ·exact(hs.2 b (NB (G_ (E_ e) I.ok.above))).trans (I.base.keep b o e n hb hx)
  ·obtain⟨sl,e1⟩:=I.base.slot b o e n hb hx;exact⟨sl,(hs.2 b (NB (G_ (E_ e) I.ok.above))).trans e1⟩
  ·obtain⟨o',e1⟩:=I.base.there b o e hx;exact⟨o',(hs.2 b (NB (G_ (E_ e) I.ok.above))).trans e1⟩
  ·by_cases hj:j=i
   ·subst hj;rw[hi] at e1;cases e1;rw[Og i4] at e2;cases e2;exact⟨u,r,.inl ⟨hk,by simp⟩⟩
   ·rw[NE (NH hj)] at e2;obtain⟨u',r',q⟩:=hl j y v' e1 e2 e3;refine⟨u',r',?_⟩
    rcases q with⟨k,e⟩ | ⟨k,c,e,z⟩
    ·refine .inl ⟨k,?_⟩;have:y≠x:=λe=>hj (CV hN e1 (e▸hi))
     simp[this,e]
    ·exact .inr ⟨k,c,e,z.sameBut hs (cne y c e)⟩
  ·obtain⟨w',z⟩:=I.cell y c e;exact⟨w',z.sameBut hs (cne y c e)⟩
  ·obtain⟨e,n,ne,nf,d⟩:=I.pin p hp;exact⟨(hs.2 p.1 ne).trans e,n,ne,nf,d⟩
 ·have jn:X.fn x=true:=by
   rcases hf with z | z
   ·exact z
   ·rw[z] at hk;cases hk
  obtain⟨c,hc⟩:=I.ok.has x (.inl hk);obtain⟨w',z⟩:=I.cell x c hc;refine wpAny_storeName_cell I.ok.kind hk hc z (λh' aN hs=>?_);obtain⟨oc,kx,kz⟩:=id z;refine h { s with heap:=h' } ⟨I.ok,I.os,I.bare,⟨λb o e n hb hx=>?_,λb o e n hb hx=>?_,I.base.free,λb o e hx=>?_,I.base.tups,I.base.frzs,I.base.tbls⟩,⟨m,hn.sameBut hs (NH (cne x c hc)),λj y v' e1 e2 e3=>?_⟩,λy c' e=>?_,I.free,I.freeC,λp hp=>?_,cN ⟨oc,kx,I.freeC x c hc⟩ hs,by simpa using I.len⟩ ⟨c,hs,.inr hc⟩
  ·exact(hs.2 b (NB (G_ (E_ e) (I.ok.cab x c jn hc)))).trans (I.base.keep b o e n hb hx)
  ·obtain⟨sl,e1⟩:=I.base.slot b o e n hb hx;exact⟨sl,(hs.2 b (NB (G_ (E_ e) (I.ok.cab x c jn hc)))).trans e1⟩
  ·obtain⟨o',e1⟩:=I.base.there b o e hx;exact⟨o',(hs.2 b (NB (G_ (E_ e) (I.ok.cab x c jn hc)))).trans e1⟩
  ·by_cases hj:j=i
   ·subst hj;rw[hi] at e1;cases e1;rw[Og i4] at e2;cases e2;exact⟨u,r,.inr ⟨.inl hk,c,hc,aN⟩⟩
   ·rw[NE (NH hj)] at e2;obtain⟨u',r',q⟩:=hl j y v' e1 e2 e3;refine⟨u',r',?_⟩
    rcases q with q | ⟨k,c',e,z'⟩
    ·exact .inl q
    ·refine .inr ⟨k,c',e,z'.sameBut hs ?_⟩;rintro rfl;exact hj (CV hN e1 (I.ok.inj _ _ _ e hc▸hi))
  ·by_cases jo:c'=c
   ·subst jo;exact⟨_,aN⟩
   ·obtain⟨w2,z2⟩:=I.cell y c' e;exact⟨w2,z2.sameBut hs jo⟩
  ·obtain⟨e,n,ne,nf,d⟩:=I.pin p hp;refine⟨(hs.2 p.1 ?_).trans e,n,ne,nf,d⟩;intro q;rw[q,kx] at e;have q':oc=p.2:=Nz e;exact d w' (by rw[←q'];exact kz)
theorem Cs{M:Model}{E:b_->c_->Prop}{v:V}{Q:Unit->c_->Prop}(I:Inv X aa U H s)(hN:X.N.Nodup)(hi:X.N[i]?=some x)(hx:Loc X.env.scope x)(r:RelV v u)(h:∀s',Inv X aa (U.set i (some v)) H s'->Q () s')(hf:X.fn x=true\/X.env.scope.names.lookup x=some .local):s_ M A (storeName X.env x u) Q E s:=
 AQ I hN hi hx r (λs' I' _=>h s' I') hf
theorem Inv.call'(I:Inv X aa U H s)(ho:s'.os=s.os)(u:Un (frs X.stack) ch H H' s.heap s'.heap)(hok:HOk X.prog X.w H' s'.heap)(hg:Qy s'.gens)(br:∀b∈ch,(b∈X.ex\/X.s₀.heap.objs.size<=b)/\b≠X.env.locals/\(∀x c,X.env.cells.lookup x=some c->c≠b)/\∀p∈X.pn++aa,p.1≠b):Inv X aa U H' s':=by
 obtain⟨h',g',d',t',o'⟩:=s';have e:o'=s.os:=ho;subst e;exact I.call (g':=g') (t':=t') (d':=d') u hok hg br
end
abbrev XK:=b_->Option k_->Hp->Prop
abbrev St:=List (Option V)
abbrev VK:=V->Hp->Prop
abbrev TE:=St->Hp->VK->Prop
abbrev TT:=St->Hp->(Bool->Hp->Prop)->Prop
abbrev TA:=St->Hp->(List V->Hp->Prop)->Prop
structure Ends where
 nx:St->Hp->Prop
 rt:VK
 bk:St->Hp->Prop:=λ_ _=>False
 ct:St->Hp->Prop:=λ_ _=>False
abbrev TS:=Ends->St->Hp->Prop
def EP(X:Cx)(aa:List (k_×Obj))(U:St)(Q:VK)(u:b_)(s':c_):Prop:=∃v H',Inv X aa U H' s'/\RelV v u/\Q v H'
def TP(X:Cx)(aa:List (k_×Obj))(U:St)(Q:Bool->Hp->Prop)(b:Bool)(s':c_):Prop:=∃H',Inv X aa U H' s'/\Q b H'
def AP(X:Cx)(aa:List (k_×Obj))(U:St)(Q:List V->Hp->Prop)(us:List b_)(s':c_):Prop:=∃vs H',Inv X aa U H' s'/\Vals vs us/\Q vs H'
def SP(X:Cx)(aa:List (k_×Obj))(D:Ends)(f:Flow)(s':c_):Prop:=
 match f with
 | .next=>∃am H',Inv X aa am H' s'/\D.nx am H'
 | .brk=>∃am H',Inv X aa am H' s'/\D.bk am H'
 | .cont=>∃am H',Inv X aa am H' s'/\D.ct am H'
 | .ret u=>∃v am H',Inv X aa am H' s'/\RelV v u/\D.rt v H'
def PE(X:Cx)(e:Ny)(t:TE):Prop:=
 ∀(aa:List (k_×Obj)) (s:c_) (U:St) (H:Hp) (Q:VK),Inv X aa U H s->t U H Q->s_ (t_ X.prog X.w) X.A (Nr e X.env) (EP X aa U Q) X.xe s
def PT(X:Cx)(e:Ny)(t:TT):Prop:=
 ∀(aa:List (k_×Obj)) (s:c_) (U:St) (H:Hp) (Q:Bool->Hp->Prop),Inv X aa U H s->t U H Q->s_ (t_ X.prog X.w) X.A (SG e X.env (Nr e X.env)) (TP X aa U Q) X.xe s
def PW(X:Cx)(e:Ny)(t:TT):Prop:=
 ∀(bJ:Sem b_) (aa:List (k_×Obj)) (s:c_) (U:St) (H:Hp) (Q:Bool->Hp->Prop),Inv X aa U H s->t U H Q->s_ (t_ X.prog X.w) X.A (SG e X.env bJ) (TP X aa U Q) X.xe s
def PA(X:Cx)(es:List Ny)(t:TA):Prop:=
 ∀(pos:Pos) (aa:List (k_×Obj)) (s:c_) (U:St) (H:Hp) (Q:List V->Hp->Prop),Inv X aa U H s->t U H Q->s_ (t_ X.prog X.w) X.A (spliced (ND pos (d_ es X.env))) (AP X aa U Q) X.xe s
def PS(X:Cx)(st:NO)(t:TS):Prop:=
 ∀(aa:List (k_×Obj)) (s:c_) (U:St) (H:Hp) (D:Ends),Inv X aa U H s->t D U H->s_ (t_ X.prog X.w) X.A (exec st X.env) (SP X aa D) X.xe s
def PSs(X:Cx)(st:List NO)(t:TS):Prop:=
 ∀(aa:List (k_×Obj)) (s:c_) (U:St) (H:Hp) (D:Ends),Inv X aa U H s->t D U H->s_ (t_ X.prog X.w) X.A (execs st X.env) (SP X aa D) X.xe s
theorem thn{α:Type}{t:Sem α}{Q Q':α->c_->Prop}{M:Model}{E:b_->c_->Prop}{s:c_}(h:s_ M A t Q E s)(hQ:∀a s,Q a s->Q' a s):s_ M A t Q' E s:=N2 h hQ λ_ _ x=>x
section
variable {X:Cx}
noncomputable def tVar(i:Nat):TE:=λU H Q=>∃v,U[i]?=some (some v)/\Q v H
noncomputable def tC(v:V):TE:=λ_ H Q=>Q v H
theorem Km(hN:X.N[i]?=some x)(hv:Vis X.env.scope x)(hd:(x == ("__debug__":Str))=false:=by decide)(cn:(x == ("__classdict__":Str))=false:=by decide):PE X (.Name x pos) (tVar i):=by
 intro aa s U H Q I h;obtain⟨v,e,h⟩:=h;obtain⟨m,hn,hl⟩:=I.loc;obtain⟨u,r,l⟩:=hl i x v hN e hv;have fin:EP X aa U Q u s:=⟨v,H,I,r,h⟩
 rcases l with⟨hk,hm⟩ | ⟨hk,c,hc,fF⟩
 ·exact SH (wpAny_loadName_local I.ok.kind hk hn hm fin) hd
 ·rcases hk with hk | hk
  ·exact SH (wpAny_loadName_cell I.ok.kind hk hc fF fin) hd
  ·exact SH (wpAny_loadName_free I.ok.kind hk hc fF fin cn) hd
theorem xm{i j pos}:PE X (.Constant (.int i) j pos) (tC (.int i)):=λ_ _ _ H _ I h=>wpAny_Constant_int ⟨.int i,H,I.tok _,⟨_,rfl⟩,h⟩
theorem Ac{b j pos}:PE X (.Constant (.bool b) j pos) (tC (.bl b)):=λ_ _ _ H _ I h=>Constant_bool ⟨.bl b,H,I,rfl,h⟩
theorem FD{j pos}:PE X (.Constant .none j pos) (tC .non):=λ_ _ _ H _ I h=>Constant_none ⟨.non,H,I,rfl,h⟩
theorem IV{x j pos}:PE X (.Constant (.str x) j pos) (tC (.str x)):=λ_ _ _ H _ I h=>Calls.Constant_str ⟨.str x,H,I.tok _,⟨_,rfl⟩,h⟩
def Gl(X:Cx)(x:Str):Prop:=X.env.kindOf x=some .globalImplicit
theorem EL{E:b_->c_->Prop}{s:c_}{U:St}{H:Hp}{Q:b_->c_->Prop}(I:Inv X aa U H s)(hg:Gl X x)(hm:X.mg x=some u)(h:Q u s)(hd:(x == ("__debug__":Str))=false:=by decide):s_ (t_ X.prog X.w) X.A (Nr (.Name x pos) X.env) Q E s:=
 Qn I.ok.kind hg (Calls.loadGlobal_global (by rw[I.ok.glob];exact I.mod.glob.keeps I.bk) hm h) hd
theorem rS{E:b_->c_->Prop}{s:c_}{U:St}{H:Hp}{Q:b_->c_->Prop}(I:Inv X aa U H s)(hg:Gl X x)(hm:X.mg x=none)(hv:Ob x=some u)(h:Q u s)(hn:x ≠ "__name__":=by decide)(hd:(x == ("__debug__":Str))=false:=by decide):s_ (t_ X.prog X.w) X.A (Nr (.Name x pos) X.env) Q E s:=by
 obtain⟨mb,h1,h2⟩:=I.mod.blt;exact Qn I.ok.kind hg (Calls.loadGlobal_builtin (by rw[I.ok.glob];exact I.mod.glob.keeps I.bk) hm (by rw[I.ok.blt];exact h1.keeps I.bk) ((h2 x hn).trans hv) h) hd
theorem Gx{v:V}(hg:Gl X x)(hm:X.mg x=none)(hv:Ob x=some u)(r:RelV v u)(hn:x ≠ "__name__":=by decide)(hd:(x == ("__debug__":Str))=false:=by decide):PE X (.Name x pos) (tC v):=
 λ_ _ _ H _ I h=>rS I hg hm hv ⟨v,H,I,r,h⟩ hn hd
variable{a b:Ny}{ta tb:TE}
noncomputable def tB(t:TE):TT:=λU H Q=>t U H λx H1=>∃c,x=.bl c/\Q c H1
theorem Hs{t:TE}(h:PE X e t)(he:∀bJ,SG e X.env bJ=(do let v ←bJ;S2 e.pos;Qd [v] (truthy v)):=by intros;rfl):PT X e (tB t):=by
 intro aa s U H Q I hw;refine isTrue_plain (thn (h aa s U H _ I hw) λv s1 ⟨x,H1,I1,r1,q1⟩=>?_) (he _);obtain⟨d,rfl,q⟩:=q1;cases r1;exact NQ ⟨H1,I1,q⟩
variable {tA gR:TT}{aj:List Ny}
noncomputable def tAnd(t u:TT):TT:=λU H Q=>t U H λc H1=>if c=true then u U H1 Q else Q false H1
noncomputable def tOr(t u:TT):TT:=λU H Q=>t U H λc H1=>if c=true then Q true H1 else u U H1 Q
noncomputable def tNot(t:TT):TT:=λU H Q=>t U H λc H1=>Q (!c) H1
theorem Dy(ha:PT X a tA):PW X (.BoolOp .And [a] pos) tA:=by
 intro wh aa s U H Q I h;refine isTrue_and (thn (ha aa s U H Q I h) λc s1 e=>?_);cases c with
 | true=>exact isTrue_and_nil e
 | false=>exact e
theorem GQ(ha:PT X a tA):PW X (.BoolOp .Or [a] pos) tA:=by
 intro wh aa s U H Q I h;refine isTrue_or (thn (ha aa s U H Q I h) λc s1 e=>?_);cases c with
 | false=>exact isTrue_or_nil e
 | true=>exact e
theorem Kt(ha:PT X a tA)(hb:PW X (.BoolOp .And (b::aj) pos) gR):PW X (.BoolOp .And (a::b::aj) pos) (tAnd tA gR):=by
 intro wh aa s U H Q I h;refine isTrue_and (thn (ha aa s U H _ I h) λc s1 ⟨H1,I1,q1⟩=>?_);cases c with
 | true=>exact hb wh aa s1 U H1 Q I1 q1
 | false=>exact⟨H1,I1,q1⟩
theorem GE(ha:PT X a tA)(hb:PW X (.BoolOp .Or (b::aj) pos) gR):PW X (.BoolOp .Or (a::b::aj) pos) (tOr tA gR):=by
 intro wh aa s U H Q I h;refine isTrue_or (thn (ha aa s U H _ I h) λc s1 ⟨H1,I1,q1⟩=>?_);cases c with
 | true=>exact⟨H1,I1,q1⟩
 | false=>exact hb wh aa s1 U H1 Q I1 q1
theorem Ft(ha:PT X a tA):PT X (.UnaryOp .Not a pos) (tNot tA):=by
 intro aa s U H Q I h;exact isTrue_not (ha aa s U H (λc H1=>Q (!c) H1) I h)
noncomputable def tAndV(ta tb:TE):TE:=λU H Q=>ta U H λx H1=>∃c,x=.bl c/\if c=true then tb U H1 Q else Q (.bl false) H1
theorem FK{op}{t:TE}(h:PE X a t):PE X (.BoolOp op [a] pos) t:=λaa s U H Q I hw=>BoolOp_one (h aa s U H Q I hw)
theorem K4(ha:PE X a ta)(hb:PE X (.BoolOp .And (b::aj) pos) tb):PE X (.BoolOp .And (a::b::aj) pos) (tAndV ta tb):=by
 intro aa s U H Q I h;refine BoolOp_and (thn (ha aa s U H _ I h) λv s1 ⟨x,H1,I1,r1,q1⟩=>?_);obtain⟨c,rfl,q1⟩:=q1;cases r1;refine NQ ?_;cases c with
 | true=>exact hb aa s1 U H1 Q I1 q1
 | false=>exact⟨.bl false,H1,I1,rfl,q1⟩
noncomputable def tIf(t:TT)(ta tb:TE):TE:=λU H Q=>t U H λc H1=>if c=true then ta U H1 Q else tb U H1 Q
theorem Iv{c:Ny}(hc:PT X c tA)(ha:PE X a ta)(hb:PE X b tb):PE X (.IfExp c a b pos) (tIf tA ta tb):=by
 intro aa s U H Q I h;refine wpAny_IfExp (thn (hc aa s U H _ I h) λd s1 ⟨H1,I1,q1⟩=>?_);cases d with
 | true=>exact ha aa s1 U H1 Q I1 q1
 | false=>exact hb aa s1 U H1 Q I1 q1
end
def SqL(K:PySem.W.Frag)(H:Hp)(a:k_)(xs:List V):Prop:=
 Rd H a (.lst xs) ∨
  ∃(o:Obj) (ae:Array b_) (n:Nat),K.lookup a=some o/\o.cls=.type "list"/\o.dict=none/\o.data=.seq ae n/\ae.size<=C_/\Vals xs ae.toList
def SqT(K:PySem.W.Frag)(H:Hp)(a:k_)(xs:List V):Prop:=
 Rd H a (.tup xs) ∨
  ∃(o:Obj) (ae:Array b_) (n:Nat),K.lookup a=some o/\o.cls=.type "tuple"/\o.data=.seq ae n/\ae.size<=C_/\Vals xs ae.toList
noncomputable def absV:b_->Option V
 | .none=>some .non
 | .bool b=>some (.bl b)
 | .int i _=>some (.int i)
 | .str x _=>some (.str x)
 | .bytes b _=>some (.byt b)
 | .float b _=>some (.flt b)
 | .ref a=>some (.ref a)
 | .type n=>some (.ty n)
 | _=>none
theorem RelV.abs{x:V}(r:RelV x u):absV u=some x:=by
 cases x with
 | non=>cases r;rfl
 | bl _=>cases r;rfl
 | int _=>obtain⟨t,rfl⟩:=r;rfl
 | str _=>obtain⟨t,rfl⟩:=r;rfl
 | byt _=>obtain⟨t,rfl⟩:=r;rfl
 | flt _=>obtain⟨t,rfl⟩:=r;rfl
 | ref _=>cases r;rfl
 | ty _=>cases r;rfl
theorem RelV.inj{x y:V}(r:RelV x u)(q:RelV y u):x=y:=Nz (r.abs.symm.trans q.abs)
theorem Vals.inj:∀{xs ys:List V}{us:List b_},Vals xs us->Vals ys us->xs=ys
 | _,_,_,.nil,.nil=>rfl
 | _,_,_,.cons r t,.cons r' t'=>by rw[r.inj r',Vals.inj t t']
section
variable{X:Cx}{U:St}{H:Hp}{s:c_}{xs ys:List V}
theorem SqL.of{K:PySem.W.Frag}(h:H a=some (.lst xs)):SqL K H a xs:=.inl (.inl h)
theorem SqT.of{K:PySem.W.Frag}(h:H a=some (.tup xs)):SqT K H a xs:=.inl (.inl h)
theorem Inv.list(I:Inv X aa U H s)(h:SqL X.K H a xs):∃ae:List b_,Vals xs ae/\PlainL s.heap a ae.toArray/\xs.length<=C_:=by
 rcases h with h | ⟨o,ae,n,hk,hc,hd,hs,hz,r⟩
 ·obtain⟨z,ae,n,r,e⟩:=h.ok I.hok;exact⟨ae,r,⟨_,n,e,rfl,rfl,rfl⟩,z⟩
 ·refine⟨ae.toList,r,⟨o,n,I.kIn a o hk,hc,hd,by simpa using hs⟩,?_⟩;have e:=r.length;simp only[NU] at e;omega
theorem Inv.tuple(I:Inv X aa U H s)(h:SqT X.K H a xs):∃ae:List b_,Vals xs ae/\SE s.heap a ae.toArray/\xs.length<=C_:=by
 rcases h with h | ⟨o,ae,n,hk,hc,hs,hz,r⟩
 ·obtain⟨z,ae,r,p⟩:=h.ok I.hok;exact⟨ae,r,p,z⟩
 ·refine⟨ae.toList,r,⟨o,I.kIn a o hk,hc,n,by simpa using hs⟩,?_⟩;have e:=r.length;simp only[NU] at e;omega
theorem Inv.list_inj(I:Inv X aa U H s)(h:SqL X.K H a xs)(h':SqL X.K H a ys):xs=ys:=by
 obtain⟨ae,r,⟨o,n,e,_,_,d⟩,_⟩:=I.list h;obtain⟨its',r',⟨o',n',e',_,_,d'⟩,_⟩:=I.list h';rw[e] at e';cases e';rw[d] at d';injection d' with d1 _
 have:ae=its':=by simpa using congrArg toList d1
 subst this;exact r.inj r'
theorem Inv.tuple_inj(I:Inv X aa U H s)(h:SqT X.K H a xs)(h':SqT X.K H a ys):xs=ys:=by
 obtain⟨ae,r,⟨o,e,_,n,d⟩,_⟩:=I.tuple h;obtain⟨its',r',⟨o',e',_,n',d'⟩,_⟩:=I.tuple h';rw[e] at e';cases e';rw[d] at d';injection d' with d1 _
 have:ae=its':=by simpa using congrArg toList d1
 subst this;exact r.inj r'
end
noncomputable abbrev Cx.wish(X:Cx)(E:b_->c_->Prop):Cx:={ X with xe:=E }
noncomputable abbrev Cx.nox(X:Cx):Cx:=X.wish λ_ _=>False
theorem Cx.Ok.wish{X:Cx}(ok:X.Ok)(E:b_->c_->Prop):(X.wish E).Ok:=
 ⟨ok.mod,ok.kind,ok.glob,ok.blt,ok.above,ok.inj,ok.has,ok.cab,ok.hd,ok.frames,ok.stk,ok.exf,ok.bs,ok.bsz,ok.noex,ok.exfs,ok.funs,ok.frf⟩
theorem Cx.Ok.unwish{X:Cx}{E:b_->c_->Prop}(ok:(X.wish E).Ok):X.Ok:=
 ⟨ok.mod,ok.kind,ok.glob,ok.blt,ok.above,ok.inj,ok.has,ok.cab,ok.hd,ok.frames,ok.stk,ok.exf,ok.bs,ok.bsz,ok.noex,ok.exfs,ok.funs,ok.frf⟩
section
variable{X:Cx}{U:St}{H:Hp}{s:c_}{E:b_->c_->Prop}
theorem Inv.wish(I:Inv X aa U H s)(E:b_->c_->Prop):Inv (X.wish E) aa U H s:=⟨I.ok.wish E,I.os,I.bare,I.base,I.loc,I.cell,I.free,I.freeC,I.pin,I.hok,I.len⟩
theorem Inv.unwish(I:Inv (X.wish E) aa U H s):Inv X aa U H s:=⟨I.ok.unwish,I.os,I.bare,I.base,I.loc,I.cell,I.free,I.freeC,I.pin,I.hok,I.len⟩
theorem SP.unwish{D:Ends}{f:Flow}(h:SP (X.wish E) aa D f s'):SP X aa D f s':=by
 cases f with
 | next=>obtain⟨am,H',I,q⟩:=h;exact⟨am,H',I.unwish,q⟩
 | brk=>obtain⟨am,H',I,q⟩:=h;exact⟨am,H',I.unwish,q⟩
 | cont=>obtain⟨am,H',I,q⟩:=h;exact⟨am,H',I.unwish,q⟩
 | ret u=>obtain⟨v,am,H',I,r,q⟩:=h;exact⟨v,am,H',I.unwish,r,q⟩
theorem PSs.nox{st:List NO}{t:TS}(h:PSs X.nox st t):PSs X st t:=λaa s U H D I hw =>
 N2 (h aa s U H D (I.wish _) hw) (λ_ _ q=>q.unwish) λ_ _ z=>S3 z
end
section
variable{X:Cx}{st:NO}{aj:List NO}{t u:TS}{te:TE}
noncomputable def tNext:TS:=λD U H=>D.nx U H
noncomputable def tSeq(t u:TS):TS:=λD U H=>t { D with nx:=u D } U H
theorem Cu:PSs X [] tNext:=λ_ _ U H _ I h=>P7 ⟨U,H,I,h⟩
theorem u6(h1:PS X st t)(h2:PSs X aj u):PSs X (st::aj) (tSeq t u):=by
 intro aa s U H D I h;refine wpAny_execs_cons (thn (h1 aa s U H { D with nx:=u D } I h) λf s1 q=>?_);cases f with
 | next =>
  obtain⟨am,H',I',q⟩:=q;exact h2 aa s1 am H' D I' q
 | ret v=>exact q
 | brk=>exact q
 | cont=>exact q
theorem CC(h1:PS X st t):PSs X [st] t:=by
 intro aa s U H D I h;refine wpAny_execs_cons (thn (h1 aa s U H D I h) λf s1 q=>?_);cases f with
 | next=>exact P7 q
 | ret v=>exact q
 | brk=>exact q
 | cont=>exact q
theorem Inv.quiet{U:St}{H:Hp}{s:c_}(I:Inv X aa U H s):interactive X.env=false:=by simp[interactive,I.ok.kind]
noncomputable def tDrop(te:TE):TS:=λD U H=>te U H λ_ H1=>D.nx U H1
theorem uV(he:PE X e te)(hs:N8 e none pos.line X.env=pure false:=by rfl):PS X (.Expr e pos) (tDrop te):=by
 intro aa s U H D I h;exact wpAny_Expr_any (thn (he aa s U H _ I h) λv s1 ⟨x,H1,I1,r1,q1⟩=>⟨U,H1,I1,q1⟩) I.quiet hs
noncomputable def tRet(te:TE):TS:=λD U H=>te U H D.rt
theorem u0(he:PE X e te):PS X (.Return (some e) pos) (tRet te):=by
 intro aa s U H D I h;exact wpAny_Return_some (thn (he aa s U H _ I h) λv s1 ⟨x,H1,I1,r1,q1⟩=>⟨x,U,H1,I1,r1,q1⟩)
noncomputable def tIfS(c:TT)(t u:TS):TS:=λD U H=>c U H λb H1=>if b=true then t D U H1 else u D U H1
theorem zN{c:Ny}{a b:List NO}{tc:TT}(hc:PT X c tc)(ha:PSs X a t)(hb:PSs X b u):PS X (.If c a b pos) (tIfS tc t u):=by
 intro aa s U H D I h;refine wpAny_If (thn (hc aa s U H _ I h) λd s1 ⟨H1,I1,q1⟩=>?_);cases d with
 | true=>exact ha aa s1 U H1 D I1 q1
 | false=>exact hb aa s1 U H1 D I1 q1
noncomputable def tNever:TS:=λ_ _ _=>False
theorem Hy:PS X st tNever:=λ_ _ _ _ _ _ h=>h.elim
end
abbrev TG:=V->St->Hp->(St->Hp->Prop)->Prop
abbrev TGs:=List V->St->Hp->(St->Hp->Prop)->Prop
def PG(X:Cx)(gS:Ny)(t:TG):Prop:=
 ∀(aa:List (k_×Obj)) (s:c_) (U:St) (H:Hp) (v:V) (u:b_) (Q:St->Hp->Prop),Inv X aa U H s->RelV v u->t v U H Q →
  s_ (t_ X.prog X.w) X.A (P8 gS X.env u) (λ_ s'=>∃am H',Inv X aa am H' s'/\Q am H') X.xe s
def PGs(X:Cx)(ts:List Ny)(t:TGs):Prop:=
 ∀(aa:List (k_×Obj)) (s:c_) (U:St) (H:Hp) (vs:List V) (us:List b_) (Q:St->Hp->Prop),Inv X aa U H s->Vals vs us->t vs U H Q →
  s_ (t_ X.prog X.w) X.A (assignInOrder ((Oi ts X.env).map (·.2)) us) (λ_ s'=>∃am H',Inv X aa am H' s'/\Q am H') X.xe s
abbrev TSet:=V->V->V->Hp->(Hp->Prop)->Prop
def PSet(X:Cx)(t:TSet):Prop:=
 ∀(aa:List (k_×Obj)) (s:c_) (U:St) (H:Hp) (o i v:V) (ov iv u:b_) (Q:Hp->Prop),Inv X aa U H s->RelV o ov->RelV i iv->RelV v u->t o i v H Q →
  s_ (t_ X.prog X.w) X.A (setItem ov iv u) (λ_ s'=>∃H',Inv X aa U H' s'/\Q H') X.xe s
section
variable{X:Cx}
noncomputable def gName(i:Nat):TG:=λv U H Q=>Q (U.set i (some v)) H
theorem A6(hN:X.N.Nodup)(hi:X.N[i]?=some x)(hx:Loc X.env.scope x)(hf:X.fn x=true\/X.env.scope.names.lookup x=some .local):PG X (.Name x pos) (gName i):=by
 intro aa s U H v u Q I r h;exact R8 (Cs I hN hi hx r (λs' I'=>⟨_,H,I',h⟩) hf)
noncomputable def gNil:TGs:=λvs U H Q=>vs=[]/\Q U H
noncomputable def gCons(t:TG)(u:TGs):TGs:=λvs U H Q=>∃v r,vs=v::r/\t v U H λam H'=>u r am H' Q
theorem Jb:PGs X [] gNil:=by
 intro aa s U H vs us Q I r h;obtain⟨e,h⟩:=h;subst e;cases r;exact assignInOrder_nil ⟨U,H,I,h⟩
theorem GL{es:List Ny}{t:TG}{u:TGs}(h1:PG X e t)(h2:PGs X es u)(hs:(Oi (e::es) X.env).map (·.2)=P8 e X.env::(Oi es X.env).map (·.2):=by rfl):PGs X (e::es) (gCons t u):=by
 intro aa s U H vs us Q I r h;obtain⟨v,vr,e1,h⟩:=h;subst e1;cases r with
 | cons r rr =>
  rw[hs];refine assignInOrder_cons (thn (h1 aa s U H _ _ _ I r h) λ_ s1 ⟨b9,H1,I1,q1⟩=>?_);exact h2 aa s1 b9 H1 _ _ Q I1 rr q1
noncomputable def gTup(K:PySem.W.Frag)(n:Nat)(t:TGs):TG:=λv U H Q=>∃a xs,v=.ref a/\SqT K H a xs/\xs.length=n/\t xs U H Q
theorem HY{es:List Ny}{t:TGs}(hc:X.calm=true)(h:PGs X es t)(hn:(Oi es X.env).length=n:=by rfl)(fG:(Oi es X.env).findIdx? (·.1)=none:=by rfl):PG X (.Tuple es k pos) (gTup X.K n t):=by
 intro aa s U H v u Q I r hw;obtain⟨a,xs,e1,hq,hl,hw⟩:=hw;subst e1;cases r;obtain⟨ae,rv,ht,hz⟩:=I.tuple hq;refine assign_Tuple_tuple (I.ok.hd hc) ht (by simp[hn,←hl,rv.length]) fG λh' hx=>?_
 have I1:Inv X aa U H { s with heap:=h' }:=I.kept (t':=s.toks) λb o e=>hx b o (NB (E_ e)) e
 exact h aa _ U H xs _ Q I1 (by simpa using rv) hw
noncomputable def gSub(to ti:TE)(t:TSet):TG:=λv U H Q=>to U H λo H1=>ti U H1 λi H2=>t o i v H2 λH3=>Q U H3
theorem D'{o i:Ny}{to ti:TE}{t:TSet}(ho:PE X o to)(hi:PE X i ti)(hs:PSet X t)(ha:∀v,P8 (.Subscript o i pos) X.env v=(do
   let ov ←Qd [v] (Nr o X.env)
   let iv ←Qd [v,ov] (Nr i X.env)
   S2 pos
   Qd [v,ov,iv] (setItem ov iv v)
   release [v,ov,iv] []):=by intros;rfl):PG X (.Subscript o i pos) (gSub to ti t):=by
 intro aa s U H v u Q I r h;rw[ha];refine a_ (NN (thn (ho aa s U H _ I h) λov s1 ⟨x,H1,I1,r1,q1⟩=>?_));refine a_ (NN (thn (hi aa s1 U H1 _ I1 q1) λiv s2 ⟨y,H2,I2,r2,q2⟩=>?_));refine a_ (RS (a_ (NN (thn (hs aa s2 U H2 x y v ov iv u _ I2 r1 r2 r q2) λ_ s3 ⟨H3,I3,q3⟩=>?_))));exact wpAny_release ⟨U,H3,I3,q3⟩
noncomputable def tAsg(te:TE)(g:TG):TS:=λD U H=>te U H λx H1=>g x U H1 D.nx
theorem xk{te:TE}{g:TG}(he:PE X e te)(hg:PG X tg g)(hs:QJ [tg] e pos.line X.env=pure false:=by rfl)(hw:QK [tg] e X.env=pure none:=by rfl)(h1:(Oi [tg] X.env).map (·.2)=[P8 tg X.env]:=by rfl):PS X (.Assign [tg] e pos) (tAsg te g):=by
 intro aa s U H D I h;refine wpAny_Assign_stores (thn (he aa s U H _ I h) λv s1 ⟨x,H1,I1,r1,q1⟩=>?_) hs hw;rw[h1];exact thn (hg aa s1 U H1 x v _ I1 r1 q1) λ_ s2 q=>q
theorem vT{te:TE}(hN:X.N.Nodup)(hi:X.N[i]?=some x)(hx:Loc X.env.scope x)(he:PE X e te)(hs:N8 e (some (.Name x aH)) pos.line X.env=pure false:=by rfl)(hf:X.fn x=true\/X.env.scope.names.lookup x=some .local):
  PS X (.Assign [.Name x aH] e pos) (tAsg te (gName i)):=by
 intro aa s U H D I h;refine wpAny_Assign_Name (thn (he aa s U H _ I h) λv s1 ⟨y,H1,I1,r1,q1⟩=>?_) hs;exact Cs I1 hN hi hx r1 (λs2 I2=>⟨_,H1,I2,q1⟩) hf
end
section
variable{X:Cx}
noncomputable def tWhile(c:TT)(tb:TS):TS:=λD U H=>∃W:Nat->St->Hp->Prop,(∃m,W m U H)/\∀m U H,W m U H →
 c U H λb H1=>if b=true then ∃N:St->Hp->Prop,(∀am H',N am H'->∃m',m' < m/\W m' am H')/\tb { D with nx:=N,ct:=N,bk:=D.nx } U H1 else D.nx U H1
theorem Ie{c:Ny}{body:List NO}{tc:TT}{tb:TS}(hp:QX (t_ X.prog X.w) X.A X.env X.xe)(hc:PT X c tc)(hb:PSs X body tb):PS X (.While c body [] pos) (tWhile tc tb):=by
 intro aa s U H D I h;obtain⟨W,⟨m0,w0⟩,turn⟩:=h;refine wpAny_While (codeAny_whileLoop (λn s'=>∃am H',Inv X aa am H' s'/\W n am H') ?_ m0 ⟨U,H,I,w0⟩);rintro n s1 ⟨b9,H1,I1,w1⟩;refine Os hp (thn (hc aa s1 b9 H1 _ I1 (turn n b9 H1 w1)) λb s2 ⟨H2,I2,q2⟩=>?_);cases b with
 | true =>
  obtain⟨N,hN,q2⟩:=q2;rw[if_pos rfl];refine Os hp (thn (hb aa s2 b9 H2 _ I2 q2) λf s3 q3=>?_);cases f with
  | next =>
   obtain⟨cP,H3,I3,n3⟩:=q3;obtain⟨m',hm,w3⟩:=hN cP H3 n3;exact⟨m',hm,cP,H3,I3,w3⟩
  | cont =>
   obtain⟨cP,H3,I3,n3⟩:=q3;obtain⟨m',hm,w3⟩:=hN cP H3 n3;exact⟨m',hm,cP,H3,I3,w3⟩
  | brk=>exact q3
  | ret v=>exact q3
 | false =>
  rw[if_neg i_];exact P7 ⟨b9,H2,I2,q2⟩
end
structure It where
 go:Nat->Hp->Prop
 yld:Nat->Hp->V->Hp->Prop
 stop:Nat->Hp->Prop
def FpOk(X:Cx)(aa:List (k_×Obj))(H:Hp)(b:k_):Prop:=
 H b=none/\b≠X.env.locals/\b∉X.fs/\(b∈X.ex\/X.s₀.heap.objs.size<=b)/\(∀x c,X.env.cells.lookup x=some c->c≠b)/\∀p∈X.pn++aa,p.1≠b
theorem Inv.fpOk{X:Cx}{U:St}{H H':Hp}{s:c_}(I:Inv X aa U H s)(hb:s.heap.objs.size<=b)(hn:H' b=none):FpOk X aa H' b:=by
 refine⟨hn,Qo (G_ I.lt hb),I.nofs hb,.inr (z_ I.sz hb),λx c e z=>?_,λp hp z=>?_⟩
 ·obtain⟨v,q⟩:=I.cell x c e;exact absurd (G_ q.lt (by rw[z];exact hb)) (Oq _)
 ·exact absurd (G_ (E_ (I.pin p hp).1) (by rw[z];exact hb)) (Oq _)
structure Turn(P:A_)(w:I_)(K:PySem.W.Frag)(tg:Ny)(J:It)(fp:List k_)(it:k_)(tn:Nat->J_->Prop):Prop where
 mem:it∈fp
 obj:∀i h,tn i h->∀b∈fp,∃o,h.get? b=some o/\∀v,o.data≠.cell v
 keep:∀i h h',tn i h->(∀b∈fp,∀o,h.get? b=some o->h'.get? b=some o)->tn i h'
 item:∀(X:Cx),X.prog=P->X.w=w->X.K=K->X.calm=true->∀(i:Nat) (aa:List (k_×Obj)) (s:c_) (U:St) (H:Hp) (E:b_->c_->Prop),Inv X aa U H s->(∀b∈fp,FpOk X aa H b)->tn i s.heap->J.go i H →
  s_ (t_ P w) X.A (PL (.ref it)) (λr s1=>∃u,r=some u ∧
   s_ (t_ P w) X.A (P9 tg (.ref it) u) (λ_ s2=>∃x H',Inv X aa U H' s2/\RelV x u/\J.yld i H x H'/\tn (i+1) s2.heap/\∀b∈fp,H' b=none) E s1) E s
 done:∀(X:Cx),X.prog=P->X.w=w->X.K=K->X.calm=true->∀(i:Nat) (aa:List (k_×Obj)) (s:c_) (U:St) (H:Hp) (E:b_->c_->Prop),Inv X aa U H s->(∀b∈fp,FpOk X aa H b)->tn i s.heap->J.stop i H →
  s_ (t_ P w) X.A (PL (.ref it)) (λr s1=>r=none/\Inv X aa U H s1) E s
 self:∀(A:Oe) (i:Nat) (s:c_) (Q:b_->c_->Prop) (E:b_->c_->Prop),tn i s.heap->Q (.ref it) s->s_ (t_ P w) A (RW (.ref it)) Q E s
abbrev TI:=St->Hp->(It->Hp->Prop)->Prop
def PIE(X:Cx)(aa:List (k_×Obj))(U:St)(tg:Ny)(R:It->Hp->Prop)(gT:b_)(s2:c_):Prop:=
 ∃(it:k_) (fp:List k_) (tn:Nat->J_->Prop) (J:It) (H':Hp),gT=.ref it/\Inv X aa U H' s2/\Turn X.prog X.w X.K tg J fp it tn/\tn 0 s2.heap/\(∀b∈fp,FpOk X aa H' b)/\R J H'
def PI(X:Cx)(tg iter:Ny)(wi:TI):Prop:=
 ∀(aa:List (k_×Obj)) (s:c_) (U:St) (H:Hp) (R:It->Hp->Prop),Inv X aa U H s->wi U H R →
  s_ (t_ X.prog X.w) X.A (Nr iter X.env) (λv s1=>s_ (t_ X.prog X.w) X.A (RW v) (PIE X aa U tg R) X.xe s1) X.xe s
theorem yH{M:Model}{E:b_->c_->Prop}{s:c_}{it:k_}{o:Obj}{n:String}{vs:Array b_}{Q:Unit->c_->Prop}(ho:s.heap.get? it=some o)(hc:o.cls=.type n)(hd:o.data=.fields vs)(hn:["enumerate", "zip", "dict_itemiterator", "dict_reverseitemiterator", "odict_iterator", "itertools.zip_longest", "itertools.pairwise"].contains n=false)(hQ:Q () s):s_ M A (P9 tg (.ref it) u) Q E s:=by
 unfold P9
 cases tg<;>first
  | exact e_ hQ
  | (cases u<;>first
    | exact e_ hQ
    | (refine a_ (wpAny_load ho ?_)
       rw[hc,hd];show s_ M A (if(["enumerate", "zip", "dict_itemiterator", "dict_reverseitemiterator", "odict_iterator", "itertools.zip_longest", "itertools.pairwise"].contains n&&vs[0]? == some (Rb _))=true then _ else _) Q E s;rw[if_neg (by intro h;rw[hn,Rw] at h;cases h)]
       exact e_ hQ))
noncomputable def Itl(K:PySem.W.Frag)(a:k_):It:=
 ⟨λi H=>∃xs x,SqL K H a xs/\xs[i]?=some x,λi H x H'=>H'=H/\∀xs,SqL K H a xs->xs[i]?=some x,λi H=>∃xs,SqL K H a xs/\xs.length<=i⟩
noncomputable def Itt(K:PySem.W.Frag)(a:k_):It:=
 ⟨λi H=>∃xs x,SqT K H a xs/\xs[i]?=some x,λi H x H'=>H'=H/\∀xs,SqT K H a xs->xs[i]?=some x,λi H=>∃xs,SqT K H a xs/\xs.length<=i⟩
noncomputable def Itr(lo:Int)(n:Nat):It:=⟨λi _=>i < n,λi H x H'=>H'=H/\x=.int (lo+i),λi _=>n<=i⟩
theorem Ji{P:A_}{w:I_}{K:PySem.W.Frag}(a it:k_):Turn P w K tg (Itl K a) [it] it (λi h=>h.IsListIter it a i) where
 mem:=by simp
 obj:=λi h st b hb=>by
  have e:b=it:=by simpa using hb
  subst e;obtain⟨o,e,c,d⟩:=st;exact⟨o,e,λv z=>by rw[d] at z;cases z⟩
 keep:=λi h h' st k=>st.at λo e=>k it (by simp) o e
 item:=by
  intro X hP hw hK hc i aa s U H E I hf st hg;subst hP hw hK;obtain⟨xs,x,hq,hx⟩:=hg;obtain⟨ae,rv,p,hz⟩:=I.list hq;obtain⟨u,hu,ru⟩:=rv.get hx;obtain⟨f0,f1,f2,f3,f4,f5⟩:=hf it (by simp);refine wpAny_pyNext_list_item st p.isList (x:=u) (by simpa using hu) λh' dI sb=>?_
  have I1:Inv X aa U H { s with heap:=h' }:=I.turned (t':=s.toks) (λb o hb e=>(sb.2 b hb).trans e) f0 f1 f3 f4 f5;obtain⟨o,e,c,d⟩:=id dI;exact⟨u,rfl,yH (s:={ s with heap:=h' }) e c d (by decide) ⟨x,H,I1,ru,⟨rfl,λys hy=>by rw[I.list_inj hy hq];exact hx⟩,dI,λb hb=>(hf b hb).1⟩⟩
 done:=by
  intro X hP hw hK hc i aa s U H E I hf st hg;subst hP hw hK;obtain⟨xs,hq,hx⟩:=hg;obtain⟨ae,rv,p,hz⟩:=I.list hq;obtain⟨f0,f1,f2,f3,f4,f5⟩:=hf it (by simp);have hl:=rv.length;exact wpAny_pyNext_list_end (I.ok.hd hc) st p.isList (by simp;omega) λh' eb=>⟨rfl,I.turned (t':=s.toks) (λb o hb e=>eb b o hb e) f0 f1 f3 f4 f5⟩
 self:=λ_ _ _ _ _ st h=>wpAny_pyIter_listiter st h
theorem EW{P:A_}{w:I_}{K:PySem.W.Frag}(a it:k_):Turn P w K tg (Itt K a) [it] it (λi h=>h.IsTupleIter it a i) where
 mem:=by simp
 obj:=λi h st b hb=>by
  have e:b=it:=by simpa using hb
  subst e;obtain⟨o,e,c,d⟩:=st;exact⟨o,e,λv z=>by rw[d] at z;cases z⟩
 keep:=λi h h' st k=>st.at λo e=>k it (by simp) o e
 item:=by
  intro X hP hw hK hc i aa s U H E I hf st hg;subst hP hw hK;obtain⟨xs,x,hq,hx⟩:=hg;obtain⟨ae,rv,p,hz⟩:=I.tuple hq;obtain⟨u,hu,ru⟩:=rv.get hx;obtain⟨f0,f1,f2,f3,f4,f5⟩:=hf it (by simp);refine wpAny_pyNext_tuple_item st (show s.heap.IsTuple a ae.toArray from p) (x:=u) (by simpa using hu) λh' dI sb=>?_
  have I1:Inv X aa U H { s with heap:=h' }:=I.turned (t':=s.toks) (λb o hb e=>(sb.2 b hb).trans e) f0 f1 f3 f4 f5;obtain⟨o,e,c,d⟩:=id dI;exact⟨u,rfl,yH (s:={ s with heap:=h' }) e c d (by decide) ⟨x,H,I1,ru,⟨rfl,λys hy=>by rw[I.tuple_inj hy hq];exact hx⟩,dI,λb hb=>(hf b hb).1⟩⟩
 done:=by
  intro X hP hw hK hc i aa s U H E I hf st hg;subst hP hw hK;obtain⟨xs,hq,hx⟩:=hg;obtain⟨ae,rv,p,hz⟩:=I.tuple hq;obtain⟨f0,f1,f2,f3,f4,f5⟩:=hf it (by simp);have hl:=rv.length;exact wpAny_pyNext_tuple_end (I.ok.hd hc) st (show s.heap.IsTuple a ae.toArray from p) (by simp;omega) λh' eb=>⟨rfl,I.turned (t':=s.toks) (λb o hb e=>eb b o hb e) f0 f1 f3 f4 f5⟩
 self:=λ_ _ _ _ _ st h=>wpAny_pyIter_tupleiter st h
theorem GV{P:A_}{w:I_}{K:PySem.W.Frag}(it:k_)(lo:Int)(n:Nat):Turn P w K tg (Itr lo n) [it] it (λi h=>IsRangeIter h it (lo+(i:Nat)*1) ((n:Int) - (i:Nat)) 1) where
 mem:=by simp
 obj:=λi h st b hb=>by
  have e:b=it:=by simpa using hb
  subst e
  exact⟨_,st,λv z=>by
   have z':fields _=RL v:=z
   cases z'⟩
 keep:=λi h h' st k=>k it (by simp) _ st
 item:=by
  intro X hP hw hK hc i aa s U H E I hf st hg;subst hP hw hK;obtain⟨f0,f1,f2,f3,f4,f5⟩:=hf it (by simp);have W:=Walks.range (prog:=X.prog) (w:=X.w) (I.ok.hd hc) it lo 1 n;refine W.item i s _ _ hg st λv h' tk hv dI kk=>?_
  obtain⟨t,rfl⟩:=hv;have I1:Inv X aa U H { s with heap:=h',toks:=tk }:=I.turned (λb o hb e=>kk b o (by simpa using hb) e) f0 f1 f3 f4 f5;refine⟨_,rfl,yH (s:={ s with heap:=h',toks:=tk }) (n:= "range_iterator") dI rfl rfl (by decide) ⟨.int (lo+i),H,I1,⟨t,?_⟩,⟨rfl,rfl⟩,dI,λb hb=>(hf b hb).1⟩⟩;rw[Int.mul_one]
 done:=by
  intro X hP hw hK hc i aa s U H E I hf st hg;subst hP hw hK;obtain⟨f0,f1,f2,f3,f4,f5⟩:=hf it (by simp);exact wpAny_pyNext_range_end (I.ok.hd hc) st (by have:n<=i:=hg;omega) λh' eb=>⟨rfl,I.turned (t':=s.toks) (λb o hb e=>eb b o hb e) f0 f1 f3 f4 f5⟩
 self:=λ_ _ _ _ _ st h=>wpAny_pyIter_rangeiter st h
section
variable{X:Cx}
theorem Aj{U:St}{H:Hp}{s:c_}{R:It->Hp->Prop}{E:b_->c_->Prop}{lo hi:Int}{t u v:Tok}(I:Inv X aa U H s)(h1:-(2 ^ 62)<=lo)(h2:lo < 2 ^ 62)(h3:-(2 ^ 62)<=hi)(h4:hi < 2 ^ 62)(q:R (Itr lo (hi - lo).toNat) H):s_ (t_ X.prog X.w) X.A (RW (.ref s.heap.objs.size)) (PIE X aa U tg R) E { s with heap:=s.heap.push { cls:=.type "range", data:=.fields #[.int lo t,.int hi u,.int 1 v] },toks:=tk }:=by
 refine wpAny_pyIter_range (IsRange.new ..) (small_one h1 h2 h3 h4) ?_;have I1:Inv X aa U H { s with heap:=s.heap.push { cls:=.type "range", data:=.fields #[.int lo t,.int hi u,.int 1 v] },toks:=tk }:=I.kept λb o e=>f_ _ e
 refine⟨(s.heap.push { cls:=.type "range", data:=.fields #[.int lo t,.int hi u,.int 1 v] }).objs.size,[(s.heap.push { cls:=.type "range", data:=.fields #[.int lo t,.int hi u,.int 1 v] }).objs.size],_,_,H,rfl,
  I1.kept (t':=tk) λb o e=>f_ _ e,GV _ lo (hi - lo).toNat,?_,λb hb=>?_,q⟩
 ·have e1:lo+((0:Nat):Int)*1=lo:=by simp
  have e2:(((hi - lo).toNat:Nat):Int) - ((0:Nat):Int)=rangeSize lo hi 1:=by rw[rangeSize_one];split<;>omega
  show IsRangeIter _ _ (lo+((0:Nat):Int)*1) ((((hi - lo).toNat:Nat):Int) - ((0:Nat):Int)) 1;rw[e1,e2];exact x_ _ rfl
 ·have e:b=(s.heap.push { cls:=.type "range", data:=.fields #[.int lo t,.int hi u,.int 1 v] }).objs.size:=by simpa using hb
  subst e;exact I1.fpOk (v_ _) (I1.hok.fresh (v_ _))
noncomputable def iRng1(ta:TA):TI:=λU H R=>ta U H λvs H1=>∃j:Int,vs=[.int j]/\-(2 ^ 62)<=j/\j < 2 ^ 62/\R (Itr 0 j.toNat) H1
noncomputable def iRng2(ta:TA):TI:=λU H R=>ta U H λvs H1=>∃i j:Int,vs=[.int i,.int j]/\(-(2 ^ 62)<=i/\i < 2 ^ 62/\-(2 ^ 62)<=j/\j < 2 ^ 62)/\R (Itr i (j - i).toNat) H1
theorem Ez{a:Ny}{ta:TA}{p:Pos}(hg:Gl X "range")(hm:X.mg "range"=none)(ha:PA X [a] ta)(hs:d_ [a] X.env=[(false,Nr a X.env)]:=by rfl):PI X tg (.Call (.Name "range" p) [a] [] pos) (iRng1 ta):=by
 intro aa s U H R I h;refine S_ (rS I hg hm SJ (Nt (thn (ha pos aa s U H _ I h) λus s1 ⟨vs,H1,I1,r1,q1⟩=>?_) hs rfl));obtain⟨j,e,q1,q2,q⟩:=q1;subst e;cases r1 with
 | cons r rr =>
  cases rr;obtain⟨t,rfl⟩:=r;exact call_range_1 (Aj I1 (by omega) (by omega) q1 q2 (by simpa using q))
theorem G'{a b:Ny}{ta:TA}{p:Pos}(hg:Gl X "range")(hm:X.mg "range"=none)(ha:PA X [a,b] ta)(hs:d_ [a,b] X.env=[(false,Nr a X.env),(false,Nr b X.env)]:=by rfl)(cb:d_ [b] X.env=[(false,Nr b X.env)]:=by rfl):
  PI X tg (.Call (.Name "range" p) [a,b] [] pos) (iRng2 ta):=by
 intro aa s U H R I h;refine S_ (rS I hg hm SJ (Nt (thn (ha pos aa s U H _ I h) λus s1 ⟨vs,H1,I1,r1,q1⟩=>?_) (by rw[hs,cb]) (by rw[cb];rfl)));obtain⟨i,j,e,⟨q1,q2,q3,q4⟩,q⟩:=q1;subst e;cases r1 with
 | cons r rr =>
  cases rr with
  | cons r' rr =>
   cases rr;obtain⟨t,rfl⟩:=r;obtain⟨t',rfl⟩:=r';exact call_range_2 (Aj I1 q1 q2 q3 q4 q)
noncomputable def tFor(wi:TI)(g:TG)(tb:TS):TS:=λD U H=>wi U H λJ H1=>∃W:Nat->Nat->St->Hp->Prop,(∃m,W 0 m U H1)/\∀i m U H,W i m U H →
 (J.stop i H/\D.nx U H)\/(J.go i H/\∃N:St->Hp->Prop,(∀am H',N am H'->∃m',m' < m/\W (i+1) m' am H')/\∀x H',J.yld i H x H'->g x U H' λa9 H2=>tb { D with nx:=N,ct:=N,bk:=D.nx } a9 H2)
noncomputable def pinsAt(fp:List k_)(h:J_):List (k_×Obj):=fp.filterMap λb=>(h.get? b).map λo=>(b,o)
theorem vt{h:J_}{o:Obj}(hb:b∈fp)(e:h.get? b=some o):(b,o)∈pinsAt fp h:=Qp.mpr ⟨b,hb,by rw[e];rfl⟩
theorem Eo{h:J_}{p:k_×Obj}(hp:p∈pinsAt fp h):p.1∈fp/\h.get? p.1=some p.2:=by
 obtain⟨b,hb,e⟩:=Qp.mp hp;cases q:h.get? b with
 | none=>rw[q] at e;cases e
 | some o =>
  rw[q] at e;have e':(b,o)=p:=Nz e;subst e';exact⟨hb,q⟩
theorem Inv.pinned{U:St}{H:Hp}{s:c_}(I:Inv X aa U H s)(hf:∀b∈fp,FpOk X aa H b)(ho:∀b∈fp,∃o,s.heap.get? b=some o/\∀v,o.data≠.cell v):Inv X (aa++pinsAt fp s.heap) U H s:=
 I.pins_of λp hp=>(L_.mp hp).elim (λz=>I.pin p (F_ _ z)) λz=>by
  obtain⟨hb,e⟩:=Eo z;obtain⟨f0,f1,f2,_⟩:=hf p.1 hb;obtain⟨o,e',d⟩:=ho p.1 hb;rw[e] at e';cases e';exact⟨e,f0,f1,f2,d⟩
theorem Inv.unpinned{pl:List (k_×Obj)}{U:St}{H:Hp}{s:c_}(I:Inv X (aa++pl) U H s):Inv X aa U H s:=I.pins_of λp hp=>I.pin p (F_ _ (NI _ hp))
theorem DW{body:List NO}{wi:TI}{g:TG}{tb:TS}(hp:QX (t_ X.prog X.w) X.A X.env X.xe)(hc:X.calm=true)(hi:PI X tg iter wi)(hg:PG X tg g)(hb:PSs X body tb)(hs:∀x,NR iter X.env x=pure x:=by intros;rfl):PS X (.For tg iter body [] pos) (tFor wi g tb):=by
 intro aa s U H D I h;refine wpAny_For (thn (hi aa s U H _ I h) λv s1 h1=>thn h1 λgT s2 h2=>?_) hs;obtain⟨it,fp,tn,J,H2,e,I2,T,dJ,f2,W,⟨m0,w0⟩,turn⟩:=h2;subst e
 -- what stays true of the iterator's objects through the ce
 have cQ:∀{H':Hp},(∀b∈fp,H' b=none)->∀b∈fp,FpOk X aa H' b:=λhn b hb=>⟨hn b hb,(f2 b hb).2⟩
 refine codeAny_forLoop_any (λn s'=>∃i am H',Inv X aa am H' s'/\tn i s'.heap/\(∀b∈fp,H' b=none)/\W i n am H') ?_ m0 ⟨0,U,H2,I2,dJ,λb hb=>(f2 b hb).1,w0⟩;rintro n s3 ⟨i,cP,H3,I3,fk,kA,w3⟩
 rcases turn i n cP H3 w3 with⟨stop,qn⟩ | ⟨go,N,hN,step⟩
 ·refine Os hp (thn (T.done X rfl rfl rfl hc i aa s3 cP H3 X.xe I3 (cQ kA) fk stop) λr s4 ⟨hr,I4⟩=>?_);subst hr;exact P7 ⟨cP,H3,I4,qn⟩
 ·refine Os hp (thn (T.item X rfl rfl rfl hc i aa s3 cP H3 X.xe I3 (cQ kA) fk go) λr s4 ⟨u,hr,h4⟩=>?_);subst hr;refine Os hp (thn h4 λ_ s5 ⟨x,H5,I5,r5,y5,fo,gU⟩=>?_);have nn:=I5.pinned (cQ gU) (T.obj _ _ fo);refine Os hp (thn (hg _ s5 cP H5 x u _ nn r5 (step x H5 y5)) λ_ s6 ⟨nr,H6,I6,q6⟩=>?_);refine Os hp (thn (hb _ s6 nr H6 _ I6 q6) λf s7 q7=>?_)
  have Sw:∀{cR:St}{H7:Hp},Inv X (aa++pinsAt fp s5.heap) cR H7 s7->N cR H7->∃m,m < n/\∃i am H',Inv X aa am H' s7/\tn i s7.heap/\(∀b∈fp,H' b=none)/\W i m am H':=λ{cR H7} I7 n7=>by
   obtain⟨m',hm,w7⟩:=hN cR H7 n7;refine⟨m',hm,i+1,cR,H7,I7.unpinned,T.keep _ _ _ fo λb hb o e=>(I7.pin (b,o) (F_ _ (F_ _ (vt hb e)))).1,λb hb=>?_,w7⟩;obtain⟨o,e,d⟩:=T.obj _ _ fo b hb;exact(I7.pin (b,o) (F_ _ (F_ _ (vt hb e)))).2.1
  cases f with
  | next=>obtain⟨cR,H7,I7,n7⟩:=q7;exact Sw I7 n7
  | cont=>obtain⟨cR,H7,I7,n7⟩:=q7;exact Sw I7 n7
  | brk=>obtain⟨cR,H7,I7,q7⟩:=q7;exact⟨cR,H7,I7.unpinned,q7⟩
  | ret v=>obtain⟨x7,cR,H7,I7,r7,q7⟩:=q7;exact⟨x7,cR,H7,I7.unpinned,r7,q7⟩
end
abbrev R2:=V->V->Hp->VK->Prop
def OpR(X:Cx)(f:b_->b_->Sem b_)(r:R2):Prop:=
 ∀(aa:List (k_×Obj)) (s:c_) (U:St) (H:Hp) (x y:V) (v u:b_) (Q:VK),Inv X aa U H s->RelV x v->RelV y u->r x y H Q →
  s_ (t_ X.prog X.w) X.A (f v u) (EP X aa U Q) X.xe s
def UnR(X:Cx)(f:b_->Sem b_)(r:V->Hp->VK->Prop):Prop:=
 ∀(aa:List (k_×Obj)) (s:c_) (U:St) (H:Hp) (x:V) (v:b_) (Q:VK),Inv X aa U H s->RelV x v->r x H Q →
  s_ (t_ X.prog X.w) X.A (f v) (EP X aa U Q) X.xe s
def CallR(X:Cx)(f:b_)(r:List V->Hp->VK->Prop):Prop:=
 ∀(aa:List (k_×Obj)) (s:c_) (U:St) (H:Hp) (xs:List V) (us:List b_) (Q:VK),Inv X aa U H s->Vals xs us->r xs H Q →
  s_ (t_ X.prog X.w) X.A (call f us) (EP X aa U Q) X.xe s
noncomputable def tOp(r:R2)(ta tb:TE):TE:=λU H Q=>ta U H λx H1=>tb U H1 λy H2=>r x y H2 Q
noncomputable def tUn(r:V->Hp->VK->Prop)(ta:TE):TE:=λU H Q=>ta U H λx H1=>r x H1 Q
noncomputable def rI(C:Int->Int->Prop)(g:Int->Int->V):R2:=λx y H Q=>∃i j,x=.int i/\y=.int j/\C i j/\Q (g i j) H
noncomputable def rI0(g:Int->Int->V):R2:=λx y H Q=>∃i j,x=.int i/\y=.int j/\Q (g i j) H
def rU(g:Int->V):V->Hp->VK->Prop:=λx H Q=>∃i,x=.int i/\Q (g i) H
section
variable{X:Cx}{a b c:Ny}{ta tb tc:TE}
theorem binT(ha:PE X a ta)(hb:PE X b tb){s:c_}{U:St}{H:Hp}{R:V->V->Hp->Prop}(I:Inv X aa U H s)(h:ta U H λx H1=>tb U H1 λy H2=>R x y H2){Q:b_->c_->Prop}{f:b_->b_->Sem b_}(hf:∀v u s2 x y H2,Inv X aa U H2 s2->RelV x v->RelV y u->R x y H2->s_ (t_ X.prog X.w) X.A (f v u) Q X.xe s2):
  s_ (t_ X.prog X.w) X.A (Nr a X.env) (λv aB=>s_ (t_ X.prog X.w) X.A (Nr b X.env) (λu dL=>s_ (t_ X.prog X.w) X.A (f v u) Q X.xe dL) X.xe aB) X.xe s:=by
 refine thn (ha aa s U H _ I h) λv s1 ⟨x,H1,I1,r1,q1⟩=>?_
 refine thn (hb aa s1 U H1 _ I1 q1) λu s2 ⟨y,H2,I2,r2,q2⟩=>?_
 exact hf v u s2 x y H2 I2 r1 r2 q2
theorem Cf{op:Operator}{r:R2}(ho:OpR X (OF op) r)(ha:PE X a ta)(hb:PE X b tb):PE X (.BinOp a op b pos) (tOp r ta tb):=by
 intro aa s U H Q I h;exact wpAny_BinOp (binT ha hb I h λv u s2 x y H2 I2 rx ry q=>ho aa s2 U H2 x y v u Q I2 rx ry q)
theorem HD{op:UnaryOp}{r:V->Hp->VK->Prop}(ho:UnR X (unaryOp op) r)(ha:PE X a ta):PE X (.UnaryOp op a pos) (tUn r ta):=by
 intro aa s U H Q I h;exact UnaryOp_ (thn (ha aa s U H _ I h) λv s1 ⟨x,H1,I1,r1,q1⟩=>ho aa s1 U H1 x v Q I1 r1 q1)
theorem opI{f:b_->b_->Sem b_}{C:Int->Int->Prop}{g:Int->Int->Int}(rule:∀(i j:Int) (t u:Tok) (s:c_) (Q:b_->c_->Prop) (E:b_->c_->Prop),C i j->Q (.int (g i j) s.toks) { s with toks:=s.toks+1 }->s_ (t_ X.prog X.w) X.A (f (.int i t) (.int j u)) Q E s):
  OpR X f (rI C λi j=>.int (g i j)):=by
 intro aa s U H x y v u Q I rx ry h;obtain⟨i,j,rfl,rfl,hc,q⟩:=h;obtain⟨t,rfl⟩:=rx;obtain⟨t',rfl⟩:=ry;exact rule i j t t' s _ _ hc ⟨.int (g i j),H,I.tok _,⟨_,rfl⟩,q⟩
theorem opI0{f:b_->b_->Sem b_}{g:Int->Int->Int}(rule:∀(i j:Int) (t u:Tok) (s:c_) (Q:b_->c_->Prop) (E:b_->c_->Prop),Q (.int (g i j) s.toks) { s with toks:=s.toks+1 }->s_ (t_ X.prog X.w) X.A (f (.int i t) (.int j u)) Q E s):
  OpR X f (rI0 λi j=>.int (g i j)):=by
 intro aa s U H x y v u Q I rx ry h;obtain⟨i,j,rfl,rfl,q⟩:=h;obtain⟨t,rfl⟩:=rx;obtain⟨t',rfl⟩:=ry;exact rule i j t t' s _ _ ⟨.int (g i j),H,I.tok _,⟨_,rfl⟩,q⟩
theorem opB0{f:b_->b_->Sem b_}{g:Int->Int->Bool}(rule:∀(i j:Int) (t u:Tok) (s:c_) (Q:b_->c_->Prop) (E:b_->c_->Prop),Q (.bool (g i j)) s->s_ (t_ X.prog X.w) X.A (f (.int i t) (.int j u)) Q E s):
  OpR X f (rI0 λi j=>.bl (g i j)):=by
 intro aa s U H x y v u Q I rx ry h;obtain⟨i,j,rfl,rfl,q⟩:=h;obtain⟨t,rfl⟩:=rx;obtain⟨t',rfl⟩:=ry;exact rule i j t t' s _ _ ⟨.bl (g i j),H,I,rfl,q⟩
def CPow(i j:Int):Prop:=0<=j/\j<=1000000/\i.natAbs < 2 ^ 64
def CMul(i j:Int):Prop:=(-(2 ^ 64) < i/\i < 2 ^ 64)\/(-(2 ^ 64) < j/\j < 2 ^ 64)
theorem CMul.ok{i j:Int}(h:CMul i j):IntMulOk i j:=by
 rcases h with⟨h1,h2⟩ | ⟨h1,h2⟩
 ·exact .of_left (intBits_le_64 h1 h2)
 ·exact .of_right (intBits_le_64 h1 h2)
theorem HM:OpR X (OF .Add) (rI0 λi j=>.int (i+j)):=opI0 λ_ _ _ _ _ _ _ q=>add_int q
theorem DR:OpR X (OF .Sub) (rI0 λi j=>.int (i - j)):=opI0 λ_ _ _ _ _ _ _ q=>sub_int q
theorem IU:OpR X (OF .Mult) (rI CMul λi j=>.int (i*j)):=opI λ_ _ _ _ _ _ _ hc q=>mul_int q hc.ok
theorem G3:OpR X (OF .Mod) (rI (λ_ j=>0 < j) λi j=>.int (i % j)):=opI λi j _ _ _ _ _ hc q=>by
 have h1:(0:Int) < j:=hc;exact mod_int' (by omega) (by rw[Int.fmod_eq_emod_of_nonneg i (by omega)];exact q)
theorem Eb:OpR X (OF .Pow) (rI CPow λi j=>.int (i ^ j.toNat)):=opI λ_ _ _ _ _ _ _ hc q=>pow_int_small hc.1 hc.2.1 hc.2.2 q
theorem unI{f:b_->Sem b_}{g:Int->Int}(rule:∀(i:Int) (t:Tok) (s:c_) (Q:b_->c_->Prop) (E:b_->c_->Prop),Q (.int (g i) s.toks) { s with toks:=s.toks+1 }->s_ (t_ X.prog X.w) X.A (f (.int i t)) Q E s):
  UnR X f (rU λi=>.int (g i)):=by
 intro aa s U H x v Q I rx h;obtain⟨i,rfl,q⟩:=h;obtain⟨t,rfl⟩:=rx;exact rule i t s _ _ ⟨.int (g i),H,I.tok _,⟨_,rfl⟩,q⟩
theorem FG:UnR X (unaryOp .USub) (rU λi=>.int (-i)):=unI λ_ _ _ _ _ q=>neg_int q
end
section
variable{X:Cx}{a b c:Ny}{ta tb tc:TE}
theorem Da{U:St}{H:Hp}{s:c_}{Q:VK}{k k':Bool}(I:Inv X aa U H s)(q:Q (.bl k) H)(e:k=k'):EP X aa U Q (.bool k') s:=by
 subst e;exact⟨.bl k,H,I,rfl,q⟩
theorem B4:OpR X (NJ .Lt) (rI0 λi j=>.bl (decide (i < j))):=opB0 λ_ _ _ _ _ _ _ q=>lt_int q
theorem vI:OpR X (NJ .LtE) (rI0 λi j=>.bl (decide (i<=j))):=opB0 λ_ _ _ _ _ _ _ q=>le_int q
theorem FL:OpR X (NJ .Gt) (rI0 λi j=>.bl (decide (j < i))):=opB0 λ_ _ _ _ _ _ _ q=>gt_int q
theorem G5:OpR X (NJ .GtE) (rI0 λi j=>.bl (decide (j<=i))):=opB0 λ_ _ _ _ _ _ _ q=>ge_int q
theorem zW:OpR X (NJ .Is) (λx y H Q=>y=.non/\Q (.bl (decide (x=.non))) H):=by
 intro aa s U H x y v u Q I rx ry h;obtain⟨rfl,q⟩:=h;cases ry;refine is_none_gen (Da I q ?_)
 cases x<;>first
  | (cases rx;rfl)
  | (obtain⟨t,rfl⟩:=rx;rfl)
theorem Gq:OpR X (NJ .IsNot) (λx y H Q=>y=.non/\Q (.bl (!decide (x=.non))) H):=by
 intro aa s U H x y v u Q I rx ry h;obtain⟨rfl,q⟩:=h;cases ry;refine isnot_none_gen (Da I q ?_)
 cases x<;>first
  | (cases rx;rfl)
  | (obtain⟨t,rfl⟩:=rx;rfl)
theorem OpR.or{f:b_->b_->Sem b_}{r r':R2}(h:OpR X f r)(h':OpR X f r'):OpR X f (λx y H Q=>r x y H Q\/r' x y H Q):=by
 intro aa s U H x y v u Q I rx ry q
 rcases q with q | q
 ·exact h aa s U H x y v u Q I rx ry q
 ·exact h' aa s U H x y v u Q I rx ry q
theorem nomark(b:Ny)(h:op≠.In:=by decide)(h2:op≠.NotIn:=by decide):Oz op b=false:=by
 have e1:(op == CmpOp.In)=false:=by cases op<;>first | rfl | exact absurd rfl h
 have e2:(op == CmpOp.NotIn)=false:=by cases op<;>first | rfl | exact absurd rfl h2
 cases b<;>simp[Oz,e1,e2]
theorem GA{r:R2}(ho:OpR X (NJ op) r)(ha:PE X a ta)(hb:PE X b tb)(hm:Oz op b=false):PE X (.Compare a [op] [b] pos) (tOp r ta tb):=by
 intro aa s U H Q I h;exact wpAny_Compare1 (binT ha hb I h λv u s2 x y H2 I2 rx ry q=>ho aa s2 U H2 x y v u Q I2 rx ry q) hm
noncomputable def tTest(t:TE):TT:=λU H Q=>t U H λx H'=>∃k,x=.bl k/\Q k H'
theorem vL{r:R2}(ho:OpR X (NJ op) r)(ha:PE X a ta)(hb:PE X b tb)(hm:Oz op b=false):PT X (.Compare a [op] [b] pos) (tTest (tOp r ta tb)):=by
 intro aa s U H Q I h
 refine wpAny_isTrue_Compare1 (thn (ha aa s U H _ I h) λv s1 ⟨x,H1,I1,r1,q1⟩=>thn (hb aa s1 U H1 _ I1 q1) λu s2 ⟨y,H2,I2,r2,q2⟩ =>
  thn (ho aa s2 U H2 x y v u _ I2 r1 r2 q2) λc s3 ⟨z,H3,I3,r3,k,e,q3⟩=>?_) hm
 subst e;cases r3;exact NQ ⟨H3,I3,q3⟩
noncomputable def tChain(r r':R2)(ta tb tc:TE):TE:=λU H Q=>ta U H λx H1=>tb U H1 λy H2=>r x y H2 λz H3=>∃k,z=.bl k ∧
 (if k=true then tc U H3 λw' H4=>r' y w' H4 Q else Q (.bl false) H3)
theorem Gn{r r':R2}(ho:OpR X (NJ op) r)(bU:OpR X (NJ bV) r')(ha:PE X a ta)(hb:PE X b tb)(hc:PE X c tc)(hm:QY [op,bV] [b,c]=false:=by with_unfolding_all rfl):PE X (.Compare a [op,bV] [b,c] pos) (tChain r r' ta tb tc):=by
 intro aa s U H Q I h
 refine Compare_chain (thn (ha aa s U H _ I h) λv s1 ⟨x,H1,I1,r1,q1⟩=>chain_link (thn (hb aa s1 U H1 _ I1 q1) λu s2 ⟨y,H2,I2,r2,q2⟩ =>
  thn (ho aa s2 U H2 x y v u _ I2 r1 r2 q2) λd s3 ⟨z,H3,I3,r3,k,e,q3⟩=>?_)) hm
 subst e;cases r3;refine NQ ?_;cases k with
 | false=>exact ite_ff ⟨.bl false,H3,I3,rfl,q3⟩
 | true=>exact ite_tt (chain_last (thn (hc aa s3 U H3 _ I3 q3) λw' s4 ⟨z',H4,I4,r4,q4⟩=>bU aa s4 U H4 y z' u w' Q I4 r2 r4 q4))
theorem E6{r r':R2}(ho:OpR X (NJ op) r)(bU:OpR X (NJ bV) r')(ha:PE X a ta)(hb:PE X b tb)(hc:PE X c tc)(hm:QY [op,bV] [b,c]=false:=by with_unfolding_all rfl):PT X (.Compare a [op,bV] [b,c] pos) (tTest (tChain r r' ta tb tc)):=by
 intro aa s U H Q I h
 refine isTrue_chain (thn (ha aa s U H _ I h) λv s1 ⟨x,H1,I1,r1,q1⟩=>test_link (thn (hb aa s1 U H1 _ I1 q1) λu s2 ⟨y,H2,I2,r2,q2⟩ =>
  thn (ho aa s2 U H2 x y v u _ I2 r1 r2 q2) λd s3 ⟨z,H3,I3,r3,k,e,q3⟩=>?_)) hm
 subst e;cases r3;refine NQ ?_;cases k with
 | false =>
  obtain⟨k',e',q'⟩:=q3;cases e';exact ite_ff ⟨H3,I3,q'⟩
 | true =>
  refine ite_tt (test_last (thn (hc aa s3 U H3 _ I3 q3) λw' s4 ⟨z',H4,I4,r4,q4⟩=>thn (bU aa s4 U H4 y z' u w' _ I4 r2 r4 q4) λd' s5 ⟨z2,H5,I5,r5,k2,e2,q5⟩=>?_));subst e2;cases r5;exact NQ ⟨H5,I5,q5⟩
theorem line63:(C_:Nat) < 2 ^ 63:=by rw[Of];decide
theorem JE:OpR X (OF .Add) (λx y H Q=>∃i j,x=.str i/\y=.str j/\i.length+j.length<=C_/\Q (.str (i++j)) H):=by
 intro aa s U H x y v u Q I rx ry h;obtain⟨i,j,rfl,rfl,hz,q⟩:=h;obtain⟨t,rfl⟩:=rx;obtain⟨t',rfl⟩:=ry;exact add_str (λt' tk=>⟨.str (i++j),H,I.tok _,⟨_,rfl⟩,q⟩) hz
theorem vals1{x:V}(r:Vals [x] us):∃u,us=[u]/\RelV x u:=by
 cases r with
 | cons r1 r2=>cases r2;exact⟨_,rfl,r1⟩
theorem vals2{x y:V}(r:Vals [x,y] us):∃u w',us=[u,w']/\RelV x u/\RelV y w':=by
 cases r with
 | cons r1 r2 =>
  cases r2 with
  | cons r3 r4=>cases r4;exact⟨_,_,rfl,r1,r3⟩
theorem Gp(hc:X.calm=true):CallR X (.builtin "max") (λxs H Q=>∃i j,xs=[.int i,.int j]/\Q (.int (if j > i then j else i)) H):=by
 intro aa s U H xs us Q I r h;obtain⟨i,j,rfl,q⟩:=h;obtain⟨u,w',rfl,⟨t,rfl⟩,⟨t',rfl⟩⟩:=vals2 r;refine max_two_ints (I.ok.hd hc) λh' tk k=>⟨_,H,I.kept k,?_,q⟩
 by_cases hj:j > i
 ·rw[if_pos hj,if_pos hj];exact⟨_,rfl⟩
 ·rw[if_neg hj,if_neg hj];exact⟨_,rfl⟩
theorem F9(hc:X.calm=true):CallR X (.builtin "min") (λxs H Q=>∃i j,xs=[.int i,.int j]/\Q (.int (if j < i then j else i)) H):=by
 intro aa s U H xs us Q I r h;obtain⟨i,j,rfl,q⟩:=h;obtain⟨u,w',rfl,⟨t,rfl⟩,⟨t',rfl⟩⟩:=vals2 r;refine min_two_ints (I.ok.hd hc) λh' tk k=>⟨_,H,I.kept k,?_,q⟩
 by_cases hj:j < i
 ·rw[if_pos hj,if_pos hj];exact⟨_,rfl⟩
 ·rw[if_neg hj,if_neg hj];exact⟨_,rfl⟩
end
structure Room(k:Nat)(A:Oe):Prop where
 hd:A.handled=none
 dp:A.depth+3*k+5 < recursionLimit
 un:A.units+16*k+200 < OC
 gd:A.guards=some []
theorem Room.mono(r:Room k A)(h:j<=k):Room j A:=⟨r.hd,by have:=r.dp;omega,by have:=r.un;omega,r.gd⟩
theorem Room.deeper(r:Room (k+1) A)(env:Env):Room k (A.deeper env):=
 ⟨r.hd,by have:=r.dp;show A.depth+1+3*k+5 < _;omega,by have:=r.un;show A.units+3+16*k+200 < _;omega,r.gd⟩
theorem Room.depth(r:Room k A):A.depth < recursionLimit:=by have:=r.dp;omega
noncomputable def tNil:TA:=λ_ H Q=>Q [] H
noncomputable def tCons(ta:TE)(tr:TA):TA:=λU H Q=>ta U H λx H1=>tr U H1 λxs H2=>Q (x::xs) H2
section
variable{X:Cx}{es:List Ny}{te:TE}{t:TA}
theorem sQ:PA X [] tNil:=λ_ _ _ _ H Q I h=>Qz ⟨[],H,I,.nil,h⟩
theorem rR(ha:PE X e te)(hr:PA X es t)(hs:d_ (e::es) X.env=(false,Nr e X.env)::d_ es X.env:=by rfl):PA X (e::es) (tCons te t):=by
 intro pos aa s U H Q I h;rw[hs];show s_ _ _ (spliced ((false,Nr e X.env)::ND pos (d_ es X.env))) _ _ s;refine Qq (thn (ha aa s U H _ I h) λu s1 ⟨x,H1,I1,r1,q1⟩=>?_);exact thn (hr pos aa s1 U H1 _ I1 q1) λus s2 ⟨xs,H2,I2,r2,q2⟩=>⟨x::xs,H2,I2,.cons r1 r2,q2⟩
noncomputable def tTup(t:TA):TE:=λU H Q=>t U H λxs H1=>xs.length<=C_/\∀p,H1 p=none->Q (.ref p) (upd H1 p (.tup xs))
noncomputable def tLst(t:TA):TE:=λU H Q=>t U H λxs H1=>xs.length<=C_/\∀p,H1 p=none->Q (.ref p) (upd H1 p (.lst xs))
theorem Db{x1}(h:PA X es t):PE X (.Tuple es x1 pos) (tTup t):=by
 intro aa s U H Q I hq;refine wpAny_Tuple_spliced (thn (h pos aa s U H _ I hq) λus s1 ⟨xs,H1,I1,r,z,q⟩=>⟨by rw[←r.length];exact z,?_⟩);have hf:H1 s1.heap.objs.size=none:=I1.hok.fresh (v_ _);refine⟨.ref s1.heap.objs.size,upd H1 s1.heap.objs.size (.tup xs),I1.laid (t':=s1.toks) (λb u e=>f_ _ e) (v_ _) ?_,rfl,q _ hf⟩;exact⟨z,us,r,⟨_,x_ _ rfl,rfl,_,rfl⟩⟩
theorem GT(h:PA X es t):PE X (.List es pos) (tLst t):=by
 intro aa s U H Q I hq;refine wpAny_List_spliced (thn (h pos aa s U H _ I hq) λus s1 ⟨xs,H1,I1,r,z,q⟩=>⟨by rw[←r.length];exact z,?_⟩);have hf:H1 s1.heap.objs.size=none:=I1.hok.fresh (v_ _);refine⟨.ref s1.heap.objs.size,upd H1 s1.heap.objs.size (.lst xs),I1.laid (t':=s1.toks) (λb u e=>f_ _ e) (v_ _) ?_,rfl,q _ hf⟩;exact⟨z,us,0,r,x_ _ rfl⟩
end
abbrev Sp:=List V->Hp->VK->XK->Prop
abbrev CXT:=List Env->Hp->c_->XK->b_->c_->Prop
structure Env0(P:A_)(w:I_)(K:PySem.W.Frag)(mg:Str->Option b_)(base:J_)(A:Oe)(outer:List Env)(s:c_)(H:Hp):Prop where
 frames:A.frames=some outer
 mod:Mod K mg base
 bs:∀b o,base.get? b=some o->s.heap.get? b=some o/\H b=none
 bsz:base.objs.size<=s.heap.objs.size
 funs:s.heap.FunFrames base outer
 frf:∀b∈frs outer,H b=none
 hok:HOk P w H s.heap
 bare:Qy s.gens
def CE(outer:List Env)(P:A_)(w:I_)(H:Hp)(s:c_)(Q:VK)(u:b_)(s':c_):Prop:=
 ∃v H',s'.os=s.os/\Qy s'.gens/\Un (frs outer) [] H H' s.heap s'.heap/\HOk P w H' s'.heap/\RelV v u/\Q v H'
def CR(CX:CXT)(outer:List Env)(P:A_)(w:I_)(H:Hp)(s:c_)(Q:VK)(E:XK)(r:Result)(s':c_):Prop:=
 match r with
 | .ok (.ret u)=>CE outer P w H s Q u s'
 | .ok _=>False
 | .error e=>CX outer H s E e s'
structure FnOk(P:A_)(w:I_)(K:PySem.W.Frag)(mg:Str->Option b_)(base:J_)(CX:CXT)(k:Nat)(f:k_)(fd:O1)(ps:List Str)(sp:Sp):Prop where
 len:∀vs H Q E,sp vs H Q E->vs.length=ps.length
 run:∀(A:Oe) (outer:List Env) (s:c_) (H:Hp) (args:Args) (us:List b_) (vs:List V) (Q:VK) (E:XK),Room k A->Env0 P w K mg base A outer s H->R9 s fd args (ps.zip us)->Vals vs us->sp vs H Q E →
  Pp (t_ P w) A (.call (.ref f) args) (CR CX outer P w H s Q E) s
section
variable{X:Cx}{U:St}{H:Hp}{s:c_}
theorem Inv.env0(I:Inv X aa U H s):Env0 X.prog X.w X.K X.mg X.base X.A X.stack s H:=
 ⟨I.ok.frames,I.ok.mod,I.bs,z_ I.ok.bsz I.sz,I.stack,I.stkFree,I.hok,I.bare⟩
theorem Inv.after{Q:VK}(I:Inv X aa U H s)(h:CE X.stack X.prog X.w H s Q u s'):EP X aa U Q u s':=by
 obtain⟨v,H',os,bare,un,hok,r,q⟩:=h;obtain⟨hh,g,d,t,dM⟩:=s';obtain rfl:dM=s.os:=os;exact⟨v,H',I.call (h':=hh) (g':=g) (d':=d) (t':=t) (ch:=[]) un hok bare (λb z=>absurd z (by simp)),r,q⟩
end
noncomputable def tCall(sp:Sp)(dN:List V)(E:XK)(t:TA):TE:=λU H Q=>t U H λvs H1=>sp (vs++dN) H1 Q E
def Binds(K:PySem.W.Frag)(fd:O1)(ps:List Str)(ds:List b_):Prop:=
 ∀(s:c_) (us:List b_),K.In s.heap->(us++ds).length=ps.length->R9 s fd ⟨us,[]⟩ (ps.zip (us++ds))
theorem Binds.all{K:PySem.W.Frag}(h:∀us:List b_,us.length=ps.length->OG fd ⟨us,[]⟩=pure (ps.zip us)):Binds K fd ps []:=λs us _ hl=>by
 rw[N3] at hl ⊢;exact .of_eq (h us hl)
def Passes(CX:CXT)(X:Cx)(E:XK):Prop:=∀(aa:List (k_×Obj)) (U:St) (H:Hp) (s:c_) (e:b_) (s':c_),Inv X aa U H s->CX X.stack H s E e s'->X.xe e s'
section
variable{X:Cx}{CX:CXT}{C:k_}{sp:Sp}{dN:List V}{ds:List b_}{E:XK}{m:Str}{p:Pos}{o:Ny}{es:List Ny}{ta:TE}{t:TA}
theorem DN{U:St}{H:Hp}{s:c_}{Q:VK}{vs:List V}(F:FnOk X.prog X.w X.K X.mg X.base CX k f fd ps sp)(hr:Room k X.A)(hb:Binds X.K fd ps ds)(hd:Vals dN ds)(hx:Passes CX X E)(I:Inv X aa U H s)(r:Vals vs us)(h:sp (vs++dN) H Q E):s_ (t_ X.prog X.w) X.A (call (.ref f) us) (EP X aa U Q) X.xe s:=by
 have r2:Vals (vs++dN) (us++ds):=r.append hd;have hl:(us++ds).length=ps.length:=by rw[←r2.length];exact F.len _ _ _ _ h
 refine wpAny_call (O6 (F.run X.A X.stack s H ⟨us,[]⟩ (us++ds) (vs++dN) Q E hr I.env0 (hb s us I.kIn hl) r2 h) λr s' hq=>?_);cases r with
 | error e=>exact hx aa U H s e s' I hq
 | ok fl =>
  cases fl with
  | ret u=>exact I.after hq
  | next=>exact S3 hq
  | brk=>exact S3 hq
  | cont=>exact S3 hq
theorem u8(F:FnOk X.prog X.w X.K X.mg X.base CX k f fd ps sp)(hr:Room k X.A)(hg:Gl X x)(hm:X.mg x=some (.ref f))(hk:O2 X.K (.ref f)=true)(hb:Binds X.K fd ps ds)(hd:Vals dN ds)(hx:Passes CX X E)(ha:PA X (e::es) t)(bD:(x == ("__debug__":Str))=false:=by decide)(he:d_ (e::es) X.env=(false,Nr e X.env)::d_ es X.env:=by rfl)(aG:(ND pos (d_ es X.env)).any (·.1)=false:=by rfl):
  PE X (.Call (.Name x p) (e::es) [] pos) (tCall sp dN E t):=by
 intro aa s U H Q I h;refine ON (EL I hg hm ?_ bD);refine PySem.W.callWith_K (h₀:=X.base) I.ok.mod.kin hk (thn (ha pos aa s U H _ I h) λus s1 ⟨vs,H1,I1,r,q⟩=>⟨I1.kIn,?_⟩) he aG;exact DN F hr hb hd hx I1 r q
end
structure FnScope(N P:List Str)(sc:Ql):Prop where
 kind:sc.kind=.function
 co:sc.isCoroutine=false
 gen:sc.isGenerator=false
 nd:N.Nodup
 pre:N.take P.length=P
 par:∀x∈P,sc.names.lookup x=some .local\/sc.names.lookup x=some .cell
 nofree:∀y∈sc.names,y.2≠.free
theorem Bi{kindOf:Str->Option NV}{x:Str}:∀{binds:List (Str×b_)}{m:Str->Option b_},(∀v,(x,v)∉binds)->SK kindOf binds m x=m x
 | [],_,_=>rfl
 | (n,v)::r,m,h=>by
  unfold SK;rw[Bi λw hw=>h w (j_ _ hw)];split
  ·have:x≠n:=by rintro rfl;exact h v m_
   simp[this]
  ·rfl
theorem A5{kindOf:Str->Option NV}{x:Str}:∀{binds:List (Str×b_)}{m:Str->Option b_},(∀v,(x,v)∉binds)->SL kindOf binds m x=m x
 | [],_,_=>rfl
 | (n,v)::r,m,h=>by
  unfold SL;rw[A5 λw hw=>h w (j_ _ hw)];split
  ·rfl
  ·have:x≠n:=by rintro rfl;exact h v m_
   simp[this]
theorem Cj{kindOf:Str->Option NV}{x:Str}{v:b_}:∀{P:List Str}{vs:List b_}{i:Nat}{m:Str->Option b_},P.Nodup->P[i]?=some x->vs[i]?=some v->kindOf x=some .local →
  SK kindOf (P.zip vs) m x=some v
 | [],_,_,_,_,h,_,_=>by simp at h
 | _::_,[],_,_,_,_,h,_=>by simp at h
 | p::P,w::vs,0,m,nd,h1,h2,hk=>by
  simp at h1 h2;subst h1;subst h2;show SK kindOf ((p,w)::P.zip vs) m p=_;unfold SK;rw[Bi λv hv=>(N9.mp nd).1 (SM hv).1,if_pos hk];simp
 | p::P,w::vs,i+1,m,nd,h1,h2,hk=>by
  show SK kindOf ((p,w)::P.zip vs) m x=_;unfold SK;exact Cj (i:=i) (N9.mp nd).2 (by simpa using h1) (by simpa using h2) hk
theorem AM{kindOf:Str->Option NV}{x:Str}{v:b_}:∀{P:List Str}{vs:List b_}{i:Nat}{m:Str->Option b_},P.Nodup->P[i]?=some x->vs[i]?=some v->kindOf x≠some .local →
  SL kindOf (P.zip vs) m x=some v
 | [],_,_,_,_,h,_,_=>by simp at h
 | _::_,[],_,_,_,_,h,_=>by simp at h
 | p::P,w::vs,0,m,nd,h1,h2,hk=>by
  simp at h1 h2;subst h1;subst h2;show SL kindOf ((p,w)::P.zip vs) m p=_;unfold SL;rw[A5 λv hv=>(N9.mp nd).1 (SM hv).1,if_neg hk];simp
 | p::P,w::vs,i+1,m,nd,h1,h2,hk=>by
  show SL kindOf ((p,w)::P.zip vs) m x=_;unfold SL;exact AM (i:=i) (N9.mp nd).2 (by simpa using h1) (by simpa using h2) hk
noncomputable def start(N:List Str)(vs:List V):St:=vs.map some++NF (N.length - vs.length) none
noncomputable def cxOf(CX:CXT)(P:A_)(w:I_)(K:PySem.W.Frag)(mg:Str->Option b_)(base:J_)(N:List Str)(qual:Str)(scope:Ql)(f:k_)(cd:b_)(A:Oe)(outer:List Env)(s:c_)(H:Hp)(E:XK):Cx where
 prog:=P
 w:=w
 K:=K
 mg:=mg
 base:=base
 A:=A.deeper (Re qual scope s.heap.objs.size f cd)
 N:=N
 s₀:=s
 H₀:=H
 env:=Re qual scope s.heap.objs.size f cd
 outer:=outer
 stack:=Re qual scope s.heap.objs.size f cd::outer
 ex:=[]
 calm:=true
 fn:=λ_=>true
 pn:=[]
 xe:=λe s'=>s_ (t_ P w) (A.deeper (Re qual scope s.heap.objs.size f cd)) (leaving (Re qual scope s.heap.objs.size f cd) e) (λ_ fq=>CX outer H s E e fq) (λe' fq=>CX outer H s E e' fq) s'
theorem BE{sc:Ql}(h:sc.names.lookup x=some .cell):∃c,(cellsFrom n sc.names []).lookup x=some c:=by
 have q:=PySem.W.cellsFrom_some sc.names n [] (.inl h);exact Option.isSome_iff_exists.mp q
theorem Fe{CX:CXT}{P:A_}{w:I_}{K:PySem.W.Frag}{outer:List Env}{s s1:c_}{H:Hp}{E:XK}{vs:List V}(S:FnScope N ps scope)(hd:A.handled=none)(e0:Env0 P w K mg base A outer s H)(hl:vs.length=ps.length)(r:Vals vs us)(x:InCallC s s.heap.objs.size (SK (Re qual scope s.heap.objs.size f cd).kindOf (ps.zip us) λ_=>none) (cellsFrom (s.heap.objs.size+1) scope.names []) (SL (Re qual scope s.heap.objs.size f cd).kindOf (ps.zip us) λ_=>none) s1):
  Inv (cxOf CX P w K mg base N qual scope f cd A outer s H E) [] (start N vs) H s1:=by
 have aG:ps.length<=N.length:=by have:=congrArg length S.pre;rw[Pl] at this;omega
 obtain⟨h1,tk,rfl,hk⟩:=x.done;have fH:∀b:k_,b∉(cxOf CX P w K mg base N qual scope f cd A outer s H E).ex:=λb z=>absurd (show b∈([]:List k_) from z) (by simp)
 refine⟨⟨e0.mod,S.kind,rfl,rfl,v_ _,λy z c h1 h2=>?_,λy hy=>?_,λy c _ h=>?_,λ_=>hd,Oe.frames_deeper e0.frames,.inr ⟨rfl,rfl⟩,λb z=>absurd z (fH b),e0.bs,e0.bsz,λb _ _=>fH b,λb z=>absurd z (fH b),e0.funs,e0.frf⟩,
  rfl,e0.bare,Un.kept hk,⟨_,x.toInCall.ns,λi y v h1 h2 h3=>?_⟩,λy c h=>⟨_,x.cell y c h⟩,e0.hok.fresh (v_ _),λy c h=>?_,λp hp=>absurd (show p∈([]:List (k_×Obj)) from hp) (by simp),e0.hok.kept hk,?_⟩
 ·exact name_of_addr x.apart (PySem.mem_of_lookup h1) (PySem.mem_of_lookup h2)
 ·have hy:scope.names.lookup y=some .cell\/scope.names.lookup y=some .free:=hy
  rcases hy with hy | hy
  ·exact BE hy
  ·exact absurd rfl (S.nofree _ (PySem.mem_of_lookup hy))
 ·exact PY (x.above y c (PySem.mem_of_lookup h))
 ·have hi:i < vs.length:=by
   unfold start at h2;by_cases hi:i < vs.length
   ·exact hi
   ·rw[N7 (by simpa using hi)] at h2;rw[OH] at h2;split at h2<;>cases h2
  have ha:vs[i]?=some v:=by
   unfold start at h2;rw[Ou (by simpa using hi),y_] at h2;cases e:vs[i]? with
   | none=>rw[e] at h2;cases h2
   | some a=>rw[e] at h2;cases h2;rfl
  obtain⟨u,hu,rv⟩:=r.get ha
  have hp:ps[i]?=some y:=by
   rw[←S.pre,QM (by omega)];exact h1
  have kC:ps.Nodup:=by rw[←S.pre];exact S.nd.sublist (List.take_sublist _ _)
  refine⟨u,rv,?_⟩
  rcases S.par y (B_ hp) with k | k
  ·exact .inl ⟨k,Cj kC hp hu k⟩
  ·obtain⟨c,e⟩:=BE (n:=s.heap.objs.size+1) k;refine .inr ⟨.inl k,c,e,?_⟩;have q:=x.cell y c e;rw[AM kC hp hu (by show scope.names.lookup y≠_;rw[k];decide)] at q;exact q
 ·exact e0.hok.fresh (PY (x.above y c (PySem.mem_of_lookup h)))
 ·unfold start;show _=N.length;rw[o_,u_,Nu];omega
theorem Hd{CX:CXT}{P:A_}{w:I_}{K:PySem.W.Frag}{name:Str}{body:List NO}{dV kV bL aF:b_}{sp:Sp}(lk:K.lookup f=some ⟨oc,od,.func (Rf name qual params body scope dV kV bL pm an aF ct),dO⟩)(cn:codeIn K aF qual=true)(S:FnScope N ps scope)(len:∀vs H Q E,sp vs H Q E->vs.length=ps.length)(ei:∀(A:Oe) (outer:List Env) (s:c_) (H:Hp) (vs:List V) (Q:VK) (E:XK),Room k (A.deeper (Re qual scope s.heap.objs.size f aF))->sp vs H Q E →
   ∃t,PSs (cxOf CX P w K mg base N qual scope f aF A outer s H E) body t/\t { nx:=λ_ H'=>Q .non H',rt:=Q } (start N vs) H):
  FnOk P w K mg base CX (k+1) f (Rf name qual params body scope dV kV bL pm an aF ct) ps sp:=by
 refine⟨len,λA outer s H args us vs Q E hr e0 hb r dP=>?_⟩;have hl:=len _ _ _ _ dP;have KX:K.In s.heap:=e0.mod.kin.keeps λb o e=>(e0.bs b o e).1
 have lim:s.heap.NoLimit:=e0.mod.nolimit.keeps λb o e=>(e0.bs b o e).1
 have jp:∀y∈ps.zip us,scope.names.lookup y.1=some .local\/(scope.names.lookup y.1=some .cell/\((cellsFrom (s.heap.objs.size+1) scope.names []).lookup y.1).isSome=true):=λ⟨n,v⟩ hy=>by
  rcases S.par n (SM hy).1 with q | q
  ·exact .inl q
  ·exact .inr ⟨q,PySem.W.cellsFrom_some _ _ _ (.inl q)⟩
 refine codeAny_call_function hr.depth (KX _ _ lk) rfl S.co S.gen rfl (PySem.W.codeRec_of KX cn) (hb _ _ _ _ ?_);refine wpAny_newFunctionEnv_cells S.kind jp λenv he s1 x=>?_
 subst he;refine⟨lim.keeps x.toInCall.keep,codeAny_func ?_⟩;obtain⟨t,ht,hq⟩:=ei A outer s H vs Q E (hr.deeper _) dP;have I:Inv (cxOf CX P w K mg base N qual scope f aF A outer s H E) [] (start N vs) H s1:=Fe S hr.hd e0 hl r x;refine N2 (ht [] s1 (start N vs) H _ I hq) (λfl s' hs=>?_) λe s' hs=>hs
 have fin:∀{am:St}{H':Hp}{v:V}{u:b_},Inv (cxOf CX P w K mg base N qual scope f aF A outer s H E) [] am H' s'->RelV v u->Q v H'->CE outer P w H s Q u s':=
  λ{am H' v u} J rv q=>⟨v,H',J.os,J.bare,J.base,J.hok,rv,q⟩
 cases fl with
 | ret u =>
  obtain⟨v,am,H',J,rv,q⟩:=hs;exact fin J rv q
 | next =>
  obtain⟨am,H',J,q⟩:=hs;exact fin (v:=V.non) (u:=b_.none) J rfl q
 | brk =>
  obtain⟨_,_,_,q⟩:=hs;exact S3 q
 | cont =>
  obtain⟨_,_,_,q⟩:=hs;exact S3 q
section
variable{X:Cx}{p:Pos}{es:List Ny}{t:TA}{id T:String}{r:List V->Hp->VK->Prop}
noncomputable def tCB(r:List V->Hp->VK->Prop)(t:TA):TE:=λU H Q=>t U H λvs H1=>r vs H1 Q
theorem wk(hc:CallR X (.builtin id) r)(hg:Gl X x)(hm:X.mg x=none)(hv:Ob x=some (.builtin id))(ha:PA X (e::es) t)(hn:x ≠ "__name__":=by decide)(bD:(x == ("__debug__":Str))=false:=by decide)(he:d_ (e::es) X.env=(false,Nr e X.env)::d_ es X.env:=by rfl)(aG:(ND pos (d_ es X.env)).any (·.1)=false:=by rfl):PE X (.Call (.Name x p) (e::es) [] pos) (tCB r t):=by
 intro aa s U H Q I h;refine ON (rS I hg hm hv ?_ hn bD);exact PM (thn (ha pos aa s U H _ I h) λus s1 ⟨vs,H1,I1,r1,q1⟩=>hc aa s1 U H1 vs us Q I1 r1 q1) he aG
theorem Cb(hc:CallR X (.type T) r)(hg:Gl X x)(hm:X.mg x=none)(hv:Ob x=some (.type T))(ha:PA X (e::es) t)(hn:x ≠ "__name__":=by decide)(bD:(x == ("__debug__":Str))=false:=by decide)(he:d_ (e::es) X.env=(false,Nr e X.env)::d_ es X.env:=by rfl)(aG:(ND pos (d_ es X.env)).any (·.1)=false:=by rfl):PE X (.Call (.Name x p) (e::es) [] pos) (tCB r t):=by
 intro aa s U H Q I h;refine ON (rS I hg hm hv ?_ hn bD);exact Nt (thn (ha pos aa s U H _ I h) λus s1 ⟨vs,H1,I1,r1,q1⟩=>hc aa s1 U H1 vs us Q I1 r1 q1) he aG
end
end L2
variable{xs zs:List L2.V}{o:L2.HO}{X:L2.Cx}{U bP:L2.St}{H' H1 H2 I I' G I0 J H0:L2.Hp}{ta:L2.TA}{v0:L2.V}
namespace HT
open PySem PyProof.Rows
section
variable{prog:A_}{w:I_}{E:b_->c_->Prop}{s:c_}
theorem DC{t:k_}{ws:List b_}{Q:b_->c_->Prop}(ht:SE s.heap t vs.toArray)(hb:SE s.heap b ws.toArray)(hv:vs≠[])(h1:ws=[]->Q (.ref t) s)(h2:ws≠[]->Q (.ref s.heap.objs.size) { s with heap:=s.heap.push { cls:=.type "tuple", data:=.seq (vs++ws).toArray } })(gW:vs.length+ws.length<=C_):s_ (t_ prog w) A (OF .Add (.ref t) (.ref b)) Q E s:=by
 obtain⟨⟨cls,dd,data,sl⟩,ho,hc,n,hd⟩:=id ht;obtain⟨⟨kD,gX,data2,gY⟩,ek,de,n2,df⟩:=id hb;simp only at hc hd de df;subst hc hd de df;have e:vs.toArray++ws.toArray=(vs++ws).toArray:=by simp
 by_cases hw:ws=[]
 ·exact R_ ⟨_,ho,rfl⟩ ⟨_,ek,rfl⟩ QZ RT Rx Rp (Q0 _ _)
   (tuple_addW1 t b vs.toArray ws.toArray n n2 dd gX sl gY (by simpa using hv) (by simp[hw])) ⟨ho,ek,h1 hw⟩
 ·refine R_ ⟨_,ho,rfl⟩ ⟨_,ek,rfl⟩ QZ RT Rx Rp (Q0 _ _)
   (tuple_addW2 t b vs.toArray ws.toArray n n2 dd gX sl gY (by simpa using hv) (by simpa using hw) (by rw[n_,n_];exact gW)) ⟨ho,ek,?_⟩
  rw[e];exact h2 hw
noncomputable def sIx(n d:Nat):Option Int->Nat
 | none=>d
 | some v=>if v < 0 then(v+(n:Int)).toNat else min v.toNat n
theorem vn(n d:Nat):sIx n d none=d:=rfl
theorem Hi(n d:Nat)(hd:d<=n)(o:Option Int):sIx n d o<=n:=by
 cases o with
 | none=>exact hd
 | some v =>
  show(if v < 0 then(v+(n:Int)).toNat else min v.toNat n)<=n;by_cases hv:v < 0
  ·rw[if_pos hv];omega
  ·rw[if_neg hv];exact Nat.min_le_right _ _
theorem AT(v:Int)(n d:Nat):(if v < 0 then max (v+(n:Int)) 0 else min v (n:Int))=((sIx n d (some v):Nat):Int):=by
 show(if v < 0 then max (v+(n:Int)) 0 else min v (n:Int))=(((if v < 0 then(v+(n:Int)).toNat else min v.toNat n):Nat):Int);by_cases hv:v < 0
 ·simp only[if_pos hv];omega
 ·simp only[if_neg hv];omega
theorem Kz(lo hi:Option Int)(n:Nat):Sx lo hi 1 (n:Int)=(((sIx n 0 lo:Nat):Int),((sIx n n hi:Nat):Int)):=by
 have h1:¬((1:Int) < 0):=by omega
 unfold Sx;simp only[h1,if_false];refine Prod.ext ?_ ?_
 ·cases lo with
  | none=>rfl
  | some v=>exact AT v n 0
 ·cases hi with
  | none=>rfl
  | some v=>exact AT v n n
theorem JM(i j:Nat):Ry (i:Int) (j:Int) 1=j - i:=by
 unfold Ry;have h1:(1:Int) > 0:=by omega
 simp only[h1,if_true,Int.ediv_one];split<;>omega
theorem Bb{v:b_}{o:Option Int}{Q:Option Int->c_->Prop}(p:RX v o)(h:Q o s):s_ (t_ prog w) A (Ov.Slice.slicePartIndex v) Q E s:=by
 cases p with
 | none=>exact slicePart_none h
 | int i t=>exact slicePart_int h
theorem Hv{sl:k_}{lo:Option Int}{Q:Int×Int×Nat->c_->Prop}(hs:s.heap.IsSliceOf sl vl vu .none)(pl:RX vl lo)(pu:RX vu hi)(h:Q (((sIx n 0 lo:Nat):Int),1,sIx n n hi - sIx n 0 lo) s):s_ (t_ prog w) A (sliceApplied (.ref sl) (pure (n:Int))) Q E s:=by
 obtain⟨os,fI,kE,ft⟩:=id hs;unfold sliceApplied Ov.Slice.sliceFields;refine a_ (a_ (Ow fI ft (x:=vl) rfl (a_ (Ow fI ft (x:=vu) rfl (a_ (Ow fI ft (x:=.none) rfl (e_ ?_)))))));refine a_ (slicePart_none ?_);show s_ _ _ (if((1:Int) == 0)=true then _ else _) _ _ s;rw[if_neg (by decide)];refine a_ (Bb pl (a_ (Bb pu (a_ (e_ ?_)))));show s_ _ _ (match Sx lo hi 1 (n:Int) with | (lo,hi)=>pure (lo,(1:Int),Ry lo hi 1)) _ _ s;rw[Kz lo hi n];show s_ _ _ (pure (((sIx n 0 lo:Nat):Int),(1:Int),Ry ((sIx n 0 lo:Nat):Int) ((sIx n n hi:Nat):Int) 1)) _ _ s;rw[JM];exact e_ h
theorem Em(xs:Array b_)(i k:Nat):((NY k).filterMap λ(m:Nat)=>xs[((i:Int)+(m:Int)*1).toNat]?).toArray=((xs.toList.drop i).take k).toArray:=by
 have e:(λ(m:Nat)=>xs[((i:Int)+(m:Int)*1).toNat]?)=λm=>xs[i+m]?:=by
  funext m
  have:((i:Int)+(m:Int)*1).toNat=i+m:=by omega
  rw[this]
 rw[e];have:=pick_run xs i k;rw[List.filterMap_map] at this;have e2:((λx=>xs[x]?)∘λx=>i+x)=λm=>xs[i+m]?:=rfl
 rw[e2] at this;rw[this]
theorem JT{t sl:k_}{lo:Option Int}{Q:b_->c_->Prop}(ht:SE s.heap t ai)(hs:s.heap.IsSliceOf sl vl vu .none)(pl:RX vl lo)(pu:RX vu hi)(hw:¬(sIx ai.size 0 lo=0/\sIx ai.size ai.size hi=ai.size))(h:Q (.ref s.heap.objs.size) { s with heap:=s.heap.push { cls:=.type "tuple", data:=.seq ((ai.toList.drop (sIx ai.size 0 lo)).take (sIx ai.size ai.size hi - sIx ai.size 0 lo)).toArray } })(gW:ai.size<=C_):s_ (t_ prog w) A (SA (.ref t) (.ref sl)) Q E s:=by
 have dj:sizeOk (.seq ((ai.toList.drop (sIx ai.size 0 lo)).take (sIx ai.size ai.size hi - sIx ai.size 0 lo)).toArray):=by
  show((ai.toList.drop (sIx ai.size 0 lo)).take (sIx ai.size ai.size hi - sIx ai.size 0 lo)).toArray.size<=C_;rw[n_,Pl,PZ,NU];omega
 have hj:sIx ai.size ai.size hi<=ai.size:=Hi _ _ (v_ _) hi;obtain⟨os,fI,kE,ft⟩:=id hs;have nv:s.TypeIs (.ref sl) "slice":=⟨os,fI,kE⟩;unfold SA
 try with_reducible refine NN ?_
 first | refine a_ (e_ ?_) | skip
 refine a_ (wpAny_sequenceKey ht.typeIs (by decide) ?_)
 refine a_ (NL (name:=Q1 "__getitem__") ht.typeIs OD
  (NP OD ht.typeIs entry_tuple_getitem ?_ (args_tuple_getitem _ _)))
 show s_ _ _ (tupleItemsOf (.ref t) >>= _) _ _ s;refine a_ (tupleItemsOf_ ht ?_);refine a_ (Sa nv ?_);rw[if_pos (by decide)];refine a_ (Hv hs pl pu ?_)
 have nw:¬((((sIx ai.size 0 lo:Nat):Int) == 0&&(1:Int) == 1&&(sIx ai.size ai.size hi - sIx ai.size 0 lo) == ai.size)=true):=by
  intro q;rw[Nx,Nx] at q;have q1:((sIx ai.size 0 lo:Nat):Int)=0:=eq_of_beq q.1.1;have q2:sIx ai.size ai.size hi - sIx ai.size 0 lo=ai.size:=eq_of_beq q.2;exact hw ⟨by omega,by omega⟩
 show s_ _ _ (if(((sIx ai.size 0 lo:Nat):Int) == 0&&(1:Int) == 1&&(sIx ai.size ai.size hi - sIx ai.size 0 lo) == ai.size)=true then _ else _) _ _ s;rw[if_neg nw,Em]
 first
  | exact a_ (m:=RY _) (NC (e_ ⟨_,rfl,e_ h⟩) dj)
  | exact a_ (m:=RY _) (NC (a_ (e_ (e_ ⟨_,rfl,e_ h⟩))) dj)
  | exact a_ (a_ (m:=RY _) (NC (e_ (e_ ⟨_,rfl,e_ h⟩)) dj))
  | exact a_ (a_ (m:=RY _) (NC (e_ ⟨_,rfl,e_ h⟩) dj))
end
end HT
namespace L2
open PySem PySem.Spec PyProof.Rows
abbrev TO:=St->Hp->(Option Int->Hp->Prop)->Prop
def PO(X:Cx)(e:Option Ny)(t:TO):Prop:=
 ∀(aa:List (k_×Obj)) (s:c_) (U:St) (H:Hp) (Q:Option Int->Hp->Prop),Inv X aa U H s->t U H Q →
  s_ (t_ X.prog X.w) X.A (evalPart e X.env) (λu s'=>∃o H',Inv X aa U H' s'/\RX u o/\Q o H') X.xe s
noncomputable def tNoPart:TO:=λ_ H Q=>Q none H
noncomputable def tPart(t:TE):TO:=λU H Q=>t U H λx H1=>∃i,x=.int i/\Q (some i) H1
section
variable{te:TE}{lo hi:Option Ny}{tl th:TO}
theorem Ga:PO X none tNoPart:=by
 intro aa s U H Q I h;rw[evalPart_none];exact e_ ⟨none,H,I,.none,h⟩
theorem Iw(h:PE X e te):PO X (some e) (tPart te):=by
 intro aa s U H Q I hw;rw[evalPart_some];refine thn (h aa s U H _ I hw) λu s1 ⟨x,H1,I1,r1,q1⟩=>?_
 obtain⟨i,rfl,q⟩:=q1;obtain⟨t,rfl⟩:=r1;exact⟨some i,H1,I1,.int i t,q⟩
def SlR(X:Cx)(r:V->Option Int->Option Int->Hp->VK->Prop):Prop:=
 ∀(aa:List (k_×Obj)) (s:c_) (U:St) (H:Hp) (x:V) (v vl vu:b_) (lo hi:Option Int) (sl:k_) (Q:VK),Inv X aa U H s->RelV x v->s.heap.IsSliceOf sl vl vu .none->RX vl lo->RX vu hi->r x lo hi H Q →
  ∃T id,typeLookup (.type T) "__getitem__"=pure (some (.builtin id))/\s.TypeIs v T/\s_ (t_ X.prog X.w) X.A (SA v (.ref sl)) (EP X aa U Q) X.xe s
theorem SlR.or{r r':V->Option Int->Option Int->Hp->VK->Prop}(h:SlR X r)(h':SlR X r'):SlR X (λx lo hi H Q=>r x lo hi H Q\/r' x lo hi H Q):=by
 intro aa s U H x v vl vu lo hi sl Q I rx hs pl pu q
 rcases q with q | q
 ·exact h aa s U H x v vl vu lo hi sl Q I rx hs pl pu q
 ·exact h' aa s U H x v vl vu lo hi sl Q I rx hs pl pu q
noncomputable def tSl(r:V->Option Int->Option Int->Hp->VK->Prop)(te:TE)(tl th:TO):TE:=λU H Q=>te U H λx H1=>tl U H1 λl H2=>th U H2 λu H3=>r x l u H3 Q
theorem GB{r:V->Option Int->Option Int->Hp->VK->Prop}(hr:SlR X r)(he:PE X e te)(hl:PO X lo tl)(hu:PO X hi th):PE X (.Subscript e (.Slice lo hi none p2) pos) (tSl r te tl th):=by
 intro aa s U H Q I h;refine Subscript_ (thn (he aa s U H _ I h) λv s1 ⟨x,H1,I1,r1,q1⟩=>?_);refine wpAny_Slice (thn (hl aa s1 U H1 _ I1 q1) λvl s2 ⟨l,H2,I2,pl,q2⟩=>thn (hu aa s2 U H2 _ I2 q2) λvu s3 ⟨u,H3,I3,pu,q3⟩=>?_);rw[evalPart_none];refine e_ ?_;have I4:Inv X aa U H3 { s3 with heap:=s3.heap.push { cls:=.type "slice", data:=.fields #[vl,vu,.none] } }:=I3.kept (t':=s3.toks) λb ob q=>f_ _ q
 obtain⟨T,id,hT,ht,hg⟩:=hr aa { s3 with heap:=s3.heap.push { cls:=.type "slice", data:=.fields #[vl,vu,.none] } } U H3 x v vl vu l u s3.heap.objs.size Q I4 r1 (J_.IsSliceOf.new ..) pl pu q3;show s_ (t_ X.prog X.w) X.A (subscriptTail e (.Slice lo hi none p2) v (.ref s3.heap.objs.size)) (EP X aa U Q) X.xe { s3 with heap:=s3.heap.push { cls:=.type "slice", data:=.fields #[vl,vu,.none] } };exact tail_any (ops:=[.ref s3.heap.objs.size,v]) ht hT hg (by with_unfolding_all rfl)
noncomputable def cutV(xs:List V)(lo hi:Option Int):List V:=(xs.drop (HT.sIx xs.length 0 lo)).take (HT.sIx xs.length xs.length hi - HT.sIx xs.length 0 lo)
theorem BG(xs:List V)(lo hi:Option Int):(cutV xs lo hi).length<=xs.length:=by
 unfold cutV;rw[Pl,PZ];omega
def rSlT(K:PySem.W.Frag):V->Option Int->Option Int->Hp->VK->Prop:=λx lo hi H Q=>∃a xs,x=.ref a/\SqT K H a xs ∧
 ¬(HT.sIx xs.length 0 lo=0/\HT.sIx xs.length xs.length hi=xs.length)/\∀p,H p=none->Q (.ref p) (upd H p (.tup (cutV xs lo hi)))
theorem IB:SlR X (rSlT X.K):=by
 intro aa s U H x v vl vu lo hi sl Q I rx hs pl pu h;obtain⟨a,xs,rfl,hx,hw,q⟩:=h;cases rx;obtain⟨ae,r,ht,hz⟩:=I.tuple hx;have aR:ae.toArray.size=xs.length:=by rw[n_];exact r.length.symm
 refine⟨"tuple", _,OD.lookup,ht.typeIs,?_⟩;refine HT.JT ht hs pl pu (by rw[aR];exact hw) ?_ (by rw[aR];exact hz);rw[aR];refine⟨.ref s.heap.objs.size,_,I.laid (t':=s.toks) (o:=.tup (cutV xs lo hi)) (λb ob q=>f_ _ q) (v_ _) ?_,rfl,q _ (I.hok.fresh (v_ _))⟩;exact⟨z_ (BG xs lo hi) hz,_,(r.drop (HT.sIx xs.length 0 lo)).take (HT.sIx xs.length xs.length hi - HT.sIx xs.length 0 lo),SE.new _ _⟩
noncomputable def rCatT(K:PySem.W.Frag):R2:=λx y H Q=>∃a b xs ys,x=.ref a/\y=.ref b/\SqT K H a xs/\SqT K H b ys/\xs≠[]/\xs.length+ys.length<=C_ ∧
 (ys=[]->Q (.ref a) H)/\(ys≠[]->∀p,H p=none->Q (.ref p) (upd H p (.tup (xs++ys))))
theorem Vals.nil_iff(r:Vals xs us):us=[]↔xs=[]:=by
 cases r with
 | nil=>simp
 | cons _ _=>simp
theorem JN:OpR X (OF .Add) (rCatT X.K):=by
 intro aa s U H x y v u Q I rx ry h;obtain⟨a,b,xs,ys,rfl,rfl,ha,hb,hx,hz,q1,q2⟩:=h;cases rx;cases ry;obtain⟨ae,r1,p1,_⟩:=I.tuple ha;obtain⟨bS,r2,p2,_⟩:=I.tuple hb;refine HT.DC p1 p2 (λz=>hx (r1.nil_iff.mp z)) (λz=>⟨.ref a,H,I,rfl,q1 (r2.nil_iff.mp z)⟩) (λz=>?_) (by rw[←r1.length,←r2.length];exact hz);refine⟨.ref s.heap.objs.size,_,I.laid (t':=s.toks) (o:=.tup (xs++ys)) (λb ob q=>f_ _ q) (v_ _) ?_,rfl,q2 (λw=>z (r2.nil_iff.mpr w)) _ (I.hok.fresh (v_ _))⟩;exact⟨by rw[o_];exact hz,_,r1.append r2,SE.new _ _⟩
end
noncomputable def ixN(n:Nat)(i:Int):Option Nat:=if 0<=i then(if i < n then some i.toNat else none) else if -(n:Int)<=i then some (i+n).toNat else none
noncomputable def atI{α:Type}(xs:List α)(i:Int):Option α:=(ixN xs.length i).bind λj=>xs[j]?
theorem Bd{i:Int}(h:ixN n i=some j):seqIndex? i n=some j/\j < n/\-(n:Int)<=i/\i < n:=by
 unfold ixN at h;by_cases h0:0<=i
 ·rw[if_pos h0] at h;by_cases h1:i < n
  ·rw[if_pos h1] at h;have e:i.toNat=j:=Nz h;exact⟨by rw[Sy h0 h1,e],by omega,by omega,h1⟩
  ·rw[if_neg h1] at h;cases h
 ·rw[if_neg h0] at h;by_cases h1:-(n:Int)<=i
  ·rw[if_pos h1] at h;have e:(i+n).toNat=j:=Nz h;exact⟨by rw[seqIndex_neg (by omega) h1,e],by omega,h1,by omega⟩
  ·rw[if_neg h1] at h;cases h
theorem Ca{α:Type}{xs:List α}{i:Int}{v:α}(h:atI xs i=some v):∃j,seqIndex? i xs.length=some j/\xs[j]?=some v/\j < xs.length/\-(xs.length:Int)<=i/\i < xs.length:=by
 unfold atI at h;cases e:ixN xs.length i with
 | none=>rw[e] at h;cases h
 | some j =>
  rw[e] at h;obtain⟨h1,h2,h3,h4⟩:=Bd e;exact⟨j,h1,h,h2,h3,h4⟩
theorem zx{α:Type}{xs:List α}{v:α}(h:xs[j]?=some v):atI xs (j:Int)=some v:=by
 have hj:j < xs.length:=(p_.mp h).1
 have e:ixN xs.length (j:Int)=some j:=by
  unfold ixN;rw[if_pos (by omega),if_pos (by omega)];simp
 unfold atI;rw[e];exact h
theorem Ho{α:Type}(xs:List α)(v:α):atI (xs++[v]) (-1)=some v:=by
 have hl:(xs++[v]).length=xs.length+1:=by simp
 have e:ixN (xs++[v]).length (-1)=some xs.length:=by
  unfold ixN;rw[hl,if_neg (by decide),if_pos (by omega)]
  congr 1
  omega
 unfold atI;rw[e];show(xs++[v])[xs.length]?=some v;simp
def PlainIx(b:Ny):Prop:=∀o i,subscripted b false o i=operate [o,i] (SA o i)
def IxR(X:Cx)(r:R2):Prop:=
 ∀(value bX:Ny) (aa:List (k_×Obj)) (s:c_) (U:St) (H:Hp) (x y:V) (v u:b_) (Q:VK),Inv X aa U H s->RelV x v->RelV y u->r x y H Q →
  subscripted bX false v u=operate [v,u] (SA v u)->s_ (t_ X.prog X.w) X.A (subscriptTail value bX v u) (EP X aa U Q) X.xe s
def MtR(X:Cx)(id:String)(r:V->List V->Hp->VK->Prop):Prop:=
 ∀(aa:List (k_×Obj)) (s:c_) (U:St) (H:Hp) (x:V) (xs:List V) (v:b_) (us:List b_) (Q:VK),Inv X aa U H s->RelV x v->Vals xs us->r x xs H Q →
  s_ (t_ X.prog X.w) X.A (call (.builtin id) (v::us)) (EP X aa U Q) X.xe s
section
variable{a b:Ny}{ta tb:TE}
theorem IxR.or{r r':R2}(h:IxR X r)(h':IxR X r'):IxR X (λx y H Q=>r x y H Q\/r' x y H Q):=by
 intro value bX aa s U H x y v u Q I rx ry q hs
 rcases q with q | q
 ·exact h value bX aa s U H x y v u Q I rx ry q hs
 ·exact h' value bX aa s U H x y v u Q I rx ry q hs
theorem vd{r:R2}(hr:IxR X r)(ha:PE X a ta)(hb:PE X b tb)(hs:PlainIx b):PE X (.Subscript a b pos) (tOp r ta tb):=by
 intro aa s U H Q I h;exact Subscript_ (binT ha hb I h λv u s2 x y H2 I2 rx ry q=>hr a b aa s2 U H2 x y v u Q I2 rx ry q (hs _ _))
noncomputable def rIxL(K:PySem.W.Frag):R2:=λx y H Q=>∃p xs i v,x=.ref p/\y=.int i/\SqL K H p xs/\atI xs i=some v/\Q v H
noncomputable def rIxT(K:PySem.W.Frag):R2:=λx y H Q=>∃p xs i v,x=.ref p/\y=.int i/\SqT K H p xs/\atI xs i=some v/\Q v H
theorem AG:IxR X (rIxL X.K):=by
 intro value bX aa s U H x y v u Q I rx ry h hs;obtain⟨p,xs,i,z,rfl,rfl,hq,he,q⟩:=h;cases rx;obtain⟨t,rfl⟩:=ry;obtain⟨ae,r,pl,hz⟩:=I.list hq;obtain⟨j,h1,h2,h3,h4,h5⟩:=Ca he;obtain⟨w,ew,fJ⟩:=r.get h2;have hl:=r.length;have hn:=line63;have fin:EP X aa U Q w s:=⟨z,H,I,fJ,q⟩;by_cases h0:0<=i
 ·have hj:i.toNat=j:=by
   rw[Sy h0 h5] at h1;exact Nz h1
  exact item_listR pl.isList h0 (by omega) (by rw[hj];simpa using ew) fin hs
 ·have hj:(i+(ae.toArray.size:Int)).toNat=j:=by
   rw[seqIndex_neg (by omega) h4] at h1;rw[n_,←hl];exact Nz h1
  exact Rg (x:=w) pl.isList.typeIs Sb.lookup
   (wpAny_getItem_list_neg (Q:=λr s'=>r=w/\EP X aa U Q r s') pl.isList (by omega) (by rw[n_]<;>omega) (by omega) (by rw[hj];simpa using ew) ⟨rfl,fin⟩) hs
theorem xD:IxR X (rIxT X.K):=by
 intro value bX aa s U H x y v u Q I rx ry h hs;obtain⟨p,xs,i,z,rfl,rfl,hq,he,q⟩:=h;cases rx;obtain⟨t,rfl⟩:=ry;obtain⟨ae,r,pl,hz⟩:=I.tuple hq;obtain⟨j,h1,h2,h3,h4,h5⟩:=Ca he;obtain⟨w,ew,fJ⟩:=r.get h2;have hl:=r.length;have hn:=line63;have fin:EP X aa U Q w s:=⟨z,H,I,fJ,q⟩
 exact Rg (x:=w) pl.typeIs slot_tuple_getitem.lookup
  (getItem_tuple (j:=j) (Q:=λr s'=>r=w/\EP X aa U Q r s') pl (by omega) (by omega) (by rw[n_,←hl];exact h1) (by simpa using ew) ⟨rfl,fin⟩) hs
theorem GM(ae:List b_)(n j:Nat)(u:b_):Rh (·.setIfInBounds j u) { cls:=.type "list", data:=.seq ae.toArray n }={ cls:=.type "list", data:=.seq (ae.set j u).toArray n }:=by
 simp[Rh]
theorem Inv.lst{H:Hp}{s:c_}{p:k_}(I:Inv X aa U H s)(h:H p=some (.lst xs)):
  ∃(ae:List b_) (n:Nat),Vals xs ae/\s.heap.get? p=some { cls:=.type "list", data:=.seq ae.toArray n }/\xs.length<=C_:=by
 obtain⟨z,ae,n,r,e⟩:=I.hok p _ h;exact⟨ae,n,r,e,z⟩
theorem Inv.lstUpd{H:Hp}{s:c_}{p:k_}{ys:List V}{n':Nat}{f:Obj->Obj}(I:Inv X aa U H s)(h:H p=some (.lst xs))(ho:s.heap.get? p=some { cls:=.type "list", data:=.seq ae.toArray n })(hf:f { cls:=.type "list", data:=.seq ae.toArray n }={ cls:=.type "list", data:=.seq its'.toArray n' })(r:Vals ys its')(hz:ys.length<=C_)(t:Nat):
  Inv X aa U (upd H p (.lst ys)) { s with heap:=s.heap.update p f,toks:=t }:=by
 have e:(s.heap.update p f).get? p=some { cls:=.type "list", data:=.seq its'.toArray n' }:=by
  rw[NZ f ho (by rw[hf]<;>rfl),hf]
 refine I.write (x:=p) (e:=p) (by rw[h];trivial) (.inl rfl) (λb u hb q=>(Nv _ _ (NH hb)).trans q) ⟨_,e⟩ ?_;exact⟨hz,its',n',r,e⟩
def rSetL:V->V->V->Hp->(Hp->Prop)->Prop:=λo i v H Q=>∃p xs k j,o=.ref p/\i=.int k/\H p=some (.lst xs)/\ixN xs.length k=some j/\Q (upd H p (.lst (xs.set j v)))
theorem Gw:PSet X rSetL:=by
 intro aa s U H o i v ov iv u Q I ro ri rv h;obtain⟨p,xs,k,j,rfl,rfl,hp,hj,q⟩:=h;cases ro;obtain⟨t,rfl⟩:=ri;obtain⟨ae,n,r,ho,hz⟩:=I.lst hp;obtain⟨h1,h2,h3,h4⟩:=Bd hj;have hl:=r.length;have hn:=line63
 have I':Inv X aa U (upd H p (.lst (xs.set j v))) { s with heap:=s.heap.update p (Rh (·.setIfInBounds j u)) }:=
  I.lstUpd hp ho (GM ae n j u) (r.set rv j) (by rw[OA];exact hz) s.toks
 by_cases h0:0<=k
 ·have hk:k.toNat=j:=by
   rw[Sy h0 h4] at h1;exact Nz h1
  exact PySem.W.ki_setAt ho h0 (by omega) (by rw[n_,←hl];exact h4) (by rw[hk];exact⟨_,I',q⟩)
 ·have hk:(k+(ae.toArray.size:Int)).toNat=j:=by
   rw[seqIndex_neg (by omega) h3] at h1;rw[n_,←hl];exact Nz h1
  exact PySem.W.ki_setBack ho (by omega) (by rw[n_,←hl];exact h3) (by omega) (by rw[hk];exact⟨_,I',q⟩)
theorem GO(lo hi:Option Int)(n:Nat):(Pn lo hi none n).1=((HT.sIx n 0 lo:Nat):Int)/\(Pn lo hi none n).2.1=((HT.sIx n n hi:Nat):Int)/\(Pn lo hi none n).2.2=1:=by
 refine⟨?_,?_,rfl⟩
 ·cases lo with
  | none=>simp[Pn,HT.sIx]
  | some i =>
   simp only[Pn,HT.sIx,getD_none,show(1:Int) > 0 by decide,if_true];by_cases h:i < 0
   ·simp only[h,if_true]<;>omega
   ·simp only[h,if_false]<;>omega
 ·cases hi with
  | none=>simp[Pn,HT.sIx]
  | some i =>
   simp only[Pn,HT.sIx,getD_none,show(1:Int) > 0 by decide,if_true];by_cases h:i < 0
   ·simp only[h,if_true]<;>omega
   ·simp only[h,if_false]<;>omega
theorem KW(ae:List b_)(lo hi:Option Int):slicePick ae.toArray lo hi none=((ae.drop (HT.sIx ae.length 0 lo)).take (HT.sIx ae.length ae.length hi - HT.sIx ae.length 0 lo)).toArray:=by
 obtain⟨h1,h2,h3⟩:=GO lo hi ae.toArray.size;unfold slicePick;rw[h1,h2,h3];simp only[sliceRange_one,pick_run,n_]<;>rfl
def rSlL(K:PySem.W.Frag):V->Option Int->Option Int->Hp->VK->Prop:=λx lo hi H Q=>∃a xs,x=.ref a/\SqL K H a xs/\∀p,H p=none->Q (.ref p) (upd H p (.lst (cutV xs lo hi)))
theorem Iz:SlR X (rSlL X.K):=by
 intro aa s U H x v vl vu lo hi sl Q I rx hs pl pu h;obtain⟨a,xs,rfl,hx,q⟩:=h;cases rx;obtain⟨ae,r,ht,hz⟩:=I.list hx;have aR:=r.length;refine⟨"list", _,Sb.lookup,ht.isList.typeIs,?_⟩;refine wpAny_getItem_list_slice ht.isList hs pl pu .none (by simp) ?_ (by rw[n_]<;>omega);rw[KW,←aR];refine⟨.ref s.heap.objs.size,_,I.laid (t':=s.toks) (o:=.lst (cutV xs lo hi)) (λb ob q=>f_ _ q) (v_ _) ?_,rfl,q _ (I.hok.fresh (v_ _))⟩;exact⟨z_ (BG xs lo hi) hz,_,0,(r.drop (HT.sIx xs.length 0 lo)).take (HT.sIx xs.length xs.length hi - HT.sIx xs.length 0 lo),x_ _ rfl⟩
theorem CO:CallR X (.builtin "len") (λxs H Q=>∃p ys,xs=[.ref p]/\(SqL X.K H p ys\/SqT X.K H p ys)/\Q (.int ys.length) H):=by
 intro aa s U H xs us Q I r h;obtain⟨p,ys,rfl,hq,q⟩:=h;obtain⟨u,rfl,rx⟩:=vals1 r;cases rx;have hn:=line63
 rcases hq with hq | hq
 ·obtain⟨ae,r',pl,hz⟩:=I.list hq;have aR:=r'.length;exact Calls.call_len_list pl.isList (by simp only[n_]<;>omega) ⟨.int ys.length,H,I.tok _,⟨s.toks+1,by rw[n_,aR]⟩,q⟩
 ·obtain⟨ae,r',pl,hz⟩:=I.tuple hq;have aR:=r'.length;exact len_tuple pl (by simp only[n_]<;>omega) ⟨.int ys.length,H,I.tok _,⟨s.toks+1,by rw[n_,aR]⟩,q⟩
theorem DA:CallR X (.type "list") (λxs H Q=>∃p ys,xs=[.ref p]/\(SqL X.K H p ys\/SqT X.K H p ys)/\∀l,H l=none->Q (.ref l) (upd H l (.lst ys))):=by
 intro aa s U H xs us Q I r h;obtain⟨p,ys,rfl,hq,q⟩:=h;obtain⟨u,rfl,rx⟩:=vals1 r;cases rx
 have fin:∀(ae:List b_),Vals ys ae->ys.length<=C_->∀(h':J_) (c':Nat),(∀b o',s.heap.get? b=some o'->h'.get? b=some o') →
   h'.get? s.heap.objs.size=some { cls:=.type "list", dict:=none,data:=.seq ae.toArray c',slots:=#[] }->EP X aa U Q (.ref s.heap.objs.size) { s with heap:=h' }:=λae r' hz h' c' kp e =>
  ⟨.ref s.heap.objs.size,_,I.laid (t':=s.toks) kp (v_ _) (show ObjOk X.prog X.w _ h' _ (.lst ys) from⟨hz,ae,c',r',e⟩),rfl,q _ (I.hok.fresh (v_ _))⟩
 rcases hq with hq | hq
 ·obtain⟨ae,r',pl,hz⟩:=I.list hq;have aR:=r'.length;obtain⟨o,ho,hc,n,hd⟩:=pl.isList;exact call_list_seq p (.inl rfl) ho hc hd (λh' c' kp e=>fin ae r' hz h' c' kp e) (by simp only[n_]<;>omega)
 ·obtain⟨ae,r',pl,hz⟩:=I.tuple hq;have aR:=r'.length;obtain⟨o,ho,hc,n,hd⟩:=pl;exact call_list_seq p (.inr rfl) ho hc hd (λh' c' kp e=>fin ae r' hz h' c' kp e) (by simp only[n_]<;>omega)
theorem DP:CallR X (.type "tuple") (λxs H Q=>∃p ys,xs=[.ref p]/\((SqL X.K H p ys/\∀l,H l=none->Q (.ref l) (upd H l (.tup ys)))\/(SqT X.K H p ys/\Q (.ref p) H))):=by
 intro aa s U H xs us Q I r h;obtain⟨p,ys,rfl,h⟩:=h;obtain⟨u,rfl,rx⟩:=vals1 r;cases rx
 rcases h with⟨hq,q⟩ | ⟨hq,q⟩
 ·obtain⟨ae,r',pl,hz⟩:=I.list hq;have aR:=r'.length;refine call_tuple_list pl.isList (λh' kp=>?_) (by simp only[n_]<;>omega);have I1:Inv X aa U H { s with heap:=h' }:=I.kept (t':=s.toks) kp
  have I2:Inv X aa U (upd H h'.objs.size (.tup ys)) { s with heap:=h'.push { cls:=.type "tuple", data:=.seq ae.toArray } }:=
   I1.laid (t':=s.toks) (λb o e=>f_ _ e) (v_ _) (show ObjOk X.prog X.w _ _ _ (.tup ys) from⟨hz,ae,r',SE.new _ _⟩)
  exact⟨.ref h'.objs.size,_,I2,rfl,q _ (I1.hok.fresh (v_ _))⟩
 ·obtain⟨ae,r',pl,hz⟩:=I.tuple hq;exact call_tuple_same pl ⟨.ref p,H,I,rfl,q⟩
def tyV(K:PySem.W.Frag)(T:String)(x:V)(H:Hp):Prop:=match x with
 | .str _=>T = "str"
 | .int _=>T = "int"
 | .ref p=>(T = "list"/\∃xs,SqL K H p xs)\/(T = "tuple"/\∃o,K.lookup p=some o/\o.cls=.type "tuple"/\o.dict=none) ∨
   (T = "dict"/\((∃aY,H p=some (.dK aY))\/∃aY,H p=some (.dT aY)))\/(T = "set"/\∃S n,H p=some (.set S n))
 | _=>False
theorem Ab{H:Hp}{s:c_}{T:String}{x:V}{v:b_}(I:Inv X aa U H s)(r:RelV x v)(ty:tyV X.K T x H):
  s.TypeIs v T/\∀a,v=.ref a->∃ob,s.heap.get? a=some ob/\ob.dict=none:=by
 cases x with
 | str z =>
  obtain⟨t,rfl⟩:=r
  cases(show T = "str" from ty)
  exact⟨typeIs_str s z t,λ_ e=>nomatch e⟩
 | int i =>
  obtain⟨t,rfl⟩:=r
  cases(show T = "int" from ty)
  exact⟨typeIs_int s i t,λ_ e=>nomatch e⟩
 | ref p =>
  cases r
  rcases ty with⟨rfl,xs,hq⟩ | ⟨rfl,o,hk,hc,hd⟩ | ⟨rfl,hk⟩ | ⟨rfl,S,n,hk⟩
  ·obtain⟨ae,_,pl,_⟩:=I.list hq;refine⟨pl.isList.typeIs,λa e=>?_⟩;cases e;obtain⟨o,n,e,c,hd,_⟩:=pl;exact⟨o,e,hd⟩
  ·refine⟨⟨o,I.kIn p o hk,hc⟩,λa e=>?_⟩;cases e;exact⟨o,I.kIn _ o hk,hd⟩
  ·have z:∃o,s.heap.get? p=some o/\o.ExactDict:=by
    rcases hk with⟨aY,hk⟩ | ⟨aY,hk⟩
    ·obtain⟨_,_,_,_,o,_,_,e,ex,_⟩:=I.hok p _ hk;exact⟨o,e,ex⟩
    ·obtain⟨_,_,_,_,o,_,_,e,ex,_⟩:=I.hok p _ hk;exact⟨o,e,ex⟩
   obtain⟨o,e,ex⟩:=z;refine⟨⟨o,e,ex.1⟩,λa e2=>?_⟩;cases e2;exact⟨o,e,ex.2.1⟩
  ·obtain⟨o,_,_,_,e,ex,_⟩:=I.hok p _ hk;refine⟨⟨o,e,ex.1⟩,λa e2=>?_⟩;cases e2;exact⟨o,e,ex.2.1⟩
 | _=>exact S3 ty
noncomputable def tBM0(K:PySem.W.Frag)(T:String)(r:V->List V->Hp->VK->Prop)(to:TE):TE:=λU H Q=>to U H λx H1=>tyV K T x H1/\r x [] H1 Q
noncomputable def tBM(K:PySem.W.Frag)(T:String)(r:V->List V->Hp->VK->Prop)(to:TE)(t:TA):TE:=λU H Q=>to U H λx H1=>tyV K T x H1/\t U H1 λxs H2=>r x xs H2 Q
variable{o:Ny}{es:List Ny}{to:TE}{t:TA}{name:Str}{T id:String}{r:V->List V->Hp->VK->Prop}
theorem zv(pa:PlainAttrs T)(slot:Slot T name id)(jq:SN (.builtin id)=pure (.type "method_descriptor"))(hm:MtR X id r)(ho:PE X o to)(ba:OB o name X.env (Nr o X.env)=Nr o X.env:=by rfl)(bb:(aK.endLine == aC.line)=true:=by rfl):PE X (.Call (.Attribute o name aK) [] [] aC) (tBM0 X.K T r to):=by
 intro aa s U H Q I h;refine wpAny_Call_method0_late ba bb (thn (ho aa s U H _ I h) λv s1 ⟨x,H1,I1,r1,ty,q1⟩=>?_);obtain⟨h1,h2⟩:=Ab I1 r1 ty;exact⟨T,id,pa,slot,jq,h1,h2,Ri rfl (PySem.evalArgs_none (hm aa s1 U H1 x [] v [] Q I1 r1 .nil q1))⟩
theorem vk(pa:PlainAttrs T)(slot:Slot T name id)(jq:SN (.builtin id)=pure (.type "method_descriptor"))(hm:MtR X id r)(ho:PE X o to)(ha:PA X (e::es) t)(ba:OB o name X.env (Nr o X.env)=Nr o X.env:=by rfl)(cf:((ND aC (d_ (e::es) X.env)).all (λx=>!x.1)&&(Sc aC (QA [] X.env)).all (λx=>x.1.isSome)
   &&decide ((e::es).length+([]:List Qe).length+(if([]:List Qe).isEmpty then 0 else 1) < 30))=true:=by rfl)(bb:(aK.endLine == aC.line)=true:=by rfl)(hs:d_ (e::es) X.env=(false,Nr e X.env)::d_ es X.env:=by rfl)(bu:(ND aC (d_ es X.env)).any (·.1)=false:=by rfl):
  PE X (.Call (.Attribute o name aK) (e::es) [] aC) (tBM X.K T r to t):=by
 intro aa s U H Q I h;refine wpAny_Call_method_late ba cf bb rfl (thn (ho aa s U H _ I h) λv s1 ⟨x,H1,I1,r1,ty,q1⟩=>?_);obtain⟨h1,h2⟩:=Ab I1 r1 ty;refine⟨T,id,pa,slot,jq,h1,h2,?_⟩;have hA:=ha aC aa s1 U H1 _ I1 q1;rw[hs] at hA ⊢;refine Ri (by show(false||(ND aC (d_ es X.env)).any (·.1))=false;rw[bu]<;>rfl) (Calls.evalArgs_plain ?_);exact thn hA λus s2 ⟨vs,H2,I2,r2,q2⟩=>hm aa s2 U H2 x vs v us Q I2 r1 r2 q2
end
def MtM(X:Cx)(id:String)(r:V->List V->Hp->VK->Prop):Prop:=
 ∀(aa:List (k_×Obj)) (s:c_) (U:St) (H:Hp) (x:V) (xs:List V) (v:b_) (us:List b_) (Q:VK),Inv X aa U H s->RelV x v->Vals xs us->r x xs H Q →
  s_ (t_ X.prog X.w) X.A (call (.builtin id) (v::us)) (EP X aa U Q) X.xe s
theorem Vals.one:∀{x:V}{us:List b_},Vals [x] us->∃u,us=[u]/\RelV x u
 | _,_,.cons r .nil=>⟨_,rfl,r⟩
theorem Vals.two:∀{x y:V}{us:List b_},Vals [x,y] us->∃u v,us=[u,v]/\RelV x u/\RelV y v
 | _,_,_,.cons r (.cons q .nil)=>⟨_,_,rfl,r,q⟩
theorem Vals.zero:∀{us:List b_},Vals [] us->us=[]
 | _,.nil=>rfl
theorem Vals.dropLast(h:Vals xs us):Vals xs.dropLast us.dropLast:=by
 induction h with
 | nil=>exact .nil
 | cons r t ih =>
  cases t with
  | nil=>exact .nil
  | cons q t'=>exact .cons r ih
theorem Vals.eraseIdx:∀{xs:List V}{us:List b_} (i:Nat),Vals xs us->Vals (xs.eraseIdx i) (us.eraseIdx i)
 | _,_,_,.nil=>.nil
 | _,_,0,.cons _ t=>t
 | _,_,i+1,.cons r t=>.cons r (Vals.eraseIdx i t)
theorem Hu{α:Type}(l:List α):l.eraseIdx (l.length - 1)=l.dropLast:=by
 induction l with
 | nil=>rfl
 | cons a r ih =>
  cases r with
  | nil=>rfl
  | cons b r =>
   have e:(a::b::r).length - 1=((b::r).length - 1)+1:=by
    have h1:(a::b::r).length=r.length+2:=rfl;have h2:(b::r).length=r.length+1:=rfl;omega
   rw[e,OI,ih]
   all_goals rfl
theorem Cp{α:Type}:∀(l:List α) (i:Nat),(l.eraseIdx i).length<=l.length
 | [],_=>v_ _
 | _::_,0=>SB _
 | _::r,i+1=>Nat.succ_le_succ (Cp r i)
section
variable{H:Hp}{s:c_}{l:k_}{ys:List V}
theorem Inv.lset{f:Array b_->Array b_}(I:Inv X aa U H s)(hH:H l=some (.lst xs))(e:s.heap.get? l=some { cls:=.type "list", data:=.seq ae.toArray n })(hf:f ae.toArray=its'.toArray)(hv:Vals ys its')(hz:ys.length<=C_):
  Inv X aa U (upd H l (.lst ys)) { s with heap:=s.heap.update l (Rh f),toks:=t' }:=by
 have q:=PySem.IsL.update e f;rw[hf] at q;refine I.write (x:=l) (e:=l) (by rw[hH];exact trivial) (.inl rfl) (λb' u hb hu=>(Nv s.heap (Rh f) (NH hb)).trans hu) ⟨_,q⟩ ?_;exact⟨hz,its',_,hv,q⟩
theorem Inv.lnew(I:Inv X aa U H s)(hv:Vals ys ae)(hz:ys.length<=C_):
  Inv X aa U (upd H s.heap.objs.size (.lst ys)) { s with heap:=s.heap.push { cls:=.type "list", data:=.seq ae.toArray },toks:=t' }:=
 I.laid (λ_ _ q=>f_ _ q) (v_ _) ⟨hz,ae,0,hv,x_ _ rfl⟩
theorem Inv.fresh(I:Inv X aa U H s):H s.heap.objs.size=none:=I.hok.fresh (v_ _)
theorem Inv.lstM(I:Inv X aa U H s)(hH:H l=some (.lst xs)):xs.length<=C_/\∃(ae:List b_) (n:Nat),Vals xs ae/\xs.length=ae.length/\s.heap.get? l=some { cls:=.type "list", data:=.seq ae.toArray n }:=by
 obtain⟨z,ae,n,r,e⟩:=I.hok l _ hH;exact⟨z,ae,n,r,r.length,e⟩
theorem notLongL(h:n<=C_):Sz n=false:=by
 unfold Sz;exact decide_eq_false (by omega)
end
section
def rAppend:V->List V->Hp->VK->Prop:=λx vs H Q=>∃l xs y,x=.ref l/\vs=[y]/\H l=some (.lst xs)/\xs.length < C_/\Q .non (upd H l (.lst (xs++[y])))
theorem w6:MtM X "list.append" rAppend:=by
 intro aa s U H x vs v us Q I rx rv h;obtain⟨l,xs,y,rfl,rfl,hH,hz,q⟩:=h;cases rx;obtain⟨u,rfl,ru⟩:=rv.one;obtain⟨z,ae,n,r,hl,e⟩:=I.lstM hH;refine Rj F.slot_list_append ⟨_,e,rfl⟩ F.entry_list_append (F.args_list_append_2 _ _) (PySem.list_append l ae.toArray n u (by rw[n_];omega)) ⟨e,?_⟩;refine⟨.non,_,I.lset (its':=ae++[u]) hH e (by simp) (r.append (.cons ru .nil)) ?_,rfl,q⟩;rw[o_,Oo];omega
def rPop:V->List V->Hp->VK->Prop:=λx vs H Q=>∃l xs y,x=.ref l/\vs=[]/\H l=some (.lst xs)/\xs[xs.length - 1]?=some y/\Q y (upd H l (.lst xs.dropLast))
theorem Kr:MtM X "list.pop" rPop:=by
 intro aa s U H x vs v us Q I rx rv h;obtain⟨l,xs,y,rfl,rfl,hH,hy,q⟩:=h;cases rx;have dk:=rv.zero;subst dk;obtain⟨z,ae,n,r,hl,e⟩:=I.lstM hH;obtain⟨u,hu,ru⟩:=r.get hy
 have ny:ae.toArray[ae.toArray.size - 1]?=some u:=by
  show ae.toArray[ae.length - 1]?=some u;rw[←PD,←hl];exact hu
 refine Rj F.slot_list_pop ⟨_,e,rfl⟩ F.entry_list_pop (F.args_list_pop_1 _) (MeetsSeq.list_pop_last l ae.toArray n u ny (by rw[n_];omega)) ⟨e,?_⟩;refine⟨y,_,I.lset (its':=ae.dropLast) hH e ?_ r.dropLast ?_,ru,q⟩
 ·show ae.toArray.eraseIdxIfInBounds (ae.toArray.size - 1)=ae.dropLast.toArray;rw[n_,PC,Hu]
 ·rw[List.length_dropLast];omega
def rPopAt:V->List V->Hp->VK->Prop:=λx vs H Q=>∃l xs i k y,x=.ref l/\vs=[.int i]/\H l=some (.lst xs)/\-(2 ^ 63)<=i/\i < 2 ^ 63/\seqIndex? i xs.length=some k/\xs[k]?=some y/\Q y (upd H l (.lst (xs.eraseIdx k)))
theorem Fq:MtM X "list.pop" rPopAt:=by
 intro aa s U H x vs v us Q I rx rv h;obtain⟨l,xs,i,k,y,rfl,rfl,hH,h1,h2,hk,hy,q⟩:=h;cases rx;obtain⟨u,rfl,ru⟩:=rv.one;obtain⟨t,rfl⟩:=ru;obtain⟨z,ae,n,r,hl,e⟩:=I.lstM hH;obtain⟨w,hw,fJ⟩:=r.get hy
 refine Rj F.slot_list_pop ⟨_,e,rfl⟩ F.entry_list_pop (F.args_list_pop_2 _ _)
  (MeetsSeq.list_pop_at l ae.toArray n i t k w (fitsIndex_both h1 h2) (by rw[n_,←hl];exact hk) (by rw[←PD];exact hw) (by rw[n_];omega)) ⟨e,?_⟩
 refine⟨y,_,I.lset (its':=ae.eraseIdx k) hH e ?_ (r.eraseIdx k) ?_,fJ,q⟩
 ·show ae.toArray.eraseIdxIfInBounds k=(ae.eraseIdx k).toArray;rw[PC]
 ·have:=Cp xs k;omega
def rClear:V->List V->Hp->VK->Prop:=λx vs H Q=>∃l xs,x=.ref l/\vs=[]/\H l=some (.lst xs)/\Q .non (upd H l (.lst []))
theorem Ik:MtM X "list.clear" rClear:=by
 intro aa s U H x vs v us Q I rx rv h;obtain⟨l,xs,rfl,rfl,hH,q⟩:=h;cases rx;have dk:=rv.zero;subst dk;obtain⟨z,ae,n,r,hl,e⟩:=I.lstM hH;refine Rj F.slot_list_clear ⟨_,e,rfl⟩ F.entry_list_clear (F.args_list_clear_1 _) (AutoSeq1.list_clear_list_0 l ae.toArray n (by rw[n_];omega)) ⟨e,?_⟩;exact⟨.non,_,I.lset (its':=[]) (ys:=[]) hH e rfl .nil (NK _),rfl,q⟩
end
end L2
namespace Att
open PySem PySem.W PySem.Calls PyProof.Rows
theorem Gk{P:Params}{h:J_}:∀(ns:List Int) (vs:List b_),WellAll P h vs (ns.map WData.int)->SC vs ns:=by
 intro ns
 induction ns with
 | nil =>
  intro vs w;rw[List.map_nil] at w;cases w;exact .nil
 | cons n ns ih =>
  intro vs w;rw[H_] at w;cases w with
  | cons a b =>
   cases a;exact .cons _ _ (ih _ b)
theorem Ii{l:S4}(hn:l.most=some n){P:Params}{h:J_}(eV:l.row.toRowW.claim.pre args=true)(gZ:WellAll P h fK args):
  ∃a vs ns,fK=[b_.ref a]/\args=[WData.list (ns.map WData.int)]/\h.get? a=some { cls:=.type "list", data:=.seq vs.toArray }/\SC vs ns/\ns.length<=n:=by
 have nz:S5.hasAll [] args [.list .int]=true:=(pre_splitW eV).1;have hc:l.pre.holds [] { args:=args }=true:=(pre_splitW eV).2;obtain⟨d,r,rfl,h1,h2⟩:=hasAllW_cons nz;obtain rfl:=hasAllW_nil h2;obtain⟨xs,rfl,h3⟩:=hasW_list h1;obtain⟨ns,rfl⟩:=items_int h3
 have aR:ns.length<=n:=by
  unfold S4.pre at hc
  have h4:(WTm.not (.lt (.lit (.int (n:Int))) (.len (.arg 0)))).holds [] { args:=[.list (ns.map .int)] }=true:=by
   have h4:=(holds_andW hc).1;rw[hn] at h4;exact h4
  have h5:=condW_of h4 (w_not (w_lt w_lit (w_len_list (w_arg rfl))));rw[u_] at h5;refine Q5 λq=>?_
  have q':(n:Int) < ((ns.length:Nat):Int):=by omega
  first
   | (rw[decide_eq_true q'] at h5;exact absurd h5 (by decide))
   | (simp at h5;omega)
 cases gZ with
 | cons w1 w2 =>
  cases w2;cases w1 with
  | list ho fL=>exact⟨_,_,ns,rfl,rfl,ho,Gk ns _ fL,aR⟩
theorem Ko(l:S4)(args:List WData):l.row.toRowW.claim.post args (.bool true) args=true:=
 postW_of (r:=l.row.toRowW) (X:=(true == true))
  (show S5.has [] (.bool true) .bool=true by first | rfl | decide | simp[S5.has,S5.arms,S5.armsAll])
  (show(WTm.eq .res (.lit (.bool true))).value [] { args:=args,res:=some (.bool true),after:=args }=some (.bool (true == true)) from w_eq_bool (w_res rfl) w_lit) rfl
theorem HE{l:S4}{q:A_}{XP:(Str->Option b_)->J_->Prop}{YP:I_->J_->Prop}{d:DefRec}(hn:l.most=some n)(fM:d.params.defaults=[])(call:∀(w:I_) (s₀ aB:c_) (mg mb:Str->Option b_) (fa:k_) (o:Obj) (pm cd bL:b_) (a:k_) (vs:List b_) (ns:List Int),
   Ground q cp [] XP w s₀ mg mb aB.heap->YP w aB.heap →
   aB.heap.get? fa=some o->o.data=.func (docDef d.name d.params d.body d.scope pm cd bL)->aB.heap.CodeRec cd d.name->mg d.name=some (.ref fa) →
   aB.heap.get? a=some { cls:=.type "list", data:=.seq vs.toArray }->SC vs ns->ns.length<=n->aB.gens=#[] →
   Pp (t_ l.prog w) RM (.call (.ref fa) ⟨[.ref a],[]⟩) (λr s'=>r=.ok (.ret (.bool true))/\OldK aB.heap s'.heap/\s'.os=aB.os/\Qy s'.gens) aB):
  WalkO q cp XP YP l.row.toRowW d [] (λf vs=>PySem.call f vs):=by
 intro w s₀ aB mg mb G qC fa o pm cd bL dV kV ho hd cn hD fN hg args fK as eV pF kF gZ kG;obtain rfl:dV=.none:=Dflts.none hD fM;obtain rfl:kV=.none:=Dflts.noKw hD;obtain⟨a,vs,ns,rfl,rfl,fO,et,aR⟩:=Ii hn eV gZ;refine enter_call (O6 (call w s₀ aB mg mb fa o pm cd bL a vs ns G qC ho (fd_plain hd) cn fN fO et aR hg) λr s' hq=>?_);obtain⟨rfl,h2,h3,h4⟩:=hq;exact⟨.inl ⟨.bool true,.bool true,[],rfl,λ_=>rfl,.bool true,Ko l _,λ_=>⟨QN.nil,λ_ hm=>(nomatch hm)⟩⟩,h2,h3,h4⟩
end Att
namespace L2
open PySem PySem.Spec PyProof.Rows
theorem CW:∀{vs:List b_}{ns:List Int},SC vs ns->Vals (ns.map V.int) vs
 | _,_,.nil=>.nil
 | _,_,.cons n t h=>.cons ⟨t,rfl⟩ (CW h)
def Only(H:Hp):Prop:=∀b,H b=none\/∃o xs,H b=some (.frz o (.lst xs))
noncomputable def defArgs(s:NO):Arguments:=match s with
 | .FunctionDef _ a _ _ _ _ _ _ _ _=>a
 | _=>{ posonlyargs:=[],args:=[],vararg:=none,kwonlyargs:=[],kw_defaults:=[],kwarg:=none,defaults:=[] }
noncomputable def defBody(s:NO):List NO:=match s with
 | .FunctionDef _ _ b _ _ _ _ _ _ _=>b
 | _=>[]
noncomputable def defScope(s:NO):Ql:=match s with
 | .FunctionDef _ _ _ _ _ _ sc _ _ _=>sc
 | _=>{ kind:=.function,names:=[],isGenerator:=false,isCoroutine:=false }
noncomputable abbrev CX0:CXT:=λ_ _ _ _ _ _=>False
noncomputable abbrev E0:XK:=λ_ _ _=>False
theorem pass0:Passes CX0 X E0:=λ_ _ _ _ _ _ _ h=>h.elim
structure Fun(K:PySem.W.Frag)(x qual:Str)(st:NO)(f:k_)(fd:O1):Prop where
 ex:∃(oc:b_) (od:Option k_) (kV bL pm:b_) (an:Option k_) (aF ct:b_) (dO:Array (Option b_)),
  fd=Rf x qual (defArgs st) (defBody st) (defScope st) .none kV bL pm an aF ct/\K.lookup f=some ⟨oc,od,.func fd,dO⟩/\codeIn K aF qual=true
 kp:O2 K (.ref f)=true
section
variable{P:A_}{w:I_}{K:PySem.W.Frag}
theorem Fun.ok{st:NO}{sp:Sp}(F:Fun K x qual st f fd)(S:FnScope N ps (defScope st))(len:∀vs H Q E,sp vs H Q E->vs.length=ps.length)(ei:∀(aF:b_) (A:Oe) (outer:List Env) (s:c_) (H:Hp) (vs:List V) (Q:VK) (E:XK),Room k (A.deeper (Re qual (defScope st) s.heap.objs.size f aF))->sp vs H Q E →
   ∃t,PSs (cxOf CX0 P w K mg base N qual (defScope st) f aF A outer s H E).nox (defBody st) t/\t { nx:=λ_ H'=>Q .non H',rt:=Q } (start N vs) H):FnOk P w K mg base CX0 (k+1) f fd ps sp:=by
 obtain⟨oc,od,kV,bL,pm,an,aF,ct,dO,rfl,lk,cn⟩:=F.ex;refine Hd lk cn S len λA outer s H vs Q E hr dP=>?_
 obtain⟨t,h,q⟩:=ei aF A outer s H vs Q E hr dP;exact⟨t,h.nox,q⟩
theorem Fun.binds{st:NO}(F:Fun K x qual st f fd)(h:∀(kV bL pm:b_) (an:Option k_) (aF ct:b_) (us:List b_),us.length=ps.length->OG (Rf x qual (defArgs st) (defBody st) (defScope st) .none kV bL pm an aF ct) ⟨us,[]⟩=pure (ps.zip us)):Binds K fd ps []:=by
 obtain⟨oc,od,kV,bL,pm,an,aF,ct,dO,rfl,lk,cn⟩:=F.ex;exact .all (h kV bL pm an aF ct)
theorem Fh{st:NO}{kV bL aF:b_}(l:K.lookup f=some ⟨oc,od,.func (Rf x qual (defArgs st) (defBody st) (defScope st) .none kV bL pm an aF ct),dO⟩)(c:codeIn K aF qual=true)(k:O2 K (.ref f)=true):Fun K x qual st f (Rf x qual (defArgs st) (defBody st) (defScope st) .none kV bL pm an aF ct):=⟨⟨oc,od,kV,bL,pm,an,aF,ct,dO,rfl,l,c⟩,k⟩
end
section
theorem pv(i:Nat)(hN:X.N[i]?=some x:=by rfl)(hv:visB X.env.scope x=true:=by rfl)(hd:(x == ("__debug__":Str))=false:=by decide)(cn:(x == ("__classdict__":Str))=false:=by decide):PE X (.Name x pos) (tVar i):=Km hN (visI hv) hd cn
end
theorem iteF{A B:Prop}(h:B):if false=true then A else B:=by
 rw[if_neg i_];exact h
theorem iteT{A B:Prop}(h:A):if true=true then A else B:=by
 rw[if_pos rfl];exact h
def Same(H H':Hp):Prop:=∀b o,H b=some o->H' b=some o
theorem Same.refl(H:Hp):Same H H:=λ_ _ h=>h
theorem Same.trans{H:Hp}(a:Same H H1)(b:Same H1 H2):Same H H2:=λc o h=>b c o (a c o h)
theorem Same.free{H:Hp}(e:Same H H'){l:k_}(h:H' l=Option.none):H l=Option.none:=by
 cases q:H l with
 | none=>rfl
 | some o =>
  rw[e l o q] at h;cases h
end L2
set_option maxHeartbeats 4000000
namespace DL
open PySem PySem.Spec PyProof.Rows L2
inductive D where
 | non | bl (b:Bool) | int (i:Int) | str (x:Str) | tup (xs:List D) | lst (xs:List D)
def RdK(K:PySem.W.Frag)(I:Hp)(a:k_)(xs:List V):Prop:=Rd I a (.lst xs)\/∃(ae:List b_) (n:Nat),K.lookup a=some { cls:=.type "list", data:=.seq ae.toArray n }/\Vals xs ae/\ae.length<=C_
theorem RdK.of{K:PySem.W.Frag}(h:I a=some (.lst xs)):RdK K I a xs:=.inl (.inl h)
theorem RdK.sq{K:PySem.W.Frag}(h:RdK K I a xs):SqL K I a xs:=by
 rcases h with h | ⟨ae,n,h1,h2,h3⟩
 ·exact .inl h
 ·exact .inr ⟨_,ae.toArray,n,h1,rfl,rfl,rfl,by simpa using h3,by simpa using h2⟩
mutual
def Is(K:PySem.W.Frag)(I:Hp):D->V->Prop
 | .non,v=>v=.non
 | .bl b,v=>v=.bl b
 | .int i,v=>v=.int i
 | .str x,v=>v=.str x
 | .tup ds,v=>∃a xs,v=.ref a/\SqT K I a xs/\IsA K I ds xs
 | .lst ds,v=>∃a xs,v=.ref a/\RdK K I a xs/\IsA K I ds xs
def IsA(K:PySem.W.Frag)(I:Hp):List D->List V->Prop
 | [],xs=>xs=[]
 | d::ds,xs=>∃x r,xs=x::r/\Is K I d x/\IsA K I ds r
end
section
variable{K:PySem.W.Frag}{H:Hp}
theorem Same.rd(e:Same I I')(h:Rd I a o):Rd I' a o:=by
 rcases h with h | ⟨u,h⟩
 ·exact .inl (e _ _ h)
 ·exact .inr ⟨u,e _ _ h⟩
theorem Same.rdK(e:Same I I')(h:RdK K I a xs):RdK K I' a xs:=by
 rcases h with h | h
 ·exact .inl (Same.rd e h)
 ·exact .inr h
theorem Same.sqT(e:Same I I')(h:SqT K I a xs):SqT K I' a xs:=by
 rcases h with h | h
 ·exact .inl (Same.rd e h)
 ·exact .inr h
mutual
theorem Is.mono(e:Same I I'):∀{d:D}{v:V},Is K I d v->Is K I' d v
 | .non,_,h=>by rw[Is] at h ⊢;exact h
 | .bl _,_,h=>by rw[Is] at h ⊢;exact h
 | .int _,_,h=>by rw[Is] at h ⊢;exact h
 | .str _,_,h=>by rw[Is] at h ⊢;exact h
 | .tup ds,v,h=>by
  rw[Is] at h ⊢;obtain⟨a,xs,e1,e2,e3⟩:=h;exact⟨a,xs,e1,Same.sqT e e2,IsA.mono e e3⟩
 | .lst ds,v,h=>by
  rw[Is] at h ⊢;obtain⟨a,xs,e1,e2,e3⟩:=h;exact⟨a,xs,e1,Same.rdK e e2,IsA.mono e e3⟩
theorem IsA.mono(e:Same I I'):∀{ds:List D}{xs:List V},IsA K I ds xs->IsA K I' ds xs
 | [],_,h=>by rw[IsA] at h ⊢;exact h
 | d::ds,xs,h=>by
  rw[IsA] at h ⊢;obtain⟨x,r,e1,e2,e3⟩:=h;exact⟨x,r,e1,Is.mono e e2,IsA.mono e e3⟩
end
theorem IsA.nil:IsA K I [] []:=by rw[IsA]
theorem IsA.cons{d:D}{ds:List D}{x:V}(h:Is K I d x)(t:IsA K I ds xs):IsA K I (d::ds) (x::xs):=by
 rw[IsA];exact⟨x,xs,rfl,h,t⟩
theorem IsA.nil_inv(h:IsA K I [] xs):xs=[]:=by rw[IsA] at h;exact h
theorem IsA.cons_inv{d:D}{ds:List D}(h:IsA K I (d::ds) xs):∃x r,xs=x::r/\Is K I d x/\IsA K I ds r:=by rw[IsA] at h;exact h
theorem IsA.length:∀{ds:List D}{xs:List V},IsA K I ds xs->ds.length=xs.length
 | [],xs,h=>by rw[h.nil_inv]<;>rfl
 | d::ds,xs,h=>by
  obtain⟨x,r,rfl,_,t⟩:=h.cons_inv;simp[IsA.length t]
theorem IsA.get:∀{ds:List D}{xs:List V}{i:Nat}{d:D},IsA K I ds xs->ds[i]?=some d->∃x,xs[i]?=some x/\Is K I d x
 | [],xs,i,d,h,e=>by simp at e
 | c::ds,xs,0,d,h,e=>by
  obtain⟨x,r,rfl,hx,t⟩:=h.cons_inv;simp at e;subst e;exact⟨x,rfl,hx⟩
 | c::ds,xs,i+1,d,h,e=>by
  obtain⟨x,r,rfl,hx,t⟩:=h.cons_inv;obtain⟨y,e1,e2⟩:=IsA.get (i:=i) t (by simpa using e);exact⟨y,by simpa using e1,e2⟩
theorem IsA.append:∀{ds es:List D}{xs ys:List V},IsA K I ds xs->IsA K I es ys->IsA K I (ds++es) (xs++ys)
 | [],es,xs,ys,h,t=>by rw[h.nil_inv];exact t
 | d::ds,es,xs,ys,h,t=>by
  obtain⟨x,r,rfl,hx,h'⟩:=h.cons_inv;exact IsA.cons hx (IsA.append h' t)
theorem IsA.take:∀{ds:List D}{xs:List V} (n:Nat),IsA K I ds xs->IsA K I (ds.take n) (xs.take n)
 | ds,xs,0,h=>by rw[List.take_zero,List.take_zero];exact IsA.nil
 | [],xs,n+1,h=>by rw[h.nil_inv];exact IsA.nil
 | d::ds,xs,n+1,h=>by
  obtain⟨x,r,rfl,hx,h'⟩:=h.cons_inv;rw[RP,RP];exact IsA.cons hx (IsA.take n h')
theorem IsA.drop:∀{ds:List D}{xs:List V} (n:Nat),IsA K I ds xs->IsA K I (ds.drop n) (xs.drop n)
 | ds,xs,0,h=>by rw[List.drop_zero,List.drop_zero];exact h
 | [],xs,n+1,h=>by rw[h.nil_inv];exact IsA.nil
 | d::ds,xs,n+1,h=>by
  obtain⟨x,r,rfl,hx,h'⟩:=h.cons_inv;rw[Qr,Qr];exact IsA.drop n h'
theorem IsA.set{d:D}{x:V}(q:Is K I d x):∀{ds:List D}{xs:List V} (n:Nat),IsA K I ds xs->IsA K I (ds.set n d) (xs.set n x)
 | [],xs,n,h=>by rw[h.nil_inv];exact IsA.nil
 | c::ds,xs,0,h=>by
  obtain⟨y,r,rfl,hx,h'⟩:=h.cons_inv;exact IsA.cons q h'
 | c::ds,xs,n+1,h=>by
  obtain⟨y,r,rfl,hx,h'⟩:=h.cons_inv;exact IsA.cons hx (IsA.set q n h')
theorem IsA.one{d:D}(h:IsA K I [d] xs):∃x,xs=[x]/\Is K I d x:=by
 obtain⟨x,r,rfl,hx,t⟩:=h.cons_inv;rw[t.nil_inv];exact⟨x,rfl,hx⟩
theorem IsA.two{d e:D}(h:IsA K I [d,e] xs):∃x y,xs=[x,y]/\Is K I d x/\Is K I e y:=by
 obtain⟨x,r,rfl,hx,t⟩:=h.cons_inv;obtain⟨y,rfl,hy⟩:=t.one;exact⟨x,y,rfl,hx,hy⟩
theorem qJ{i:Int}{v:V}(h:Is K I (.int i) v):v=.int i:=by rw[Is] at h;exact h
theorem rC{i:Bool}{v:V}(h:Is K I (.bl i) v):v=.bl i:=by rw[Is] at h;exact h
theorem rW{i:Str}{v:V}(h:Is K I (.str i) v):v=.str i:=by rw[Is] at h;exact h
theorem rP{v:V}(h:Is K I .non v):v=.non:=by rw[Is] at h;exact h
theorem qL{ds:List D}{v:V}(h:Is K I (.tup ds) v):∃a xs,v=.ref a/\SqT K I a xs/\IsA K I ds xs:=by rw[Is] at h;exact h
theorem qR{ds:List D}{v:V}(h:Is K I (.lst ds) v):∃a xs,v=.ref a/\RdK K I a xs/\IsA K I ds xs:=by rw[Is] at h;exact h
theorem Is.int(i:Int):Is K I (.int i) (.int i):=by rw[Is]
theorem Is.bl(i:Bool):Is K I (.bl i) (.bl i):=by rw[Is]
theorem Is.str(i:Str):Is K I (.str i) (.str i):=by rw[Is]
theorem Is.non:Is K I .non .non:=by rw[Is]
theorem Is.tup{ds:List D}(h:SqT K I a xs)(t:IsA K I ds xs):Is K I (.tup ds) (.ref a):=by rw[Is];exact⟨a,xs,rfl,h,t⟩
theorem Is.lst{ds:List D}(h:RdK K I a xs)(t:IsA K I ds xs):Is K I (.lst ds) (.ref a):=by rw[Is];exact⟨a,xs,rfl,h,t⟩
end
inductive R where
 | val (d:D) | own (ds:List D) | bor (ds:List D) | fro (ds:List D) | dic (aY:List (Int×D)) | tfr (ds:List D)
noncomputable def R.mut:R->Bool
 | .val _=>false
 | .own _=>true
 | .bor _=>true
 | .fro _=>false
 | .tfr _=>false
 | .dic _=>false
noncomputable def R.ptr:R->Bool
 | .val _=>false
 | .own _=>true
 | .bor _=>true
 | .fro _=>false
 | .tfr _=>false
 | .dic _=>true
abbrev Gm:=List (Option R)
def Mt(K:PySem.W.Frag)(G I H:Hp)(ds:List D)(v:V):Prop:=∃p xs,v=.ref p/\H p=some (.lst xs)/\I p=none/\G p=none/\IsA K I ds xs
def IsK(K:PySem.W.Frag)(I:Hp)(aY:List (Int×D))(xs:List (Key×V)):Prop:=xs.map (·.1)=aY.map (λq=>inl q.1)/\IsA K I (aY.map (·.2)) (xs.map (·.2))
theorem IsK.mono{K:PySem.W.Frag}{aY:List (Int×D)}{xs:List (Key×V)}(e:Same I I')(h:IsK K I aY xs):IsK K I' aY xs:=⟨h.1,h.2.mono e⟩
def MtK(K:PySem.W.Frag)(G I H:Hp)(aY:List (Int×D))(v:V):Prop:=∃p xs,v=.ref p/\H p=some (.dK xs)/\I p=none/\G p=none/\IsK K I aY xs
def SlotOk(K:PySem.W.Frag)(G I H:Hp):R->V->Prop
 | .val d,v=>Is K I d v
 | .own ds,v=>Mt K G I H ds v
 | .bor ds,v=>Mt K G I H ds v
 | .fro ds,v=>∃p xs,v=.ref p/\I p=some (.lst xs)/\G p=none/\IsA K I ds xs
 | .tfr _,_=>False
 | .dic aY,v=>MtK K G I H aY v
theorem SlotOk.mt{K:PySem.W.Frag}{H:Hp}{r:R}{v:V}(h:SlotOk K G I H r v)(m:r.ptr=true):∃p xs,v=.ref p/\H p=some xs/\I p=none/\G p=none:=by
 cases r with
 | val d=>cases m
 | own ds=>obtain⟨p,xs,e1,e2,e3,e4,_⟩:=h;exact⟨p,_,e1,e2,e3,e4⟩
 | bor ds=>obtain⟨p,xs,e1,e2,e3,e4,_⟩:=h;exact⟨p,_,e1,e2,e3,e4⟩
 | fro ds=>cases m
 | tfr ds=>cases m
 | dic ds=>obtain⟨p,xs,e1,e2,e3,e4,_⟩:=h;exact⟨p,_,e1,e2,e3,e4⟩
structure Rep(K:PySem.W.Frag)(B:Nat->Option (Option V))(G I H:Hp)(U:L2.St)(Y:Gm):Prop where
 iH:Same I H
 gH:Same G H
 len:U.length=Y.length
 slot:∀(i:Nat) (r:R),Y[i]?=some (some r)->∃v,U[i]?=some (some v)/\SlotOk K G I H r v
 dist:∀(i j:Nat) (r r':R) (v:V),Y[i]?=some (some r)->Y[j]?=some (some r')->r.ptr=true->r'.ptr=true->U[i]?=some (some v)->U[j]?=some (some v)->i=j
 bor:∀(i:Nat) (ds:List D),Y[i]?=some (some (.bor ds))->U[i]?=B i
structure Grow(G I I':Hp):Prop where
 up:Same I I'
 new:∀b o,I' b=some o->I b=some o\/G b=none
theorem Grow.refl(G I:Hp):Grow G I I:=⟨Same.refl _,λ_ _ h=>.inl h⟩
theorem Grow.trans{I1 I2:Hp}(a:Grow G I I1)(b:Grow G I1 I2):Grow G I I2:=⟨a.up.trans b.up,λc o h=>by
 rcases b.new c o h with h1 | h1
 ·exact a.new c o h1
 ·exact .inr h1⟩
section
variable{K:PySem.W.Frag}{B:Nat->Option (Option V)}{H:Hp}{Y:Gm}
theorem Rep.ext(r:Rep K B G I H U Y)(hI:Same I I')(hH:Same H H')(iH:Same I' H')(new:∀b o,I' b=some o->I b=some o\/H b=none):Rep K B G I' H' U Y where
 iH:=iH
 gH:=r.gH.trans hH
 len:=r.len
 slot:=λi q e=>by
  obtain⟨v,e1,e2⟩:=r.slot i q e;refine⟨v,e1,?_⟩
  have mt:∀ds,Mt K G I H ds v->Mt K G I' H' ds v:=λds h=>by
   obtain⟨p,xs,h1,h2,h3,h4,h5⟩:=h;refine⟨p,xs,h1,hH _ _ h2,?_,h4,h5.mono hI⟩;cases z:I' p with
   | none=>rfl
   | some o =>
    rcases new p o z with z1 | z1
    ·rw[h3] at z1;cases z1
    ·rw[h2] at z1;cases z1
  cases q with
  | val d=>exact Is.mono hI e2
  | dic ds =>
   obtain⟨p,xs,h1,h2,h3,h4,h5⟩:=e2;refine⟨p,xs,h1,hH _ _ h2,?_,h4,h5.mono hI⟩;cases z:I' p with
   | none=>rfl
   | some o =>
    rcases new p o z with z1 | z1
    ·rw[h3] at z1;cases z1
    ·rw[h2] at z1;cases z1
  | own ds=>exact mt ds e2
  | bor ds=>exact mt ds e2
  | fro ds=>obtain⟨p,xs,f1,f2,f3,f4⟩:=e2;exact⟨p,xs,f1,hI _ _ f2,f3,f4.mono hI⟩
  | tfr ds=>exact e2.elim
 dist:=r.dist
 bor:=r.bor
theorem rl{H:Hp}{p:k_}(h:H p=none)(o:HO):Same H (upd H p o):=λb u q=>by rw[qH (r8 q h)];exact q
theorem wX{I H:Hp}{p:k_}(h:Same I H)(o:HO):Same (upd I p o) (upd H p o):=λb u q=>by
 by_cases e:b=p
 ·subst e;rw[qQ] at q ⊢;exact q
 ·rw[qH e] at q ⊢;exact h b u q
theorem Rep.iFree(r:Rep K B G I H U Y){p:k_}(h:H p=none):I p=none:=r.iH.free h
theorem Rep.gFree(r:Rep K B G I H U Y){p:k_}(h:H p=none):G p=none:=r.gH.free h
theorem Rep.alloc(r:Rep K B G I H U Y){p:k_}(h:H p=none)(o:HO):Rep K B G (upd I p o) (upd H p o) U Y:=
 r.ext (rl (r.iFree h) o) (rl h o) (wX r.iH o) λb u q=>by
  by_cases e:b=p
  ·subst e;exact .inr h
  ·rw[qH e] at q;exact .inl q
theorem Rep.growAlloc(r:Rep K B G I H U Y){p:k_}(h:H p=none)(o:HO):Grow G I (upd I p o):=⟨rl (r.iFree h) o,λb u q=>by
 by_cases e:b=p
 ·subst e;exact .inr (r.gFree h)
 ·rw[qH e] at q;exact .inl q⟩
theorem Rep.fresh(r:Rep K B G I H U Y){p:k_}(h:H p=none)(o:HO):Rep K B G I (upd H p o) U Y:=
 r.ext (Same.refl _) (rl h o) (r.iH.trans (rl h o)) λb u q=>.inl q
def Apart(U:L2.St)(Y:Gm)(p:k_):Prop:=∀(j:Nat) (r:R),Y[j]?=some (some r)->r.ptr=true->U[j]?≠some (some (.ref p))
theorem Rep.apart(r:Rep K B G I H U Y){p:k_}(h:H p=none):Apart U Y p:=λj q e m z=>by
 obtain⟨v,e1,e2⟩:=r.slot j q e;obtain⟨p',xs,h1,h2,_,_⟩:=e2.mt m;rw[e1] at z;subst h1;cases z;rw[h] at h2;cases h2
theorem Rep.freeze(r:Rep K B G I H U Y){p:k_}(h:H p=some (.lst xs))(hi:I p=none)(a:Apart U Y p):Rep K B G (upd I p (.lst xs)) H U Y where
 iH:=λb u q=>by
  by_cases e:b=p
  ·subst e;rw[qQ] at q;cases q;exact h
  ·rw[qH e] at q;exact r.iH b u q
 gH:=r.gH
 len:=r.len
 slot:=λi q e=>by
  obtain⟨v,e1,e2⟩:=r.slot i q e;refine⟨v,e1,?_⟩;have up:=rl hi (.lst xs)
  have mt:q.ptr=true->∀ds,Mt K G I H ds v->Mt K G (upd I p (.lst xs)) H ds v:=λm ds h=>by
   obtain⟨p',bG,h1,h2,h3,h4,h5⟩:=h;refine⟨p',bG,h1,h2,?_,h4,h5.mono up⟩;have ne:p'≠p:=λz=>a i q e m (by rw[e1,h1,z])
   rw[qH ne];exact h3
  cases q with
  | val d=>exact Is.mono up e2
  | dic ds =>
   obtain⟨p',bG,h1,h2,h3,h4,h5⟩:=e2;refine⟨p',bG,h1,h2,?_,h4,h5.mono up⟩;have ne:p'≠p:=λz=>a i _ e rfl (by rw[e1,h1,z])
   rw[qH ne];exact h3
  | own ds=>exact mt rfl ds e2
  | bor ds=>exact mt rfl ds e2
  | fro ds=>obtain⟨p,xs,f1,f2,f3,f4⟩:=e2;exact⟨p,xs,f1,up _ _ f2,f3,f4.mono up⟩
  | tfr ds=>exact e2.elim
 dist:=r.dist
 bor:=r.bor
theorem growFreeze{G I:Hp}{p:k_}(hi:I p=none)(hg:G p=none):Grow G I (upd I p (.lst xs)):=⟨rl hi _,λb u q=>by
 by_cases e:b=p
 ·subst e;exact .inr hg
 ·rw[qH e] at q;exact .inl q⟩
theorem qW{α:Type}{l:List α}{a b:α}(h:(l.set i a)[j]?=some b):(j=i/\b=a/\i < l.length)\/(j≠i/\l[j]?=some b):=by
 by_cases e:j=i
 ·subst e;by_cases hl:j < l.length
  ·rw[Og hl] at h;cases h;exact .inl ⟨rfl,rfl,hl⟩
  ·rw[O7 (by rw[OA];omega)] at h;cases h
 ·rw[NE (NH e)] at h;exact .inr ⟨e,h⟩
theorem Rep.forget(r:Rep K B G I H U Y)(i:Nat):Rep K B G I H U (Y.set i none) where
 iH:=r.iH
 gH:=r.gH
 len:=by rw[OA];exact r.len
 slot:=λj q e=>by
  rcases qW e with⟨_,z,_⟩ | ⟨_,z⟩
  ·cases z
  ·exact r.slot j q z
 dist:=λj k q q' v e e'=>by
  rcases qW e with⟨_,z,_⟩ | ⟨_,z⟩
  ·cases z
  rcases qW e' with⟨_,z',_⟩ | ⟨_,z'⟩
  ·cases z'
  exact r.dist j k q q' v z z'
 bor:=λj ds e=>by
  rcases qW e with⟨_,z,_⟩ | ⟨_,z⟩
  ·cases z
  ·exact r.bor j ds z
theorem Rep.learn(r:Rep K B G I H U Y){q:R}{v:V}(hv:U[i]?=some (some v))(ok:SlotOk K G I H q v)(ha:q.ptr=true->∀p,v=.ref p->∀(j:Nat) (r:R),j≠i->Y[j]?=some (some r)->r.ptr=true->U[j]?≠some (some (.ref p)))(hb:∀ds,q=.bor ds->U[i]?=B i):Rep K B G I H U (Y.set i (some q)) where
 iH:=r.iH
 gH:=r.gH
 len:=by rw[OA];exact r.len
 slot:=λj q' e=>by
  rcases qW e with⟨rfl,z,_⟩ | ⟨_,z⟩
  ·cases z;exact⟨v,hv,ok⟩
  ·exact r.slot j q' z
 dist:=λj k q1 q2 w e e' m1 m2 s1 s2=>by
  rcases qW e with⟨rfl,z,_⟩ | ⟨n1,z⟩
  ·cases z
   rcases qW e' with⟨rfl,z',_⟩ | ⟨n2,z'⟩
   ·rfl
   ·obtain⟨p,xs,e1,_⟩:=ok.mt m1;rw[hv] at s1;cases s1;exact absurd (e1▸s2) (ha m1 p e1 k q2 n2 z' m2)
  ·rcases qW e' with⟨rfl,z',_⟩ | ⟨n2,z'⟩
   ·cases z';obtain⟨p,xs,e1,_⟩:=ok.mt m2;rw[hv] at s2;cases s2;exact absurd (e1▸s1) (ha m2 p e1 j q1 n1 z m1)
   ·exact r.dist j k q1 q2 w z z' m1 m2 s1 s2
 bor:=λj ds e=>by
  rcases qW e with⟨rfl,z,_⟩ | ⟨_,z⟩
  ·cases z;exact hb ds rfl
  ·exact r.bor j ds z
theorem Rep.store(r:Rep K B G I H U Y){q:R}{v:V}(hi:i < U.length)(ok:SlotOk K G I H q v)(ha:q.ptr=true->∀p,v=.ref p->Apart U Y p)(hb:∀ds,q≠.bor ds):Rep K B G I H (U.set i (some v)) (Y.set i (some q)):=by
 have r1:Rep K B G I H (U.set i (some v)) (Y.set i none):={
  iH:=r.iH,gH:=r.gH,len:=by rw[OA,OA];exact r.len
  slot:=λj q' e=>by
   rcases qW e with⟨_,z,_⟩ | ⟨n,z⟩
   ·cases z
   ·rw[NE (NH n)];exact r.slot j q' z
  dist:=λj k q1 q2 w e e' m1 m2 s1 s2=>by
   rcases qW e with⟨_,z,_⟩ | ⟨n1,z⟩
   ·cases z
   rcases qW e' with⟨_,z',_⟩ | ⟨n2,z'⟩
   ·cases z'
   rw[NE (NH n1)] at s1;rw[NE (NH n2)] at s2;exact r.dist j k q1 q2 w z z' m1 m2 s1 s2
  bor:=λj ds e=>by
   rcases qW e with⟨_,z,_⟩ | ⟨n,z⟩
   ·cases z
   ·rw[NE (NH n)];exact r.bor j ds z }
 have r2:=r1.learn (i:=i) (q:=q) (v:=v) (by rw[Og hi]) ok (λm p e j q' n z m' s=>by
  rcases qW z with⟨_,z',_⟩ | ⟨_,z'⟩
  ·cases z'
  ·rw[NE (NH n)] at s
   exact ha m p e j q' z' m' s) (λds e=>absurd e (hb ds))
 rw[S6] at r2;exact r2
theorem Rep.write(r:Rep K B G I H U Y){q q':R}{p:k_}{ys:List V}{ds:List D}(hq:Y[i]?=some (some q))(hm:q.ptr=true)(hs:U[i]?=some (some (.ref p)))(h:H p=some (.lst xs))(cF:q'=.own ds\/(q'=.bor ds/\∃es,q=.bor es))(hd:IsA K I ds ys):
  Rep K B G I (upd H p (.lst ys)) U (Y.set i (some q')):=by
 obtain⟨v,e1,e2⟩:=r.slot i q hq;obtain⟨p',bG,h1,h2,h3,h4⟩:=e2.mt hm;have hp:p'=p:=by rw[hs] at e1;subst h1;cases e1;rfl
 subst hp;have ev:∀(j:Nat) (r':R),j≠i->Y[j]?=some (some r')->r'.ptr=true->U[j]?≠some (some (.ref p')):=λj r' n z m s=>n (r.dist j i r' q _ z hq m hm s hs)
 have sI:Same I (upd H p' (.lst ys)):=λb u z=>by
  have ne:b≠p':=λe=>by subst e;rw[h3] at z;cases z
  rw[qH ne];exact r.iH b u z
 have sG:Same G (upd H p' (.lst ys)):=λb u z=>by
  have ne:b≠p':=λe=>by subst e;rw[h4] at z;cases z
  rw[qH ne];exact r.gH b u z
 have r1:Rep K B G I (upd H p' (.lst ys)) U (Y.set i none):={
  iH:=sI,gH:=sG,len:=by rw[OA];exact r.len
  slot:=λj q1 e=>by
   rcases qW e with⟨_,z,_⟩ | ⟨n,z⟩
   ·cases z
   obtain⟨w,e3,e4⟩:=r.slot j q1 z;refine⟨w,e3,?_⟩
   have mt:q1.ptr=true->∀ds,Mt K G I H ds w->Mt K G I (upd H p' (.lst ys)) ds w:=λm ds hh=>by
    obtain⟨p2,fu,g1,g2,g3,g4,g5⟩:=hh;refine⟨p2,fu,g1,?_,g3,g4,g5⟩;have ne:p2≠p':=λz2=>ev j q1 n z m (by rw[e3,g1,z2])
    rw[qH ne];exact g2
   cases q1 with
   | val d=>exact e4
   | dic ds =>
    obtain⟨p2,fu,g1,g2,g3,g4,g5⟩:=e4;refine⟨p2,fu,g1,?_,g3,g4,g5⟩;have ne:p2≠p':=λz2=>ev j _ n z rfl (by rw[e3,g1,z2])
    rw[qH ne];exact g2
   | own ds=>exact mt rfl ds e4
   | bor ds=>exact mt rfl ds e4
   | fro ds=>exact e4
   | tfr ds=>exact e4
  dist:=(r.forget i).dist
  bor:=(r.forget i).bor }
 have kH:Mt K G I (upd H p' (.lst ys)) ds (.ref p'):=⟨p',ys,rfl,qQ,h3,h4,hd⟩
 have r2:=r1.learn (i:=i) (q:=q') (v:=.ref p') hs (by rcases cF with rfl | ⟨rfl,_⟩<;>exact kH) (λm p2 e j r' n z m' s=>by
  cases e
  rcases qW z with⟨_,z',_⟩ | ⟨_,z'⟩
  ·cases z'
  ·exact ev j r' n z' m' s) (λes e=>by
  rcases cF with rfl | ⟨rfl,es',rfl⟩
  ·cases e
  ·exact r.bor i es' hq)
 rw[S6] at r2;exact r2
end
end DL
variable{ys ds:List DL.D}{d:DL.D}{Y af ag:DL.Gm}{F:List DL.D->Option (List DL.D)}{F':DL.D->DL.D->Option DL.D}{rr:DL.R}
namespace DL
open PySem PySem.Spec PyProof.Rows L2
noncomputable abbrev M(α:Type):=Gm->Option (α×Gm)
noncomputable def ret{α:Type}(a:α):M α:=λY=>some (a,Y)
noncomputable def bnd{α Z:Type}(m:M α)(f:α->M Z):M Z:=λY=>match m Y with
 | some (a,ac)=>f a ac
 | none=>none
noncomputable def lft{α:Type}(o:Option α):M α:=λY=>match o with
 | some a=>some (a,Y)
 | none=>none
theorem qE{α Z:Type}{m:M α}{f:α->M Z}{b:Z}(h:bnd m f Y=some (b,af)):∃a ac,m Y=some (a,ac)/\f a ac=some (b,af):=by
 unfold bnd at h;cases e:m Y with
 | none=>rw[e] at h;cases h
 | some q=>obtain⟨a,ac⟩:=q;rw[e] at h;exact⟨a,ac,rfl,h⟩
theorem qN{α:Type}{o:Option α}{a:α}(h:lft o Y=some (a,af)):o=some a/\af=Y:=by
 unfold lft at h;cases o with
 | none=>cases h
 | some b=>cases h;exact⟨rfl,rfl⟩
section
variable (K:PySem.W.Frag)(B:Nat->Option (Option V))
def KD(G I:Hp)(U:L2.St)(af:Gm)(d:D)(Q:VK):Prop:=∀v H' I',Rep K B G I' H' U af->Grow G I I'->Is K I' d v->Q v H'
def KO(G I:Hp)(U:L2.St)(af:Gm)(ds:List D)(Q:VK):Prop:=∀p xs H' I',Rep K B G I' H' U af->Grow G I I'->H' p=some (.lst xs)->I' p=none->G p=none->Apart U af p->IsA K I' ds xs->Q (.ref p) H'
def KT(G I:Hp)(U:L2.St)(af:Gm)(b:Bool)(Q:Bool->Hp->Prop):Prop:=∀H' I',Rep K B G I' H' U af->Grow G I I'->Q b H'
def KA(G I:Hp)(U:L2.St)(af:Gm)(ds:List D)(Q:List V->Hp->Prop):Prop:=∀vs H' I',Rep K B G I' H' U af->Grow G I I'->IsA K I' ds vs->Q vs H'
noncomputable def tD(g:M D):TE:=λU H Q=>∃G I Y d af,Rep K B G I H U Y/\g Y=some (d,af)/\KD K B G I U af d Q
noncomputable def tO(g:M (List D)):TE:=λU H Q=>∃G I Y ds af,Rep K B G I H U Y/\g Y=some (ds,af)/\KO K B G I U af ds Q
noncomputable def tTD(g:M Bool):TT:=λU H Q=>∃G I Y b af,Rep K B G I H U Y/\g Y=some (b,af)/\KT K B G I U af b Q
noncomputable def tAD(g:M (List D)):TA:=λU H Q=>∃G I Y ds af,Rep K B G I H U Y/\g Y=some (ds,af)/\KA K B G I U af ds Q
end
abbrev BB:=Nat->Option (Option V)
def ED(X:Cx)(B:BB)(e:Ny)(g:M D):Prop:=PE X e (tD X.K B g)
def EO(X:Cx)(B:BB)(e:Ny)(g:M (List D)):Prop:=PE X e (tO X.K B g)
def TD(X:Cx)(B:BB)(e:Ny)(g:M Bool):Prop:=PT X e (tTD X.K B g)
def TW(X:Cx)(B:BB)(e:Ny)(g:M Bool):Prop:=PW X e (tTD X.K B g)
def AD(X:Cx)(B:BB)(es:List Ny)(g:M (List D)):Prop:=PA X es (tAD X.K B g)
section
theorem PE.imp{t t':TE}(h:PE X e t)(f:∀U H Q,t' U H Q->t U H Q):PE X e t':=λaa s U H Q I q=>h aa s U H Q I (f U H Q q)
theorem PT.imp{t t':TT}(h:PT X e t)(f:∀U H Q,t' U H Q->t U H Q):PT X e t':=λaa s U H Q I q=>h aa s U H Q I (f U H Q q)
theorem PW.imp{t t':TT}(h:PW X e t)(f:∀U H Q,t' U H Q->t U H Q):PW X e t':=λwh aa s U H Q I q=>h wh aa s U H Q I (f U H Q q)
theorem PA.imp{es:List Ny}{t t':TA}(h:PA X es t)(f:∀U H Q,t' U H Q->t U H Q):PA X es t':=λpos aa s U H Q I q=>h pos aa s U H Q I (f U H Q q)
end
section
variable{K:PySem.W.Frag}{B:BB}{I1 I2 H:Hp}{ac:Gm}{Q:VK}
theorem KD.now(k:KD K B G I U Y d Q)(r:Rep K B G I H U Y){v:V}(h:Is K I d v):Q v H:=k v H I r (Grow.refl _ _) h
theorem KD.after(k:KD K B G I U af d Q)(g:Grow G I I1):KD K B G I1 U af d Q:=λv H' I' r g' h=>k v H' I' r (g.trans g') h
theorem KO.after(k:KO K B G I U af ds Q)(g:Grow G I I1):KO K B G I1 U af ds Q:=λp xs H' I' r g'=>k p xs H' I' r (g.trans g')
theorem KT.after{b:Bool}{Q:Bool->Hp->Prop}(k:KT K B G I U af b Q)(g:Grow G I I1):KT K B G I1 U af b Q:=λH' I' r g'=>k H' I' r (g.trans g')
theorem KD.tup(k:KD K B G I U Y (.tup ds) Q)(r:Rep K B G I H U Y){p:k_}(hp:H p=none)(h:IsA K I ds xs):Q (.ref p) (upd H p (.tup xs)):=
 k _ _ _ (r.alloc hp _) (r.growAlloc hp _) (Is.tup (SqT.of qQ) (h.mono (rl (r.iFree hp) _)))
theorem KO.new(k:KO K B G I U Y ds Q)(r:Rep K B G I H U Y){p:k_}(hp:H p=none)(h:IsA K I ds xs):Q (.ref p) (upd H p (.lst xs)):=
 k p xs _ I (r.fresh hp _) (Grow.refl _ _) qQ (r.iFree hp) (r.gFree hp) (r.apart hp) h
end
section
variable{B:BB}{a b c:Ny}{es:List Ny}{ga gb gc:M D}
noncomputable def frz(g:M (List D)):M D:=bnd g λds=>ret (.lst ds)
theorem qI{g:M (List D)}(h:EO X B e g):ED X B e (frz g):=PE.imp h λU H Q q=>by
 obtain⟨G,I,Y,d,af,r,e1,k⟩:=q;obtain⟨ds,ac,e2,e3⟩:=qE e1;cases e3;refine⟨G,I,Y,ds,_,r,e2,λp xs H' I' r' g h1 h2 h3 h4 h5=>?_⟩;exact k _ _ _ (r'.freeze h1 h2 h4) (g.trans (growFreeze h2 h3)) (Is.lst (RdK.of qQ) (h5.mono (rl h2 _)))
noncomputable def nm(i:Nat):M D:=λY=>match Y[i]? with
 | some (some (.val d))=>some (d,Y)
 | some (some (.own ds))=>some (.lst ds,Y.set i (some (.val (.lst ds))))
 | some (some (.fro ds))=>some (.lst ds,Y)
 | _=>none
theorem ID(h:PE X (.Name x pos) (tVar i)):ED X B (.Name x pos) (nm i):=PE.imp h λU H Q q=>by
 obtain⟨G,I,Y,d,af,r,e1,k⟩:=q;unfold nm at e1;cases e:Y[i]? with
 | none=>rw[e] at e1;cases e1
 | some o =>
  cases o with
  | none=>rw[e] at e1;cases e1
  | some q =>
   obtain⟨v,h1,h2⟩:=r.slot i q e;cases q with
   | val d'=>rw[e] at e1;cases e1;exact⟨v,h1,k.now r h2⟩
   | bor ds=>rw[e] at e1;cases e1
   | dic ds=>rw[e] at e1;cases e1
   | tfr ds=>rw[e] at e1;cases e1
   | fro ds=>rw[e] at e1;cases e1;obtain⟨p,xs,rfl,f1,f2,f3⟩:=h2;exact⟨_,h1,k.now r (Is.lst (RdK.of f1) f3)⟩
   | own ds =>
    rw[e] at e1;cases e1;obtain⟨p,xs,rfl,g1,g2,g3,g4⟩:=h2;refine⟨_,h1,k _ _ (upd I p (.lst xs)) ?_ (growFreeze g2 g3) (Is.lst (RdK.of qQ) (g4.mono (rl g2 _)))⟩
    have ap:Apart U (Y.set i none) p:=λj q' z m s=>by
     rcases qW z with⟨_,z',_⟩ | ⟨n,z'⟩
     ·cases z'
     ·exact n (r.dist j i q' (.own ds) _ z' e m rfl s h1)
    have r1:=(r.forget i).freeze g1 g2 ap;have r2:=r1.learn (i:=i) (q:=.val (.lst ds)) h1 (Is.lst (RdK.of qQ) (g4.mono (rl g2 _))) (λm=>nomatch m) (λ_ z=>nomatch z);rw[S6] at r2;exact r2
theorem ed_c{v:V}(h:PE X e (tC v))(hd:∀I,Is X.K I d v):ED X B e (ret d):=PE.imp h λU H Q q=>by
 obtain⟨G,I,Y,d',af,r,e1,k⟩:=q;cases e1;exact k.now r (hd I)
theorem gV{i j}:ED X B (.Constant (.int i) j pos) (ret (.int i)):=ed_c xm λ_=>Is.int i
theorem uJ{b j}:ED X B (.Constant (.bool b) j pos) (ret (.bl b)):=ed_c Ac λ_=>Is.bl b
theorem sB{j}:ED X B (.Constant .none j pos) (ret .non):=ed_c FD λ_=>Is.non
theorem rM{x j}:ED X B (.Constant (.str x) j pos) (ret (.str x)):=ed_c IV λ_=>Is.str x
noncomputable def nilA:M (List D):=ret []
noncomputable def consA(g:M D)(t:M (List D)):M (List D):=bnd g λd=>bnd t λds=>ret (d::ds)
theorem gx:AD X B [] nilA:=PA.imp sQ λU H Q q=>by
 obtain⟨G,I,Y,d,af,r,e1,k⟩:=q;cases e1;exact k _ _ _ r (Grow.refl _ _) IsA.nil
theorem Ee{g:M D}{t:M (List D)}(ha:ED X B e g)(hr:AD X B es t)(hs:d_ (e::es) X.env=(false,Nr e X.env)::d_ es X.env:=by rfl):AD X B (e::es) (consA g t):=
 PA.imp (rR ha hr hs) λU H Q q=>by
  obtain⟨G,I,Y,d,af,r,e1,k⟩:=q;obtain⟨d1,ac,e2,e3⟩:=qE e1;obtain⟨d2,ag,e4,e5⟩:=qE e3;cases e5;exact⟨G,I,Y,d1,ac,r,e2,λv H1 I1 r1 g1 h1=>⟨G,I1,ac,d2,_,r1,e4,λvs H2 I2 r2 g2 h2=>k _ _ _ r2 (g1.trans g2) (IsA.cons (h1.mono g2.up) h2)⟩⟩
noncomputable def lim:Nat:=1000000
theorem sA(h:n<=lim):n<=C_:=z_ h (by rw[Of];decide)
noncomputable def tupA(t:M (List D)):M D:=bnd t λds=>lft (if ds.length<=lim then some (.tup ds) else none)
noncomputable def lstA(t:M (List D)):M (List D):=bnd t λds=>lft (if ds.length<=lim then some ds else none)
theorem rm{α:Type}{c:Prop}[Decidable c]{a b:α}(h:(if c then some a else none)=some b):c/\b=a:=by
 by_cases hc:c
 ·rw[if_pos hc] at h;exact⟨hc,(Nz h).symm⟩
 ·rw[if_neg hc] at h;cases h
theorem qT{x1}{t:M (List D)}(h:AD X B es t):ED X B (.Tuple es x1 pos) (tupA t):=PE.imp (Db h) λU H Q q=>by
 obtain⟨G,I,Y,d,af,r,e1,k⟩:=q;obtain⟨d1,ac,e2,e3⟩:=qE e1;obtain⟨e4,rfl⟩:=qN e3;obtain⟨hl,rfl⟩:=rm e4;refine⟨G,I,Y,d1,_,r,e2,λvs H1 I1 r1 g1 h1=>⟨?_,λp hp=>(k.after g1).tup r1 hp h1⟩⟩;rw[←h1.length];exact sA hl
theorem qM{t:M (List D)}(h:AD X B es t):EO X B (.List es pos) (lstA t):=PE.imp (GT h) λU H Q q=>by
 obtain⟨G,I,Y,d,af,r,e1,k⟩:=q;obtain⟨d1,ac,e2,e3⟩:=qE e1;obtain⟨e4,rfl⟩:=qN e3;obtain⟨hl,rfl⟩:=rm e4;refine⟨G,I,Y,_,_,r,e2,λvs H1 I1 r1 g1 h1=>⟨?_,λp hp=>(k.after g1).new r1 hp h1⟩⟩;rw[←h1.length];exact sA hl
def OpD(K:PySem.W.Frag)(r:R2)(F:D->D->Option D):Prop:=∀a b d,F a b=some d->∀(B:BB) (G I H:Hp) (U:L2.St) (Y:Gm) (x y:V) (Q:VK),Rep K B G I H U Y->Is K I a x->Is K I b y->KD K B G I U Y d Q->r x y H Q
def OpO(K:PySem.W.Frag)(r:R2)(F:D->D->Option (List D)):Prop:=∀a b d,F a b=some d->∀(B:BB) (G I H:Hp) (U:L2.St) (Y:Gm) (x y:V) (Q:VK),Rep K B G I H U Y->Is K I a x->Is K I b y->KO K B G I U Y d Q->r x y H Q
def CallD(K:PySem.W.Frag)(r:List V->Hp->VK->Prop)(F:List D->Option D):Prop:=∀ds d,F ds=some d->∀(B:BB) (G I H:Hp) (U:L2.St) (Y:Gm) (xs:List V) (Q:VK),Rep K B G I H U Y->IsA K I ds xs->KD K B G I U Y d Q->r xs H Q
def CallO(K:PySem.W.Frag)(r:List V->Hp->VK->Prop)(F:List D->Option (List D)):Prop:=∀ds d,F ds=some d->∀(B:BB) (G I H:Hp) (U:L2.St) (Y:Gm) (xs:List V) (Q:VK),Rep K B G I H U Y->IsA K I ds xs->KO K B G I U Y d Q->r xs H Q
noncomputable def op2{α:Type}(F:D->D->Option α)(ga gb:M D):M α:=bnd ga λx=>bnd gb λy=>lft (F x y)
noncomputable def fn1{α:Type}(F:List D->Option α)(t:M (List D)):M α:=bnd t λds=>lft (F ds)
theorem t_op{r:R2}{F:D->D->Option D}{K:PySem.W.Frag}(h:OpD K r F):∀U H Q,tD K B (op2 F ga gb) U H Q->tOp r (tD K B ga) (tD K B gb) U H Q:=λU H Q q=>by
 obtain⟨G,I,Y,d,af,r,e1,k⟩:=q;obtain⟨d1,ac,e2,e3⟩:=qE e1;obtain⟨d2,ag,e4,e5⟩:=qE e3;obtain⟨e6,rfl⟩:=qN e5;exact⟨G,I,Y,d1,ac,r,e2,λv H1 I1 r1 g1 h1=>⟨G,I1,ac,d2,_,r1,e4,λw H2 I2 r2 g2 h2=>h _ _ _ e6 B G I2 H2 U _ v w Q r2 (h1.mono g2.up) h2 (k.after (g1.trans g2))⟩⟩
theorem Hf{r:R2}{F:D->D->Option (List D)}{K:PySem.W.Frag}(h:OpO K r F):∀U H Q,tO K B (op2 F ga gb) U H Q->tOp r (tD K B ga) (tD K B gb) U H Q:=λU H Q q=>by
 obtain⟨G,I,Y,d,af,r,e1,k⟩:=q;obtain⟨d1,ac,e2,e3⟩:=qE e1;obtain⟨d2,ag,e4,e5⟩:=qE e3;obtain⟨e6,rfl⟩:=qN e5;exact⟨G,I,Y,d1,ac,r,e2,λv H1 I1 r1 g1 h1=>⟨G,I1,ac,d2,_,r1,e4,λw H2 I2 r2 g2 h2=>h _ _ _ e6 B G I2 H2 U _ v w Q r2 (h1.mono g2.up) h2 (k.after (g1.trans g2))⟩⟩
theorem tK{op:Operator}{r:R2}{F:D->D->Option D}(ho:OpR X (OF op) r)(h:OpD X.K r F)(ha:ED X B a ga)(hb:ED X B b gb):ED X B (.BinOp a op b pos) (op2 F ga gb):=PE.imp (Cf ho ha hb) (t_op h)
theorem Ix{op:Operator}{r:R2}{F:D->D->Option (List D)}(ho:OpR X (OF op) r)(h:OpO X.K r F)(ha:ED X B a ga)(hb:ED X B b gb):EO X B (.BinOp a op b pos) (op2 F ga gb):=PE.imp (Cf ho ha hb) (Hf h)
theorem ur{r:R2}{F:D->D->Option D}(ho:OpR X (NJ op) r)(h:OpD X.K r F)(ha:ED X B a ga)(hb:ED X B b gb)(hm:Oz op b=false):ED X B (.Compare a [op] [b] pos) (op2 F ga gb):=PE.imp (GA ho ha hb hm) (t_op h)
theorem JU{r:R2}{F:D->D->Option D}(ho:IxR X r)(h:OpD X.K r F)(ha:ED X B a ga)(hb:ED X B b gb)(hs:PlainIx b:=by exact λ_ _=>rfl):ED X B (.Subscript a b pos) (op2 F ga gb):=PE.imp (vd ho ha hb hs) (t_op h)
noncomputable def asB(d:D):Option Bool:=match d with
 | .bl b=>some b
 | _=>none
theorem xN{b:Bool}(h:asB d=some b):d=.bl b:=by
 cases d<;>simp[asB] at h
 rw[h]
noncomputable def tst(g:M D):M Bool:=bnd g λd=>lft (asB d)
theorem tX{K:PySem.W.Frag}{g:M D}{t:TE}(ht:∀U H Q,tD K B g U H Q->t U H Q):∀U H Q,tTD K B (tst g) U H Q->tTest t U H Q:=λU H Q q=>by
 obtain⟨G,I,Y,d,af,r,e1,k⟩:=q;obtain⟨d1,ac,e2,e3⟩:=qE e1;obtain⟨e4,rfl⟩:=qN e3;have:=xN e4;subst this;exact ht _ _ _ ⟨G,I,Y,_,_,r,e2,λv H1 I1 r1 g1 h1=>⟨d,rC h1,k _ _ r1 g1⟩⟩
theorem sv{r:R2}{F:D->D->Option D}(ho:OpR X (NJ op) r)(h:OpD X.K r F)(ha:ED X B a ga)(hb:ED X B b gb)(hm:Oz op b=false):TD X B (.Compare a [op] [b] pos) (tst (op2 F ga gb)):=PT.imp (vL ho ha hb hm) (tX (t_op h))
theorem rO(ha:ED X B a ga)(he:∀bJ,SG a X.env bJ=(do let v ←bJ;S2 a.pos;Qd [v] (truthy v)):=by intros;rfl):TD X B a (tst ga):=PT.imp (Hs ha he) (tX λ_ _ _ z=>z)
noncomputable def chn(F F':D->D->Option D)(ga gb gc:M D):M D:=bnd ga λx=>bnd gb λy=>bnd (lft (F x y)) λz=>bnd (lft (asB z)) λk=>if k then bnd gc λw=>lft (F' y w) else ret (.bl false)
theorem Aw{r r':R2}{F:D->D->Option D}{K:PySem.W.Frag}(h:OpD K r F)(h':OpD K r' F'):∀U H Q,tD K B (chn F F' ga gb gc) U H Q->tChain r r' (tD K B ga) (tD K B gb) (tD K B gc) U H Q:=λU H Q q=>by
 obtain⟨G,I,Y,d,af,r,e1,k⟩:=q;obtain⟨d1,ac,e2,e3⟩:=qE e1;obtain⟨d2,ag,e4,e5⟩:=qE e3;obtain⟨d3,aL,e6,e7⟩:=qE e5;obtain⟨e8,rfl⟩:=qN e6;obtain⟨k1,aS,e9,f1⟩:=qE e7;obtain⟨f2,rfl⟩:=qN e9;have:=xN f2;subst this;refine⟨G,I,Y,d1,ac,r,e2,λv H1 I1 r1 g1 h1=>⟨G,I1,ac,d2,aS,r1,e4,λw H2 I2 r2 g2 h2=>h _ _ _ e8 B G I2 H2 U aS v w _ r2 (h1.mono g2.up) h2 λu H3 I3 r3 g3 h3=>⟨k1,rC h3,?_⟩⟩⟩;cases k1 with
 | false=>cases f1;exact iteF (k _ _ _ r3 (g1.trans (g2.trans g3)) (Is.bl false))
 | true =>
  obtain⟨d4,dQ,f3,f4⟩:=qE f1;obtain⟨f5,rfl⟩:=qN f4;exact iteT ⟨G,I3,aS,d4,_,r3,f3,λz H4 I4 r4 g4 h4=>h' _ _ _ f5 B G I4 H4 U _ w z Q r4 (h2.mono (g3.trans g4).up) h4 (k.after (g1.trans (g2.trans (g3.trans g4))))⟩
theorem Gu{r r':R2}{F:D->D->Option D}(ho:OpR X (NJ op) r)(h:OpD X.K r F)(bU:OpR X (NJ bV) r')(h':OpD X.K r' F')(ha:ED X B a ga)(hb:ED X B b gb)(hc:ED X B c gc)(hm:QY [op,bV] [b,c]=false:=by with_unfolding_all rfl):ED X B (.Compare a [op,bV] [b,c] pos) (chn F F' ga gb gc):=PE.imp (Gn ho bU ha hb hc hm) (Aw h h')
theorem JJ{r r':R2}{F:D->D->Option D}(ho:OpR X (NJ op) r)(h:OpD X.K r F)(bU:OpR X (NJ bV) r')(h':OpD X.K r' F')(ha:ED X B a ga)(hb:ED X B b gb)(hc:ED X B c gc)(hm:QY [op,bV] [b,c]=false:=by with_unfolding_all rfl):TD X B (.Compare a [op,bV] [b,c] pos) (tst (chn F F' ga gb gc)):=PT.imp (E6 ho bU ha hb hc hm) (tX (Aw h h'))
noncomputable def andT(a b:M Bool):M Bool:=bnd a λk=>if k then b else ret false
noncomputable def orT(a b:M Bool):M Bool:=bnd a λk=>if k then ret true else b
noncomputable def notT(a:M Bool):M Bool:=bnd a λk=>ret (!k)
noncomputable def andV(a b:M D):M D:=bnd a λd=>bnd (lft (asB d)) λk=>if k then b else ret (.bl false)
noncomputable def ifV(c:M Bool)(a b:M D):M D:=bnd c λk=>if k then a else b
variable {ta tb:M Bool}{aj:List Ny}
theorem sP(ha:TD X B a ta):TW X B (.BoolOp .And [a] pos) ta:=Dy ha
theorem sN(ha:TD X B a ta):TW X B (.BoolOp .Or [a] pos) ta:=GQ ha
theorem sR(ha:TD X B a ta)(hb:TW X B (.BoolOp .And (b::aj) pos) tb):TW X B (.BoolOp .And (a::b::aj) pos) (andT ta tb):=PW.imp (Kt ha hb) λU H Q q=>by
 obtain⟨G,I,Y,d,af,r,e1,k⟩:=q;obtain⟨d1,ac,e2,e3⟩:=qE e1;refine⟨G,I,Y,d1,ac,r,e2,λH1 I1 r1 g1=>?_⟩;cases d1 with
 | true=>exact iteT ⟨G,I1,ac,d,af,r1,e3,k.after g1⟩
 | false=>cases e3;exact iteF (k _ _ r1 g1)
theorem tf(ha:TD X B a ta)(hb:TW X B (.BoolOp .Or (b::aj) pos) tb):TW X B (.BoolOp .Or (a::b::aj) pos) (orT ta tb):=PW.imp (GE ha hb) λU H Q q=>by
 obtain⟨G,I,Y,d,af,r,e1,k⟩:=q;obtain⟨d1,ac,e2,e3⟩:=qE e1;refine⟨G,I,Y,d1,ac,r,e2,λH1 I1 r1 g1=>?_⟩;cases d1 with
 | false=>exact iteF ⟨G,I1,ac,d,af,r1,e3,k.after g1⟩
 | true=>cases e3;exact iteT (k _ _ r1 g1)
theorem TW.td(h:TW X B e ta):TD X B e ta:=h _
theorem y8(ha:TD X B a ta):TD X B (.UnaryOp .Not a pos) (notT ta):=PT.imp (Ft ha) λU H Q q=>by
 obtain⟨G,I,Y,d,af,r,e1,k⟩:=q;obtain⟨d1,ac,e2,e3⟩:=qE e1;cases e3;exact⟨G,I,Y,d1,_,r,e2,λH1 I1 r1 g1=>k _ _ r1 g1⟩
theorem uD{op}(h:ED X B a ga):ED X B (.BoolOp op [a] pos) ga:=FK h
theorem tv(ha:ED X B a ga)(hb:ED X B (.BoolOp .And (b::aj) pos) gb):ED X B (.BoolOp .And (a::b::aj) pos) (andV ga gb):=PE.imp (K4 ha hb) λU H Q q=>by
 obtain⟨G,I,Y,d,af,r,e1,k⟩:=q;obtain⟨d1,ac,e2,e3⟩:=qE e1;obtain⟨k1,ag,e4,e5⟩:=qE e3;obtain⟨e6,rfl⟩:=qN e4;have:=xN e6;subst this;refine⟨G,I,Y,_,_,r,e2,λv H1 I1 r1 g1 h1=>⟨k1,rC h1,?_⟩⟩;cases k1 with
 | true=>exact iteT ⟨G,I1,_,d,af,r1,e5,k.after g1⟩
 | false=>cases e5;exact iteF (k _ _ _ r1 g1 (Is.bl false))
theorem Dx(hc:TD X B c ta)(ha:ED X B a ga)(hb:ED X B b gb):ED X B (.IfExp c a b pos) (ifV ta ga gb):=PE.imp (Iv hc ha hb) λU H Q q=>by
 obtain⟨G,I,Y,d,af,r,e1,k⟩:=q;obtain⟨d1,ac,e2,e3⟩:=qE e1;refine⟨G,I,Y,d1,ac,r,e2,λH1 I1 r1 g1=>?_⟩;cases d1 with
 | true=>exact iteT ⟨G,I1,ac,d,af,r1,e3,k.after g1⟩
 | false=>exact iteF ⟨G,I1,ac,d,af,r1,e3,k.after g1⟩
variable{p:Pos}{id T:String}{r:List V->Hp->VK->Prop}{t:M (List D)}
theorem t_fn{F:List D->Option D}{K:PySem.W.Frag}(h:CallD K r F):∀U H Q,tD K B (fn1 F t) U H Q->tCB r (tAD K B t) U H Q:=λU H Q q=>by
 obtain⟨G,I,Y,d,af,r,e1,k⟩:=q;obtain⟨d1,ac,e2,e3⟩:=qE e1;obtain⟨e4,rfl⟩:=qN e3;exact⟨G,I,Y,d1,_,r,e2,λvs H1 I1 r1 g1 h1=>h _ _ e4 B G I1 H1 U _ vs Q r1 h1 (k.after g1)⟩
theorem yF{K:PySem.W.Frag}(h:CallO K r F):∀U H Q,tO K B (fn1 F t) U H Q->tCB r (tAD K B t) U H Q:=λU H Q q=>by
 obtain⟨G,I,Y,d,af,r,e1,k⟩:=q;obtain⟨d1,ac,e2,e3⟩:=qE e1;obtain⟨e4,rfl⟩:=qN e3;exact⟨G,I,Y,d1,_,r,e2,λvs H1 I1 r1 g1 h1=>h _ _ e4 B G I1 H1 U _ vs Q r1 h1 (k.after g1)⟩
theorem tL{F:List D->Option D}(hc:CallR X (.builtin id) r)(h:CallD X.K r F)(hg:Gl X x)(hm:X.mg x=none)(hv:Ob x=some (.builtin id))(ha:AD X B (e::es) t)(hn:x ≠ "__name__":=by decide)(bD:(x == ("__debug__":Str))=false:=by decide)(he:d_ (e::es) X.env=(false,Nr e X.env)::d_ es X.env:=by rfl)(aG:(ND pos (d_ es X.env)).any (·.1)=false:=by rfl):ED X B (.Call (.Name x p) (e::es) [] pos) (fn1 F t):=PE.imp (wk hc hg hm hv ha hn bD he aG) (t_fn h)
theorem EF(hc:CallR X (.builtin id) r)(h:CallO X.K r F)(hg:Gl X x)(hm:X.mg x=none)(hv:Ob x=some (.builtin id))(ha:AD X B (e::es) t)(hn:x ≠ "__name__":=by decide)(bD:(x == ("__debug__":Str))=false:=by decide)(he:d_ (e::es) X.env=(false,Nr e X.env)::d_ es X.env:=by rfl)(aG:(ND pos (d_ es X.env)).any (·.1)=false:=by rfl):EO X B (.Call (.Name x p) (e::es) [] pos) (fn1 F t):=PE.imp (wk hc hg hm hv ha hn bD he aG) (yF h)
theorem El{F:List D->Option D}(hc:CallR X (.type T) r)(h:CallD X.K r F)(hg:Gl X x)(hm:X.mg x=none)(hv:Ob x=some (.type T))(ha:AD X B (e::es) t)(hn:x ≠ "__name__":=by decide)(bD:(x == ("__debug__":Str))=false:=by decide)(he:d_ (e::es) X.env=(false,Nr e X.env)::d_ es X.env:=by rfl)(aG:(ND pos (d_ es X.env)).any (·.1)=false:=by rfl):ED X B (.Call (.Name x p) (e::es) [] pos) (fn1 F t):=PE.imp (Cb hc hg hm hv ha hn bD he aG) (t_fn h)
theorem Hr(hc:CallR X (.type T) r)(h:CallO X.K r F)(hg:Gl X x)(hm:X.mg x=none)(hv:Ob x=some (.type T))(ha:AD X B (e::es) t)(hn:x ≠ "__name__":=by decide)(bD:(x == ("__debug__":Str))=false:=by decide)(he:d_ (e::es) X.env=(false,Nr e X.env)::d_ es X.env:=by rfl)(aG:(ND pos (d_ es X.env)).any (·.1)=false:=by rfl):EO X B (.Call (.Name x p) (e::es) [] pos) (fn1 F t):=PE.imp (Cb hc hg hm hv ha hn bD he aG) (yF h)
end
inductive Fl where
 | nx | rt (r:R) | bk | ct
def ResOk(K:PySem.W.Frag)(G I H:Hp)(U:L2.St)(Y:Gm):R->V->Prop
 | .val d,v=>Is K I d v
 | .own ds,v=>∃p xs,v=.ref p/\H p=some (.lst xs)/\I p=none/\G p=none/\Apart U Y p/\IsA K I ds xs
 | .bor _,_=>False
 | .fro ds,v=>∃p xs,v=.ref p/\I p=some (.lst xs)/\G p=none/\IsA K I ds xs
 | .tfr ds,v=>∃a xs,v=.ref a/\I a=some (.tup xs)/\G a=none/\IsA K I ds xs/\(∀(i:Nat) (p:k_),xs[i]?=some (V.ref p)->(∃ys,I p=some (.lst ys))->G p=none)/\(∀(i j:Nat) (p:k_),xs[i]?=some (V.ref p)->xs[j]?=some (V.ref p)->((∃ys,I p=some (.lst ys))->i=j))/\∀(i:Nat) (es:List D),ds[i]?=some (.lst es)->∃p ys,xs[i]?=some (V.ref p)/\I p=some (.lst ys)/\IsA K I es ys
 | .dic aY,v=>∃p xs,v=.ref p/\H p=some (.dK xs)/\I p=none/\G p=none/\Apart U Y p/\IsK K I aY xs
def EndAt(K:PySem.W.Frag)(G I H:Hp)(U:L2.St)(Y:Gm)(E:Ends):Fl->Prop
 | .nx=>E.nx U H
 | .bk=>E.bk U H
 | .ct=>E.ct U H
 | .rt r=>∀v,ResOk K G I H U Y r v->E.rt v H
section
variable (K:PySem.W.Frag)(B:BB)
def KS(G I:Hp)(af:Gm)(f:Fl)(E:Ends):Prop:=∀am H' I',Rep K B G I' H' am af->Grow G I I'->EndAt K G I' H' am af E f
noncomputable def tS(g:M Fl):TS:=λE U H=>∃G I Y f af,Rep K B G I H U Y/\g Y=some (f,af)/\KS K B G I af f E
def KG(m:Nat)(U:L2.St)(G I:Hp)(af:Gm)(Q:L2.St->Hp->Prop):Prop:=∀am H' I',Rep K B G I' H' am af->Grow G I I'->am.drop m=U.drop m->Q am H'
noncomputable def tGD(m:Nat)(f:D->M Unit):TG:=λv U H Q=>∃G I Y d af,Rep K B G I H U Y/\Is K I d v/\f d Y=some ((),af)/\KG K B m U G I af Q
noncomputable def tGs(m:Nat)(f:List D->M Unit):TGs:=λvs U H Q=>∃G I Y ds af,Rep K B G I H U Y/\IsA K I ds vs/\f ds Y=some ((),af)/\KG K B m U G I af Q
end
def SD(X:Cx)(B:BB)(st:NO)(g:M Fl):Prop:=PS X st (tS X.K B g)
def SDs(X:Cx)(B:BB)(st:List NO)(g:M Fl):Prop:=PSs X st (tS X.K B g)
def GD(X:Cx)(B:BB)(m:Nat)(tg:Ny)(f:D->M Unit):Prop:=PG X tg (tGD X.K B m f)
def GDs(X:Cx)(B:BB)(m:Nat)(g0:List Ny)(f:List D->M Unit):Prop:=PGs X g0 (tGs X.K B m f)
section
theorem PS.imp{st:NO}{t t':TS}(h:PS X st t)(f:∀E U H,t' E U H->t E U H):PS X st t':=λaa s U H E I q=>h aa s U H E I (f E U H q)
theorem PSs.imp{st:List NO}{t t':TS}(h:PSs X st t)(f:∀E U H,t' E U H->t E U H):PSs X st t':=λaa s U H E I q=>h aa s U H E I (f E U H q)
theorem PG.imp{t t':TG}(h:PG X tg t)(f:∀v U H Q,t' v U H Q->t v U H Q):PG X tg t':=λaa s U H v u Q I r q=>h aa s U H v u Q I r (f v U H Q q)
theorem PGs.imp{t t':TGs}(h:PGs X g0 t)(f:∀v U H Q,t' v U H Q->t v U H Q):PGs X g0 t':=λaa s U H v u Q I r q=>h aa s U H v u Q I r (f v U H Q q)
theorem PI.imp{t t':TI}(h:PI X tg iter t)(f:∀U H Q,t' U H Q->t U H Q):PI X tg iter t':=λaa s U H R I q=>h aa s U H R I (f U H R q)
end
section
variable{K:PySem.W.Frag}{B:BB}{I1 H:Hp}{f:Fl}{E:Ends}
theorem KS.after(k:KS K B G I af f E)(g:Grow G I I1):KS K B G I1 af f E:=λam H' I' r g'=>k am H' I' r (g.trans g')
theorem KG.after{b9:L2.St}{Q:L2.St->Hp->Prop}(k:KG K B m U G I af Q)(g:Grow G I I1)(hs:b9.drop m=U.drop m):KG K B m b9 G I1 af Q:=λam H' I' r g' z=>k am H' I' r (g.trans g') (z.trans hs)
end
section
variable{B:BB}{a b c:Ny}{es:List Ny}{ga gb gc:M D}{st:NO}{aj:List NO}{g h:M Fl}
noncomputable def seqS(g h:M Fl):M Fl:=bnd g λf=>match f with
 | .nx=>h
 | .rt r=>ret (.rt r)
 | .bk=>ret .bk
 | .ct=>ret .ct
theorem E7:SDs X B [] (ret .nx):=PSs.imp Cu λE U H q=>by
 obtain⟨G,I,Y,f,af,r,e1,k⟩:=q;cases e1;exact k U H I r (Grow.refl _ _)
theorem FO(h:SD X B st g):SDs X B [st] g:=CC h
theorem KR(h1:SD X B st g)(h2:SDs X B aj h):SDs X B (st::aj) (seqS g h):=PSs.imp (u6 h1 h2) λE U H q=>by
 obtain⟨G,I,Y,f,af,r,e1,k⟩:=q;obtain⟨f1,ac,e2,e3⟩:=qE e1;refine⟨G,I,Y,f1,ac,r,e2,λb9 H1 I1 r1 g1=>?_⟩;cases f1 with
 | nx=>exact⟨G,I1,ac,f,af,r1,e3,k.after g1⟩
 | bk=>cases e3;exact k b9 H1 I1 r1 g1
 | ct=>cases e3;exact k b9 H1 I1 r1 g1
 | rt v=>cases e3;exact k b9 H1 I1 r1 g1
theorem zo:SD X B st (λ_=>none):=PS.imp Hy λE U H q=>by
 obtain⟨G,I,Y,f,af,r,e1,k⟩:=q;cases e1
noncomputable def dropS(g:M D):M Fl:=bnd g λ_=>ret .nx
theorem sF(he:ED X B e ga)(hs:N8 e none pos.line X.env=pure false:=by rfl):SD X B (.Expr e pos) (dropS ga):=PS.imp (uV he hs) λE U H q=>by
 obtain⟨G,I,Y,f,af,r,e1,k⟩:=q;obtain⟨d1,ac,e2,e3⟩:=qE e1;cases e3;exact⟨G,I,Y,d1,_,r,e2,λv H1 I1 r1 g1 h1=>k U H1 I1 r1 g1⟩
noncomputable def retS(g:M D):M Fl:=bnd g λd=>ret (.rt (.val d))
theorem qS(he:ED X B e ga):SD X B (.Return (some e) pos) (retS ga):=PS.imp (u0 he) λE U H q=>by
 obtain⟨G,I,Y,f,af,r,e1,k⟩:=q;obtain⟨d1,ac,e2,e3⟩:=qE e1;cases e3;exact⟨G,I,Y,d1,_,r,e2,λv H1 I1 r1 g1 h1=>k U H1 I1 r1 g1 v h1⟩
noncomputable def retO(g:M (List D)):M Fl:=bnd g λd=>ret (.rt (.own d))
theorem rX{g:M (List D)}(he:EO X B e g):SD X B (.Return (some e) pos) (retO g):=PS.imp (u0 he) λE U H q=>by
 obtain⟨G,I,Y,f,af,r,e1,k⟩:=q;obtain⟨d1,ac,e2,e3⟩:=qE e1;cases e3;exact⟨G,I,Y,d1,_,r,e2,λp xs H1 I1 r1 g1 h1 h2 h3 h4 h5=>k U H1 I1 r1 g1 _ ⟨p,xs,rfl,h1,h2,h3,h4,h5⟩⟩
noncomputable def ifS(c:M Bool)(a b:M Fl):M Fl:=bnd c λk=>if k then a else b
theorem FI{tc:M Bool}{sa sb:List NO}(hc:TD X B c tc)(ha:SDs X B sa g)(hb:SDs X B sb h):SD X B (.If c sa sb pos) (ifS tc g h):=PS.imp (zN hc ha hb) λE U H q=>by
 obtain⟨G,I,Y,f,af,r,e1,k⟩:=q;obtain⟨d1,ac,e2,e3⟩:=qE e1;refine⟨G,I,Y,d1,ac,r,e2,λH1 I1 r1 g1=>?_⟩;cases d1 with
 | true=>exact iteT ⟨G,I1,ac,f,af,r1,e3,k.after g1⟩
 | false=>exact iteF ⟨G,I1,ac,f,af,r1,e3,k.after g1⟩
noncomputable def putS(i:Nat)(q:R):M Unit:=λY=>if i < Y.length then some ((),Y.set i (some q)) else none
noncomputable def tgN(i:Nat)(d:D):M Unit:=putS i (.val d)
theorem tF{q:R}{u:Unit}(h:putS i q Y=some (u,af)):i < Y.length/\af=Y.set i (some q):=by
 unfold putS at h;obtain⟨h1,h2⟩:=rm h;cases h2;exact⟨h1,rfl⟩
theorem zG{α:Type}:∀{l:List α}{i m:Nat}{a:α},i < m->(l.set i a).drop m=l.drop m
 | [],_,_,_,_=>rfl
 | _::_,0,m+1,_,_=>rfl
 | _::r,i+1,m+1,a,h=>by
  rw[List.set_cons_succ,Qr,Qr];exact zG (Nat.lt_of_succ_lt_succ h)
theorem gd_n(hN:X.N.Nodup)(hi:X.N[i]?=some x:=by rfl)(hx:locB X.env.scope x=true:=by rfl)(hf:fnB X x=true:=by rfl)(nA:i < m:=by decide):GD X B m (.Name x pos) (tgN i):=
 PG.imp (A6 hN hi (locI hx) (fnI hf)) λv U H Q q=>by
  obtain⟨G,I,Y,d,af,r,hd,e1,k⟩:=q;obtain⟨hl,rfl⟩:=tF e1;exact k _ _ I (r.store (by rw[r.len];exact hl) hd (λm=>nomatch m) (λ_ z=>nomatch z)) (Grow.refl _ _) (zG nA)
noncomputable def tgNil(ds:List D):M Unit:=match ds with
 | []=>ret ()
 | _=>λ_=>none
noncomputable def tgCons(f:D->M Unit)(t:List D->M Unit)(ds:List D):M Unit:=match ds with
 | d::r=>bnd (f d) λ_=>t r
 | []=>λ_=>none
theorem rH:GDs X B m [] tgNil:=PGs.imp Jb λv U H Q q=>by
 obtain⟨G,I,Y,ds,af,r,hd,e1,k⟩:=q;cases ds with
 | nil=>cases e1;exact⟨hd.nil_inv,k _ _ I r (Grow.refl _ _) rfl⟩
 | cons d t=>cases e1
theorem rb{f:D->M Unit}{t:List D->M Unit}(h1:GD X B m e f)(h2:GDs X B m es t)(hs:(Oi (e::es) X.env).map (·.2)=P8 e X.env::(Oi es X.env).map (·.2):=by rfl):GDs X B m (e::es) (tgCons f t):=PGs.imp (GL h1 h2 hs) λv U H Q q=>by
 obtain⟨G,I,Y,ds,af,r,hd,e1,k⟩:=q;cases ds with
 | nil=>cases e1
 | cons d t =>
  obtain⟨x,xs,rfl,h1,h2⟩:=hd.cons_inv;obtain⟨u,ac,e2,e3⟩:=qE e1;exact⟨x,xs,rfl,G,I,Y,d,ac,r,h1,e2,λb9 H1 I1 r1 g1 z=>⟨G,I1,ac,t,af,r1,h2.mono g1.up,e3,k.after g1 z⟩⟩
noncomputable def tgTup(n:Nat)(t:List D->M Unit)(d:D):M Unit:=match d with
 | .tup ds=>if ds.length=n then t ds else λ_=>none
 | _=>λ_=>none
theorem rG{t:List D->M Unit}(hc:X.calm=true)(h:GDs X B m es t)(hn:(Oi es X.env).length=n:=by rfl)(fG:(Oi es X.env).findIdx? (·.1)=none:=by rfl):GD X B m (.Tuple es k pos) (tgTup n t):=
 PG.imp (HY hc h hn fG) λv U H Q q=>by
  obtain⟨G,I,Y,d,af,r,hd,e1,k⟩:=q;cases d with
  | tup ds =>
   obtain⟨a,xs,rfl,h1,h2⟩:=qL hd;unfold tgTup at e1;by_cases hl:ds.length=n
   ·simp only[hl,if_true] at e1;exact⟨a,xs,rfl,Same.sqT r.iH h1,by rw[←h2.length];exact hl,G,I,Y,ds,af,r,h2,e1,k⟩
   ·simp only[hl,if_false] at e1;cases e1
  | _=>cases e1
noncomputable def asgS(g:M D)(f:D->M Unit):M Fl:=bnd g λd=>bnd (f d) λ_=>ret .nx
theorem Br{f:D->M Unit}(he:ED X B e ga)(hg:GD X B m tg f)(hs:QJ [tg] e pos.line X.env=pure false:=by rfl)(hw:QK [tg] e X.env=pure none:=by rfl)(h1:(Oi [tg] X.env).map (·.2)=[P8 tg X.env]:=by rfl):SD X B (.Assign [tg] e pos) (asgS ga f):=PS.imp (xk he hg hs hw h1) λE U H q=>by
 obtain⟨G,I,Y,f,af,r,e1,k⟩:=q;obtain⟨d1,ac,e2,e3⟩:=qE e1;obtain⟨d2,ag,e4,e5⟩:=qE e3;cases e5;exact⟨G,I,Y,d1,ac,r,e2,λv H1 I1 r1 g1 h1=>⟨G,I1,ac,d1,_,r1,h1,e4,λa9 H2 I2 r2 g2 _=>k a9 H2 I2 r2 (g1.trans g2)⟩⟩
noncomputable def setV(i:Nat)(g:M D):M Fl:=bnd g λd=>bnd (putS i (.val d)) λ_=>ret .nx
noncomputable def setO(i:Nat)(g:M (List D)):M Fl:=bnd g λd=>bnd (putS i (.own d)) λ_=>ret .nx
theorem JP{K:PySem.W.Frag}:∀E U H,tS K B (setV i ga) E U H->tAsg (tD K B ga) (gName i) E U H:=λE U H q=>by
 obtain⟨G,I,Y,f,af,r,e1,k⟩:=q;obtain⟨d1,ac,e2,e3⟩:=qE e1;obtain⟨d2,ag,e4,e5⟩:=qE e3;cases e5;obtain⟨hl,rfl⟩:=tF e4;exact⟨G,I,Y,d1,ac,r,e2,λv H1 I1 r1 g1 h1=>k _ H1 I1 (r1.store (by rw[r1.len];exact hl) h1 (λm=>nomatch m) (λ_ z=>nomatch z)) g1⟩
theorem Aq{K:PySem.W.Frag}{g:M (List D)}:∀E U H,tS K B (setO i g) E U H->tAsg (tO K B g) (gName i) E U H:=λE U H q=>by
 obtain⟨G,I,Y,f,af,r,e1,k⟩:=q;obtain⟨d1,ac,e2,e3⟩:=qE e1;obtain⟨d2,ag,e4,e5⟩:=qE e3;cases e5;obtain⟨hl,rfl⟩:=tF e4;exact⟨G,I,Y,d1,ac,r,e2,λp xs H1 I1 r1 g1 h1 h2 h3 h4 h5=>k _ H1 I1 (r1.store (by rw[r1.len];exact hl) ⟨p,xs,rfl,h1,h2,h3,h5⟩ (λ_ p' z=>by cases z;exact h4) (λ_ z=>nomatch z)) g1⟩
theorem DQ(hN:X.N.Nodup)(he:ED X B e ga)(hi:X.N[i]?=some x:=by rfl)(hx:locB X.env.scope x=true:=by rfl)(hs:N8 e (some (.Name x aH)) pos.line X.env=pure false:=by rfl)(hf:fnB X x=true:=by rfl):SD X B (.Assign [.Name x aH] e pos) (setV i ga):=PS.imp (vT hN hi (locI hx) he hs (fnI hf)) JP
theorem rz{g:M (List D)}(hN:X.N.Nodup)(he:EO X B e g)(hi:X.N[i]?=some x:=by rfl)(hx:locB X.env.scope x=true:=by rfl)(hs:N8 e (some (.Name x aH)) pos.line X.env=pure false:=by rfl)(hf:fnB X x=true:=by rfl):SD X B (.Assign [.Name x aH] e pos) (setO i g):=PS.imp (vT hN hi (locI hx) he hs (fnI hf)) Aq
noncomputable def isMut(Y:Gm)(i:Nat):Bool:=match Y[i]? with
 | some (some r)=>r.mut
 | _=>false
noncomputable def wr(i:Nat)(F:List D->Option (List D)):M Unit:=λY=>match Y[i]? with
 | some (some (.own ds))=>match F ds with
  | some es=>some ((),Y.set i (some (.own es)))
  | none=>none
 | some (some (.bor ds))=>match F ds with
  | some es=>some ((),Y.set i (some (.bor es)))
  | none=>none
 | _=>none
theorem sy{K:PySem.W.Frag}{H:Hp}(h:isMut Y i=true)(r:Rep K B G I H U Y):∃p xs,U[i]?=some (some (.ref p))/\H p=some (.lst xs):=by
 unfold isMut at h;cases e:Y[i]? with
 | none=>rw[e] at h;cases h
 | some o =>
  cases o with
  | none=>rw[e] at h;cases h
  | some q =>
   rw[e] at h;obtain⟨v,h1,h2⟩:=r.slot i q e;cases q with
   | val d=>cases h
   | fro d=>cases h
   | tfr d=>cases h
   | dic d=>cases h
   | own d=>obtain⟨p,xs,rfl,h3,_⟩:=h2;exact⟨p,xs,h1,h3⟩
   | bor d=>obtain⟨p,xs,rfl,h3,_⟩:=h2;exact⟨p,xs,h1,h3⟩
theorem uI{K:PySem.W.Frag}{H:Hp}{u:Unit}(h:wr i F Y=some (u,af))(r:Rep K B G I H U Y):
  ∃p xs ds es,U[i]?=some (some (.ref p))/\H p=some (.lst xs)/\IsA K I ds xs/\F ds=some es/\∀ys,IsA K I es ys->Rep K B G I (upd H p (.lst ys)) U af:=by
 unfold wr at h;cases e:Y[i]? with
 | none=>rw[e] at h;cases h
 | some o =>
  cases o with
  | none=>rw[e] at h;cases h
  | some q =>
   obtain⟨v,h1,h2⟩:=r.slot i q e;cases q with
   | val d=>rw[e] at h;cases h
   | fro d=>rw[e] at h;cases h
   | tfr d=>rw[e] at h;cases h
   | dic d=>rw[e] at h;cases h
   | own ds =>
    rw[e] at h;obtain⟨p,xs,rfl,g1,g2,g3,g4⟩:=h2;cases hf:F ds with
    | none=>simp only[hf] at h;cases h
    | some es =>
     simp only[hf] at h;cases h;exact⟨p,xs,ds,es,h1,g1,g4,hf,λys hy=>r.write e rfl h1 g1 (.inl rfl) hy⟩
   | bor ds =>
    rw[e] at h;obtain⟨p,xs,rfl,g1,g2,g3,g4⟩:=h2;cases hf:F ds with
    | none=>simp only[hf] at h;cases h
    | some es =>
     simp only[hf] at h;cases h;exact⟨p,xs,ds,es,h1,g1,g4,hf,λys hy=>r.write e rfl h1 g1 (.inr ⟨rfl,ds,rfl⟩) hy⟩
noncomputable def mutS{α:Type}(i:Nat)(m:M α):M α:=λY=>if isMut Y i then m Y else none
theorem sD{α:Type}{m:M α}{r:α×Gm}(h:mutS i m Y=some r):isMut Y i=true/\m Y=some r:=by
 unfold mutS at h;by_cases hc:isMut Y i=true
 ·rw[if_pos hc] at h;exact⟨hc,h⟩
 ·rw[if_neg hc] at h;cases h
noncomputable def appF(d:D)(ds:List D):Option (List D):=if ds.length < lim then some (ds++[d]) else none
noncomputable def extF(d:D)(ds:List D):Option (List D):=match d with
 | .lst es=>if ds.length+es.length<=lim then some (ds++es) else none
 | _=>none
noncomputable def appS(i:Nat)(g:M D):M Fl:=mutS i (bnd g λd=>bnd (wr i (appF d)) λ_=>ret .nx)
noncomputable def extS(i:Nat)(g:M D):M Fl:=mutS i (bnd g λd=>bnd (wr i (extF d)) λ_=>ret .nx)
theorem xq{H:Hp}{s:c_}{l:k_}(I:Inv X aa U H s)(hH:RdK X.K H l xs):xs.length<=C_/\∃(ae:List b_) (n:Nat),Vals xs ae/\xs.length=ae.length/\s.heap.get? l=some { cls:=.type "list", data:=.seq ae.toArray n }:=by
 rcases hH with hH | ⟨ae,n,h1,h2,h3⟩
 ·obtain⟨z,ae,n,r,e⟩:=hH.ok I.hok;exact⟨z,ae,n,r,r.length,e⟩
 ·exact⟨by rw[h2.length];exact h3,ae,n,h2,h2.length,I.kIn l _ h1⟩
def rExtendR(K:PySem.W.Frag):V->List V->Hp->VK->Prop:=λx vs H Q=>∃l b xs zs,x=.ref l/\vs=[.ref b]/\H l=some (.lst xs)/\RdK K H b zs/\xs.length+zs.length<=C_/\Q .non (upd H l (.lst (xs++zs)))
theorem Hk:MtM X "list.extend" (rExtendR X.K):=by
 intro aa s U H x vs v us Q I rx rv h;obtain⟨l,b,xs,zs,rfl,rfl,hH,hB,hz,q⟩:=h;cases rx;obtain⟨u,rfl,ru⟩:=rv.one;cases ru;obtain⟨z,ae,n,r,hl,e⟩:=I.lstM hH;obtain⟨z2,bS,n2,r2,dr,e2⟩:=xq I hB;have gW:ae.toArray.size+bS.toArray.size<=C_:=by rw[n_,n_];omega
 have jr:¬(!ae.toArray.isEmpty&&Sz (ae.toArray.size+bS.toArray.size))=true:=by
  rw[notLongL gW,Bool.and_false];exact i_
 refine Rj F.slot_list_extend ⟨_,e,rfl⟩ F.entry_list_extend (F.args_list_extend_2 _ _)
  (AutoSeq1.list_extend_list_list_0 l ae.toArray n b bS.toArray n2 jr (by rw[n_];omega) (by omega)) ⟨e,e2,?_⟩
 refine⟨.non,_,I.lset (its':=ae++bS) hH e (by simp) (r.append r2) ?_,rfl,q⟩;rw[o_];omega
theorem rA(hv:PE X (.Name x p1) (tVar i))(ha:ED X B e ga)(hs:N8 (.Call (.Attribute (.Name x p1) "append" aK) [e] [] aC) none pos.line X.env=pure false:=by rfl)(cX:d_ [e] X.env=(false,Nr e X.env)::d_ [] X.env:=by rfl)(ba:OB (.Name x p1) "append" X.env (Nr (.Name x p1) X.env)=Nr (.Name x p1) X.env:=by rfl)(cf:((ND aC (d_ [e] X.env)).all (λx=>!x.1)&&(Sc aC (QA [] X.env)).all (λx=>x.1.isSome)
   &&decide ([e].length+([]:List Qe).length+(if([]:List Qe).isEmpty then 0 else 1) < 30))=true:=by rfl)(bb:(aK.endLine == aC.line)=true:=by rfl)(bu:(ND aC (d_ [] X.env)).any (·.1)=false:=by rfl):
  SD X B (.Expr (.Call (.Attribute (.Name x p1) "append" aK) [e] [] aC) pos) (appS i ga):=
 PS.imp (uV (vk OR PySem.F.slot_list_append PySem.F.type_list_append w6 hv (rR ha sQ cX) ba cf bb cX bu) hs) λE U H q=>by
  obtain⟨G,I,Y,f,af,r,e1,k⟩:=q;obtain⟨hm,e1⟩:=sD e1;obtain⟨d1,ac,e2,e3⟩:=qE e1;obtain⟨d2,ag,e4,e5⟩:=qE e3;cases e5;obtain⟨p,xs,h1,h2⟩:=sy hm r;refine⟨_,h1,.inl ⟨rfl,xs,SqL.of h2⟩,G,I,Y,d1,ac,r,e2,λv H1 I1 r1 g1 hd=>?_⟩;obtain⟨p',bG,ds,es,h3,h4,h5,h6,h7⟩:=uI e4 r1;have hp:p'=p:=by rw[h1] at h3;cases h3;rfl
  subst hp;obtain⟨hl,rfl⟩:=rm h6;refine⟨p',bG,v,rfl,rfl,h4,?_,k U _ I1 (h7 _ (IsA.append h5 (IsA.cons hd IsA.nil))) g1⟩;rw[←h5.length];exact G_ hl (sA (v_ _))
theorem z6(hv:PE X (.Name x p1) (tVar i))(ha:ED X B e ga)(hs:N8 (.Call (.Attribute (.Name x p1) "extend" aK) [e] [] aC) none pos.line X.env=pure false:=by rfl)(cX:d_ [e] X.env=(false,Nr e X.env)::d_ [] X.env:=by rfl)(ba:OB (.Name x p1) "extend" X.env (Nr (.Name x p1) X.env)=Nr (.Name x p1) X.env:=by rfl)(cf:((ND aC (d_ [e] X.env)).all (λx=>!x.1)&&(Sc aC (QA [] X.env)).all (λx=>x.1.isSome)
   &&decide ([e].length+([]:List Qe).length+(if([]:List Qe).isEmpty then 0 else 1) < 30))=true:=by rfl)(bb:(aK.endLine == aC.line)=true:=by rfl)(bu:(ND aC (d_ [] X.env)).any (·.1)=false:=by rfl):
  SD X B (.Expr (.Call (.Attribute (.Name x p1) "extend" aK) [e] [] aC) pos) (extS i ga):=
 PS.imp (uV (vk OR PySem.F.slot_list_extend PySem.F.type_list_extend Hk hv (rR ha sQ cX) ba cf bb cX bu) hs) λE U H q=>by
  obtain⟨G,I,Y,f,af,r,e1,k⟩:=q;obtain⟨hm,e1⟩:=sD e1;obtain⟨d1,ac,e2,e3⟩:=qE e1;obtain⟨d2,ag,e4,e5⟩:=qE e3;cases e5;obtain⟨p,xs,h1,h2⟩:=sy hm r;refine⟨_,h1,.inl ⟨rfl,xs,SqL.of h2⟩,G,I,Y,d1,ac,r,e2,λv H1 I1 r1 g1 hd=>?_⟩;obtain⟨p',bG,ds,es,h3,h4,h5,h6,h7⟩:=uI e4 r1;have hp:p'=p:=by rw[h1] at h3;cases h3;rfl
  subst hp;cases d1 with
  | lst zs =>
   obtain⟨a,ys,rfl,i1,i2⟩:=qR hd;obtain⟨hl,rfl⟩:=rm h6;refine⟨p',a,bG,ys,rfl,rfl,h4,Same.rdK r1.iH i1,?_,k U _ I1 (h7 _ (IsA.append h5 i2)) g1⟩;rw[←h5.length,←i2.length];exact sA hl
  | _=>cases h6
noncomputable def asI(d:D):Option Int:=match d with
 | .int i=>some i
 | _=>none
theorem B2{i:Int}(h:asI d=some i):d=.int i:=by
 cases d<;>simp[asI] at h
 rw[h]
noncomputable def stF(k:Int)(d:D)(ds:List D):Option (List D):=(ixN ds.length k).map λj=>ds.set j d
noncomputable def stS(i:Nat)(gi gv:M D):M Fl:=bnd gv λd=>mutS i (bnd gi λn=>bnd (lft (asI n)) λk=>bnd (wr i (stF k d)) λ_=>ret .nx)
theorem vA{gi:M D}(hv:PE X (.Name x p1) (tVar i))(hi:ED X B ie gi)(he:ED X B e ga)(ha:∀v,P8 (.Subscript (.Name x p1) ie p2) X.env v=(do
   let ov ←Qd [v] (Nr (.Name x p1) X.env)
   let iv ←Qd [v,ov] (Nr ie X.env)
   S2 p2
   Qd [v,ov,iv] (setItem ov iv v)
   release [v,ov,iv] []):=by intros;rfl)(hs:QJ [.Subscript (.Name x p1) ie p2] e pos.line X.env=pure false:=by rfl)(hw:QK [.Subscript (.Name x p1) ie p2] e X.env=pure none:=by rfl)(h1:(Oi [.Subscript (.Name x p1) ie p2] X.env).map (·.2)=[P8 (.Subscript (.Name x p1) ie p2) X.env]:=by rfl):
  SD X B (.Assign [.Subscript (.Name x p1) ie p2] e pos) (stS i gi ga):=PS.imp (xk he (D' hv hi Gw ha) hs hw h1) λE U H q=>by
 obtain⟨G,I,Y,f,af,r,e1,k⟩:=q;obtain⟨d,ac,e2,e3⟩:=qE e1;obtain⟨hm,e3⟩:=sD e3;obtain⟨n,ag,e4,e5⟩:=qE e3;obtain⟨z,aL,e6,e7⟩:=qE e5;obtain⟨e8,rfl⟩:=qN e6;obtain⟨u,aS,f1,f2⟩:=qE e7;cases f2;have:=B2 e8;subst this;refine⟨G,I,Y,d,ac,r,e2,λv H1 I1 r1 g1 hd=>?_⟩;obtain⟨p,xs,h1,h2⟩:=sy hm r1;refine⟨_,h1,G,I1,ac,_,_,r1,e4,λw H2 I2 r2 g2 hw=>?_⟩;obtain⟨p',bG,ds,es,h3,h4,h5,h6,h7⟩:=uI f1 r2;have hp:p'=p:=by rw[h1] at h3;cases h3;rfl
 subst hp;unfold stF at h6;cases hj:ixN ds.length z with
 | none=>rw[hj] at h6;cases h6
 | some j =>
  rw[hj] at h6;cases h6;exact⟨p',bG,z,j,rfl,qJ hw,h4,by rw[←h5.length];exact hj,k U _ I2 (h7 _ (IsA.set (hd.mono g2.up) j h5)) (g1.trans g2)⟩
def Yields(K:PySem.W.Frag)(I:Hp)(ds:List D)(J:It):Prop:=∀(i:Nat) (H1:Hp),Same I H1 →
 (∀d,ds[i]?=some d->J.go i H1/\∀x H2,J.yld i H1 x H2->(H2=H1/\Is K I d x)\/(∃p es xs,d=.tup es/\x=.ref p/\H1 p=none/\H2=upd H1 p (.tup xs)/\IsA K I es xs))/\(ds.length<=i->J.stop i H1)
noncomputable def tI(K:PySem.W.Frag)(B:BB)(g:M (List D)):TI:=λU H R=>∃G I Y ds af,Rep K B G I H U Y/\g Y=some (ds,af)/\∀J H' I',Rep K B G I' H' U af->Grow G I I'->Yields K I' ds J->R J H'
def ITD(X:Cx)(B:BB)(tg iter:Ny)(g:M (List D)):Prop:=PI X tg iter (tI X.K B g)
theorem E4{l:Ny}{tl:TE}(hl:PE X l tl):PI X tg l (λU H R=>tl U H λx H1=>(∃a,x=.ref a/\(∃xs,SqL X.K H1 a xs)/\R (Itl X.K a) H1)\/(∃a,x=.ref a/\(∃xs,SqT X.K H1 a xs)/\R (Itt X.K a) H1)):=by
 intro aa s U H R I h;refine thn (hl aa s U H _ I h) λv s1 ⟨x,H1,I1,r1,q1⟩=>?_
 rcases q1 with⟨a,e,⟨xs,hq⟩,q⟩ | ⟨a,e,⟨xs,hq⟩,q⟩
 ·subst e;cases r1;obtain⟨ae,rv,p,hz⟩:=I1.list hq;refine Ox p.isList ?_;refine⟨s1.heap.objs.size,[s1.heap.objs.size],_,_,H1,rfl,I1.kept (t':=s1.toks) λb o e=>f_ _ e,Ji a _,⟨_,x_ _ rfl,rfl,rfl⟩,λb hb=>?_,q⟩;have e:b=s1.heap.objs.size:=by simpa using hb
  subst e;exact I1.fpOk (v_ _) (I1.hok.fresh (v_ _))
 ·subst e;cases r1;obtain⟨ae,rv,p,hz⟩:=I1.tuple hq;refine RZ (show s1.heap.IsTuple a ae.toArray from p) ?_;refine⟨s1.heap.objs.size,[s1.heap.objs.size],_,_,H1,rfl,I1.kept (t':=s1.toks) λb o e=>f_ _ e,EW a _,⟨_,x_ _ rfl,rfl,rfl⟩,λb hb=>?_,q⟩;have e:b=s1.heap.objs.size:=by simpa using hb
  subst e;exact I1.fpOk (v_ _) (I1.hok.fresh (v_ _))
noncomputable def seqI(d:D):Option (List D):=match d with
 | .lst ds=>some ds
 | .tup ds=>some ds
 | _=>none
noncomputable def itS(g:M D):M (List D):=bnd g λd=>lft (seqI d)
theorem qZ(ha:ED X B a ga):ITD X B tg a (itS ga):=PI.imp (E4 ha) λU H R q=>by
 obtain⟨G,I,Y,ds,af,r,e1,k⟩:=q;obtain⟨d,ac,e2,e3⟩:=qE e1;obtain⟨e4,rfl⟩:=qN e3;refine⟨G,I,Y,d,_,r,e2,λv H1 I1 r1 g1 hd=>?_⟩;cases d with
 | lst es =>
  cases e4;obtain⟨l,xs,rfl,h1,h2⟩:=qR hd;refine .inl ⟨l,rfl,⟨xs,(Same.rdK r1.iH h1).sq⟩,k _ _ _ r1 g1 λi H2 s2=>⟨λd hd=>?_,λhi=>⟨xs,(Same.rdK s2 h1).sq,by rw[←h2.length];exact hi⟩⟩⟩;obtain⟨x,e5,e6⟩:=h2.get hd;refine⟨⟨xs,x,(Same.rdK s2 h1).sq,e5⟩,λy H3 hy=>.inl ⟨hy.1,?_⟩⟩;have:=hy.2 xs ((Same.rdK s2 h1).sq);rw[e5] at this;cases this;exact e6
 | tup es =>
  cases e4;obtain⟨l,xs,rfl,h1,h2⟩:=qL hd;refine .inr ⟨l,rfl,⟨xs,Same.sqT r1.iH h1⟩,k _ _ _ r1 g1 λi H2 s2=>⟨λd hd=>?_,λhi=>⟨xs,Same.sqT s2 h1,by rw[←h2.length];exact hi⟩⟩⟩;obtain⟨x,e5,e6⟩:=h2.get hd;refine⟨⟨xs,x,Same.sqT s2 h1,e5⟩,λy H3 hy=>.inl ⟨hy.1,?_⟩⟩;have:=hy.2 xs (Same.sqT s2 h1);rw[e5] at this;cases this;exact e6
 | _=>cases e4
noncomputable def rngD(lo:Int)(n:Nat):List D:=(NY n).map λ(k:Nat)=>D.int (lo+(k:Int))
theorem CF{K:PySem.W.Frag}(lo:Int)(n:Nat):Yields K I (rngD lo n) (Itr lo n):=λi H1 s1=>by
 refine⟨λd hd=>?_,λhi=>?_⟩
 ·unfold rngD at hd;rw[y_] at hd;cases e:(NY n)[i]? with
  | none=>rw[e] at hd;cases hd
  | some j =>
   rw[e] at hd;cases hd;obtain⟨h1,h2⟩:=p_.mp e;rw[QP] at h2;rw[Qf] at h1;subst h2;refine⟨h1,λx H2 hy=>.inl ⟨hy.1,?_⟩⟩;rw[hy.2];exact Is.int _
 ·unfold rngD at hi;rw[u_,Qf] at hi;exact hi
noncomputable def rngI1(ds:List D):Option (List D):=match ds with
 | [.int j]=>if -1000000<=j/\j<=1000000 then some (rngD 0 j.toNat) else none
 | _=>none
noncomputable def rngI2(ds:List D):Option (List D):=match ds with
 | [.int i,.int j]=>if(-1000000<=i/\i<=1000000)/\-1000000<=j/\j<=1000000 then some (rngD i (j - i).toNat) else none
 | _=>none
theorem Bw{es:List D}(h:rngI1 ds=some es):∃j:Int,ds=[.int j]/\(-1000000<=j/\j<=1000000)/\es=rngD 0 j.toNat:=by
 unfold rngI1 at h;split at h
 ·obtain⟨h1,h2⟩:=rm h;exact⟨_,rfl,h1,h2⟩
 ·cases h
theorem FC{es:List D}(h:rngI2 ds=some es):∃i j:Int,ds=[.int i,.int j]/\((-1000000<=i/\i<=1000000)/\-1000000<=j/\j<=1000000)/\es=rngD i (j - i).toNat:=by
 unfold rngI2 at h;split at h
 ·obtain⟨h1,h2⟩:=rm h;exact⟨_,_,rfl,h1,h2⟩
 ·cases h
theorem sM{p:Pos}{t:M (List D)}(hg:Gl X "range")(hm:X.mg "range"=none)(ha:AD X B [a] t)(hs:d_ [a] X.env=[(false,Nr a X.env)]:=by rfl):ITD X B tg (.Call (.Name "range" p) [a] [] pos) (fn1 rngI1 t):=
 PI.imp (Ez hg hm ha hs) λU H R q=>by
  obtain⟨G,I,Y,ds,af,r,e1,k⟩:=q;obtain⟨d,ac,e2,e3⟩:=qE e1;obtain⟨e4,rfl⟩:=qN e3;obtain⟨j,rfl,⟨h1,h2⟩,rfl⟩:=Bw e4;refine⟨G,I,Y,_,_,r,e2,λvs H1 I1 r1 g1 hd=>?_⟩;obtain⟨x,rfl,hx⟩:=hd.one;exact⟨j,by rw[qJ hx],by omega,by omega,k _ _ _ r1 g1 (CF _ _)⟩
theorem GP{p:Pos}{t:M (List D)}(hg:Gl X "range")(hm:X.mg "range"=none)(ha:AD X B [a,b] t)(hs:d_ [a,b] X.env=[(false,Nr a X.env),(false,Nr b X.env)]:=by rfl)(cb:d_ [b] X.env=[(false,Nr b X.env)]:=by rfl):
  ITD X B tg (.Call (.Name "range" p) [a,b] [] pos) (fn1 rngI2 t):=
 PI.imp (G' hg hm ha hs cb) λU H R q=>by
  obtain⟨G,I,Y,ds,af,r,e1,k⟩:=q;obtain⟨d,ac,e2,e3⟩:=qE e1;obtain⟨e4,rfl⟩:=qN e3;obtain⟨i,j,rfl,h1,rfl⟩:=FC e4;refine⟨G,I,Y,_,_,r,e2,λvs H1 I1 r1 g1 hd=>?_⟩;obtain⟨x,y,rfl,hx,hy⟩:=hd.two;exact⟨i,j,by rw[qJ hx,qJ hy],by omega,k _ _ _ r1 g1 (CF _ _)⟩
noncomputable def forM(aE:D->M Unit)(body:M Fl):List D->M Fl
 | []=>ret .nx
 | d::ds=>bnd (aE d) λ_=>bnd body λf=>match f with
  | .nx=>forM aE body ds
  | .ct=>forM aE body ds
  | .bk=>ret .nx
  | .rt r=>ret (.rt r)
noncomputable def forS(it:M (List D))(aE:D->M Unit)(body:M Fl):M Fl:=bnd it λds=>forM aE body ds
theorem IM{body:List NO}{it:M (List D)}{aE:D->M Unit}(hp:QX (t_ X.prog X.w) X.A X.env X.xe)(hc:X.calm=true)(hi:ITD X B tg iter it)(hg:GD X B m tg aE)(hb:SDs X B body g)(hs:∀x,NR iter X.env x=pure x:=by intros;rfl):SD X B (.For tg iter body [] pos) (forS it aE g):=PS.imp (DW hp hc hi hg hb hs) λE U H q=>by
 obtain⟨G,I,Y,f,af,r,e1,k⟩:=q;obtain⟨ds,ac,e2,e3⟩:=qE e1;refine⟨G,I,Y,ds,ac,r,e2,λJ H1 I1 r1 g1 y=>?_⟩;refine⟨λi m U H=>∃I2 ag,Rep X.K B G I2 H U ag/\Grow G I1 I2/\forM aE g (ds.drop i) ag=some (f,af)/\i<=ds.length/\m=ds.length - i,⟨ds.length,I1,ac,r1,Grow.refl _ _,by simpa using e3,NK _,rfl⟩,?_⟩;rintro i m' a9 H2 ⟨I2,ag,r2,g2,e4,bj,rfl⟩;obtain⟨yg,ys⟩:=y i H2 (g2.up.trans r2.iH);by_cases bH:i < ds.length
 ·have hd:ds.drop i=ds[i]::ds.drop (i+1):=NM bH;obtain⟨go,yld⟩:=yg ds[i] (g_ bH);rw[hd] at e4;obtain⟨u,aL,e5,e6⟩:=qE e4;obtain⟨fl,aS,e7,e8⟩:=qE e6;refine .inr ⟨go,λam H'=>∃I3,Rep X.K B G I3 H' am aS/\Grow G I1 I3/\(fl=.nx\/fl=.ct),λam H' ⟨I3,r3,g3,hf⟩=>⟨ds.length - (i+1),by omega,I3,aS,r3,g3,?_,bH,rfl⟩,λx H3 hy=>?_⟩
  ·rcases hf with rfl | rfl<;>exact e8
  ·have kI:∀I3,Rep X.K B G I3 H3 a9 ag->Grow G I2 I3->Is X.K I3 ds[i] x->tGD X.K B m aE x a9 H3 λa9 H2=>tS X.K B g { E with nx:=λam H'=>∃I3,Rep X.K B G I3 H' am aS/\Grow G I1 I3/\(fl=.nx\/fl=.ct),ct:=λam H'=>∃I3,Rep X.K B G I3 H' am aS/\Grow G I1 I3/\(fl=.nx\/fl=.ct),bk:=E.nx } a9 H2:=by
    intro I3 r3 g3 hx;refine⟨G,I3,ag,ds[i],aL,r3,hx,e5,λkJ H4 I4 r4 g4 _=>⟨G,I4,aL,fl,aS,r4,e7,λcY H5 I5 r5 g5=>?_⟩⟩;have gg:Grow G I1 I5:=g2.trans (g3.trans (g4.trans g5));cases fl with
    | nx=>exact⟨I5,r5,gg,.inl rfl⟩
    | ct=>exact⟨I5,r5,gg,.inr rfl⟩
    | bk=>cases e8;exact k cY H5 I5 r5 (g1.trans gg)
    | rt v=>cases e8;exact k cY H5 I5 r5 (g1.trans gg)
   rcases yld x H3 hy with⟨rfl,hx⟩ | ⟨p,es,xs,df,rfl,dy,rfl,hx⟩
   ·exact kI I2 r2 (Grow.refl _ _) (hx.mono g2.up)
   ·refine kI _ (r2.alloc dy _) (r2.growAlloc dy _) ?_;rw[df];exact Is.tup (SqT.of qQ) ((hx.mono g2.up).mono (rl (r2.iFree dy) _))
 ·have cg:i=ds.length:=by omega
  subst cg;rw[List.drop_length] at e4;cases e4;exact .inl ⟨ys (v_ _),k a9 H2 I2 r2 (g1.trans g2)⟩
end
noncomputable def fin:List R->Gm->Option (List R)
 | [],_=>some []
 | .val d::rs,_::Y=>match fin rs Y with
  | some l=>some (.val d::l)
  | none=>none
 | .bor _::rs,some (.bor ds)::Y=>match fin rs Y with
  | some l=>some (.bor ds::l)
  | none=>none
 | _,_=>none
noncomputable def flR:Fl->Option R
 | .rt r=>some r
 | .nx=>some (.val .non)
 | _=>none
noncomputable def fnD1(n:Nat)(body:M Fl)(rs:List R):Option (R×List R):=
 match body (rs.map some++NF (n - rs.length) none) with
 | some (f,af)=>match flR f with
  | some r=>match fin rs af with
   | some l=>some (r,l)
   | none=>none
  | none=>none
 | none=>none
noncomputable def fnD(n ar:Nat)(body:M Fl)(rs:List R):Option (R×List R):=if rs.length=ar then fnD1 n body rs else none
noncomputable def noOwn:R->Bool
 | .own _=>false
 | _=>true
noncomputable def vB(vs:List V):BB:=λi=>(vs.map some)[i]?
noncomputable def spD(K:PySem.W.Frag)(g:List R->Option (R×List R)):Sp:=λvs H Q _=>∃(G I:Hp) (rs:List R) (r:R) (aW:List R),Rep K (vB vs) G I H (vs.map some) (rs.map some)/\rs.all noOwn=true/\g rs=some (r,aW) ∧
 ∀v H' I',Rep K (vB vs) G I' H' (vs.map some) (aW.map some)->Grow G I I'->ResOk K G I' H' (vs.map some) (aW.map some) r v->Q v H'
theorem yP:∀{rs l:List R}{Y:Gm},fin rs Y=some l->l.length=rs.length/\∀(i:Nat) (r:R),l[i]?=some r->(∃d,r=.val d/\rs[i]?=some (.val d))\/(∃ds,r=.bor ds/\Y[i]?=some (some (.bor ds)))
 | [],l,Y,h=>by
  rw[fin] at h;cases h;exact⟨rfl,λi r e=>by simp at e⟩
 | .val d::rs,l,[],h=>by simp[fin] at h
 | .bor d::rs,l,[],h=>by simp[fin] at h
 | .own d::rs,l,Y,h=>by cases Y<;>simp[fin] at h
 | .fro d::rs,l,Y,h=>by cases Y<;>simp[fin] at h
 | .tfr d::rs,l,Y,h=>by cases Y<;>simp[fin] at h
 | .dic d::rs,l,Y,h=>by cases Y<;>simp[fin] at h
 | .val d::rs,l,o::Y,h=>by
  rw[fin] at h;cases e:fin rs Y with
  | none=>rw[e] at h;cases h
  | some l' =>
   rw[e] at h;cases h;obtain⟨h1,h2⟩:=yP e;refine⟨by simp[h1],λi r er=>?_⟩;cases i with
   | zero=>simp at er;subst er;exact .inl ⟨d,rfl,rfl⟩
   | succ i =>
    rcases h2 i r (by simpa using er) with⟨d',e1,e2⟩ | ⟨ds,e1,e2⟩
    ·exact .inl ⟨d',e1,by simpa using e2⟩
    ·exact .inr ⟨ds,e1,by simpa using e2⟩
 | .bor d::rs,l,none::Y,h=>by simp[fin] at h
 | .bor d::rs,l,some (.val x)::Y,h=>by simp[fin] at h
 | .bor d::rs,l,some (.own x)::Y,h=>by simp[fin] at h
 | .bor d::rs,l,some (.fro x)::Y,h=>by simp[fin] at h
 | .bor d::rs,l,some (.tfr x)::Y,h=>by simp[fin] at h
 | .bor d::rs,l,some (.dic x)::Y,h=>by simp[fin] at h
 | .bor d::rs,l,some (.bor x)::Y,h=>by
  rw[fin] at h;cases e:fin rs Y with
  | none=>rw[e] at h;cases h
  | some l' =>
   rw[e] at h;cases h;obtain⟨h1,h2⟩:=yP e;refine⟨by simp[h1],λi r er=>?_⟩;cases i with
   | zero=>simp at er;subst er;exact .inr ⟨x,rfl,rfl⟩
   | succ i =>
    rcases h2 i r (by simpa using er) with⟨d',e1,e2⟩ | ⟨ds,e1,e2⟩
    ·exact .inl ⟨d',e1,by simpa using e2⟩
    ·exact .inr ⟨ds,e1,by simpa using e2⟩
theorem getMap{α Z:Type}{f:α->Z}{l:List α}{b:Z}(h:(l.map f)[i]?=some b):∃a,l[i]?=some a/\b=f a:=by
 rw[y_] at h;cases e:l[i]? with
 | none=>rw[e] at h;cases h
 | some a=>rw[e] at h;exact⟨a,rfl,(Nz h).symm⟩
theorem wc{α:Type}{l:List α}{a:α}(h:(l.map some++NF n (none:Option α))[i]?=some (some a)):l[i]?=some a:=by
 by_cases hi:i < (l.map some).length
 ·rw[Ou hi] at h;obtain⟨b,e1,e2⟩:=getMap h;cases e2;exact e1
 ·rw[N7 (by omega),OH] at h;split at h<;>cases h
section
variable{P:A_}{w:I_}{K:PySem.W.Frag}
theorem qO{st:NO}(F:Fun K x qual st f fd)(S:FnScope N ps (defScope st))(g:M Fl)(hb:∀(aF:b_) (A:Oe) (outer:List Env) (s:c_) (H:Hp) (E:XK) (B:BB),Room k (A.deeper (Re qual (defScope st) s.heap.objs.size f aF)) →
   SDs (cxOf CX0 P w K mg base N qual (defScope st) f aF A outer s H E).nox B (defBody st) g):FnOk P w K mg base CX0 (k+1) f fd ps (spD K (fnD N.length ps.length g)):=by
 refine F.ok S (λvs H Q E h=>?_) (λaF A outer s H vs Q E hr h=>?_)
 ·obtain⟨_,_,rs,_,_,h1,_,h2,_⟩:=h;unfold fnD at h2;by_cases hc:rs.length=ps.length
  ·rw[←hc];simpa using h1.len
  ·rw[if_neg hc] at h2;cases h2
 ·obtain⟨G,I,rs,r,aW,h2,h3,h4,h5⟩:=h;have hl:vs.length=rs.length:=by simpa using h2.len
  refine⟨_,hb aF A outer s H E (λi=>(L2.start N vs)[i]?) hr,?_⟩;unfold fnD at h4
  have hc:rs.length=ps.length:=by
   by_cases hc:rs.length=ps.length
   ·exact hc
   ·rw[if_neg hc] at h4;cases h4
  rw[if_pos hc] at h4;unfold fnD1 at h4;cases e1:g (rs.map some++NF (N.length - rs.length) none) with
  | none=>rw[e1] at h4;cases h4
  | some q =>
   obtain⟨fl,af⟩:=q;rw[e1] at h4;dsimp only at h4;cases e2:flR fl with
   | none=>rw[e2] at h4;cases h4
   | some rr =>
    rw[e2] at h4;dsimp only at h4;cases e3:fin rs af with
    | none=>rw[e3] at h4;cases h4
    | some l =>
     rw[e3] at h4;obtain⟨rfl,rfl⟩:rr=r/\l=aW:=by cases h4;exact⟨rfl,rfl⟩
     have g9:∀{i:Nat}{v:V},vs[i]?=some v->(L2.start N vs)[i]?=some (some v):=λ{i v} e=>by
      unfold L2.start;rw[Ou (by rw[u_];exact(p_.mp e).1),y_,e];rfl
     have jt:∀{i:Nat}{v:V},(L2.start N vs)[i]?=some (some v)->vs[i]?=some v:=λ{i v} e=>wc e
     have kK:Rep K (λi=>(L2.start N vs)[i]?) G I H (L2.start N vs) (rs.map some++NF (N.length - rs.length) none):={
      iH:=h2.iH,gH:=h2.gH
      len:=by unfold L2.start;rw[o_,o_,u_,u_,Nu,Nu,hl]
      slot:=λi q e=>by
       have e':=wc e;obtain⟨v,e4,e5⟩:=h2.slot i q (by rw[y_,e'];rfl);obtain⟨v',e6,e7⟩:=getMap e4;cases e7;exact⟨v,g9 e6,e5⟩
      dist:=λi j q q' v e e' m m' s1 s2=>h2.dist i j q q' v (by rw[y_,wc e];rfl) (by rw[y_,wc e'];rfl) m m' (by rw[y_,jt s1];rfl) (by rw[y_,jt s2];rfl)
      bor:=λi ds e=>rfl }
     obtain⟨f1,f2⟩:=yP e3
     -- behind the body
     have back:∀{am:L2.St}{H' I':Hp},Rep K (λi=>(L2.start N vs)[i]?) G I' H' am af->Grow G I I'->Rep K (vB vs) G I' H' (vs.map some) (l.map some):=λ{am H' I'} r' g'=>{
      iH:=r'.iH,gH:=r'.gH
      len:=by rw[u_,u_,f1,hl]
      slot:=λi q e=>by
       obtain⟨q',e4,e5⟩:=getMap e;cases e5
       rcases f2 i q e4 with⟨d,rfl,e6⟩ | ⟨ds,rfl,e6⟩
       ·obtain⟨v,e7,e8⟩:=h2.slot i (.val d) (by rw[y_,e6];rfl);exact⟨v,e7,Is.mono g'.up e8⟩
       ·obtain⟨v,e7,e8⟩:=r'.slot i _ e6;have e9:=r'.bor i ds e6;rw[e7] at e9;exact⟨v,by rw[y_,jt e9.symm];rfl,e8⟩
      dist:=λi j q q' v e e' m m' s1 s2=>by
       obtain⟨_,e4,e5⟩:=getMap e;cases e5;obtain⟨_,e6,e7⟩:=getMap e';cases e7
       rcases f2 i q e4 with⟨d,rfl,_⟩ | ⟨ds,rfl,e8⟩
       ·cases m
       rcases f2 j q' e6 with⟨d,rfl,_⟩ | ⟨dR,rfl,e9⟩
       ·cases m'
       obtain⟨v1,a1,_⟩:=getMap s1;obtain⟨v2,a2,a3⟩:=getMap s2;have b1:=r'.bor i ds e8;have b2:=r'.bor j dR e9;rename_i b3;cases b3;cases a3;rw[g9 a1] at b1;rw[g9 a2] at b2;exact r'.dist i j _ _ v e8 e9 rfl rfl b1 b2
      bor:=λi ds e=>rfl }
     have ap:∀{am:L2.St}{H' I':Hp}{p:k_},Rep K (λi=>(L2.start N vs)[i]?) G I' H' am af->Apart am af p->Apart (vs.map some) (l.map some) p:=λ{am H' I' p} r' a i q e m z=>by
      obtain⟨_,e4,e5⟩:=getMap e;cases e5
      rcases f2 i q e4 with⟨d,rfl,_⟩ | ⟨ds,rfl,e8⟩
      ·cases m
      obtain⟨v1,a1,a2⟩:=getMap z;cases a2;exact a i _ e8 rfl ((r'.bor i ds e8).trans (g9 a1))
     refine⟨G,I,_,fl,af,kK,e1,λam H' I' r' g'=>?_⟩;cases fl with
     | nx=>cases e2;exact h5 _ H' I' (back r' g') g' (show Is K I' D.non V.non from Is.non)
     | bk=>cases e2
     | ct=>cases e2
     | rt r0 =>
      cases e2;intro v hv;refine h5 v H' I' (back r' g') g' ?_;cases rr with
      | val d=>exact hv
      | bor d=>exact hv
      | fro d=>exact hv
      | tfr d=>exact hv
      | dic d =>
       obtain⟨p,xs,b1,b2,b3,b4,b5,b6⟩:=hv;exact⟨p,xs,b1,b2,b3,b4,ap r' b5,b6⟩
      | own d =>
       obtain⟨p,xs,b1,b2,b3,b4,b5,b6⟩:=hv;exact⟨p,xs,b1,b2,b3,b4,ap r' b5,b6⟩
end
mutual
noncomputable def noL:D->Bool
 | .tup ds=>noLA ds
 | .lst _=>false
 | _=>true
noncomputable def noLA:List D->Bool
 | []=>true
 | d::ds=>noL d&&noLA ds
end
noncomputable def tupOf(I0 I:Hp):Hp:=λb=>match I0 b with
 | some o=>some o
 | none=>match I b with
  | some (.lst _)=>none
  | o=>o
theorem Bg:Same I0 (tupOf I0 I):=λb o e=>by unfold tupOf;rw[e]
theorem uE(h:tupOf I0 I b=some o):I0 b=some o\/(I0 b=none/\I b=some o/\∀xs,o≠.lst xs):=by
 unfold tupOf at h;cases e:I0 b with
 | some o'=>rw[e] at h;cases h;exact .inl rfl
 | none =>
  rw[e] at h;cases e1:I b with
  | none=>rw[e1] at h;cases h
  | some o' =>
   rw[e1] at h;cases o'<;>first | (cases h;exact .inr ⟨rfl,rfl,λxs z=>by cases z⟩) | cases h
theorem zS(s:Same I0 I)(h:I b=some o)(n:∀xs,o≠.lst xs):tupOf I0 I b=some o:=by
 unfold tupOf;cases e:I0 b with
 | some o'=>rw[s b o' e] at h;exact h
 | none =>
  simp only[h];split
  ·rename_i z;cases z;exact absurd rfl (n _)
  ·rfl
mutual
theorem Cc{K:PySem.W.Frag}{I0 I:Hp}(s:Same I0 I):∀(d:D) (v:V),noL d=true->Is K I d v->Is K (tupOf I0 I) d v
 | .non,_,_,h=>by rw[Is] at h ⊢;exact h
 | .bl _,_,_,h=>by rw[Is] at h ⊢;exact h
 | .int _,_,_,h=>by rw[Is] at h ⊢;exact h
 | .str _,_,_,h=>by rw[Is] at h ⊢;exact h
 | .lst _,_,n,_=>by simp[noL] at n
 | .tup ds,v,n,h=>by
  rw[noL] at n;obtain⟨a,xs,rfl,h1,h2⟩:=qL h;refine Is.tup ?_ (v8 s ds xs n h2)
  rcases h1 with(h1 | ⟨o,h1⟩) | h1
  ·exact .inl (.inl (zS s h1 λxs z=>by cases z))
  ·exact .inl (.inr ⟨o,zS s h1 λxs z=>by cases z⟩)
  ·exact .inr h1
theorem v8{K:PySem.W.Frag}{I0 I:Hp}(s:Same I0 I):∀(ds:List D) (xs:List V),noLA ds=true->IsA K I ds xs->IsA K (tupOf I0 I) ds xs
 | [],xs,_,h=>by rw[h.nil_inv];exact IsA.nil
 | d::ds,xs,n,h=>by
  rw[noLA,Nx] at n;obtain⟨x,r,rfl,h1,h2⟩:=h.cons_inv;exact IsA.cons (Cc s d x n.1 h1) (v8 s ds r n.2 h2)
end
section
variable{B:BB}{es:List Ny}{p:Pos}{g:List R->Option (R×List R)}{t:M (List D)}
noncomputable def cvF(g:List R->Option (R×List R))(ds:List D):Option D:=match g (ds.map .val) with
 | some (.val d,_)=>some d
 | some (.fro d,_)=>some (.lst d)
 | _=>none
noncomputable def coF(g:List R->Option (R×List R))(ds:List D):Option (List D):=match g (ds.map .val) with
 | some (.own d,_)=>some d
 | some (.fro d,_)=>if noLA d=true then some d else none
 | _=>none
theorem tH{K:PySem.W.Frag}{H:Hp}{vs:List V}(r:Rep K B G I H U Y)(h:IsA K I ds vs):Rep K (vB vs) H I H (vs.map some) ((ds.map R.val).map some) where
 iH:=r.iH
 gH:=Same.refl _
 len:=by rw[u_,u_,u_,h.length]
 slot:=λi q e=>by
  obtain⟨_,e1,e2⟩:=getMap e;cases e2;obtain⟨d,e3,rfl⟩:=getMap e1;obtain⟨v,e4,e5⟩:=h.get e3;exact⟨v,by rw[y_,e4];rfl,e5⟩
 dist:=λi j q q' v e e' m=>by
  obtain⟨_,e1,e2⟩:=getMap e;cases e2;obtain⟨d,e3,rfl⟩:=getMap e1;cases m
 bor:=λi ds e=>rfl
theorem tE(ds:List D):(ds.map R.val).all noOwn=true:=by
 induction ds with
 | nil=>rfl
 | cons d r ih=>rw[H_,Oy,ih];rfl
theorem xO{K:PySem.W.Frag}{B':BB}{H:Hp}{am:L2.St}(r:Rep K B G I H U Y)(r':Rep K B' H I' H' am af)(g':Grow H I I'):Rep K B G I' H' U Y/\Grow G I I':=
 ⟨r.ext g'.up r'.gH r'.iH g'.new,g'.up,λb o e=>(g'.new b o e).imp (λz=>z) λz=>r.gFree z⟩
theorem t_cv{K:PySem.W.Frag}{E:XK}:∀U H Q,tD K B (fn1 (cvF g) t) U H Q->tCall (spD K g) [] E (tAD K B t) U H Q:=λU H Q q=>by
 obtain⟨G,I,Y,d,af,r,e1,kk⟩:=q;obtain⟨ds,ac,e2,e3⟩:=qE e1;obtain⟨e4,rfl⟩:=qN e3;refine⟨G,I,Y,ds,_,r,e2,λvs H1 I1 r1 g1 h1=>?_⟩;show spD K g (vs++[]) H1 Q E;rw[N3];unfold cvF at e4;cases e5:g (ds.map .val) with
 | none=>rw[e5] at e4;cases e4
 | some q =>
  obtain⟨rr,aW⟩:=q;rw[e5] at e4;cases rr with
  | val d' =>
   cases e4;refine⟨H1,I1,ds.map .val,.val d,aW,tH r1 h1,tE ds,e5,λv H' I' r' g' hv=>?_⟩;obtain⟨r2,g2⟩:=xO r1 r' g';exact kk v H' I' r2 (g1.trans g2) hv
  | fro d' =>
   cases e4;refine⟨H1,I1,ds.map .val,.fro d',aW,tH r1 h1,tE ds,e5,λv H' I' r' g' hv=>?_⟩;obtain⟨r2,g2⟩:=xO r1 r' g';obtain⟨p,xs,rfl,f1,_,f3⟩:=hv;exact kk _ H' I' r2 (g1.trans g2) (Is.lst (RdK.of f1) f3)
  | own _=>cases e4
  | bor _=>cases e4
  | dic _=>cases e4
  | tfr _=>cases e4
theorem t_co{K:PySem.W.Frag}{E:XK}:∀U H Q,tO K B (fn1 (coF g) t) U H Q->tCall (spD K g) [] E (tAD K B t) U H Q:=λU H Q q=>by
 obtain⟨G,I,Y,d,af,r,e1,kk⟩:=q;obtain⟨ds,ac,e2,e3⟩:=qE e1;obtain⟨e4,rfl⟩:=qN e3;refine⟨G,I,Y,ds,_,r,e2,λvs H1 I1 r1 g1 h1=>?_⟩;show spD K g (vs++[]) H1 Q E;rw[N3];unfold coF at e4;cases e5:g (ds.map .val) with
 | none=>rw[e5] at e4;cases e4
 | some q =>
  obtain⟨rr,aW⟩:=q;rw[e5] at e4;cases rr with
  | own d' =>
   cases e4;refine⟨H1,I1,ds.map .val,.own d,aW,tH r1 h1,tE ds,e5,λv H' I' r' g' hv=>?_⟩;obtain⟨r2,g2⟩:=xO r1 r' g';obtain⟨q,xs,rfl,b2,b3,b4,b5,b6⟩:=hv;exact kk q xs H' I' r2 (g1.trans g2) b2 b3 (r1.gFree b4) (r1.apart b4) b6
  | fro d' =>
   obtain⟨nl,e4⟩:=rm e4;subst e4;refine⟨H1,I1,ds.map .val,.fro d,aW,tH r1 h1,tE ds,e5,λv H' I' r' g' hv=>?_⟩;obtain⟨p,xs,rfl,f1,f2,f3⟩:=hv
   have new:∀b o,tupOf I1 I' b=some o->I1 b=some o\/H1 b=none:=λb o e=>by
    rcases uE e with z | ⟨_,z,_⟩
    ·exact .inl z
    ·exact g'.new b o z
   have r2:Rep K B G (tupOf I1 I') H' U _:=r1.ext Bg r'.gH (λb o e=>by
    rcases uE e with z | ⟨_,z,_⟩
    ·exact r'.iH b o (g'.up b o z)
    ·exact r'.iH b o z) new
   refine kk p xs H' (tupOf I1 I') r2 (g1.trans ⟨Bg,λb o e=>(new b o e).imp (λz=>z) λz=>r1.gFree z⟩) (r'.iH p _ f1) ?_ (r1.gFree f2) (r1.apart f2) (v8 g'.up _ _ nl f3);cases e:tupOf I1 I' p with
   | none=>rfl
   | some o =>
    rcases uE e with z | ⟨_,z,zn⟩
    ·rw[r1.iFree f2] at z;cases z
    ·rw[f1] at z;cases z;exact absurd rfl (zn _)
  | tfr _=>cases e4
  | val _=>cases e4
  | bor _=>cases e4
  | dic _=>cases e4
variable {pW:Nat}{b:Ny}
theorem qX(F:FnOk X.prog X.w X.K X.mg X.base CX0 k f fd ps (spD X.K g))(hr:Room k X.A)(hg:Gl X x)(hm:X.mg x=some (.ref f))(hk:O2 X.K (.ref f)=true)(hb:Binds X.K fd ps [])(ha:AD X B (e::es) t)(bD:(x == ("__debug__":Str))=false:=by decide)(he:d_ (e::es) X.env=(false,Nr e X.env)::d_ es X.env:=by rfl)(aG:(ND pos (d_ es X.env)).any (·.1)=false:=by rfl):
  ED X B (.Call (.Name x p) (e::es) [] pos) (fn1 (cvF g) t):=PE.imp (u8 F hr hg hm hk hb .nil pass0 ha bD he aG) t_cv
theorem rB(F:FnOk X.prog X.w X.K X.mg X.base CX0 k f fd ps (spD X.K g))(hr:Room k X.A)(hg:Gl X x)(hm:X.mg x=some (.ref f))(hk:O2 X.K (.ref f)=true)(hb:Binds X.K fd ps [])(ha:AD X B (e::es) t)(bD:(x == ("__debug__":Str))=false:=by decide)(he:d_ (e::es) X.env=(false,Nr e X.env)::d_ es X.env:=by rfl)(aG:(ND pos (d_ es X.env)).any (·.1)=false:=by rfl):
  EO X B (.Call (.Name x p) (e::es) [] pos) (fn1 (coF g) t):=PE.imp (u8 F hr hg hm hk hb .nil pass0 ha bD he aG) t_co
noncomputable def hide(H:Hp)(p:k_):Hp:=λb=>if b=p then none else H b
theorem As{H:Hp}{p:k_}:hide H p p=none:=by unfold hide;rw[if_pos rfl]
theorem sk{H:Hp}{p b:k_}(h:b≠p):hide H p b=H b:=by unfold hide;rw[if_neg h]
theorem IT{H:Hp}{p:k_}:Same (hide H p) H:=λb o e=>by
 by_cases h:b=p
 ·subst h;rw[As] at e;cases e
 ·rw[sk h] at e;exact e
noncomputable def bcF(g:List R->Option (R×List R))(c ds:List D):Option (R×List D):=match g (.bor c::ds.map .val) with
 | some (r,.bor c'::_)=>some (r,c')
 | _=>none
noncomputable def callB(i:Nat)(g:List R->Option (R×List R))(t:M (List D)):M R:=mutS i (bnd t λds=>λac=>match ac[i]? with
 | some (some (.own c))=>match bcF g c ds with
  | some (r,c')=>some (r,ac.set i (some (.own c')))
  | none=>none
 | some (some (.bor c))=>match bcF g c ds with
  | some (r,c')=>some (r,ac.set i (some (.bor c')))
  | none=>none
 | _=>none)
noncomputable def asV(r:R):Option D:=match r with
 | .val d=>some d
 | _=>none
noncomputable def asO(r:R):Option (List D):=match r with
 | .own d=>some d
 | _=>none
noncomputable def cbV(i:Nat)(g:List R->Option (R×List R))(t:M (List D)):M D:=bnd (callB i g t) λr=>lft (asV r)
noncomputable def cbO(i:Nat)(g:List R->Option (R×List R))(t:M (List D)):M (List D):=bnd (callB i g t) λr=>lft (asO r)
theorem Rep.extBut{K:PySem.W.Frag}{H:Hp}(r:Rep K B G I H U Y){q:k_}(ap:Apart U Y q)(gq:G q=none)(iq:I q=none)(pX:I' q=none)(hI:Same I I')(hH:∀b o,H b=some o->b≠q->H' b=some o)(iH:Same I' H')(new:∀b o,I' b=some o->I b=some o\/H b=none\/b=q):Rep K B G I' H' U Y where
 iH:=iH
 gH:=λb o e=>hH b o (r.gH b o e) (λz=>by subst z;rw[gq] at e;cases e)
 len:=r.len
 slot:=λi qr e=>by
  obtain⟨v,e1,e2⟩:=r.slot i qr e;refine⟨v,e1,?_⟩
  have mt:qr.ptr=true->∀ds,Mt K G I H ds v->Mt K G I' H' ds v:=λm ds h=>by
   obtain⟨p2,xs,h1,h2,h3,h4,h5⟩:=h;have ne:p2≠q:=λz=>ap i qr e m (by rw[e1,h1,z])
   refine⟨p2,xs,h1,hH _ _ h2 ne,?_,h4,h5.mono hI⟩;cases z:I' p2 with
   | none=>rfl
   | some o =>
    rcases new p2 o z with z1 | z1 | z1
    ·rw[h3] at z1;cases z1
    ·rw[h2] at z1;cases z1
    ·exact absurd z1 ne
  cases qr with
  | val d=>exact Is.mono hI e2
  | dic ds =>
   obtain⟨p2,xs,h1,h2,h3,h4,h5⟩:=e2;have ne:p2≠q:=λz=>ap i _ e rfl (by rw[e1,h1,z])
   refine⟨p2,xs,h1,hH _ _ h2 ne,?_,h4,h5.mono hI⟩;cases z:I' p2 with
   | none=>rfl
   | some o =>
    rcases new p2 o z with z1 | z1 | z1
    ·rw[h3] at z1;cases z1
    ·rw[h2] at z1;cases z1
    ·exact absurd z1 ne
  | own ds=>exact mt rfl ds e2
  | bor ds=>exact mt rfl ds e2
  | fro ds=>obtain⟨p,xs,f1,f2,f3,f4⟩:=e2;exact⟨p,xs,f1,hI _ _ f2,f3,f4.mono hI⟩
  | tfr ds=>exact e2.elim
 dist:=r.dist
 bor:=r.bor
theorem borrow{K:PySem.W.Frag}{H:Hp}{q q':R}{c c':List D}{ws:List V}{Q:VK}{E:XK}(r:Rep K B G I H U Y)(hq:Y[i]?=some (some q))(hc:(q=.own c/\q'=.own c')\/(q=.bor c/\q'=.bor c'))(hd:IsA K I ds ws)(fP:U[i]?=some (some v0))(hg:bcF g c ds=some (rr,c'))(k:∀v H' I',Rep K B G I' H' U (Y.set i (some q'))->Grow G I I'->ResOk K G I' H' U (Y.set i (some q')) rr v->Q v H'):spD K g (v0::ws) H Q E:=by
 obtain⟨v,e1,e2⟩:=r.slot i q hq;rw[fP] at e1;cases e1;have hm:q.ptr=true:=by rcases hc with⟨rfl,_⟩ | ⟨rfl,_⟩<;>rfl
 have mt:Mt K G I H c v0:=by rcases hc with⟨rfl,_⟩ | ⟨rfl,_⟩<;>exact e2
 obtain⟨a,xs,rfl,h1,h2,h3,h4⟩:=mt;unfold bcF at hg;cases e3:g (.bor c::ds.map .val) with
 | none=>rw[e3] at hg;cases hg
 | some z =>
  obtain⟨r0,aW⟩:=z;rw[e3] at hg;cases aW with
  | nil=>cases hg
  | cons y aW =>
   cases y with
   | val _=>cases hg
   | own _=>cases hg
   | fro _=>cases hg
   | tfr _=>cases hg
   | dic _=>cases hg
   | bor c2 =>
    cases hg;refine⟨hide H a,I,.bor c::ds.map .val,rr,.bor c'::aW,?_,by rw[Oy,tE];rfl,e3,λv H' I' r' g' hv=>?_⟩
    ·have rv:=tH r hd
     exact {
      iH:=r.iH,gH:=IT
      len:=by rw[H_,H_,NG,NG,rv.len]
      slot:=λj qr e=>by
       cases j with
       | zero=>cases e;exact⟨_,rfl,a,xs,rfl,h1,h2,As,h4⟩
       | succ j =>
        obtain⟨w,e4,e5⟩:=rv.slot j qr (by simpa using e);refine⟨w,by simpa using e4,?_⟩;have e9:((ds.map R.val).map some)[j]?=some (some qr):=e;obtain⟨z,f1,f2⟩:=getMap e9;cases f2;obtain⟨d,f3,rfl⟩:=getMap f1;exact e5
      dist:=λj l qr pY w e e' m m' s1 s2=>by
       have only:∀{j:Nat}{qr:R},((R.bor c::ds.map R.val).map some)[j]?=some (some qr)->qr.ptr=true->j=0:=λ{j qr} e m=>by
        cases j with
        | zero=>rfl
        | succ j =>
         have e9:((ds.map R.val).map some)[j]?=some (some qr):=e;obtain⟨z,f1,f2⟩:=getMap e9;cases f2;obtain⟨d,f3,rfl⟩:=getMap f1;cases m
       rw[only e m,only e' m']
      bor:=λj es e=>rfl }
    ·obtain⟨w,e4,e5⟩:=r'.slot 0 (.bor c') rfl;cases e4;obtain⟨a',bG,e6,f1,f2,f3,f4⟩:=e5;cases e6
     have dS:Apart U (Y.set i none) a:=λj r1 z m s=>by
      rcases qW z with⟨_,z',_⟩ | ⟨n,z'⟩
      ·cases z'
      ·exact n (r.dist j i r1 q _ z' hq m hm s fP)
     have r1:=(r.forget i).extBut (q:=a) dS h3 h2 f2 g'.up (λb o e n=>r'.gH b o (by rw[sk n];exact e)) r'.iH (λb o e=>by
      rcases g'.new b o e with z | z
      ·exact .inl z
      ·by_cases n:b=a
       ·exact .inr (.inr n)
       ·rw[sk n] at z;exact .inr (.inl z))
     have r2:=r1.learn (i:=i) (q:=q') (v:=.ref a) fP (by rcases hc with⟨_,rfl⟩ | ⟨_,rfl⟩<;>exact⟨a,bG,rfl,f1,f2,h3,f4⟩) (λm p2 e j r' n z m' s=>by
      cases e;exact dS j r' z m' s) (λes z=>by
      rcases hc with⟨_,rfl⟩ | ⟨rfl,rfl⟩
      ·cases z
      ·exact r.bor i c hq)
     rw[S6] at r2
     have g2:Grow G I I':=⟨g'.up,λb o e=>by
      rcases g'.new b o e with z | z
      ·exact .inl z
      ·by_cases n:b=a
       ·subst n;exact .inr h3
       ·rw[sk n] at z;exact .inr (r.gFree z)⟩
     refine k v H' I' r2 g2 ?_;cases rr with
     | val d=>exact hv
     | bor d=>exact hv
     | tfr d =>
      obtain⟨p2,ys,b1,b2,b3,b4,b5,b6⟩:=hv;have ne:p2≠a:=λz=>by rw[z,f2] at b2;cases b2
      rw[sk ne] at b3;refine⟨p2,ys,b1,b2,r.gFree b3,b4,λi p e1 e2=>?_,b6⟩;have b5:=b5 i p e1 e2;obtain⟨zs,e2⟩:=e2;have ne:p≠a:=λz=>by rw[z,f2] at e2;cases e2
      rw[sk ne] at b5;exact r.gFree b5
     | fro d =>
      obtain⟨p2,ys,b1,b2,b3,b4⟩:=hv;have ne:p2≠a:=λz=>by rw[z,f2] at b2;cases b2
      rw[sk ne] at b3;exact⟨p2,ys,b1,b2,r.gFree b3,b4⟩
     | dic d =>
      obtain⟨p2,ys,b1,b2,b3,b4,b5,b6⟩:=hv;have ne:p2≠a:=λz=>b5 0 (.bor c') rfl rfl (by rw[z];rfl)
      rw[sk ne] at b4;refine⟨p2,ys,b1,b2,b3,r.gFree b4,λj r3 z m s=>?_,b6⟩
      rcases qW z with⟨rfl,z',_⟩ | ⟨n,z'⟩
      ·rw[fP] at s;cases s;exact ne rfl
      ·exact r.apart b4 j r3 z' m s
     | own d =>
      obtain⟨p2,ys,b1,b2,b3,b4,b5,b6⟩:=hv;have ne:p2≠a:=λz=>b5 0 (.bor c') rfl rfl (by rw[z];rfl)
      rw[sk ne] at b4;refine⟨p2,ys,b1,b2,b3,r.gFree b4,λj r3 z m s=>?_,b6⟩
      rcases qW z with⟨rfl,z',_⟩ | ⟨n,z'⟩
      ·rw[fP] at s;cases s;exact ne rfl
      ·exact r.apart b4 j r3 z' m s
theorem zq{t:M (List D)}(h:callB i g t Y=some (rr,af)):isMut Y i=true/\∃ds ac q q' c c',t Y=some (ds,ac)/\ac[i]?=some (some q)/\((q=.own c/\q'=.own c')\/(q=.bor c/\q'=.bor c'))/\bcF g c ds=some (rr,c')/\af=ac.set i (some q'):=by
 obtain⟨hm,h⟩:=sD h;obtain⟨ds,ac,e1,e2⟩:=qE h;refine⟨hm,ds,ac,?_⟩;cases e:ac[i]? with
 | none=>simp only[e] at e2;cases e2
 | some o =>
  cases o with
  | none=>simp only[e] at e2;cases e2
  | some q =>
   cases q with
   | val d=>simp only[e] at e2;cases e2
   | fro d=>simp only[e] at e2;cases e2
   | tfr d=>simp only[e] at e2;cases e2
   | dic d=>simp only[e] at e2;cases e2
   | own c =>
    simp only[e] at e2;cases e3:bcF g c ds with
    | none=>simp only[e3] at e2;cases e2
    | some z =>
     obtain⟨r0,c'⟩:=z;simp only[e3] at e2;cases e2;exact⟨.own c,.own c',c,c',e1,rfl,.inl ⟨rfl,rfl⟩,e3,rfl⟩
   | bor c =>
    simp only[e] at e2;cases e3:bcF g c ds with
    | none=>simp only[e3] at e2;cases e2
    | some z =>
     obtain⟨r0,c'⟩:=z;simp only[e3] at e2;cases e2;exact⟨.bor c,.bor c',c,c',e1,rfl,.inr ⟨rfl,rfl⟩,e3,rfl⟩
theorem EX{K:PySem.W.Frag}{E:XK}:∀U H Q,tD K B (cbV i g t) U H Q->tCall (spD K g) [] E (tCons (tVar i) (tAD K B t)) U H Q:=λU H Q q=>by
 obtain⟨G,I,Y,d,af,r,e1,kk⟩:=q;obtain⟨rr,aO,e2,e3⟩:=qE e1;obtain⟨e4,rfl⟩:=qN e3;obtain⟨hm,ds,ac,q,q',c,c',f1,f2,f3,f4,rfl⟩:=zq e2;obtain⟨a,xs,h1,h2⟩:=sy hm r;refine⟨_,h1,G,I,Y,ds,ac,r,f1,λws H1 I1 r1 g1 hd=>?_⟩;show spD K g ((.ref a::ws)++[]) H1 Q E;rw[N3];refine borrow r1 f2 f3 hd h1 f4 λv H' I' r' g' hv=>?_
 cases rr with
 | val d'=>cases e4;exact kk v H' I' r' (g1.trans g') hv
 | own _=>cases e4
 | bor _=>cases e4
 | fro _=>cases e4
 | tfr _=>cases e4
 | dic _=>cases e4
theorem HA{K:PySem.W.Frag}{E:XK}:∀U H Q,tO K B (cbO i g t) U H Q->tCall (spD K g) [] E (tCons (tVar i) (tAD K B t)) U H Q:=λU H Q q=>by
 obtain⟨G,I,Y,d,af,r,e1,kk⟩:=q;obtain⟨rr,aO,e2,e3⟩:=qE e1;obtain⟨e4,rfl⟩:=qN e3;obtain⟨hm,ds,ac,q,q',c,c',f1,f2,f3,f4,rfl⟩:=zq e2;obtain⟨a,xs,h1,h2⟩:=sy hm r;refine⟨_,h1,G,I,Y,ds,ac,r,f1,λws H1 I1 r1 g1 hd=>?_⟩;show spD K g ((.ref a::ws)++[]) H1 Q E;rw[N3];refine borrow r1 f2 f3 hd h1 f4 λv H' I' r' g' hv=>?_
 cases rr with
 | own d' =>
  cases e4;obtain⟨p2,ys,rfl,b2,b3,b4,b5,b6⟩:=hv;exact kk p2 ys H' I' r' (g1.trans g') b2 b3 b4 b5 b6
 | val _=>cases e4
 | bor _=>cases e4
 | fro _=>cases e4
 | tfr _=>cases e4
 | dic _=>cases e4
theorem rc(F:FnOk X.prog X.w X.K X.mg X.base CX0 k f fd ps (spD X.K g))(hr:Room k X.A)(hg:Gl X x)(hm:X.mg x=some (.ref f))(hk:O2 X.K (.ref f)=true)(hb:Binds X.K fd ps [])(hv:PE X (.Name y py) (tVar i))(ha:AD X B es t)(bD:(x == ("__debug__":Str))=false:=by decide)(he:d_ (.Name y py::es) X.env=(false,Nr (.Name y py) X.env)::d_ es X.env:=by rfl)(aG:(ND pos (d_ es X.env)).any (·.1)=false:=by rfl):
  ED X B (.Call (.Name x p) (.Name y py::es) [] pos) (cbV i g t):=PE.imp (u8 F hr hg hm hk hb .nil pass0 (rR hv ha he) bD he aG) EX
theorem FM(F:FnOk X.prog X.w X.K X.mg X.base CX0 k f fd ps (spD X.K g))(hr:Room k X.A)(hg:Gl X x)(hm:X.mg x=some (.ref f))(hk:O2 X.K (.ref f)=true)(hb:Binds X.K fd ps [])(hv:PE X (.Name y py) (tVar i))(ha:AD X B es t)(bD:(x == ("__debug__":Str))=false:=by decide)(he:d_ (.Name y py::es) X.env=(false,Nr (.Name y py) X.env)::d_ es X.env:=by rfl)(aG:(ND pos (d_ es X.env)).any (·.1)=false:=by rfl):
  EO X B (.Call (.Name x p) (.Name y py::es) [] pos) (cbO i g t):=PE.imp (u8 F hr hg hm hk hb .nil pass0 (rR hv ha he) bD he aG) HA
end
end DL
variable{it t:DL.M (List DL.D)}{body:DL.M DL.Fl}{aE:DL.D->DL.M Unit}{gl gh:DL.M (Option Int)}{gc ts:DL.M Bool}{aj:List DL.D->DL.M DL.Fl}{el:DL.M DL.D}
namespace DL
open PySem PySem.Spec PyProof.Rows L2
noncomputable def relab(sc cr:Ql):Ql:={ sc with names:=sc.names.map λ(n,k)=>if(k == .free&&cr.kind == .function&&cr.names.lookup n == some .cell) then(n,.cell) else(n,k) }
noncomputable def clo(cells:List (Str×k_)):List (Str×NV)->List (Str×k_)->List (Str×k_)
 | [],ah=>ah
 | (n,k)::r,ah=>if k == .free then clo cells r ((n,(cells.lookup n).getD 0)::ah) else clo cells r ah
theorem Ce{env:Env}(f:Str×NV->List (Str×k_)->Sem (ForInStep (List (Str×k_))))(hf:∀name kind cs,f (name,kind) cs=if kind == .free then(do let a ←cellOf env name;pure (.yield ((name,a)::cs))) else pure (.yield cs)):
  ∀(names:List (Str×NV)) (ah:List (Str×k_)),(∀n,(n,NV.free)∈names->∃c,env.cells.lookup n=some c)->(forIn names ah f:Sem _)=pure (clo env.cells names ah)
 | [],ah,_=>by rw[Qj];rfl
 | (n,k)::r,ah,h=>by
  rw[Ph,hf];unfold clo;have ih:=λkL=>Ce f hf r kL (λn hn=>h n (j_ _ hn))
  by_cases hk:(k == NV.free)=true
  ·rw[if_pos hk,if_pos hk];have bF:k=.free:=by simpa using hk
   subst bF;obtain⟨c,hc⟩:=h n m_;have e:cellOf env n=pure c:=by unfold cellOf;rw[hc]
   rw[e,hc];simp only[pure_bind,Option.getD_some];exact ih _
  ·rw[if_neg hk,if_neg hk];simp only[pure_bind];exact ih _
theorem BM(h:∀n,(n,NV.free)∈scope.names->∃c,env.cells.lookup n=some c):closureFor scope env=pure (clo env.cells scope.names []):=by
 unfold closureFor;dsimp only;rw[Ce (env:=env) _ (λname kind cs=>by cases hk:kind == NV.free<;>simp[hk]) scope.names [] h];rfl
theorem v3{cells:List (Str×k_)}:∀{names:List (Str×NV)}{ah:List (Str×k_)}{x:Str}{c:k_},(x,c)∈clo cells names ah->(x,c)∈ah\/((x,NV.free)∈names/\c=(cells.lookup x).getD 0)
 | [],ah,x,c,h=>.inl h
 | (n,k)::r,ah,x,c,h=>by
  unfold clo at h;by_cases hk:(k == NV.free)=true
  ·rw[if_pos hk] at h;have bF:k=.free:=by simpa using hk
   subst bF
   rcases v3 h with z | ⟨z1,z2⟩
   ·rcases D_.mp z with z | z
    ·cases z;exact .inr ⟨m_,rfl⟩
    ·exact .inl z
   ·exact .inr ⟨j_ _ z1,z2⟩
  ·rw[if_neg hk] at h
   rcases v3 h with z | ⟨z1,z2⟩
   ·exact .inl z
   ·exact .inr ⟨j_ _ z1,z2⟩
theorem yR{cells:List (Str×k_)}:∀{names:List (Str×NV)}{ah:List (Str×k_)}{x:Str},((x,NV.free)∈names\/∃c,ah.lookup x=some c)->∃c,(clo cells names ah).lookup x=some c
 | [],ah,x,h=>by
  rcases h with h | h
  ·cases h
  ·exact h
 | (n,k)::r,ah,x,h=>by
  unfold clo
  have push:∀c0:k_,(∃c,ah.lookup x=some c)->∃c,((n,c0)::ah).lookup x=some c:=λc0 ⟨c,hc⟩=>by
   rw[List.lookup_cons];cases x == n
   ·exact⟨c,hc⟩
   ·exact⟨c0,rfl⟩
  by_cases hk:(k == NV.free)=true
  ·rw[if_pos hk];refine yR ?_
   rcases h with h | h
   ·rcases D_.mp h with z | z
    ·cases z;exact .inr ⟨_,by rw[List.lookup_cons,beq_self_eq_true]⟩
    ·exact .inl z
   ·exact .inr (push _ h)
  ·rw[if_neg hk];refine yR ?_
   rcases h with h | h
   ·rcases D_.mp h with z | z
    ·cases z;exact absurd (by rfl) hk
    ·exact .inl z
   ·exact .inr h
structure CompScope(cr sc:Ql)(N N':List Str)(m:Nat):Prop where
 kind:sc.kind=.function
 nocell:∀y∈sc.names,y.2≠.cell
 locals:∀y∈sc.names,y.2=.local->sc.names.lookup y.1=some .local
 free:∀y∈sc.names,y.2=.free->cr.names.lookup y.1=some .cell\/cr.names.lookup y.1=some .free
 nd:N'.Nodup
 len:N'.length=m+N.length
 up:∀p∈(N'.drop m).zip N,((relab sc cr).names.lookup p.1=none)\/(p.1=p.2/\(relab sc cr).names.lookup p.1≠some .local)
noncomputable def cxC(X:Cx)(scope:Ql)(N':List Str)(C:k_)(s:c_)(H:Hp)(ex:List k_):Cx:=
 { X with N:=N',s₀:=s,H₀:=H,env:=compEnvC scope (clo X.env.cells scope.names []) C X.env,outer:=X.stack,stack:=X.stack,ex:=ex,fn:=λ_=>false,pn:=[],xe:=λ_ _=>False }
def PTs(X:Cx)(aZ:List Ny)(t:TT):Prop:=
 ∀(aa:List (k_×Obj)) (s:c_) (U:L2.St) (H:Hp) (Q:Bool->Hp->Prop),Inv X aa U H s->t U H Q →
  s_ (t_ X.prog X.w) X.A (forIn aZ true λc r=>if r=true then do let ok ←SG c X.env (Nr c X.env);pure (SO ok) else pure (SO r)) (TP X aa U Q) X.xe s
theorem HI:PTs X [] (λ_ H Q=>Q true H):=λaa s U H Q I h=>wpAny_tests_nil ⟨H,I,h⟩
theorem FZ{c:Ny}{t:TT}(h:PT X c t):PTs X [c] t:=λaa s U H Q I q=>wpAny_tests_one (h aa s U H Q I q)
abbrev calm(P:A_)(w:I_)(A:Oe){α:Type}(m:Sem α)(Q:α->c_->Prop)(s:c_):Prop:=s_ (t_ P w) A m Q (λ_ _=>False) s
theorem calm.on{P:A_}{w:I_}{α Z:Type}{m:Sem α}{f:α->Sem Z}{Q:α->c_->Prop}{K:Z->c_->Prop}{E:b_->c_->Prop}{s:c_}(h:calm P w A m Q s)(k:∀a s',Q a s'->s_ (t_ P w) A (f a) K E s'):s_ (t_ P w) A (m >>= f) K E s:=
 a_ (N2 h k λ_ _ no=>no.elim)
def TurnMeets(P:A_)(w:I_)(A:Oe)(cu hG:b_)(tg bm:Ny)(aZ:List Ny)(env:Env)(Sw bf:c_->Prop)(s:c_):Prop:=
 calm P w A (PL cu) (λey s=>match ey with
  | none=>bf s
  | some v=>calm P w A (P9 tg cu v) (λ_ s=>calm P w A (P8 tg env v) (λ_ s =>
    calm P w A (forIn aZ true λc r=>if r=true then do let ok ←SG c env (Nr c env);pure (SO ok) else pure (SO r)) (λju s =>
     cond ju (calm P w A (Nr bm env) (λx s=>calm P w A (call (.builtin "list.append") [hG,x]) (λ_ s=>Sw s) s) s) (Sw s)) s) s) s) s
theorem Ex{P:A_}{w:I_}{bf:Result->c_->Prop}{s:c_}{bm jv:Ny}{sc:Ql}{aT:Pos}{cu hG:b_}(W:Nat->c_->Prop)(fQ:∀left s,W left s->TurnMeets P w A cu hG tg bm aZ env (λs'=>∃SQ,SQ < left/\W SQ s') (bf (.ok .next)) s)(left:Nat)(start:W left s):
  Pp (t_ P w) A (.compLoop (.ListComp bm [⟨tg,jv,aZ,0⟩] sc aT) 0 cu hG env) bf s:=by
 refine codeAny_loop rfl W (λleft s here=>?_) left start;have turn:=fQ left s here;unfold TurnMeets at turn;refine wpAny_noted ?_;rw[compTurn_list];refine a_ (RS (turn.on λey s1 h1=>?_));cases ey with
 | none=>exact e_ h1
 | some v=>exact calm.on h1 λ_ _ h2=>calm.on h2 λ_ _ h3=>calm.on h3 λju s4 h4=>match ju,h4 with
  | false,h4=>e_ (Su rfl h4)
  | true,h4=>a_ (calm.on h4 λ_ _ h5=>calm.on h5 λ_ _ h6=>e_ (e_ (Su rfl h6)))
def Clear(X:Cx)(aa:List (k_×Obj))(H:Hp)(C:k_):Prop:=H C=none/\C≠X.env.locals/\X.s₀.heap.objs.size<=C/\(∀x c,X.env.cells.lookup x=some c->c≠C)/\∀p∈X.pn++aa,p.1≠C
theorem Inv.clear{H:Hp}{s:c_}{C:k_}(I:Inv X aa U H s)(c:Clear X aa H C)(hs:J_.SameBut C s.heap h'):Inv X aa U H { s with heap:=h' }:=
 I.turned (t':=s.toks) (λb o hb e=>(hs.2 b hb).trans e) c.1 c.2.1 (.inr c.2.2.1) c.2.2.2.1 c.2.2.2.2
def CompW(m:Nat)(J:It)(g:TG)(tt:TT)(te:TE)(U:L2.St)(H1:Hp)(p:k_)(Q:VK):Prop:=
 ∃W:Nat->Nat->L2.St->Hp->Prop,(∃n,W 0 n (NF m none++U) (upd H1 p (.lst [])))/\∀i n am H',W i n am H' →
  (J.stop i H'/\Q (.ref p) H')\/(J.go i H'/\∀x H2,J.yld i H' x H2->g x am H2 λa9 H3=>tt a9 H3 λb H4 =>
   if b=true then te a9 H4 λy H5=>∃ah,H5 p=some (.lst ah)/\ah.length < C_/\∃n',n' < n/\W (i+1) n' a9 (upd H5 p (.lst (ah++[y])))
   else ∃n',n' < n/\W (i+1) n' a9 H4)
section
variable{bm:Ny}{N':List Str}{g:TG}{tt:TT}{te:TE}
theorem zY{it:k_}{tn:Nat->J_->Prop}{J:It}{Q:VK}{E:b_->c_->Prop}(S:CompScope X.env.scope scope X.N N' m)(hc:X.calm=true)(hg:∀C s H ex,PG (cxC X scope N' C s H ex) tg g)(ht:∀C s H ex,PTs (cxC X scope N' C s H ex) aZ tt)(he:∀C s H ex,PE (cxC X scope N' C s H ex) bm te)(I2:Inv X aa U H2 s2)(T:Turn X.prog X.w X.K tg J fp it tn)(dJ:tn 0 s2.heap)(f2:∀b∈fp,FpOk X aa H2 b)(hw:∀p,H2 p=none->CompW m J g tt te U H2 p Q):
  s_ (t_ X.prog X.w) X.A (newList []) (λah s3=>s_ (t_ X.prog X.w) X.A (newFunctionEnv scope X.env.globals (clo X.env.cells scope.names []) [] X.env.qual none .none (some X.env)) (λcS s4 =>
   Pp (t_ X.prog X.w) X.A (.compStart (.ListComp bm [⟨tg,iter,aZ,0⟩] scope pos) 0 (.ref it) ah { cS with scope:=relabel scope X.env })
    (λr s'=>match r with | .ok _=>∃p H' mm,ah=.ref p/\s'.heap.Ns cS.locals mm/\Inv X aa U H' s'/\Clear X aa H' cS.locals/\Q (.ref p) H' | .error _=>False) s4) E s3) E s2:=by
 refine NC (wpAny_newFunctionEnv S.nocell (by intro y hy;simp at hy) (λh1 i5 i6=>?_) S.kind);dsimp only at i5 i6 ⊢
 -- the new list
 have hp:H2 s2.heap.objs.size=none:=I2.hok.fresh (v_ _);obtain⟨W,⟨n0,w0⟩,turn⟩:=hw _ hp;obtain⟨p,hP⟩:∃p,p=s2.heap.objs.size:=⟨_,rfl⟩;obtain⟨s3,jw⟩:∃s3:c_,s3={ s2 with heap:=s2.heap.push { cls:=.type "list", dict:=none,data:=.seq ([]:List b_).toArray } }:=⟨_,rfl⟩;obtain⟨C,hC⟩:∃C,C=s3.heap.objs.size:=⟨_,rfl⟩;obtain⟨H3,jx⟩:∃H3,H3=upd H2 p (.lst []):=⟨_,rfl⟩;have h3:s3.heap=s2.heap.push { cls:=.type "list", dict:=none,data:=.seq ([]:List b_).toArray }:=by rw[jw]
 have fR:h1.Ns C (λx=>([]:List (Str×b_)).reverse.lookup x):=by rw[hC,h3];exact i5
 have nB:J_.SameBut C (s3.heap.push { cls:=.type "dict", data:=.dict #[] }) h1:=by rw[hC,h3];exact i6
 rw[←hP] at hp;have nC:W 0 n0 (NF m none++U) H3:=by rw[jx,hP];exact w0
 have jy:∀i n am H',W i n am H'->(J.stop i H'/\Q (.ref p) H')\/(J.go i H'/\∀x H2,J.yld i H' x H2->g x am H2 λa9 H3=>tt a9 H3 λb H4 =>
   if b=true then te a9 H4 λy H5=>∃ah,H5 p=some (.lst ah)/\ah.length < C_/\∃n',n' < n/\W (i+1) n' a9 (upd H5 p (.lst (ah++[y])))
   else ∃n',n' < n/\W (i+1) n' a9 H4):=by rw[hP];exact turn
 have I3:Inv X aa U H3 s3:=by
  rw[jx,jw,hP];exact I2.laid (t':=s2.toks) (λb u e=>f_ _ e) (v_ _) ⟨NK _,[],0,.nil,x_ _ rfl⟩
 have fk:tn 0 s3.heap:=T.keep _ _ _ dJ λb _ o e=>by rw[h3];exact f_ _ e
 have f3:∀b∈fp,FpOk X aa H3 b:=λb hb=>by
  obtain⟨a0,a1⟩:=f2 b hb;refine⟨?_,a1⟩;obtain⟨o,e,_⟩:=T.obj _ _ dJ b hb
  have ne:b≠p:=λz=>by
   have:=E_ e;rw[←hP,z] at this;exact Oq _ this
  rw[jx,qH ne];exact a0
 -- the block's context
 have bC:∀x c,(clo X.env.cells scope.names []).lookup x=some c->X.env.cells.lookup x=some c:=λx c e=>by
  rcases v3 (mem_of_lookup e) with z | ⟨z1,z2⟩
  ·cases z
  ·obtain⟨c',aN⟩:=I2.ok.has x (S.free _ z1 rfl);rw[aN] at z2;rw[z2];exact aN
 have eW:Clear X aa H3 C:=by
  refine⟨?_,?_,?_,λx c e z=>?_,λq hq z=>?_⟩
  ·exact I3.hok.fresh (Sd hC.symm)
  ·have:=I3.lt;rw[←hC] at this;exact Qo this
  ·have:=I3.sz;rw[←hC] at this;exact this
  ·obtain⟨v,q⟩:=I3.cell x c e;have:=q.lt;rw[←hC,z] at this;exact Oq _ this
  ·have:=E_ (I3.pin q hq).1;rw[←hC,z] at this;exact Oq _ this
 have old:∀b o,s3.heap.get? b=some o->h1.get? b=some o:=λb o e=>by
  have ne:b≠C:=λz=>by have:=E_ e;rw[←hC,z] at this;exact Oq _ this
  exact(nB.2 b ne).trans (f_ _ e)
 have ok:(cxC X scope N' C s3 H3 fp).Ok:=by
  refine⟨I3.ok.mod,S.kind,I3.ok.glob,I3.ok.blt,Sd hC.symm,λx y c e1 e2=>I3.ok.inj x y c (bC x c e1) (bC y c e2),λx hx=>?_,λx c z=>(nomatch z),λz=>I3.ok.hd z,I3.ok.frames,.inl rfl,λb hb=>⟨λz=>?_,λx c e=>(f3 b hb).2.2.2.2.1 x c (bC x c e)⟩,I3.bs,z_ I3.ok.bsz I3.sz,λb o e hb=>?_,λb hb z=>?_,I3.stack,λb hb=>I3.stkFree b hb⟩
  ·-- has
   have fS:(relab scope X.env.scope).names.lookup x=some .cell\/(relab scope X.env.scope).names.lookup x=some .free:=hx
   have mem:∃k,(x,k)∈(relab scope X.env.scope).names/\(k=NV.cell\/k=NV.free):=by
    rcases fS with z | z
    ·exact⟨_,mem_of_lookup z,.inl rfl⟩
    ·exact⟨_,mem_of_lookup z,.inr rfl⟩
   obtain⟨k,hm,hk⟩:=mem;obtain⟨⟨n1,k1⟩,dz,e1⟩:=w_.mp hm;refine yR (.inl ?_);dsimp only at e1;by_cases hcond:(k1 == NV.free&&X.env.scope.kind == ScopeKind.function&&X.env.scope.names.lookup n1 == some NV.cell)=true
   ·rw[if_pos hcond] at e1;cases e1
    have:k1=.free:=by
     simp only[Nx,beq_iff_eq] at hcond;exact hcond.1.1
    rw[←this];exact dz
   ·rw[if_neg hcond] at e1;cases e1
    rcases hk with rfl | rfl
    ·exact absurd rfl (S.nocell _ dz)
    ·exact dz
  ·obtain⟨o,e,_⟩:=T.obj _ _ fk b hb;have:=E_ e;rw[←hC] at this;have z':b=C:=z;rw[z'] at this;exact Oq _ this
  ·obtain⟨a0,a1,a2,a3,_⟩:=f3 b hb
   rcases a3 with z | z
   ·exact I3.ok.noex b o e z
   ·exact absurd (G_ (E_ e) (z_ I3.ok.bsz z)) (Oq _)
  ·have z':=I3.stkSub b z;obtain⟨a0,a1,a2,_⟩:=f3 b hb
   rcases D_.mp z' with e | e
   ·exact a1 e
   ·exact a2 e
 -- the block's first state
 have I4:Inv (cxC X scope N' C s3 H3 fp) [] (NF m none++U) H3 { s3 with heap:=h1,toks:=s3.toks+([]:List (Str×b_)).length }:=by
  obtain⟨mo,pZ,kG⟩:=I3.loc;refine⟨ok,rfl,I3.bare,Un.kept old,⟨_,fR,λi x v e1 e2 e3=>?_⟩,λx c e=>?_,eW.1,λx c e=>I3.freeC x c (bC x c e),λq hq=>absurd (show q∈([]:List (k_×Obj)) from hq) (by simp),I3.hok.kept old,?_⟩
  ·have hi:m<=i:=by
    by_cases z:m<=i
    ·exact z
    ·rw[Ou (by rw[Nu];omega),OH] at e2;split at e2<;>cases e2
   rw[N7 (by rw[Nu];exact hi),Nu] at e2;have ez:N'[i]?=some x:=e1
   have cg:i - m < X.N.length:=by
    have:=(p_.mp ez).1;rw[S.len] at this;omega
   have e4:(N'.drop m)[i - m]?=some x:=by rw[PP];rw[show m+(i - m)=i from by omega];exact ez
   have e5:X.N[i - m]?=some X.N[i - m]:=g_ cg;have e6:((N'.drop m).zip X.N)[i - m]?=some (x,X.N[i - m]):=by rw[Pa];exact⟨e4,e5⟩
   have kN:Vis (relab scope X.env.scope) x:=e3
   rcases S.up _ (B_ e6) with z | ⟨z1,z2⟩
   ·have z':(relab scope X.env.scope).names.lookup x=none:=z
    rcases kN with y | y | y<;>rw[z'] at y<;>cases y
   ·have fT:x=X.N[i - m]:=z1;have nD:(relab scope X.env.scope).names.lookup x≠some .local:=z2
    have kO:(relab scope X.env.scope).names.lookup x=some .cell\/(relab scope X.env.scope).names.lookup x=some .free:=by
     rcases kN with y | y | y
     ·exact absurd y nD
     ·exact .inl y
     ·exact .inr y
    obtain⟨c,fv⟩:=ok.has x kO;have nE:=bC x c fv
    -- the name in the def's own frame
    have mem:(x,NV.free)∈scope.names:=by
     rcases v3 (mem_of_lookup fv) with y | ⟨y,_⟩
     ·cases y
     ·exact y
    have kP:Vis X.env.scope x:=by
     rcases S.free _ mem rfl with y | y
     ·exact .inr (.inl y)
     ·exact .inr (.inr y)
    obtain⟨u,ru,l⟩:=kG (i - m) x v (by rw[e5,←fT]) e2 kP;refine⟨u,ru,.inr ⟨kO,c,fv,?_⟩⟩
    rcases l with⟨k,_⟩ | ⟨_,c',e',z'⟩
    ·have k':X.env.scope.names.lookup x=some .local:=k
     rcases S.free _ mem rfl with y | y<;>(have y':X.env.scope.names.lookup x=_:=y;rw[k'] at y';cases y')
    ·rw[nE] at e';cases e';exact z'.keeps old
  ·obtain⟨v,q⟩:=I3.cell x c (bC x c e);exact⟨v,q.keeps old⟩
  ·show(NF m none++U).length=N'.length;rw[o_,Nu,S.len,I3.len]
 have cQ:∀{H':Hp},(∀b∈fp,H' b=none)->∀b∈fp,FpOk (cxC X scope N' C s3 H3 fp) [] H' b:=λ{H'} hn b hb=>by
  refine⟨hn b hb,(ok.exf b hb).1,ok.exfs b hb,.inl hb,(ok.exf b hb).2,λq hq=>absurd (show q∈([]:List (k_×Obj)) from hq) (by simp)⟩
 -- what stands behind the block
 have back:∀{am:L2.St}{H':Hp}{s':c_},Inv (cxC X scope N' C s3 H3 fp) [] am H' s'->Inv X aa U H' s'/\Clear X aa H' C:=λ{am H' s'} J'=>by
  refine⟨I3.call' J'.os J'.base J'.hok J'.bare λb hb=>?_,J'.free,eW.2⟩;obtain⟨a0,a1,a2,a3,a4,a5⟩:=f3 b hb;exact⟨a3,a1,a4,a5⟩
 have ce:∀s4:c_,s4={ s3 with heap:=h1,toks:=s3.toks+([]:List (Str×b_)).length } →
   Pp (t_ X.prog X.w) X.A (.compLoop (.ListComp bm [⟨tg,iter,aZ,0⟩] scope pos) 0 (.ref it) (.ref p) (compEnvC scope (clo X.env.cells scope.names []) C X.env))
    (λr s'=>match r with | .ok _=>∃p' H' mm,b_.ref p=.ref p'/\s'.heap.Ns C mm/\Inv X aa U H' s'/\Clear X aa H' C/\Q (.ref p') H' | .error _=>False) s4:=by
  rintro s4 rfl;refine Ex (λn s'=>∃i am H',Inv (cxC X scope N' C s3 H3 fp) [] am H' s'/\tn i s'.heap/\(∀b∈fp,H' b=none)/\W i n am H') ?_ n0 ⟨0,_,_,I4,T.keep _ _ _ fk λb _ o e=>old b o e,λb hb=>(f3 b hb).1,nC⟩;rintro n s5 ⟨i,cY,H5,I5,fo,gU,w5⟩;show TurnMeets _ _ _ _ _ _ _ _ _ _ _ _;unfold TurnMeets
  rcases jy i n cY H5 w5 with⟨stop,qn⟩ | ⟨go,step⟩
  ·refine N2 (T.done (cxC X scope N' C s3 H3 fp) rfl rfl rfl hc i [] s5 cY H5 (λ_ _=>False) I5 (cQ gU) fo stop) (λr s6 ⟨hr,I6⟩=>?_) λ_ _ z=>z
   subst hr;obtain⟨mm,nF,_⟩:=I6.loc;obtain⟨b1,b2⟩:=back I6;exact⟨p,H5,mm,rfl,nF,b1,b2,qn⟩
  ·refine N2 (T.item (cxC X scope N' C s3 H3 fp) rfl rfl rfl hc i [] s5 cY H5 (λ_ _=>False) I5 (cQ gU) fo go) (λr s6 ⟨u,hr,h6⟩=>?_) λ_ _ z=>z
   subst hr;refine N2 h6 (λ_ s7 ⟨x,H7,I7,r7,y7,jz,nG⟩=>?_) λ_ _ z=>z
   have nH:=I7.pinned (cQ nG) (T.obj _ _ jz);refine N2 (hg C s3 H3 fp _ s7 cY H7 x u _ nH r7 (step x H7 y7)) (λ_ s8 ⟨fU,H8,I8,q8⟩=>?_) λ_ _ z=>z
   refine N2 (ht C s3 H3 fp _ s8 fU H8 _ I8 q8) (λok s9 ⟨H9,I9,q9⟩=>?_) λ_ _ z=>z
   have Sw:∀{kQ:L2.St}{Ha:Hp}{sa:c_},Inv (cxC X scope N' C s3 H3 fp) ([]++pinsAt fp s7.heap) kQ Ha sa->tn (i+1) sa.heap/\(∀b∈fp,Ha b=none):=λ{kQ Ha sa} Ia=>by
    refine⟨T.keep _ _ _ jz λb hb o e=>(Ia.pin (b,o) (F_ _ (F_ _ (vt hb e)))).1,λb hb=>?_⟩;obtain⟨o,e,d⟩:=T.obj _ _ jz b hb;exact(Ia.pin (b,o) (F_ _ (F_ _ (vt hb e)))).2.1
   cases ok with
   | false =>
    rw[if_neg i_] at q9;obtain⟨n',fE,w9⟩:=q9;obtain⟨a1,a2⟩:=Sw I9;exact⟨n',fE,i+1,fU,H9,I9.unpinned,a1,a2,w9⟩
   | true =>
    rw[if_pos rfl] at q9;refine N2 (he C s3 H3 fp _ s9 fU H9 _ I9 q9) (λxv nI ⟨y,kR,nJ,nK,ah,kS,hl,n',fE,nL⟩=>?_) λ_ _ z=>z
    refine N2 (w6 (X:=cxC X scope N' C s3 H3 fp) _ nI fU kR (.ref p) [y] (.ref p) [xv] (λ_ H'=>H'=upd kR p (.lst (ah++[y]))) nJ rfl (.cons nK .nil) ⟨p,ah,y,rfl,rfl,kS,hl,rfl⟩) (λ_ qa ⟨qb,qc,kT,_,nM⟩=>?_) λ_ _ z=>z
    subst nM;obtain⟨a1,a2⟩:=Sw kT;exact⟨n',fE,i+1,fU,_,kT.unpinned,a1,a2,nL⟩
 subst hC;subst jw;subst hP;refine codeAny_compStart_list ?_ (T.self X.A 0 _ _ _ (T.keep _ _ _ fk λb _ o e=>old b o e) ?_)
 ·exact ce _ rfl
 ·exact ce _ rfl
end
section
variable{bm:Ny}{N':List Str}{g:TG}{tt:TT}{te:TE}{wi:TI}
noncomputable def tComp(m:Nat)(wi:TI)(g:TG)(tt:TT)(te:TE):TE:=λU H Q=>wi U H λJ H1=>∀p,H1 p=none->CompW m J g tt te U H1 p Q
theorem KP(S:CompScope X.env.scope scope X.N N' m)(hc:X.calm=true)(hi:PI X tg iter wi)(hg:∀C s H ex,PG (cxC X scope N' C s H ex) tg g)(ht:∀C s H ex,PTs (cxC X scope N' C s H ex) aZ tt)(he:∀C s H ex,PE (cxC X scope N' C s H ex) bm te)(hs:∀x,NR iter X.env x=pure x:=by intros;rfl):PE X (.ListComp bm [⟨tg,iter,aZ,0⟩] scope pos) (tComp m wi g tt te):=by
 intro aa s U H Q I h;rw[eval_ListComp];refine QQ (use:=none) rfl hs (BM λn hn=>I.ok.has n (S.free _ hn rfl)) S.kind S.locals (thn (hi aa s U H _ I h) λxv s1 h1=>thn h1 λgT s2 h2=>?_);obtain⟨it,fp,tn,J,H2,e,I2,T,dJ,f2,hw⟩:=h2;subst e;refine thn (zY (pos:=pos) (iter:=iter) S hc hg ht he I2 T dJ f2 hw) λah s3 h3=>thn h3 λcS s4 h4=>O6 h4 λr s5 h5=>?_
 cases r with
 | error x=>exact h5.elim
 | ok fl =>
  obtain⟨p,H5,mm,rfl,hn,I5,cl,q⟩:=h5;exact⟨mm,hn,λh' fw=>⟨.ref p,H5,Inv.clear I5 cl fw,rfl,q⟩⟩
theorem yM(S:CompScope X.env.scope scope X.N N' m)(hc:X.calm=true)(hN:X.N.Nodup)(bj:X.N[i]?=some y)(hy:X.env.scope.names.lookup y=some .local)(hi:PI X tg iter wi)(hg:∀C s H ex,PG (cxC X scope N' C s H ex) tg g)(ht:∀C s H ex,PTs (cxC X scope N' C s H ex) aZ tt)(he:∀C s H ex,PE (cxC X scope N' C s H ex) bm te)(eA:N8 (.ListComp bm [⟨tg,iter,aZ,0⟩] scope pos) (some (.Name y py)) bM.line X.env=pure true)(hs:∀x,NR iter X.env x=pure x:=by intros;rfl):PS X (.Assign [.Name y py] (.ListComp bm [⟨tg,iter,aZ,0⟩] scope pos) bM) (tAsg (tComp m wi g tt te) (gName i)):=by
 intro aa s U H D I h;rw[exec_Assign_Name_used _ _ _ _ eA];refine a_ (RS (a_ ?_));show s_ _ X.A (do let _ ←comprehension (.ListComp bm [⟨tg,iter,aZ,0⟩] scope pos) scope X.env _ (newList []) false (Nr iter X.env) (some (P8 (.Name y py) X.env))) _ _ s
 refine a_ (thn (QQ (use:=some (P8 (.Name y py) X.env)) (Q:=λ_ s'=>SP X aa D .next s') rfl hs (BM λn hn=>I.ok.has n (S.free _ hn rfl)) S.kind S.locals
  (thn (hi aa s U H _ I h) λxv s1 h1=>thn h1 λgT s2 h2=>?_)) λ_ s' hq=>e_ (e_ hq))
 obtain⟨it,fp,tn,J,H2,e,I2,T,dJ,f2,hw⟩:=h2;subst e;refine thn (zY (pos:=pos) (iter:=iter) S hc hg ht he I2 T dJ f2 hw) λah s3 h3=>thn h3 λcS s4 h4=>O6 h4 λr s5 h5=>?_
 cases r with
 | error x=>exact h5.elim
 | ok fl =>
  obtain⟨p,H5,mm,rfl,hn,I5,cl,q⟩:=h5;show s_ _ X.A (P8 (.Name y py) X.env (.ref p)) _ _ s5;refine R8 (AQ (v:=.ref p) I5 hN bj (.inl hy) rfl (λs6 I6 ⟨a,nN,ha⟩=>?_) (.inr hy))
  have fj:cS.locals≠a:=by
   rcases ha with rfl | ha
   ·exact cl.2.1
   ·exact λz=>cl.2.2.2.1 y a ha z.symm
  refine⟨mm,hn.sameBut nN fj,λh' fw=>?_⟩;have nO:Clear X aa H5 cS.locals:=cl;exact⟨_,H5,Inv.clear I6 nO fw,q⟩
end
noncomputable def inC{α:Type}(m:Nat)(g:M α):M α:=λY=>match g (NF m none++Y) with
 | some (a,af)=>some (a,af.drop m)
 | none=>none
noncomputable def compM(aE:D->M Unit)(ts:M Bool)(el:M D):List D->M (List D)
 | []=>ret []
 | d::ds=>bnd (aE d) λ_=>bnd ts λb=>if b then bnd el λx=>bnd (compM aE ts el ds) λr=>ret (x::r) else compM aE ts el ds
noncomputable def compO(m:Nat)(it:M (List D))(aE:D->M Unit)(ts:M Bool)(el:M D):M (List D):=bnd it λds=>if ds.length<=lim then inC m (compM aE ts el ds) else λ_=>none
noncomputable def bUp(m:Nat)(B:BB):BB:=λi=>if i < m then none else B (i - m)
theorem GN{α:Type}{g:M α}{a:α}(h:inC m g Y=some (a,af)):∃ac,g (NF m none++Y)=some (a,ac)/\af=ac.drop m:=by
 unfold inC at h;cases e:g (NF m none++Y) with
 | none=>rw[e] at h;cases h
 | some q=>obtain⟨b,ac⟩:=q;rw[e] at h;cases h;exact⟨ac,rfl,rfl⟩
section
variable{K:PySem.W.Frag}{B:BB}{H:Hp}{am:L2.St}
theorem tZ{α:Type}{l:List (Option α)}{m:Nat}{a:α}(h:(NF m (none:Option α)++l)[i]?=some (some a)):m<=i/\l[i - m]?=some (some a):=by
 by_cases hi:m<=i
 ·rw[N7 (by rw[Nu];exact hi),Nu] at h;exact⟨hi,h⟩
 ·rw[Ou (by rw[Nu];omega),OH] at h;split at h<;>cases h
theorem AC{α:Type}{l:List (Option α)}{m:Nat}(hi:m<=i):(NF m (none:Option α)++l)[i]?=l[i - m]?:=by
 rw[N7 (by rw[Nu];exact hi),Nu]
theorem Rep.up(r:Rep K B G I H U Y)(m:Nat):Rep K (bUp m B) G I H (NF m none++U) (NF m none++Y) where
 iH:=r.iH
 gH:=r.gH
 len:=by rw[o_,o_,Nu,Nu,r.len]
 slot:=λi q e=>by
  obtain⟨hi,e1⟩:=tZ e;obtain⟨v,e2,e3⟩:=r.slot _ q e1;exact⟨v,by rw[AC hi];exact e2,e3⟩
 dist:=λi j q q' v e e' mm jA s1 s2=>by
  obtain⟨hi,e1⟩:=tZ e;obtain⟨hj,e2⟩:=tZ e';have:=r.dist _ _ q q' v e1 e2 mm jA (tZ s1).2 (tZ s2).2;omega
 bor:=λi ds e=>by
  obtain⟨hi,e1⟩:=tZ e;rw[AC hi,r.bor _ ds e1];unfold bUp;rw[if_neg (by omega)]
theorem Rep.down(r:Rep K (bUp m B) G I H am af)(hs:am.drop m=U):Rep K B G I H U (af.drop m):=by
 subst hs
 exact {
  iH:=r.iH,gH:=r.gH
  len:=by rw[PZ,PZ,r.len]
  slot:=λi q e=>by
   rw[PP] at e;obtain⟨v,e2,e3⟩:=r.slot _ q e;exact⟨v,by rw[PP];exact e2,e3⟩
  dist:=λi j q q' v e e' mm jA s1 s2=>by
   rw[PP] at e e' s1 s2;have:=r.dist _ _ q q' v e e' mm jA s1 s2;omega
  bor:=λi ds e=>by
   rw[PP] at e ⊢;rw[r.bor _ ds e];unfold bUp;rw[if_neg (by omega)]
   congr 1
   omega }
theorem Rep.guard(r:Rep K B G I H U Y){p:k_}(h:H p=none)(o:HO):Rep K B (upd G p o) I (upd H p o) U Y where
 iH:=r.iH.trans (rl h o)
 gH:=wX r.gH o
 len:=r.len
 slot:=λi q e=>by
  obtain⟨v,e1,e2⟩:=r.slot i q e;refine⟨v,e1,?_⟩
  have mt:∀ds,Mt K G I H ds v->Mt K (upd G p o) I (upd H p o) ds v:=λds hh=>by
   obtain⟨p2,xs,h1,h2,h3,h4,h5⟩:=hh;have ne:p2≠p:=r8 h2 h;exact⟨p2,xs,h1,by rw[qH ne];exact h2,h3,by rw[qH ne];exact h4,h5⟩
  cases q with
  | val d=>exact e2
  | dic ds =>
   obtain⟨p2,xs,h1,h2,h3,h4,h5⟩:=e2;have ne:p2≠p:=r8 h2 h;exact⟨p2,xs,h1,by rw[qH ne];exact h2,h3,by rw[qH ne];exact h4,h5⟩
  | own ds=>exact mt ds e2
  | bor ds=>exact mt ds e2
  | tfr ds=>exact e2.elim
  | fro ds =>
   obtain⟨p2,xs,f1,f2,f3,f4⟩:=e2;have ne:p2≠p:=r8 (r.iH _ _ f2) h;exact⟨p2,xs,f1,f2,by rw[qH ne];exact f3,f4⟩
 dist:=r.dist
 bor:=r.bor
theorem Rep.reguard{p:k_}{o':HO}(r:Rep K B (upd G p o) I H U Y)(hi:I p=none):Rep K B (upd G p o') I (upd H p o') U Y where
 iH:=λb u q=>by
  have ne:b≠p:=λz=>by subst z;rw[hi] at q;cases q
  rw[qH ne];exact r.iH b u q
 gH:=λb u q=>by
  by_cases e:b=p
  ·subst e;rw[qQ] at q ⊢;exact q
  ·rw[qH e] at q ⊢;exact r.gH b u (by rw[qH e];exact q)
 len:=r.len
 slot:=λi q e=>by
  obtain⟨v,e1,e2⟩:=r.slot i q e;refine⟨v,e1,?_⟩
  have mt:∀ds,Mt K (upd G p o) I H ds v->Mt K (upd G p o') I (upd H p o') ds v:=λds hh=>by
   obtain⟨p2,xs,h1,h2,h3,h4,h5⟩:=hh;have ne:p2≠p:=λz=>by subst z;rw[qQ] at h4;cases h4
   rw[qH ne] at h4;exact⟨p2,xs,h1,by rw[qH ne];exact h2,h3,by rw[qH ne];exact h4,h5⟩
  cases q with
  | val d=>exact e2
  | dic ds =>
   obtain⟨p2,xs,h1,h2,h3,h4,h5⟩:=e2;have ne:p2≠p:=λz=>by subst z;rw[qQ] at h4;cases h4
   rw[qH ne] at h4;exact⟨p2,xs,h1,by rw[qH ne];exact h2,h3,by rw[qH ne];exact h4,h5⟩
  | own ds=>exact mt ds e2
  | bor ds=>exact mt ds e2
  | tfr ds=>exact e2.elim
  | fro ds =>
   obtain⟨p2,xs,f1,f2,f3,f4⟩:=e2;have ne:p2≠p:=λz=>by rw[z,hi] at f2;cases f2
   rw[qH ne] at f3;exact⟨p2,xs,f1,f2,by rw[qH ne];exact f3,f4⟩
 dist:=r.dist
 bor:=r.bor
theorem Rep.unguard{p:k_}(r:Rep K B (upd G p o) I H U Y)(hg:G p=none):Rep K B G I H U Y/\Apart U Y p:=by
 have ap:Apart U Y p:=λj q e mm s=>by
  obtain⟨v,e1,e2⟩:=r.slot j q e;obtain⟨p2,xs,h1,h2,h3,h4⟩:=e2.mt mm;rw[e1,h1] at s;cases s;rw[qQ] at h4;cases h4
 refine⟨{ iH:=r.iH,gH:=(rl hg o).trans r.gH,len:=r.len,slot:=λi q e=>?_,dist:=r.dist,bor:=r.bor },ap⟩;obtain⟨v,e1,e2⟩:=r.slot i q e;refine⟨v,e1,?_⟩
 have mt:∀ds,Mt K (upd G p o) I H ds v->Mt K G I H ds v:=λds hh=>by
  obtain⟨p2,xs,h1,h2,h3,h4,h5⟩:=hh;have ne:p2≠p:=λz=>by subst z;rw[qQ] at h4;cases h4
  rw[qH ne] at h4;exact⟨p2,xs,h1,h2,h3,h4,h5⟩
 cases q with
 | val d=>exact e2
 | dic ds =>
  obtain⟨p2,xs,h1,h2,h3,h4,h5⟩:=e2;have ne:p2≠p:=λz=>by subst z;rw[qQ] at h4;cases h4
  rw[qH ne] at h4;exact⟨p2,xs,h1,h2,h3,h4,h5⟩
 | own ds=>exact mt ds e2
 | bor ds=>exact mt ds e2
 | tfr ds=>exact e2.elim
 | fro ds =>
  obtain⟨p2,xs,f1,f2,f3,f4⟩:=e2;have ne:p2≠p:=λz=>by rw[z,qQ] at f3;cases f3
  rw[qH ne] at f3;exact⟨p2,xs,f1,f2,f3,f4⟩
theorem Grow.unguard{p:k_}(g:Grow (upd G p o) I I'):Grow G I I':=⟨g.up,λb u q=>by
 rcases g.new b u q with z | z
 ·exact .inl z
 ·by_cases e:b=p
  ·subst e;rw[qQ] at z;cases z
  ·rw[qH e] at z;exact .inr z⟩
theorem Grow.keepsOut{p:k_}(g:Grow (upd G p o) I I')(hi:I p=none):I' p=none:=by
 cases e:I' p with
 | none=>rfl
 | some u =>
  rcases g.new p u e with z | z
  ·rw[hi] at z;cases z
  ·rw[qQ] at z;cases z
end
section
variable{B:BB}{bm:Ny}{N':List Str}
def TDs(X:Cx)(B:BB)(aZ:List Ny)(g:M Bool):Prop:=PTs X aZ (tTD X.K B g)
theorem rN:TDs X B [] (ret true):=λaa s U H Q I h=>HI aa s U H Q I (by
 obtain⟨G,I,Y,b,af,r,e1,k⟩:=h;cases e1
 exact k _ _ r (Grow.refl _ _))
theorem rY{c:Ny}{g:M Bool}(h:TD X B c g):TDs X B [c] g:=FZ h
theorem vg{K:PySem.W.Frag}:∀U H Q,tO K B (compO m it aE ts el) U H Q->tComp m (tI K B it) (tGD K (bUp m B) m aE) (tTD K (bUp m B) ts) (tD K (bUp m B) el) U H Q:=λU H Q q=>by
 obtain⟨G,I,Y,rs,af,r,e1,k⟩:=q;obtain⟨ds,ac,e2,e3⟩:=qE e1;by_cases eX:ds.length<=lim
 case neg=>rw[if_neg eX] at e3;cases e3
 rw[if_pos eX] at e3;obtain⟨cG,e4,rfl⟩:=GN e3;refine⟨G,I,Y,ds,ac,r,e2,λJ H1 I1 r1 g1 y p hp=>?_⟩;have gp:=r1.gFree hp;have ip:=r1.iFree hp
 refine⟨λi n am H'=>∃ah ad I2 ag aj,Rep K (bUp m B) (upd G p (.lst ah)) I2 H' am ag/\Grow G I1 I2/\I2 p=none/\IsA K I2 ad ah/\am.drop m=U/\compM aE ts el (ds.drop i) ag=some (aj,cG)/\ad++aj=rs/\ad.length<=i/\i<=ds.length/\n=ds.length - i,
  ⟨ds.length,[],[],I1,_,rs,(r1.up m).guard hp _,Grow.refl _ _,ip,IsA.nil,by rw[List.drop_append_of_le_length (by simp),Pq (by simp),List.nil_append],by simpa using e4,rfl,NK _,NK _,rfl⟩,?_⟩
 rintro i n a9 H2 ⟨ah,ad,I2,ag,aj,r2,g2,jB,ha,hs,e5,rfl,qe,hi,rfl⟩;obtain⟨yg,ys⟩:=y i H2 (g2.up.trans r2.iH);by_cases bH:i < ds.length
 ·have hd:ds.drop i=ds[i]::ds.drop (i+1):=NM bH;obtain⟨go,yld⟩:=yg ds[i] (g_ bH);rw[hd,compM] at e5;obtain⟨u,aL,e6,e7⟩:=qE e5;obtain⟨b,aS,e8,e9⟩:=qE e7;refine .inr ⟨go,λx H3 hy=>?_⟩
  have main:∀I3,Rep K (bUp m B) (upd G p (.lst ah)) I3 H3 a9 ag->Grow (upd G p (.lst ah)) I2 I3->Is K I3 ds[i] x->tGD K (bUp m B) m aE x a9 H3 λa9 H3=>tTD K (bUp m B) ts a9 H3 λb H4 =>
    if b=true then tD K (bUp m B) el a9 H4 λy H5=>∃ah,H5 p=some (.lst ah)/\ah.length < C_/\∃n',n' < ds.length - i/\∃acc_1 ad_1 I2 ag rest_1,Rep K (bUp m B) (upd G p (.lst acc_1)) I2 (upd H5 p (.lst (ah++[y]))) a9 ag/\Grow G I1 I2/\I2 p=none/\IsA K I2 ad_1 acc_1/\a9.drop m=U/\compM aE ts el (ds.drop (i+1)) ag=some (rest_1,cG)/\ad_1++rest_1=ad++aj/\ad_1.length<=i+1/\i+1<=ds.length/\n'=ds.length - (i+1)
    else ∃n',n' < ds.length - i/\∃ah ad_1 I2 ag rest_1,Rep K (bUp m B) (upd G p (.lst ah)) I2 H4 a9 ag/\Grow G I1 I2/\I2 p=none/\IsA K I2 ad_1 ah/\a9.drop m=U/\compM aE ts el (ds.drop (i+1)) ag=some (rest_1,cG)/\ad_1++rest_1=ad++aj/\ad_1.length<=i+1/\i+1<=ds.length/\n'=ds.length - (i+1):=by
   intro I3 r3 g3 hx;refine⟨_,I3,ag,ds[i],aL,r3,hx,e6,λkJ H4 I4 r4 g4 nP=>⟨_,I4,aL,b,aS,r4,e8,λH5 I5 r5 g5=>?_⟩⟩;have hU:=g3.trans (g4.trans g5);have fw:kJ.drop m=U:=nP.trans hs;cases b with
   | false =>
    refine iteF ⟨ds.length - (i+1),by omega,ah,ad,I5,aS,aj,r5,g2.trans hU.unguard,hU.keepsOut jB,ha.mono hU.up,fw,by simpa using e9,rfl,by omega,bH,rfl⟩
   | true =>
    simp only[if_true] at e9;obtain⟨xd,dQ,f1,f2⟩:=qE e9;obtain⟨rr,fV,f3,f4⟩:=qE f2;cases f4;refine iteT ⟨_,I5,aS,xd,dQ,r5,f1,λyv H6 I6 r6 g6 nQ=>⟨ah,r6.gH _ _ qQ,?_,ds.length - (i+1),by omega,ah++[yv],ad++[xd],I6,dQ,rr,?_⟩⟩
    ·rw[←ha.length];have h1:lim < C_:=by rw[Of];decide
     omega
    ·have jC:=hU.trans g6;have kU:=jC.keepsOut jB;exact⟨r6.reguard kU,g2.trans jC.unguard,kU,IsA.append (ha.mono jC.up) (IsA.cons nQ IsA.nil),fw,f3,by rw[Oc];rfl,by rw[o_,Oo];omega,bH,rfl⟩
  rcases yld x H3 hy with⟨rfl,hx⟩ | ⟨p2,es,xs,df,rfl,dy,rfl,hx⟩
  ·exact main I2 r2 (Grow.refl _ _) (hx.mono g2.up)
  ·refine main _ (r2.alloc dy _) (r2.growAlloc dy _) ?_;rw[df];exact Is.tup (SqT.of qQ) ((hx.mono g2.up).mono (rl (r2.iFree dy) _))
 ·have cg:i=ds.length:=by omega
  subst cg;rw[List.drop_length] at e5;cases e5;rw[N3] at k;refine .inl ⟨ys (v_ _),?_⟩;have rd:=Rep.down r2 hs;obtain⟨ru,ap⟩:=rd.unguard gp;exact k p ah H2 I2 ru (g1.trans g2) (r2.gH _ _ qQ) jB gp ap ha
theorem rq(S:CompScope X.env.scope scope X.N N' m)(hc:X.calm=true)(hi:ITD X B tg iter it)(hg:∀C s H ex,GD (cxC X scope N' C s H ex) (bUp m B) m tg aE)(ht:∀C s H ex,TDs (cxC X scope N' C s H ex) (bUp m B) aZ ts)(he:∀C s H ex,ED (cxC X scope N' C s H ex) (bUp m B) bm el)(hs:∀x,NR iter X.env x=pure x:=by intros;rfl):EO X B (.ListComp bm [⟨tg,iter,aZ,0⟩] scope pos) (compO m it aE ts el):=PE.imp (KP (g:=tGD X.K (bUp m B) m aE) (tt:=tTD X.K (bUp m B) ts) (te:=tD X.K (bUp m B) el) S hc hi hg ht he hs) vg
theorem IL(S:CompScope X.env.scope scope X.N N' m)(hc:X.calm=true)(hN:X.N.Nodup)(hi:ITD X B tg iter it)(hg:∀C s H ex,GD (cxC X scope N' C s H ex) (bUp m B) m tg aE)(ht:∀C s H ex,TDs (cxC X scope N' C s H ex) (bUp m B) aZ ts)(he:∀C s H ex,ED (cxC X scope N' C s H ex) (bUp m B) bm el)(bj:X.N[i]?=some y:=by rfl)(hy:X.env.scope.names.lookup y=some .local:=by rfl)(eA:N8 (.ListComp bm [⟨tg,iter,aZ,0⟩] scope pos) (some (.Name y py)) bM.line X.env=pure true:=by rfl)(hs:∀x,NR iter X.env x=pure x:=by intros;rfl):SD X B (.Assign [.Name y py] (.ListComp bm [⟨tg,iter,aZ,0⟩] scope pos) bM) (setO i (compO m it aE ts el)):=PS.imp (yM (g:=tGD X.K (bUp m B) m aE) (tt:=tTD X.K (bUp m B) ts) (te:=tD X.K (bUp m B) el) S hc hN bj hy hi hg ht he eA hs) λE U H q=>by
 have z:=Aq E U H q;exact vg U H _ z
theorem vo(S:CompScope X.env.scope scope X.N N' m)(hc:X.calm=true)(hN:X.N.Nodup)(hi:ITD X B tg iter it)(hg:∀C s H ex,GD (cxC X scope N' C s H ex) (bUp m B) m tg aE)(ht:∀C s H ex,TDs (cxC X scope N' C s H ex) (bUp m B) aZ ts)(he:∀C s H ex,ED (cxC X scope N' C s H ex) (bUp m B) bm el)(bj:X.N[i]?=some y:=by rfl)(hy:X.env.scope.names.lookup y=some .local:=by rfl)(eA:N8 (.ListComp bm [⟨tg,iter,aZ,0⟩] scope pos) (some (.Name y py)) bM.line X.env=pure true:=by rfl)(hs:∀x,NR iter X.env x=pure x:=by intros;rfl):SD X B (.Assign [.Name y py] (.ListComp bm [⟨tg,iter,aZ,0⟩] scope pos) bM) (setV i (frz (compO m it aE ts el))):=PS.imp (yM (g:=tGD X.K (bUp m B) m aE) (tt:=tTD X.K (bUp m B) ts) (te:=tD X.K (bUp m B) el) S hc hN bj hy hi hg ht he eA hs) λE U H q=>by
 obtain⟨G,I,Y,f,af,r,e1,k⟩:=q;obtain⟨d1,ac,e2,e3⟩:=qE e1;obtain⟨d2,ag,e4,e5⟩:=qE e3;cases e5;obtain⟨hl,rfl⟩:=tF e4;obtain⟨ds,aL,e6,e7⟩:=qE e2;cases e7;refine vg U H _ ⟨G,I,Y,ds,_,r,e6,λp xs H1 I1 r1 g1 h1 h2 h3 h4 h5=>?_⟩;refine k _ H1 _ ((r1.freeze h1 h2 h4).store (by rw[r1.len];exact hl) (Is.lst (RdK.of qQ) (h5.mono (rl h2 _))) (λm=>nomatch m) (λ_ z=>nomatch z)) (g1.trans (growFreeze h2 h3))
end
mutual
noncomputable def deq:D->D->Bool
 | .non,.non=>true
 | .bl a,.bl b=>a == b
 | .bl a,.int j=>(if a then(1:Int) else 0) == j
 | .int i,.bl b=>i == (if b then(1:Int) else 0)
 | .int i,.int j=>i == j
 | .str x,.str y=>x == y
 | .tup xs,.tup ys=>deqA xs ys
 | .lst xs,.lst ys=>deqA xs ys
 | _,_=>false
noncomputable def deqA:List D->List D->Bool
 | [],[]=>true
 | x::xs,y::ys=>deq x y&&deqA xs ys
 | _,_=>false
end
mutual
noncomputable def dep:D->Nat
 | .tup xs=>depA xs+1
 | .lst xs=>depA xs+1
 | _=>0
noncomputable def depA:List D->Nat
 | []=>0
 | x::xs=>max (dep x) (depA xs)
end
mutual
theorem uN:∀a:D,deq a a=true
 | .non=>by rw[deq]
 | .bl b=>by rw[deq];exact beq_self_eq_true b
 | .int b=>by rw[deq];exact beq_self_eq_true b
 | .str b=>by rw[deq];exact beq_self_eq_true b
 | .tup xs=>by rw[deq];exact uA xs
 | .lst xs=>by rw[deq];exact uA xs
theorem uA:∀a:List D,deqA a a=true
 | []=>by rw[deqA]
 | x::xs=>by rw[deqA,uN x,uA xs];rfl
end
theorem se:∀{xs:List D}{x:D},x∈xs->dep x<=depA xs
 | y::ys,x,h=>by
  rw[depA]
  rcases D_.mp h with rfl | h
  ·omega
  ·have:=se h;omega
theorem wg:∀(xs ys:List D),((NY (min xs.length ys.length)).all (λj=>deq (xs.getD j .non) (ys.getD j .non))&&(xs.length == ys.length))=deqA xs ys
 | [],[]=>by rw[deqA];rfl
 | [],y::ys=>by rw[deqA]<;>simp
 | x::xs,[]=>by rw[deqA]<;>simp
 | x::xs,y::ys=>by
  have ih:=wg xs ys;have e:min (x::xs).length (y::ys).length=min xs.length ys.length+1:=by simp only[NG];omega
  rw[deqA,←ih,e,OZ,Oy,List.all_map]
  have e2:((x::xs).length == (y::ys).length)=(xs.length == ys.length):=by
   simp only[NG];cases h:xs.length == ys.length
   ·simp at h ⊢;omega
   ·simp at h ⊢;omega
  rw[e2,Bool.and_assoc];rfl
theorem F6{xs:List D}(h:xs.length≠ys.length):deqA xs ys=false:=by
 rw[←wg];have:(xs.length == ys.length)=false:=by simpa using h
 rw[this,Bool.and_false]
section
variable{H:Hp}{s:c_}
theorem IsA.getU{K:PySem.W.Frag}(h:IsA K I ds xs)(r:Vals xs us)(hj:j < us.toArray.size):∃v,RelV v us.toArray[j]/\Is K I (ds.getD j .non) v:=by
 have h1:=h.length;have h2:=r.length;have bw:j < us.length:=by simpa using hj
 have hd:ds[j]?=some ds[j]:=g_ (by omega);obtain⟨v,e1,e2⟩:=h.get hd;obtain⟨u,e3,e4⟩:=r.get e1
 have e5:us.toArray[j]=u:=by
  rw[g_ bw] at e3;simpa using e3
 refine⟨v,by rw[e5];exact e4,?_⟩;rw[h_,hd];exact e2
theorem rdL{K:PySem.W.Frag}(h:RdK K H a xs):SqL K H a xs:=h.sq
mutual
theorem u7(I:Inv X aa U H s):∀{a b:D}{v:V},Is X.K H a v->Is X.K H b v->a=b
 | .non,b,v,h,h'=>by
  have e:=rP h;subst e;cases b<;>first | rfl | (rw[Is] at h';obtain⟨_,_,e,_⟩:=h';cases e) | (rw[Is] at h';cases h')
 | .bl x,b,v,h,h'=>by
  have e:=rC h;subst e;cases b<;>first | (rw[Is] at h';obtain⟨_,_,e,_⟩:=h';cases e) | (rw[Is] at h';cases h';rfl) | (rw[Is] at h';cases h')
 | .int x,b,v,h,h'=>by
  have e:=qJ h;subst e;cases b<;>first | (rw[Is] at h';obtain⟨_,_,e,_⟩:=h';cases e) | (rw[Is] at h';cases h';rfl) | (rw[Is] at h';cases h')
 | .str x,b,v,h,h'=>by
  have e:=rW h;subst e;cases b<;>first | (rw[Is] at h';obtain⟨_,_,e,_⟩:=h';cases e) | (rw[Is] at h';cases h';rfl) | (rw[Is] at h';cases h')
 | .tup ds,b,v,h,h'=>by
  obtain⟨p,xs,rfl,h1,h2⟩:=qL h;cases b with
  | tup es =>
   obtain⟨p',bG,e,h3,h4⟩:=qL h';cases e;have:=I.tuple_inj h1 h3;subst this;rw[yp I h2 h4]
  | lst es =>
   obtain⟨p',bG,e,h3,h4⟩:=qR h';cases e;obtain⟨i1,_,t1,_⟩:=I.tuple h1;obtain⟨i2,_,t2,_⟩:=I.list (rdL h3);exact absurd rfl (ne_of_list_tuple t2.isList t1)
  | _=>rw[Is] at h';cases h'
 | .lst ds,b,v,h,h'=>by
  obtain⟨p,xs,rfl,h1,h2⟩:=qR h;cases b with
  | lst es =>
   obtain⟨p',bG,e,h3,h4⟩:=qR h';cases e;have:=I.list_inj (rdL h1) (rdL h3);subst this;rw[yp I h2 h4]
  | tup es =>
   obtain⟨p',bG,e,h3,h4⟩:=qL h';cases e;obtain⟨i1,_,t1,_⟩:=I.tuple h3;obtain⟨i2,_,t2,_⟩:=I.list (rdL h1);exact absurd rfl (ne_of_list_tuple t2.isList t1)
  | _=>rw[Is] at h';cases h'
theorem yp(I:Inv X aa U H s):∀{a b:List D}{v:List V},IsA X.K H a v->IsA X.K H b v->a=b
 | [],b,v,h,h'=>by
  have e:=h.nil_inv;subst e;cases b with
  | nil=>rfl
  | cons d r=>obtain⟨_,_,e,_⟩:=h'.cons_inv;cases e
 | d::ds,b,v,h,h'=>by
  obtain⟨x,r,rfl,h1,h2⟩:=h.cons_inv;cases b with
  | nil=>have:=h'.nil_inv;cases this
  | cons e es =>
   obtain⟨x',r',e',h3,h4⟩:=h'.cons_inv;cases e';rw[u7 I h1 h3,yp I h2 h4]
end
open PySem.SeqAt in
theorem CZ(I:Inv X aa U H s)(hu:A.units < OC){a b:D}{x y:V}{v:b_}(ha:Is X.K H a x)(hb:Is X.K H b y)(ru:RelV x u)(rv:RelV y v)(ht:∀xs ys,a=.tup xs->b=.tup ys->RcAt A s u v (deq a b)/\S1 A s u v (deq a b)/\Sv A s u v (!deq a b))(hl:∀xs ys,a=.lst xs->b=.lst ys->RcAt A s u v (deq a b)/\S1 A s u v (deq a b)/\Sv A s u v (!deq a b)):RcAt A s u v (deq a b)/\S1 A s u v (deq a b)/\Sv A s u v (!deq a b):=by
 cases a with
 | non =>
  have e:=rP ha;subst e;cases ru;cases b with
  | non=>have e:=rP hb;subst e;cases rv;rw[deq];exact⟨.none_none,.same _,.none_none⟩
  | bl j=>have e:=rC hb;subst e;cases rv;rw[deq]<;>first | exact⟨.none_bool _,.none_bool _,.none_bool _⟩ | (intros;contradiction)
  | int j=>have e:=qJ hb;subst e;obtain⟨t,rfl⟩:=rv;rw[deq]<;>first | exact⟨.none_int _ _,.none_int _ _,.none_int _ _⟩ | (intros;contradiction)
  | str j=>have e:=rW hb;subst e;obtain⟨t,rfl⟩:=rv;rw[deq]<;>first | exact⟨.none_str _ _,.none_str _ _,.none_str _ _⟩ | (intros;contradiction)
  | tup j =>
   obtain⟨p,xs,rfl,h1,h2⟩:=qL hb;cases rv;obtain⟨ae,_,t,_⟩:=I.tuple h1;rw[deq]<;>first | exact⟨.none_tuple t hu,.none_tuple t hu,.none_tuple t hu⟩ | (intros;contradiction)
  | lst j =>
   obtain⟨p,xs,rfl,h1,h2⟩:=qR hb;cases rv;obtain⟨ae,_,t,_⟩:=I.list (rdL h1);have t:=t.isList;rw[deq]<;>first | exact⟨.none_list t hu,.none_list t hu,.none_list t hu⟩ | (intros;contradiction)
 | bl i =>
  have e:=rC ha;subst e;cases ru;cases b with
  | non=>have e:=rP hb;subst e;cases rv;rw[deq]<;>first | exact⟨.bool_none _,.bool_none _,.bool_none _⟩ | (intros;contradiction)
  | bl j=>have e:=rC hb;subst e;cases rv;rw[deq];exact⟨.bool_bool _ _,.bool_bool _ _,.bool_bool _ _⟩
  | int j=>have e:=qJ hb;subst e;obtain⟨t,rfl⟩:=rv;rw[deq];exact⟨.bool_int _ _ _,.bool_int _ _ _,.bool_int _ _ _⟩
  | str j=>have e:=rW hb;subst e;obtain⟨t,rfl⟩:=rv;rw[deq]<;>first | exact⟨.bool_str _ _ _,.bool_str _ _ _,.bool_str _ _ _⟩ | (intros;contradiction)
  | tup j =>
   obtain⟨p,xs,rfl,h1,h2⟩:=qL hb;cases rv;obtain⟨ae,_,t,_⟩:=I.tuple h1;rw[deq]<;>first | exact⟨.bool_tuple _ t hu,.bool_tuple _ t hu,.bool_tuple _ t hu⟩ | (intros;contradiction)
  | lst j =>
   obtain⟨p,xs,rfl,h1,h2⟩:=qR hb;cases rv;obtain⟨ae,_,t,_⟩:=I.list (rdL h1);have t:=t.isList;rw[deq]<;>first | exact⟨.bool_list _ t hu,.bool_list _ t hu,.bool_list _ t hu⟩ | (intros;contradiction)
 | int i =>
  have e:=qJ ha;subst e;obtain⟨t0,rfl⟩:=ru;cases b with
  | non=>have e:=rP hb;subst e;cases rv;rw[deq]<;>first | exact⟨.int_none _ _,.int_none _ _,.int_none _ _⟩ | (intros;contradiction)
  | bl j=>have e:=rC hb;subst e;cases rv;rw[deq];exact⟨.int_bool _ _ _,.int_bool _ _ _,.int_bool _ _ _⟩
  | int j=>have e:=qJ hb;subst e;obtain⟨t,rfl⟩:=rv;rw[deq];exact⟨.int_int _ _ _ _,.int_int _ _ _ _,.int_int _ _ _ _⟩
  | str j=>have e:=rW hb;subst e;obtain⟨t,rfl⟩:=rv;rw[deq]<;>first | exact⟨.int_str _ _ _ _,.int_str _ _ _ _,.int_str _ _ _ _⟩ | (intros;contradiction)
  | tup j =>
   obtain⟨p,xs,rfl,h1,h2⟩:=qL hb;cases rv;obtain⟨ae,_,t,_⟩:=I.tuple h1;rw[deq]<;>first | exact⟨.int_tuple _ _ t hu,.int_tuple _ _ t hu,.int_tuple _ _ t hu⟩ | (intros;contradiction)
  | lst j =>
   obtain⟨p,xs,rfl,h1,h2⟩:=qR hb;cases rv;obtain⟨ae,_,t,_⟩:=I.list (rdL h1);have t:=t.isList;rw[deq]<;>first | exact⟨.int_list _ _ t hu,.int_list _ _ t hu,.int_list _ _ t hu⟩ | (intros;contradiction)
 | str i =>
  have e:=rW ha;subst e;obtain⟨t0,rfl⟩:=ru;cases b with
  | non=>have e:=rP hb;subst e;cases rv;rw[deq]<;>first | exact⟨.str_none _ _,.str_none _ _,.str_none _ _⟩ | (intros;contradiction)
  | bl j=>have e:=rC hb;subst e;cases rv;rw[deq]<;>first | exact⟨.str_bool _ _ _,.str_bool _ _ _,.str_bool _ _ _⟩ | (intros;contradiction)
  | int j=>have e:=qJ hb;subst e;obtain⟨t,rfl⟩:=rv;rw[deq]<;>first | exact⟨.str_int _ _ _ _,.str_int _ _ _ _,.str_int _ _ _ _⟩ | (intros;contradiction)
  | str j=>have e:=rW hb;subst e;obtain⟨t,rfl⟩:=rv;rw[deq];exact⟨.str_str _ _ _ _,.str_str _ _ _ _,.str_str _ _ _ _⟩
  | tup j =>
   obtain⟨p,xs,rfl,h1,h2⟩:=qL hb;cases rv;obtain⟨ae,_,t,_⟩:=I.tuple h1;rw[deq]<;>first | exact⟨.str_tuple _ _ t hu,.str_tuple _ _ t hu,.str_tuple _ _ t hu⟩ | (intros;contradiction)
  | lst j =>
   obtain⟨p,xs,rfl,h1,h2⟩:=qR hb;cases rv;obtain⟨ae,_,t,_⟩:=I.list (rdL h1);have t:=t.isList;rw[deq]<;>first | exact⟨.str_list _ _ t hu,.str_list _ _ t hu,.str_list _ _ t hu⟩ | (intros;contradiction)
 | tup i =>
  obtain⟨q,ys,rfl,g1,g2⟩:=qL ha;cases ru;obtain⟨bx,_,t',_⟩:=I.tuple g1;cases b with
  | non=>have e:=rP hb;subst e;cases rv;rw[deq]<;>first | exact⟨.tuple_none t' hu,.tuple_none t' hu,.tuple_none t' hu⟩ | (intros;contradiction)
  | bl j=>have e:=rC hb;subst e;cases rv;rw[deq]<;>first | exact⟨.tuple_bool _ t' hu,.tuple_bool _ t' hu,.tuple_bool _ t' hu⟩ | (intros;contradiction)
  | int j=>have e:=qJ hb;subst e;obtain⟨t,rfl⟩:=rv;rw[deq]<;>first | exact⟨.tuple_int _ _ t' hu,.tuple_int _ _ t' hu,.tuple_int _ _ t' hu⟩ | (intros;contradiction)
  | str j=>have e:=rW hb;subst e;obtain⟨t,rfl⟩:=rv;rw[deq]<;>first | exact⟨.tuple_str _ _ t' hu,.tuple_str _ _ t' hu,.tuple_str _ _ t' hu⟩ | (intros;contradiction)
  | tup j=>exact ht _ _ rfl rfl
  | lst j =>
   obtain⟨p,xs,rfl,h1,h2⟩:=qR hb;cases rv;obtain⟨ae,_,t,_⟩:=I.list (rdL h1);have t:=t.isList;rw[deq]<;>first | exact⟨.tuple_list t' t hu,.tuple_list t' t hu,.tuple_list t' t hu⟩ | (intros;contradiction)
 | lst i =>
  obtain⟨q,ys,rfl,g1,g2⟩:=qR ha;cases ru;obtain⟨bx,_,t',_⟩:=I.list (rdL g1);have t':=t'.isList;cases b with
  | non=>have e:=rP hb;subst e;cases rv;rw[deq]<;>first | exact⟨.list_none t' hu,.list_none t' hu,.list_none t' hu⟩ | (intros;contradiction)
  | bl j=>have e:=rC hb;subst e;cases rv;rw[deq]<;>first | exact⟨.list_bool _ t' hu,.list_bool _ t' hu,.list_bool _ t' hu⟩ | (intros;contradiction)
  | int j=>have e:=qJ hb;subst e;obtain⟨t,rfl⟩:=rv;rw[deq]<;>first | exact⟨.list_int _ _ t' hu,.list_int _ _ t' hu,.list_int _ _ t' hu⟩ | (intros;contradiction)
  | str j=>have e:=rW hb;subst e;obtain⟨t,rfl⟩:=rv;rw[deq]<;>first | exact⟨.list_str _ _ t' hu,.list_str _ _ t' hu,.list_str _ _ t' hu⟩ | (intros;contradiction)
  | lst j=>exact hl _ _ rfl rfl
  | tup j =>
   obtain⟨p,xs,rfl,h1,h2⟩:=qL hb;cases rv;obtain⟨ae,_,t,_⟩:=I.tuple h1;rw[deq]<;>first | exact⟨.list_tuple t' t hu,.list_tuple t' t hu,.list_tuple t' t hu⟩ | (intros;contradiction)
open PySem.SeqAt in
theorem ub(I:Inv X aa U H s):∀(n:Nat) (A:Oe),A.units+n < OC->∀(a b:D) (x y:V) (u v:b_),dep a<=n\/dep b<=n->Is X.K H a x->Is X.K H b y->RelV x u->RelV y v->RcAt A s u v (deq a b)/\S1 A s u v (deq a b)/\Sv A s u v (!deq a b):=by
 intro n
 induction n with
 | zero =>
  intro A hu a b x y u v hd ha hb ru rv;refine CZ I (by omega) ha hb ru rv (λxs ys e1 e2=>?_) (λxs ys e1 e2=>?_)<;>(subst e1;subst e2;rw[dep,dep] at hd;omega)
 | succ n ih =>
  intro A hu a b x y u v hd ha hb ru rv;have eB:A.in1.units+n < OC:=by show A.units+1+n < OC;omega
  refine CZ I (by omega) ha hb ru rv (λds es e1 e2=>?_) (λds es e1 e2=>?_)
  ·subst e1;subst e2;obtain⟨p,xs,rfl,h1,h2⟩:=qL ha;obtain⟨q,ys,rfl,h3,h4⟩:=qL hb;cases ru;cases rv;obtain⟨ae,r1,t1,_⟩:=I.tuple h1;obtain⟨bx,r2,t2,_⟩:=I.tuple h3;have l1:ae.toArray.size=ds.length:=by rw[n_,←r1.length,h2.length]
   have l2:bx.toArray.size=es.length:=by rw[n_,←r2.length,h4.length]
   have hk:∀j (g1:j < ae.toArray.size) (g2:j < bx.toArray.size),S1 A.in1 s ae.toArray[j] bx.toArray[j] (deq (ds.getD j .non) (es.getD j .non)):=λj g1 g2=>by
    obtain⟨v1,q1,q2⟩:=h2.getU r1 g1;obtain⟨v2,q3,q4⟩:=h4.getU r2 g2;refine(ih A.in1 eB _ _ _ _ _ _ ?_ q2 q4 q1 q3).2.1
    have m1:ds.getD j .non∈ds:=by
     rw[h_,g_ (by omega)];exact NS _
    have m2:es.getD j .non∈es:=by
     rw[h_,g_ (by omega)];exact NS _
    have k1:=se m1;have k2:=se m2;rw[dep,dep] at hd;omega
   have re:((NY (min ae.toArray.size bx.toArray.size)).all (λj=>deq (ds.getD j .non) (es.getD j .non))&&ae.toArray.size == bx.toArray.size)=deqA ds es:=by
    rw[l1,l2];exact wg ds es
   have R1:=RcAt.tuples (A:=A) t1 t2 (by omega) hk;have R3:=Sv.tuples (A:=A) t1 t2 (by omega) hk;rw[re] at R1 R3;have ed:deq (.tup ds) (.tup es)=deqA ds es:=by rw[deq]
   rw[ed];refine⟨R1,?_,R3⟩;by_cases hpq:p=q
   ·subst hpq;have:=u7 I ha hb;cases this;rw[uA];exact .same _
   ·exact .of_refs hpq R1
  ·subst e1;subst e2;obtain⟨p,xs,rfl,h1,h2⟩:=qR ha;obtain⟨q,ys,rfl,h3,h4⟩:=qR hb;cases ru;cases rv;obtain⟨ae,r1,t1,_⟩:=I.list (rdL h1);obtain⟨bx,r2,t2,_⟩:=I.list (rdL h3);have t1:=t1.isList;have t2:=t2.isList;have l1:ae.toArray.size=ds.length:=by rw[n_,←r1.length,h2.length]
   have l2:bx.toArray.size=es.length:=by rw[n_,←r2.length,h4.length]
   have ed:deq (.lst ds) (.lst es)=deqA ds es:=by rw[deq]
   rw[ed]
   have fin:RcAt A s (.ref p) (.ref q) (deqA ds es)/\Sv A s (.ref p) (.ref q) (!deqA ds es):=by
    by_cases hl:ds.length=es.length
    ·have hk:∀j (g1:j < ae.toArray.size) (g2:j < bx.toArray.size),S1 A.in1 s ae.toArray[j] bx.toArray[j] (deq (ds.getD j .non) (es.getD j .non)):=λj g1 g2=>by
      obtain⟨v1,q1,q2⟩:=h2.getU r1 g1;obtain⟨v2,q3,q4⟩:=h4.getU r2 g2;refine(ih A.in1 eB _ _ _ _ _ _ ?_ q2 q4 q1 q3).2.1
      have m1:ds.getD j .non∈ds:=by
       rw[h_,g_ (by omega)];exact NS _
      have m2:es.getD j .non∈es:=by
       rw[h_,g_ (by omega)];exact NS _
      have k1:=se m1;have k2:=se m2;rw[dep,dep] at hd;omega
     have re:(NY ae.toArray.size).all (λj=>deq (ds.getD j .non) (es.getD j .non))=deqA ds es:=by
      rw[←wg ds es,l1,hl,Nat.min_self,beq_self_eq_true,Bool.and_true]
     have R1:=RcAt.lists (A:=A) t1 t2 (by omega) (by omega) hk;have R3:=Sv.lists (A:=A) t1 t2 (by omega) (by omega) hk;rw[re] at R1 R3;exact⟨R1,R3⟩
    ·rw[F6 hl];have dA:(ae.toArray.size != bx.toArray.size)=true:=by rw[l1,l2];simpa using hl
     exact⟨.lists_lengths t1 t2 dA (by omega),.lists_lengths t1 t2 dA (by omega)⟩
   refine⟨fin.1,?_,fin.2⟩;by_cases hpq:p=q
   ·subst hpq;have:=u7 I ha hb;cases this;rw[uA];exact .same _
   ·exact .of_refs hpq fin.1
noncomputable def rEqD(K:PySem.W.Frag)(neg:Bool):R2:=λx y H Q=>∃a b,Is K H a x/\Is K H b y/\(dep a<=100\/dep b<=100)/\Q (.bl (if neg then !deq a b else deq a b)) H
theorem Bt(hu:X.A.units+100 < OC):OpR X (NJ .Eq) (rEqD X.K false):=by
 intro aa s U H x y v u Q I rx ry h;obtain⟨a,b,h1,h2,h3,q⟩:=h;exact(ub I 100 X.A hu a b x y v u h3 h1 h2 rx ry).1 _ _ _ _ ⟨.bl (deq a b),H,I,rfl,q⟩
theorem yJ(hu:X.A.units+100 < OC):OpR X (NJ .NotEq) (rEqD X.K true):=by
 intro aa s U H x y v u Q I rx ry h;obtain⟨a,b,h1,h2,h3,q⟩:=h;exact(ub I 100 X.A hu a b x y v u h3 h1 h2 rx ry).2.2 _ _ _ _ ⟨.bl (!deq a b),H,I,rfl,q⟩
noncomputable def rInD(K:PySem.W.Frag)(neg:Bool):R2:=λx y H Q=>∃a ds,Is K H a x/\(Is K H (.lst ds) y\/Is K H (.tup ds) y)/\(dep a<=99)/\Q (.bl (if neg then !ds.any (λd=>deq d a) else ds.any λd=>deq d a)) H
theorem HJ{K:PySem.W.Frag}{f:D->Bool}{e:b_->Bool}(h:IsA K H ds xs)(r:Vals xs us)(hf:∀d v u,d∈ds->Is K H d v->RelV v u->e u=f d):us.any e=ds.any f:=by
 induction ds generalizing xs us with
 | nil=>have:=h.nil_inv;subst this;cases r;rfl
 | cons d ds ih =>
  obtain⟨x,xr,rfl,h1,h2⟩:=h.cons_inv;cases r with
  | cons r1 r2 =>
   rw[SR,SR,hf d _ _ m_ h1 r1,ih h2 r2 λd v u hd=>hf d v u (j_ _ hd)]
theorem zh(hu:X.A.units+100 < OC){aa:List (k_×Obj)}{U:L2.St}{H:Hp}{s:c_}{x y:V}{v:b_}{Q:VK}(I:Inv X aa U H s)(rx:RelV x v)(ry:RelV y u)(h:rInD X.K neg x y H Q):
  ∃(ae:Array b_) (e:b_->Bool) (l:k_),u=.ref l/\(s.heap.IsList l ae\/s.heap.IsTuple l ae)/\(∀z,z∈ae->PySem.SeqAt.EqAt X.A.in1 s z v (e z))/\Q (.bl (if neg then !ae.any e else ae.any e)) H:=by
 obtain⟨a,ds,h1,h2,h3,q⟩:=h;have eB:X.A.in1.units+99 < OC:=by show X.A.units+1+99 < OC;omega
 -- every item has ae data: e reads it jD
 have aU:∀(xs:List V) (ae:List b_),IsA X.K H ds xs->Vals xs ae->∃e:b_->Bool,(∀z,z∈ae.toArray->PySem.SeqAt.EqAt X.A.in1 s z v (e z))/\ae.toArray.any e=ds.any λd=>deq d a:=by
  intro xs ae ha r
  have ex:∀z:b_,∃b:Bool,∀d w,d∈ds->Is X.K H d w->RelV w z->b=deq d a:=λz=>by
   by_cases hz:∃d w,d∈ds/\Is X.K H d w/\RelV w z
   ·obtain⟨d,w,hd,hi,hr⟩:=hz;refine⟨deq d a,λd' w' ck bj nR=>?_⟩;have:=RelV.inj hr nR;subst this;rw[u7 I hi bj]
   ·exact⟨false,λd w hd hi hr=>absurd ⟨d,w,hd,hi,hr⟩ hz⟩
  refine⟨λz=>(ex z).choose,λz hz=>?_,?_⟩
  ·have nS:z∈ae:=by simpa using hz
   obtain⟨j,hj,ej⟩:=List.mem_iff_getElem.mp nS;obtain⟨w,q1,q2⟩:=ha.getU r (j:=j) (by simpa using hj)
   have kW:RelV w z:=by
    have:ae.toArray[j]'(by simpa using hj)=z:=by simpa using ej
    rw[←this];exact q1
   have hm:ds.getD j .non∈ds:=by
    have l1:=ha.length;have l2:=r.length;rw[h_,g_ (by omega)];exact NS _
   show PySem.SeqAt.EqAt X.A.in1 s z v (ex z).choose;rw[(ex z).choose_spec _ w hm q2 kW];exact(ub I 99 X.A.in1 eB _ a w x z v (.inr h3) q2 h1 kW rx).2.1
  ·have:ae.toArray.any (λz=>(ex z).choose)=ae.any (λz=>(ex z).choose):=by simp
   rw[this];exact HJ ha r λd w z hd hi hr=>(ex z).choose_spec d w hd hi hr
 rcases h2 with h2 | h2
 ·obtain⟨l,xs,rfl,g1,g2⟩:=qR h2;cases ry;obtain⟨ae,r,t,_⟩:=I.list (rdL g1);obtain⟨e,k1,k2⟩:=aU xs ae g2 r;exact⟨ae.toArray,e,l,rfl,.inl t.isList,k1,by rw[k2];exact q⟩
 ·obtain⟨l,xs,rfl,g1,g2⟩:=qL h2;cases ry;obtain⟨ae,r,t,_⟩:=I.tuple g1;obtain⟨e,k1,k2⟩:=aU xs ae g2 r;exact⟨ae.toArray,e,l,rfl,.inr t,k1,by rw[k2];exact q⟩
theorem BL(hu:X.A.units+100 < OC):OpR X (NJ .In) (rInD X.K false):=by
 intro aa s U H x y v u Q I rx ry h;obtain⟨ae,e,l,rfl,hl,he,q⟩:=zh hu I rx ry h
 rcases hl with hl | hl
 ·exact PySem.SeqAt.in_listAt e hl he ⟨.bl (ae.any e),H,I,rfl,q⟩
 ·exact PySem.SeqAt.in_tupleAt e hl he ⟨.bl (ae.any e),H,I,rfl,q⟩
theorem BN(hu:X.A.units+100 < OC):OpR X (NJ .NotIn) (rInD X.K true):=by
 intro aa s U H x y v u Q I rx ry h;obtain⟨ae,e,l,rfl,hl,he,q⟩:=zh hu I rx ry h
 rcases hl with hl | hl
 ·exact PySem.SeqAt.notIn_listAt e hl he ⟨.bl (!ae.any e),H,I,rfl,q⟩
 ·exact PySem.SeqAt.notIn_tupleAt e hl he ⟨.bl (!ae.any e),H,I,rfl,q⟩
end
end DL
set_option exponentiation.threshold 2000
namespace DL
open PySem PySem.Spec PyProof.Rows L2
noncomputable def intF(C:Int->Int->Bool)(g:Int->Int->D)(a b:D):Option D:=match a,b with
 | .int i,.int j=>if C i j then some (g i j) else none
 | _,_=>none
theorem wN{g:Int->Int->D}{a b:D}(h:intF C g a b=some d):∃i j,a=.int i/\b=.int j/\C i j=true/\d=g i j:=by
 unfold intF at h;split at h
 ·obtain⟨h1,h2⟩:=rm h;exact⟨_,_,rfl,rfl,h1,h2⟩
 ·cases h
noncomputable def tt2(_ _:Int):Bool:=true
theorem od_I{K:PySem.W.Frag}{C:Int->Int->Prop}{c:Int->Int->Bool}{g:Int->Int->Int}(hc:∀i j,c i j=true->C i j):OpD K (rI C λi j=>.int (g i j)) (intF c λi j=>.int (g i j)):=λa b d e B G I H U Y x y Q r hx hy k=>by
 obtain⟨i,j,rfl,rfl,h,rfl⟩:=wN e;exact⟨i,j,qJ hx,qJ hy,hc i j h,k.now r (Is.int _)⟩
theorem KB{K:PySem.W.Frag}{g:Int->Int->Int}:OpD K (rI0 λi j=>.int (g i j)) (intF tt2 λi j=>.int (g i j)):=λa b d e B G I H U Y x y Q r hx hy k=>by
 obtain⟨i,j,rfl,rfl,h,rfl⟩:=wN e;exact⟨i,j,qJ hx,qJ hy,k.now r (Is.int _)⟩
theorem sE{K:PySem.W.Frag}{g:Int->Int->Bool}:OpD K (rI0 λi j=>.bl (g i j)) (intF tt2 λi j=>.bl (g i j)):=λa b d e B G I H U Y x y Q r hx hy k=>by
 obtain⟨i,j,rfl,rfl,h,rfl⟩:=wN e;exact⟨i,j,qJ hx,qJ hy,k.now r (Is.bl _)⟩
noncomputable def subI:D->D->Option D:=intF tt2 λi j=>.int (i - j)
noncomputable def mulI:D->D->Option D:=intF (λi j=>decide ((-(2 ^ 64) < i/\i < 2 ^ 64)\/(-(2 ^ 64) < j/\j < 2 ^ 64))) λi j=>.int (i*j)
noncomputable def modI:D->D->Option D:=intF (λ_ j=>decide (0 < j)) λi j=>.int (i % j)
noncomputable def divI:D->D->Option D:=intF (λ_ j=>decide (0 < j/\j < 2 ^ 200)) λi j=>.int (i / j)
noncomputable def powI:D->D->Option D:=intF (λi j=>decide (0<=j/\j<=1000000/\i.natAbs < 2 ^ 64)) λi j=>.int (i ^ j.toNat)
noncomputable def ltI:D->D->Option D:=intF tt2 λi j=>.bl (decide (i < j))
noncomputable def leI:D->D->Option D:=intF tt2 λi j=>.bl (decide (i<=j))
noncomputable def gtI:D->D->Option D:=intF tt2 λi j=>.bl (decide (j < i))
noncomputable def geI:D->D->Option D:=intF tt2 λi j=>.bl (decide (j<=i))
section
variable{B:BB}{a b c:Ny}{es:List Ny}{ga gb gc:M D}
theorem u5(ha:ED X B a ga)(hb:ED X B b gb):ED X B (.BinOp a .Sub b pos) (op2 subI ga gb):=tK DR KB ha hb
theorem rZ(ha:ED X B a ga)(hb:ED X B b gb):ED X B (.BinOp a .Mult b pos) (op2 mulI ga gb):=tK IU (od_I (C:=CMul) λi j h=>(of_decide_eq_true h:_\/_)) ha hb
theorem sg(ha:ED X B a ga)(hb:ED X B b gb):ED X B (.BinOp a .Mod b pos) (op2 modI ga gb):=tK G3 (od_I λi j h=>of_decide_eq_true h) ha hb
theorem xY(ha:ED X B a ga)(hb:ED X B b gb):ED X B (.BinOp a .Pow b pos) (op2 powI ga gb):=tK Eb (od_I (C:=CPow) λi j h=>(of_decide_eq_true h:_/\_/\_)) ha hb
def CDivW(i j:Int):Prop:=0 < j/\j < 2 ^ 200
theorem KC:OpR X (OF .FloorDiv) (rI CDivW λi j=>.int (i / j)):=opI λi j _ _ _ _ _ hc q=>by
 have h1:(0:Int) < j:=hc.1
 have h2:j.natAbs < 2 ^ 200:=by
  have:=hc.2;omega
 have h4:j.natAbs.log2 < 9000:=by
  have h5:j.natAbs.log2 < 200:=(Nat.log2_lt (by omega)).mpr h2;omega
 refine floordiv_int (by omega) ?_ (.inl (PyProof.noPylong_of_log2 h4));rw[Int.fdiv_eq_ediv_of_nonneg _ (Se h1)];exact q
theorem HV(ha:ED X B a ga)(hb:ED X B b gb):ED X B (.BinOp a .FloorDiv b pos) (op2 divI ga gb):=tK KC (od_I (C:=CDivW) λi j h=>(of_decide_eq_true h:_/\_)) ha hb
theorem Bh(ha:ED X B a ga)(hb:ED X B b gb):ED X B (.Compare a [.LtE] [b] pos) (op2 leI ga gb):=ur vI sE ha hb (nomark _)
theorem tW(ha:ED X B a ga)(hb:ED X B b gb):TD X B (.Compare a [.Lt] [b] pos) (tst (op2 ltI ga gb)):=sv B4 sE ha hb (nomark _)
theorem vm(ha:ED X B a ga)(hb:ED X B b gb):TD X B (.Compare a [.Gt] [b] pos) (tst (op2 gtI ga gb)):=sv FL sE ha hb (nomark _)
theorem Fg(ha:ED X B a ga)(hb:ED X B b gb):TD X B (.Compare a [.GtE] [b] pos) (tst (op2 geI ga gb)):=sv G5 sE ha hb (nomark _)
theorem DO(ha:ED X B a ga)(hb:ED X B b gb)(hc:ED X B c gc)(hm:QY [.LtE,.LtE] [b,c]=false:=by with_unfolding_all rfl):ED X B (.Compare a [.LtE,.LtE] [b,c] pos) (chn leI leI ga gb gc):=Gu vI sE vI sE ha hb hc hm
theorem Fp(ha:ED X B a ga)(hb:ED X B b gb)(hc:ED X B c gc)(hm:QY [.LtE,.Lt] [b,c]=false:=by with_unfolding_all rfl):TD X B (.Compare a [.LtE,.Lt] [b,c] pos) (tst (chn leI ltI ga gb gc)):=JJ vI sE B4 sE ha hb hc hm
noncomputable def eqF(neg:Bool)(a b:D):Option D:=if dep a<=100\/dep b<=100 then some (.bl (if neg then !deq a b else deq a b)) else none
theorem wj{K:PySem.W.Frag}:OpD K (rEqD K neg) (eqF neg):=λa b d e B G I H U Y x y Q r hx hy k=>by
 obtain⟨h1,rfl⟩:=rm e;exact⟨a,b,hx.mono r.iH,hy.mono r.iH,h1,k.now r (Is.bl _)⟩
variable {kr:Nat}
theorem hu100(hr:Room k A):A.units+100 < OC:=by have:=hr.un;omega
theorem wu(hr:Room kr X.A)(ha:ED X B a ga)(hb:ED X B b gb):ED X B (.Compare a [.Eq] [b] pos) (op2 (eqF false) ga gb):=ur (Bt (hu100 hr)) wj ha hb (nomark _)
theorem Jj(hr:Room kr X.A)(ha:ED X B a ga)(hb:ED X B b gb):ED X B (.Compare a [.NotEq] [b] pos) (op2 (eqF true) ga gb):=ur (yJ (hu100 hr)) wj ha hb (nomark _)
theorem rT(hr:Room kr X.A)(ha:ED X B a ga)(hb:ED X B b gb):TD X B (.Compare a [.Eq] [b] pos) (tst (op2 (eqF false) ga gb)):=sv (Bt (hu100 hr)) wj ha hb (nomark _)
theorem rK(hr:Room kr X.A)(ha:ED X B a ga)(hb:ED X B b gb):TD X B (.Compare a [.NotEq] [b] pos) (tst (op2 (eqF true) ga gb)):=sv (yJ (hu100 hr)) wj ha hb (nomark _)
noncomputable def inF(neg:Bool)(a b:D):Option D:=match seqI b with
 | some ds=>if dep a<=99 then some (.bl (if neg then !ds.any (λd=>deq d a) else ds.any λd=>deq d a)) else none
 | none=>none
theorem zw{K:PySem.W.Frag}:OpD K (rInD K neg) (inF neg):=λa b d e B G I H U Y x y Q r hx hy k=>by
 unfold inF at e;cases b with
 | lst ds =>
  obtain⟨h1,rfl⟩:=rm e;exact⟨a,ds,hx.mono r.iH,.inl (hy.mono r.iH),h1,k.now r (Is.bl _)⟩
 | tup ds =>
  obtain⟨h1,rfl⟩:=rm e;exact⟨a,ds,hx.mono r.iH,.inr (hy.mono r.iH),h1,k.now r (Is.bl _)⟩
 | _=>cases e
theorem FU(hr:Room kr X.A)(ha:ED X B a ga)(hb:ED X B b gb)(hm:Oz .NotIn b=false:=by rfl):ED X B (.Compare a [.NotIn] [b] pos) (op2 (inF true) ga gb):=ur (BN (hu100 hr)) zw ha hb hm
theorem yh(hr:Room kr X.A)(ha:ED X B a ga)(hb:ED X B b gb)(hm:Oz .In b=false:=by rfl):TD X B (.Compare a [.In] [b] pos) (tst (op2 (inF false) ga gb)):=sv (BL (hu100 hr)) zw ha hb hm
noncomputable def rCatTT(K:PySem.W.Frag):R2:=λx y H Q=>∃a b xs ys,x=.ref a/\y=.ref b/\SqT K H a xs/\SqT K H b ys/\xs.length+ys.length<=C_ ∧
 (xs=[]->Q (.ref b) H)/\(xs≠[]->ys=[]->Q (.ref a) H)/\(xs≠[]->ys≠[]->∀p,H p=none->Q (.ref p) (upd H p (.tup (xs++ys))))
theorem Jd:OpR X (OF .Add) (rCatTT X.K):=by
 intro aa s U H x y v u Q I rx ry h;obtain⟨a,b,xs,ys,rfl,rfl,ha,hb,hz,q0,q1,q2⟩:=h;cases rx;cases ry;obtain⟨ae,r1,p1,_⟩:=I.tuple ha;obtain⟨bS,r2,p2,_⟩:=I.tuple hb;by_cases hx:xs=[]
 ·subst hx;cases r1;obtain⟨⟨cls,dd,data,sl⟩,ho,hc,n,hd⟩:=id p1;obtain⟨⟨kD,gX,data2,gY⟩,ek,de,n2,df⟩:=id p2;simp only at hc hd de df;subst hc hd de df
  exact R_ ⟨_,ho,rfl⟩ ⟨_,ek,rfl⟩ QZ RT Rx Rp (Q0 _ _)
   (tuple_addW0 a b _ bS.toArray n n2 dd gX sl gY (by simp)) ⟨ho,ek,⟨.ref b,H,I,rfl,q0 rfl⟩⟩
 ·exact JN aa s U H (.ref a) (.ref b) _ _ Q I rfl rfl ⟨a,b,xs,ys,rfl,rfl,ha,hb,hx,hz,q1 hx,q2 hx⟩
noncomputable def addF(a b:D):Option D:=match a,b with
 | .int i,.int j=>some (.int (i+j))
 | .tup xs,.tup ys=>if xs.length+ys.length<=lim then some (.tup (xs++ys)) else none
 | .str x,.str y=>if x.length+y.length<=lim then some (.str (x++y)) else none
 | _,_=>none
theorem IsA.ne_nil{K:PySem.W.Frag}(h:IsA K I ds xs):xs=[]↔ds=[]:=by
 have:=h.length;constructor
 ·intro e;subst e;exact N_.mp this
 ·intro e;subst e;exact N_.mp this.symm
theorem qY(ha:ED X B a ga)(hb:ED X B b gb):ED X B (.BinOp a .Add b pos) (op2 addF ga gb):=tK ((HM.or Jd).or JE) (λa b d e B G I H U Y x y Q r hx hy k=>by
 unfold addF at e;split at e
 ·cases e;exact .inl (.inl ⟨_,_,qJ hx,qJ hy,k.now r (Is.int _)⟩)
 ·obtain⟨hl,rfl⟩:=rm e;obtain⟨p,xs,rfl,h1,h2⟩:=qL hx;obtain⟨q,ys,rfl,h3,h4⟩:=qL hy;refine .inl (.inr ⟨p,q,xs,ys,rfl,rfl,Same.sqT r.iH h1,Same.sqT r.iH h3,by rw[←h2.length,←h4.length];exact sA hl,λz=>?_,λ_ z=>?_,λ_ _ p' hp=>k.tup r hp (IsA.append h2 h4)⟩)
  ·have:=h2.ne_nil.mp z;subst this;exact k.now r (Is.tup h3 h4)
  ·have:=h4.ne_nil.mp z;subst this;rw[N3] at k;exact k.now r (Is.tup h1 h2)
 ·obtain⟨hl,rfl⟩:=rm e;exact .inr ⟨_,_,rW hx,rW hy,sA hl,k.now r (Is.str _)⟩
 ·cases e) ha hb
noncomputable def rCatR(K:PySem.W.Frag):R2:=λx y H Q=>∃l b xs zs,x=.ref l/\y=.ref b/\RdK K H l xs/\RdK K H b zs/\xs.length+zs.length<=C_/\∀p,H p=none->Q (.ref p) (upd H p (.lst (xs++zs)))
theorem Gs:OpR X (OF .Add) (rCatR X.K):=by
 intro aa s U H x y v u Q I rx ry h;obtain⟨l,b,xs,zs,rfl,rfl,hH,hB,hz,q⟩:=h;cases rx;cases ry;obtain⟨z,ae,n,r,hl,e⟩:=xq I hH;obtain⟨z2,bS,n2,r2,dr,e2⟩:=xq I hB;refine PySem.P.add_list e e2 ?_ (by rw[n_,n_];omega);have ea:ae.toArray++bS.toArray=(ae++bS).toArray:=by simp
 rw[ea];exact⟨.ref _,_,I.lnew (t':=s.toks) (r.append r2) (by rw[o_];omega),rfl,q _ I.fresh⟩
noncomputable def catF(a b:D):Option (List D):=match a,b with
 | .lst xs,.lst ys=>if xs.length+ys.length<=lim then some (xs++ys) else none
 | _,_=>none
theorem wS(ha:ED X B a ga)(hb:ED X B b gb):EO X B (.BinOp a .Add b pos) (op2 catF ga gb):=Ix Gs (λa b d e B G I H U Y x y Q r hx hy k=>by
 unfold catF at e;split at e
 ·obtain⟨hl,rfl⟩:=rm e;obtain⟨p,xs,rfl,h1,h2⟩:=qR hx;obtain⟨q,ys,rfl,h3,h4⟩:=qR hy;exact⟨p,q,xs,ys,rfl,rfl,Same.rdK r.iH h1,Same.rdK r.iH h3,by rw[←h2.length,←h4.length];exact sA hl,λp' hp=>k.new r hp (IsA.append h2 h4)⟩
 ·cases e) ha hb
theorem IsA.at{K:PySem.W.Frag}{I:Hp}{ds:List D}{xs:List V}{i:Int}{d:D}(h:IsA K I ds xs)(e:atI ds i=some d):∃x,atI xs i=some x/\Is K I d x:=by
 unfold atI at e ⊢;rw[←h.length];cases hj:ixN ds.length i with
 | none=>rw[hj] at e;cases e
 | some j =>
  rw[hj] at e;exact h.get e
noncomputable def ixF(a b:D):Option D:=match seqI a,asI b with
 | some ds,some i=>atI ds i
 | _,_=>none
theorem Bn{a b:D}(h:ixF a b=some d):∃ds i,(a=.lst ds\/a=.tup ds)/\b=.int i/\atI ds i=some d:=by
 unfold ixF at h;cases a<;>cases b<;>simp[seqI,asI] at h
 ·exact⟨_,_,.inr rfl,rfl,h⟩
 ·exact⟨_,_,.inl rfl,rfl,h⟩
theorem qG(ha:ED X B a ga)(hb:ED X B b gb)(hs:PlainIx b:=by exact λ_ _=>rfl):ED X B (.Subscript a b pos) (op2 ixF ga gb):=JU (AG.or xD) (λa b d e B G I H U Y x y Q r hx hy k=>by
 obtain⟨ds,i,h1,rfl,h2⟩:=Bn e
 rcases h1 with rfl | rfl
 ·obtain⟨p,xs,rfl,h3,h4⟩:=qR hx;obtain⟨v,e5,e6⟩:=h4.at h2;exact .inl ⟨p,xs,i,v,rfl,qJ hy,(Same.rdK r.iH h3).sq,e5,k.now r e6⟩
 ·obtain⟨p,xs,rfl,h3,h4⟩:=qL hx;obtain⟨v,e5,e6⟩:=h4.at h2
  exact .inr ⟨p,xs,i,v,rfl,qJ hy,Same.sqT r.iH h3,e5,k.now r e6⟩) ha hb hs
noncomputable def look(i:Nat):M D:=λY=>match Y[i]? with
 | some (some (.own ds))=>some (.lst ds,Y)
 | some (some (.bor ds))=>some (.lst ds,Y)
 | _=>none
theorem uk{K:PySem.W.Frag}{H:Hp}(h:look i Y=some (d,af))(r:Rep K B G I H U Y):af=Y/\∃p xs ds,d=.lst ds/\U[i]?=some (some (.ref p))/\H p=some (.lst xs)/\IsA K I ds xs:=by
 unfold look at h;cases e:Y[i]? with
 | none=>rw[e] at h;cases h
 | some o =>
  cases o with
  | none=>rw[e] at h;cases h
  | some q =>
   rw[e] at h;obtain⟨v,h1,h2⟩:=r.slot i q e;cases q with
   | val _=>cases h
   | own ds=>cases h;obtain⟨p,xs,rfl,g1,_,_,g4⟩:=h2;exact⟨rfl,p,xs,ds,rfl,h1,g1,g4⟩
   | fro ds=>cases h
   | tfr ds=>cases h
   | dic ds=>cases h
   | bor ds=>cases h;obtain⟨p,xs,rfl,g1,_,_,g4⟩:=h2;exact⟨rfl,p,xs,ds,rfl,h1,g1,g4⟩
noncomputable def atN(i:Nat)(g:M D):M D:=mutS i (bnd g λn=>bnd (look i) λl=>lft (ixF l n))
theorem rD(hv:PE X (.Name x p1) (tVar i))(hb:ED X B b gb)(hs:PlainIx b:=by exact λ_ _=>rfl):ED X B (.Subscript (.Name x p1) b pos) (atN i gb):=PE.imp (vd AG hv hb hs) λU H Q q=>by
 obtain⟨G,I,Y,d,af,r,e1,k⟩:=q;obtain⟨hm,e1⟩:=sD e1;obtain⟨n,ac,e2,e3⟩:=qE e1;obtain⟨l,ag,e4,e5⟩:=qE e3;obtain⟨e6,rfl⟩:=qN e5;obtain⟨p,xs,h1,h2⟩:=sy hm r;refine⟨_,h1,G,I,Y,n,ac,r,e2,λv H1 I1 r1 g1 hn=>?_⟩;obtain⟨rfl,p',bG,ds,rfl,f1,f2,f3⟩:=uk e4 r1;have hp:p'=p:=by rw[h1] at f1;cases f1;rfl
 subst hp;obtain⟨dR,j,g2,rfl,g3⟩:=Bn e6
 rcases g2 with g2 | g2
 ·cases g2;obtain⟨y,e7,e8⟩:=f3.at g3;exact⟨p',bG,j,y,rfl,qJ hn,SqL.of f2,e7,(k.after g1).now r1 e8⟩
 ·cases g2
noncomputable def lenF(ds:List D):Option D:=match ds with
 | [.lst xs]=>some (.int xs.length)
 | [.tup xs]=>some (.int xs.length)
 | _=>none
theorem ER(h:lenF ds=some d):∃xs,(ds=[.lst xs]\/ds=[.tup xs])/\d=.int xs.length:=by
 unfold lenF at h;split at h
 ·cases h;exact⟨_,.inl rfl,rfl⟩
 ·cases h;exact⟨_,.inr rfl,rfl⟩
 ·cases h
theorem rQ{p:Pos}(hg:Gl X "len")(hm:X.mg "len"=none)(ha:AD X B [e] t)(he:d_ [e] X.env=(false,Nr e X.env)::d_ [] X.env:=by rfl)(aG:(ND pos (d_ [] X.env)).any (·.1)=false:=by rfl):
  ED X B (.Call (.Name "len" p) [e] [] pos) (fn1 lenF t):=tL CO (λds d e B G I H U Y xs Q r h k=>by
 obtain⟨ys,h1,rfl⟩:=ER e
 rcases h1 with rfl | rfl
 ·obtain⟨x,rfl,hx⟩:=h.one;obtain⟨q,zs,rfl,h3,h4⟩:=qR hx;exact⟨q,zs,rfl,.inl ((Same.rdK r.iH h3).sq),by rw[h4.length] at k;exact k.now r (Is.int _)⟩
 ·obtain⟨x,rfl,hx⟩:=h.one;obtain⟨q,zs,rfl,h3,h4⟩:=qL hx
  exact⟨q,zs,rfl,.inr (Same.sqT r.iH h3),by rw[h4.length] at k;exact k.now r (Is.int _)⟩) hg hm PySem.boot_len ha (by decide) (by decide) he aG
noncomputable def lenN(i:Nat):M D:=bnd (look i) λl=>lft (lenF [l])
theorem xF{p:Pos}(hg:Gl X "len")(hm:X.mg "len"=none)(hv:PE X (.Name x p1) (tVar i))(he:d_ [.Name x p1] X.env=(false,Nr (.Name x p1) X.env)::d_ [] X.env:=by rfl)(aG:(ND pos (d_ [] X.env)).any (·.1)=false:=by rfl):
  ED X B (.Call (.Name "len" p) [.Name x p1] [] pos) (lenN i):=PE.imp (wk CO hg hm PySem.boot_len (rR hv sQ he) (by decide) (by decide) he aG) λU H Q q=>by
 obtain⟨G,I,Y,d,af,r,e1,k⟩:=q;obtain⟨l,ac,e2,e3⟩:=qE e1;obtain⟨e4,rfl⟩:=qN e3;obtain⟨rfl,q,xs,ds,rfl,f1,f2,f3⟩:=uk e2 r;cases e4;exact⟨_,f1,q,xs,rfl,.inl (SqL.of f2),by rw[f3.length] at k;exact k.now r (Is.int _)⟩
noncomputable def cmpN(neg:Bool)(i:Nat)(g:M D):M D:=mutS i (bnd g λd=>bnd (look i) λl=>lft (eqF neg l d))
theorem J9{K:PySem.W.Frag}:∀U H Q,tD K B (cmpN neg i gb) U H Q->tOp (rEqD K neg) (tVar i) (tD K B gb) U H Q:=λU H Q q=>by
 obtain⟨G,I,Y,d,af,r,e1,k⟩:=q;obtain⟨hm,e1⟩:=sD e1;obtain⟨n,ac,e2,e3⟩:=qE e1;obtain⟨l,ag,e4,e5⟩:=qE e3;obtain⟨e6,rfl⟩:=qN e5;obtain⟨p,xs,h1,h2⟩:=sy hm r;refine⟨_,h1,G,I,Y,n,ac,r,e2,λv H1 I1 r1 g1 hn=>?_⟩;obtain⟨rfl,p',bG,ds,rfl,f1,f2,f3⟩:=uk e4 r1;have hp:p'=p:=by rw[h1] at f1;cases f1;rfl
 subst hp;obtain⟨hd,rfl⟩:=rm e6;exact⟨.lst ds,n,Is.lst (RdK.of f2) (f3.mono r1.iH),hn.mono r1.iH,hd,(k.after g1).now r1 (Is.bl _)⟩
theorem wm(hr:Room kr X.A)(hv:PE X (.Name x p1) (tVar i))(hb:ED X B b gb):TD X B (.Compare (.Name x p1) [.NotEq] [b] pos) (tst (cmpN true i gb)):=PT.imp (vL (yJ (hu100 hr)) hv hb (nomark _)) (tX J9)
def partD(e:Option Ny)(X:Cx)(B:BB)(g:M (Option Int)):Prop:=PO X e (λU H Q=>∃G I Y o af,Rep X.K B G I H U Y/\g Y=some (o,af)/\∀H' I',Rep X.K B G I' H' U af->Grow G I I'->Q o H')
theorem tN:partD none X B (ret none):=λaa s U H Q I h=>Ga aa s U H Q I (by
 obtain⟨G,I,Y,o,af,r,e1,k⟩:=h;cases e1
 exact k _ _ r (Grow.refl _ _))
noncomputable def prt(g:M D):M (Option Int):=bnd g λd=>bnd (lft (asI d)) λi=>ret (some i)
theorem sx(ha:ED X B a ga):partD (some a) X B (prt ga):=λaa s U H Q I h=>Iw ha aa s U H Q I (by
 obtain⟨G,I,Y,o,af,r,e1,k⟩:=h;obtain⟨d,ac,e2,e3⟩:=qE e1;obtain⟨i,ag,e4,e5⟩:=qE e3;cases e5;obtain⟨e6,rfl⟩:=qN e4;have:=B2 e6;subst this
 exact⟨G,I,Y,_,_,r,e2,λv H1 I1 r1 g1 hv=>⟨i,qJ hv,k _ _ r1 g1⟩⟩)
noncomputable def cutD(ds:List D)(lo hi:Option Int):List D:=(ds.drop (HT.sIx ds.length 0 lo)).take (HT.sIx ds.length ds.length hi - HT.sIx ds.length 0 lo)
theorem IsA.cut{K:PySem.W.Frag}(h:IsA K I ds xs)(lo hi:Option Int):IsA K I (cutD ds lo hi) (cutV xs lo hi):=by
 unfold cutD cutV;rw[←h.length];exact(h.drop _).take _
noncomputable def slF(d:D)(lo hi:Option Int):Option D:=match d with
 | .lst ds=>some (.lst (cutD ds lo hi))
 | .tup ds=>if HT.sIx ds.length 0 lo=0/\HT.sIx ds.length ds.length hi=ds.length then none else some (.tup (cutD ds lo hi))
 | _=>none
noncomputable def sl3{α:Type}(F:D->Option Int->Option Int->Option α)(g:M D)(gl gh:M (Option Int)):M α:=bnd g λd=>bnd gl λl=>bnd gh λh=>lft (F d l h)
theorem sX{lo hi:Option Ny}(ha:ED X B a ga)(hl:partD lo X B gl)(hh:partD hi X B gh):ED X B (.Subscript a (.Slice lo hi none p2) pos) (sl3 slF ga gl gh):=PE.imp (GB (Iz.or IB) ha hl hh) λU H Q q=>by
 obtain⟨G,I,Y,d,af,r,e1,k⟩:=q;obtain⟨c,ac,e2,e3⟩:=qE e1;obtain⟨l,ag,e4,e5⟩:=qE e3;obtain⟨h,aL,e6,e7⟩:=qE e5;obtain⟨e8,rfl⟩:=qN e7;refine⟨G,I,Y,c,ac,r,e2,λv H1 I1 r1 g1 hv=>⟨G,I1,ac,l,ag,r1,e4,λH2 I2 r2 g2=>⟨G,I2,ag,h,_,r2,e6,λH3 I3 r3 g3=>?_⟩⟩⟩;have gg:=g1.trans (g2.trans g3);have kX:=hv.mono (g2.trans g3).up;cases c with
 | lst ds =>
  cases e8;obtain⟨p,xs,rfl,h3,h4⟩:=qR kX;refine .inl ⟨p,xs,rfl,(Same.rdK r3.iH h3).sq,λp' hp=>?_⟩;exact(k.after gg) _ _ _ (r3.alloc hp _) (r3.growAlloc hp _) (Is.lst (RdK.of qQ) ((h4.cut l h).mono (rl (r3.iFree hp) _)))
 | tup ds =>
  unfold slF at e8;by_cases hw:HT.sIx ds.length 0 l=0/\HT.sIx ds.length ds.length h=ds.length
  ·simp only[hw,and_self,if_true] at e8;cases e8
  ·simp only[if_neg hw] at e8;cases e8;obtain⟨p,xs,rfl,h3,h4⟩:=qL kX;exact .inr ⟨p,xs,rfl,Same.sqT r3.iH h3,by rw[←h4.length];exact hw,λp' hp=>(k.after gg).tup r3 hp (h4.cut l h)⟩
 | _=>cases e8
noncomputable def minF(ds:List D):Option D:=match ds with
 | [.int i,.int j]=>some (.int (if j < i then j else i))
 | _=>none
noncomputable def maxF(ds:List D):Option D:=match ds with
 | [.int i,.int j]=>some (.int (if j > i then j else i))
 | _=>none
theorem tu{p:Pos}(hc:X.calm=true)(hg:Gl X "min")(hm:X.mg "min"=none)(ha:AD X B (e::es) t)(he:d_ (e::es) X.env=(false,Nr e X.env)::d_ es X.env:=by rfl)(aG:(ND pos (d_ es X.env)).any (·.1)=false:=by rfl):
  ED X B (.Call (.Name "min" p) (e::es) [] pos) (fn1 minF t):=tL (F9 hc) (λds d e B G I H U Y xs Q r h k=>by
 unfold minF at e;split at e
 ·cases e;obtain⟨x,y,rfl,hx,hy⟩:=h.two;exact⟨_,_,by rw[qJ hx,qJ hy],k.now r (Is.int _)⟩
 ·cases e) hg hm boot_min ha (by decide) (by decide) he aG
theorem uH{p:Pos}(hc:X.calm=true)(hg:Gl X "max")(hm:X.mg "max"=none)(ha:AD X B (e::es) t)(he:d_ (e::es) X.env=(false,Nr e X.env)::d_ es X.env:=by rfl)(aG:(ND pos (d_ es X.env)).any (·.1)=false:=by rfl):
  ED X B (.Call (.Name "max" p) (e::es) [] pos) (fn1 maxF t):=tL (Gp hc) (λds d e B G I H U Y xs Q r h k=>by
 unfold maxF at e;split at e
 ·cases e;obtain⟨x,y,rfl,hx,hy⟩:=h.two;exact⟨_,_,by rw[qJ hx,qJ hy],k.now r (Is.int _)⟩
 ·cases e) hg hm boot_max ha (by decide) (by decide) he aG
noncomputable def tupF(ds:List D):Option D:=match ds with
 | [.lst xs]=>some (.tup xs)
 | [.tup xs]=>some (.tup xs)
 | _=>none
noncomputable def lstF(ds:List D):Option (List D):=match ds with
 | [.lst xs]=>some xs
 | [.tup xs]=>some xs
 | _=>none
theorem ug{p:Pos}(hg:Gl X "tuple")(hm:X.mg "tuple"=none)(ha:AD X B [e] t)(he:d_ [e] X.env=(false,Nr e X.env)::d_ [] X.env:=by rfl)(aG:(ND pos (d_ [] X.env)).any (·.1)=false:=by rfl):
  ED X B (.Call (.Name "tuple" p) [e] [] pos) (fn1 tupF t):=El DP (λds d e B G I H U Y xs Q r h k=>by
 unfold tupF at e;split at e
 ·cases e;obtain⟨x,rfl,hx⟩:=h.one;obtain⟨q,zs,rfl,h3,h4⟩:=qR hx;exact⟨q,zs,rfl,.inl ⟨(Same.rdK r.iH h3).sq,λp' hp=>k.tup r hp h4⟩⟩
 ·cases e;obtain⟨x,rfl,hx⟩:=h.one;obtain⟨q,zs,rfl,h3,h4⟩:=qL hx;exact⟨q,zs,rfl,.inr ⟨Same.sqT r.iH h3,k.now r (Is.tup h3 h4)⟩⟩
 ·cases e) hg hm boot_tuple ha (by decide) (by decide) he aG
theorem Dh{p:Pos}(hg:Gl X "list")(hm:X.mg "list"=none)(ha:AD X B [e] t)(he:d_ [e] X.env=(false,Nr e X.env)::d_ [] X.env:=by rfl)(aG:(ND pos (d_ [] X.env)).any (·.1)=false:=by rfl):
  EO X B (.Call (.Name "list" p) [e] [] pos) (fn1 lstF t):=Hr DA (λds d e B G I H U Y xs Q r h k=>by
 unfold lstF at e;split at e
 ·cases e;obtain⟨x,rfl,hx⟩:=h.one;obtain⟨q,zs,rfl,h3,h4⟩:=qR hx;exact⟨q,zs,rfl,.inl ((Same.rdK r.iH h3).sq),λp' hp=>k.new r hp h4⟩
 ·cases e;obtain⟨x,rfl,hx⟩:=h.one;obtain⟨q,zs,rfl,h3,h4⟩:=qL hx;exact⟨q,zs,rfl,.inr (Same.sqT r.iH h3),λp' hp=>k.new r hp h4⟩
 ·cases e) hg hm boot_list ha (by decide) (by decide) he aG
noncomputable def isN(d:D):Bool:=match d with
 | .non=>true
 | _=>false
noncomputable def isNF(neg:Bool)(a b:D):Option D:=match b with
 | .non=>some (.bl (if neg then !isN a else isN a))
 | _=>none
theorem zX{K:PySem.W.Frag}{a:D}{x:V}(h:Is K I a x):decide (x=V.non)=isN a:=by
 cases a with
 | non=>rw[rP h];rfl
 | bl _=>rw[rC h];rfl
 | int _=>rw[qJ h];rfl
 | str _=>rw[rW h];rfl
 | tup _=>obtain⟨_,_,rfl,_⟩:=qL h;rfl
 | lst _=>obtain⟨_,_,rfl,_⟩:=qR h;rfl
theorem Ai{K:PySem.W.Frag}:OpD K (λx y H Q=>y=.non/\Q (.bl (decide (x=.non))) H) (isNF false):=λa b d e B G I H U Y x y Q r hx hy k=>by
 unfold isNF at e;split at e
 ·cases e;exact⟨rP hy,by rw[zX hx];exact k.now r (Is.bl _)⟩
 ·cases e
theorem Gd{K:PySem.W.Frag}:OpD K (λx y H Q=>y=.non/\Q (.bl (!decide (x=.non))) H) (isNF true):=λa b d e B G I H U Y x y Q r hx hy k=>by
 unfold isNF at e;split at e
 ·cases e;exact⟨rP hy,by rw[zX hx];exact k.now r (Is.bl _)⟩
 ·cases e
theorem An(ha:ED X B a ga)(hb:ED X B b gb):ED X B (.Compare a [.Is] [b] pos) (op2 (isNF false) ga gb):=ur zW Ai ha hb (nomark _)
theorem CN(ha:ED X B a ga)(hb:ED X B b gb):TD X B (.Compare a [.Is] [b] pos) (tst (op2 (isNF false) ga gb)):=sv zW Ai ha hb (nomark _)
theorem FJ(ha:ED X B a ga)(hb:ED X B b gb):TD X B (.Compare a [.IsNot] [b] pos) (tst (op2 (isNF true) ga gb)):=sv Gq Gd ha hb (nomark _)
end
structure Kd where
 it:J_->k_->k_->Nat->Prop
 sq:J_->k_->Array b_->Prop
 nm:String
structure KdOk(k:Kd):Prop where
 itAt:∀{h h':J_}{i l:k_}{n:Nat},k.it h i l n->(∀o,h.get? i=some o->h'.get? i=some o)->k.it h' i l n
 sqAt:∀{h h':J_}{l:k_}{xs:Array b_},k.sq h l xs->(∀o,h.get? l=some o->h'.get? l=some o)->k.sq h' l xs
 itLt:∀{h:J_}{i l:k_}{n:Nat},k.it h i l n->i < h.objs.size
 sqLt:∀{h:J_}{l:k_}{xs:Array b_},k.sq h l xs->l < h.objs.size
 itObj:∀{h:J_}{i l:k_}{n:Nat},k.it h i l n->∃o,h.get? i=some o/\∀v,o.data≠.cell v
 iter:∀{prog:A_}{w:I_}{A:Oe}{E:b_->c_->Prop}{s:c_}{l:k_}{xs:Array b_}{Q:b_->c_->Prop},k.sq s.heap l xs →
  Q (.ref s.heap.objs.size) { s with heap:=s.heap.push { cls:=.type k.nm,data:=.fields #[.ref l,.int 0 0] } }->s_ (t_ prog w) A (RW (.ref l)) Q E s
 new:∀{h:J_}{l:k_},k.it (h.push { cls:=.type k.nm,data:=.fields #[.ref l,.int 0 0] }) h.objs.size l 0
 item:∀{prog:A_}{w:I_}{A:Oe}{E:b_->c_->Prop}{s:c_}{i l:k_}{n:Nat}{xs:Array b_}{x:b_}{Q:b_->c_->Prop},k.it s.heap i l n->k.sq s.heap l xs->xs[n]?=some x →
  (∀h',k.it h' i l (n+1)->J_.SameBut i s.heap h'->Q x { s with heap:=h' })->s_ (t_ prog w) A (SS (.ref i)) Q E s
 stop:∀{prog:A_}{w:I_}{A:Oe}{E:b_->c_->Prop}{s:c_}{i l:k_}{n:Nat}{xs:Array b_}{Q:b_->c_->Prop},A.handled=none->k.it s.heap i l n->k.sq s.heap l xs->xs[n]?=none →
  (∀h' e,J_.ExtBut i s.heap h'->(∃o,h'.get? e=some o/\o.cls=.type "StopIteration")->E (.ref e) { s with heap:=h' })->s_ (t_ prog w) A (SS (.ref i)) Q E s
noncomputable def kdL:Kd:=⟨λh i l n=>h.IsListIter i l n,λh l xs=>h.IsList l xs, "list_iterator"⟩
noncomputable def kdT:Kd:=⟨λh i l n=>h.IsTupleIter i l n,λh l xs=>h.IsTuple l xs, "tuple_iterator"⟩
theorem Cv:KdOk kdL where
 itAt:=λh k=>h.at k
 sqAt:=λh k=>h.at k
 itLt:=λh=>by obtain⟨_,e,_⟩:=h;exact E_ e
 sqLt:=λh=>by obtain⟨_,e,_⟩:=h;exact E_ e
 itObj:=λh=>by obtain⟨o,e,_,d⟩:=h;exact⟨o,e,λv z=>by rw[d] at z;cases z⟩
 iter:=λh q=>Ox h q
 new:=⟨_,x_ _ rfl,rfl,rfl⟩
 item:=λh1 h2 h3 q=>wpAny_nextOf_list_item h1 h2 h3 q
 stop:=λhh h1 h2 h3 q=>wpAny_nextOf_list_end hh h1 h2 h3 q
section
variable{prog:A_}{w:I_}{E:b_->c_->Prop}{s:c_}
theorem DY{α:Type}{Q:α->c_->Prop}(hh:A.handled=none)(k:∀(g:J_) (x:k_),(∀b o,s.heap.get? b=some o->g.get? b=some o)->(∃o,g.get? x=some o/\o.cls=.type "StopIteration")->E (.ref x) { s with heap:=g }):
  s_ (t_ prog w) A (stopIteration (α:=α)) Q E s:=by
 unfold stopIteration newExc newTuple;refine a_ (a_ (NC (a_ (OM (a:=b_.none) (by first | rfl | (simp only[Rz];rfl)) (NC ?_ (by size_fits)))) (by size_fits)));unfold raiseNew;refine a_ (wpAny_handled ?_);rw[hh];exact a_ (e_ (wpAny_throw (k _ _ (λb o e=>f_ _ (f_ _ e)) ⟨_,x_ _ rfl,rfl⟩)))
theorem CK{aT tp:k_}{Q:b_->c_->Prop}(hi:s.heap.IsTupleIter aT tp i)(hT:s.heap.IsTuple tp cells)(one:∀v,cells[i]?=some v->∀g:J_,g.IsTupleIter aT tp (i+1)->J_.SameBut aT s.heap g->Q v { s with heap:=g })(non:cells[i]?=none->A.handled=none/\∀(g:J_) (x:k_),J_.ExtBut aT s.heap g->(∃o,g.get? x=some o/\o.cls=.type "StopIteration")->E (.ref x) { s with heap:=g }):
  s_ (t_ prog w) A (SS (.ref aT)) Q E s:=by
 have ty:=hi.typeIs;obtain⟨oi,gi,ci,di⟩:=hi;obtain⟨ot,gt,ct,nt,dt⟩:=hT;unfold SS;refine a_ (NL (name:=Q1 "__next__") ty Qs (NP Qs ty F.entry_tuple_iterator_next ?_ (F.args_tuple_iterator_next_1 _)));refine a_ (OM (a:=(b_.ref aT,[])) rfl ?_);refine a_ (Ow (i:=0) gi di (x:=.ref tp) rfl (wpAny_ite_split (λno=>absurd no i_) λ_=>?_));refine a_ (Ow (i:=1) gi di (x:=.int i 0) rfl (a_ (N4 gt dt ?_)));dsimp only;rw[Pc];cases hv:cells[i]? with
 | some v =>
  refine a_ (Pr gi di (by simp) (e_ ⟨v,rfl,e_ (one v hv _ ?_ (J_.SameBut.update ..))⟩));have low:=Ps di;exact⟨_,NZ _ gi (PF (low _)),(QC ..).trans ci,by rw[low];simp[Rb]⟩
 | none =>
  obtain⟨hh,k⟩:=non hv;refine a_ (R0 (a_ (Pr gi di (by simp) (DY hh λg x keep is=>k g x (λb o ne e=>keep b o ((J_.SameBut.update ..).extBut b o ne e)) is))))
end
theorem BH:KdOk kdT where
 itAt:=λh k=>by obtain⟨o,e,r⟩:=h;exact⟨o,k o e,r⟩
 sqAt:=λh k=>by obtain⟨o,e,r⟩:=h;exact⟨o,k o e,r⟩
 itLt:=λh=>by obtain⟨_,e,_⟩:=h;exact E_ e
 sqLt:=λh=>by obtain⟨_,e,_⟩:=h;exact E_ e
 itObj:=λh=>by obtain⟨o,e,_,d⟩:=h;exact⟨o,e,λv z=>by rw[d] at z;cases z⟩
 iter:=λh q=>RZ h q
 new:=⟨_,x_ _ rfl,rfl,rfl⟩
 item:=λh1 h2 h3 q=>CK h1 h2 (λv e g=>by rw[h3] at e;cases e;exact q g) λe=>by rw[h3] at e;cases e
 stop:=λhh h1 h2 h3 q=>CK h1 h2 (λv e=>by rw[h3] at e;cases e) λ_=>⟨hh,q⟩
theorem Ci{H:Hp}{s:c_}{T:k_}(I:Inv X aa U H s)(br:∀b∈ch,FpOk X aa H b)(k:∀b u,b∉ch->s.heap.get? b=some u->h'.get? b=some u)(hT:s.heap.objs.size<=T)(new:ObjOk X.prog X.w (upd H T o) h' T o):Inv X aa U (upd H T o) { s with heap:=h',toks:=t' }:=by
 have hf:=I.hok.fresh hT;have ne:∀{b u},H b=some u->b≠T:=λ{b u} e=>r8 e hf
 have cM:∀{b u},H b=some u->b∉ch:=λ{b u} e z=>by have:=(br b z).1;rw[e] at this;cases this
 refine I.step (g':=s.gens) (d':=s.drawn) (ch:=ch) (λb hb=>⟨(br b hb).2.2.2.1,(br b hb).2.1,(br b hb).2.2.2.2.1,(br b hb).2.2.2.2.2⟩) (λb u _ _ hc e _=>k b u hc e) (λb u _ _ hc e _=>⟨u.slots,k b u hc e⟩) (λb u hc e n=>?_)
  (λb u hc e=>⟨u,k b u hc e⟩) (λb xs e=>by rw[qH (ne e)];exact e) (λb u v e=>by rw[qH (ne e)];exact e) (λb ps e=>⟨#[],by rw[qH (ne e),e];simp⟩) (λm hm=>?_) (λb u e=>?_) I.bare
 ·have nb:b≠T:=λz=>by have:=E_ e;rw[z] at this;exact absurd (G_ this hT) (Oq _)
  rw[qH nb];exact n
 ·obtain⟨ob,es,ep,ho,r⟩:=hm;exact⟨ob,es,ep,k _ ob (λz=>(br _ z).2.1 rfl) ho,r⟩
 ·by_cases hb:b=T
  ·subst hb;rw[qQ] at e;cases e;exact new
  ·rw[qH hb] at e;refine(I.hok b u e).stay (λc v hc q=>k c v ?_ q) (λc q=>by rw[qH (ne q)];exact q) λc xs q=>by rw[qH (ne q)];exact q
   rcases hc with z | z
   ·rw[z];exact cM e
   ·exact cM z
theorem zC{H:Hp}{s:c_}(I:Inv X aa U H s)(br:∀b∈ch,FpOk X aa H b)(k:∀b u,b∉ch->s.heap.get? b=some u->h'.get? b=some u):Inv X aa U H { s with heap:=h',toks:=t' }:=by
 have cM:∀{b u},H b=some u->b∉ch:=λ{b u} e z=>by have:=(br b z).1;rw[e] at this;cases this
 refine I.step (g':=s.gens) (d':=s.drawn) (ch:=ch) (λb hb=>⟨(br b hb).2.2.2.1,(br b hb).2.1,(br b hb).2.2.2.2.1,(br b hb).2.2.2.2.2⟩) (λb u _ _ hc e _=>k b u hc e) (λb u _ _ hc e _=>⟨u.slots,k b u hc e⟩) (λb u hc e n=>n)
  (λb u hc e=>⟨u,k b u hc e⟩) (λb xs e=>e) (λb u v e=>e) (λb ps e=>⟨#[],by rw[e];simp⟩) (λm hm=>?_) (λb u e=>?_) I.bare
 ·obtain⟨ob,es,ep,ho,r⟩:=hm;exact⟨ob,es,ep,k _ ob (λz=>(br _ z).2.1 rfl) ho,r⟩
 ·refine(I.hok b u e).stay (λc v hc q=>k c v ?_ q) (λc q=>q) λc xs q=>q
  rcases hc with z | z
  ·rw[z];exact cM e
  ·exact cM z
section
variable{prog:A_}{w:I_}{E:b_->c_->Prop}{s:c_}{k:Kd}
theorem zI(ok:KdOk k){z ta bI p q u v:k_}{xs ys:Array b_}{c0 c1:b_}{Q:PySem.Fin->c_->Prop}(D:ZipApart z ta bI p q u v)(qD:RU s.heap z ta bI .none)(Ta:Pi s.heap ta (.ref p) (.ref q))(To:Pi s.heap bI c0 c1)(P:k.it s.heap p u m)(P':k.it s.heap q v n)(qB:k.sq s.heap u xs)(U':k.sq s.heap v ys)(i7:∀x y,xs[m]?=some x->ys[n]?=some y->∀g:J_,g.objs.size=s.heap.objs.size+1/\Pi g s.heap.objs.size x y->RU g z ta bI (Rb s.heap.objs.size)->Pi g bI x y->k.it g p u (m+1)/\k.it g q v (n+1) →
   (∀c o,(c≠z/\c≠bI/\c≠p/\c≠q)->s.heap.get? c=some o->g.get? c=some o)->Q (.done (.ret (.ref s.heap.objs.size))) { s with heap:=g })(i8:(xs[m]?=none\/ys[n]?=none)->A.handled=none/\∀(g:J_) (x:k_),(∀c o,(c≠z/\c≠bI/\c≠p/\c≠q)->s.heap.get? c=some o->g.get? c=some o)->(∃o,g.get? x=some o/\o.cls=.type "StopIteration")->E (.ref x) { s with heap:=g }):
  s_ (t_ prog w) A (Ov.«zip.__next__» ⟨[.ref z],[]⟩) Q E s:=by
 refine a_ (OM (a:=(b_.ref z,[])) rfl (a_ (Ow (i:=2) qD rfl (x:=.bool false) rfl (a_ (Ow (i:=3) qD rfl (x:=.ref ta) rfl (a_ (N4 Ta rfl ?_)))))));refine a_ (m:=Ov.SmallTypes.ownedTupleIsFree (.ref z)) (a_ (Ow (i:=0) qD rfl (x:=.none) rfl (e_ ?_)));rw[if_pos rfl];refine a_ (R0 (a_ (Ow (i:=4) qD rfl (x:=.ref bI) rfl (a_ (Pj qD (by simp) λg1 Z1 b1=>?_)))));replace Z1:RU g1 z ta bI .ellipsis:=Z1
 have jD:∀(g:J_) (x:k_),RU g z ta bI .ellipsis->(∃o,g.get? x=some o/\o.cls=.type "StopIteration")->(∀g':J_,J_.SameBut z g g'->(∃o,g'.get? x=some o/\o.cls=.type "StopIteration")->E (.ref x) { s with heap:=g' }) →
   s_ (t_ prog w) A (setField (.ref z) 0 .none) (λ_ s'=>E (.ref x) s') E { s with heap:=g }:=λg x Zg is kk=>by
  obtain⟨o,e1,e2⟩:=is;refine Pj Zg (by simp) λg' _ b'=>kk g' b' ⟨o,b'.extBut _ _ (λsame=>?_) e1,e2⟩
  rw[same,Zg] at e1;cases e1;simp at e2
 have f1:∀c o,c≠z->s.heap.get? c=some o->g1.get? c=some o:=λc o ne e=>b1.extBut _ _ ne e
 refine a_ ?_;rw[Q6,Q6,List.zipIdx_nil,Ph];refine a_ (a_ (wpAny_onRaise (a_ (m:=SS (.ref p)) ?_)));have P1:=ok.itAt P λo e=>f1 _ o D.i1z e
 have U1:=ok.sqAt qB λo e=>f1 _ o D.l1z e
 cases hx:xs[m]? with
 | none =>
  obtain⟨hh,bf⟩:=i8 (.inl hx);exact ok.stop hh P1 U1 hx λg2 x b2 is=>jD g2 x (b2 _ _ D.i1z.symm Z1) is λg' b' eC=>bf g' x (λc o ne e=>b'.extBut _ _ ne.1 (b2 _ _ ne.2.2.1 (f1 c o ne.1 e))) eC
 | some x =>
  refine ok.item P1 U1 hx λg2 P2 b2=>e_ ?_
  have kY:Pi g2 bI c0 c1:=b2.extBut _ _ D.TOi1 (f1 _ _ D.TOz To);refine a_ (N4 kY rfl (a_ (RA kY λg3 jE b3=>a_ (P0 (e_ ?_)))));replace jE:Pi g3 bI x c1:=jE;have f3:∀c o,c≠bI->c≠p->g1.get? c=some o->g3.get? c=some o:=λc o n1 n2 e=>b3.extBut _ _ n1 (b2.extBut _ _ n2 e)
  have Z3:RU g3 z ta bI .ellipsis:=f3 _ _ D.TOz.symm D.i1z.symm Z1;dsimp only;rw[Ph];refine a_ (a_ (wpAny_onRaise (a_ (m:=SS (.ref q)) ?_)));have Q3:=ok.itAt P' λo e=>f3 _ o D.TOi2.symm D.i12.symm (f1 _ o D.i2z e)
  have V3:=ok.sqAt U' λo e=>f3 _ o D.l2TO D.l2i1 (f1 _ o D.l2z e)
  cases hy:ys[n]? with
  | none =>
   obtain⟨hh,bf⟩:=i8 (.inr hy);exact ok.stop hh Q3 V3 hy λg4 x b4 is=>jD g4 x (b4 _ _ D.i2z.symm Z3) is λg' b' eC=>bf g' x (λc o ne e=>b'.extBut _ _ ne.1 (b4 _ _ ne.2.2.2 (f3 c o ne.2.1 ne.2.2.1 (f1 c o ne.1 e)))) eC
  | some y =>
   refine ok.item Q3 V3 hy λg4 Q4 b4=>e_ ?_
   have kZ:Pi g4 bI x c1:=b4.extBut _ _ D.TOi2 jE;refine a_ (N4 kZ rfl (a_ (RA kZ λg5 hV b5=>a_ (P0 (e_ ?_)))));replace hV:Pi g5 bI x y:=hV;have f5:∀c o,c≠bI->c≠q->g3.get? c=some o->g5.get? c=some o:=λc o n1 n2 e=>b5.extBut _ _ n1 (b4.extBut _ _ n2 e)
   dsimp only;rw[Qj];refine e_ (a_ (N4 hV rfl (a_ (wpAny_newTuple ?_))));have same:g5.objs.size=s.heap.objs.size:=b5.1.trans (b4.1.trans (b3.1.trans (b2.1.trans b1.1)));have Z5:RU g5 z ta bI .ellipsis:=f5 _ _ D.TOz.symm D.i2z.symm Z3;have eD:g5.objs.size≠z:=Qo (E_ Z5);have Z6:RU (g5.push { cls:=.type "tuple", data:=.seq #[x,y] }) z ta bI .ellipsis:=f_ _ Z5;refine a_ (m:=Ov.SmallTypes.ownedTupleHandOut (.ref z) (.ref g5.objs.size)) (a_ (Pj Z6 (by simp) λg7 Z7 b7=>?_));refine Pj Z7 (by simp) λg8 Z8 b8=>e_ ?_
   replace Z8:RU g8 z ta bI (Rb g5.objs.size):=Z8;have f8:∀c o,c≠z->g5.get? c=some o->g8.get? c=some o:=λc o ne e=>b8.extBut _ _ ne (b7.extBut _ _ ne (f_ _ e))
   have T8:Pi g8 g5.objs.size x y:=b8.extBut _ _ eD (b7.extBut _ _ eD (x_ _ rfl));have fW:g8.objs.size=g5.objs.size+1:=b8.1.trans (b7.1.trans (OS ..));show Q (.done (.ret (.ref g5.objs.size))) { s with heap:=g8 };rw[same] at Z8 T8 fW ⊢
   exact i7 x y hx hy g8 ⟨fW,T8⟩ Z8 (f8 _ _ D.TOz hV) ⟨ok.itAt P2 λo e=>f8 _ o D.i1z (f5 _ o D.TOi1.symm D.i12 (b3.extBut _ _ D.TOi1.symm e)),ok.itAt Q4 λo e=>f8 _ o D.i2z (b5.extBut _ _ D.TOi2.symm e)⟩
    λc o ne e=>f8 c o ne.1 (f5 c o ne.2.1 ne.2.2.2 (f3 c o ne.2.1 ne.2.2.1 (f1 c o ne.1 e)))
noncomputable abbrev zk1(k:Kd)(h:J_)(l1:k_):J_:=h.push { cls:=.type k.nm,data:=.fields #[.ref l1,.int 0 0] }
noncomputable abbrev zk2(k:Kd)(h:J_)(l1 l2:k_):J_:=(zk1 k h l1).push { cls:=.type k.nm,data:=.fields #[.ref l2,.int 0 0] }
noncomputable abbrev zk3(k:Kd)(h:J_)(l1 l2:k_):J_:=(zk2 k h l1 l2).push { cls:=.type "tuple", data:=.seq #[.ref h.objs.size,.ref (zk1 k h l1).objs.size] }
noncomputable abbrev zk4(k:Kd)(h:J_)(l1 l2:k_):J_:=(zk3 k h l1 l2).push { cls:=.type "tuple", data:=.seq #[.none,.none] }
noncomputable abbrev zk5(k:Kd)(h:J_)(l1 l2:k_):J_:=(zk4 k h l1 l2).push { cls:=.type "zip", data:=.fields #[.none,.bool false,.bool false,.ref (zk2 k h l1 l2).objs.size,.ref (zk3 k h l1 l2).objs.size] }
theorem E5(ok:KdOk k)(l1 l2:k_)(xs ys:Array b_):
  Meets (Ov.«zip.__new__» ⟨[.type "zip", .ref l1,.ref l2],[]⟩) (λ_ R s=>k.sq s.heap l1 xs/\k.sq s.heap l2 ys ∧
   ∀h',RU h' (s.heap.objs.size+4) (s.heap.objs.size+2) (s.heap.objs.size+3) .none->Pi h' (s.heap.objs.size+2) (.ref s.heap.objs.size) (.ref (s.heap.objs.size+1)) →
    Pi h' (s.heap.objs.size+3) .none .none->k.it h' s.heap.objs.size l1 0->k.it h' (s.heap.objs.size+1) l2 0->(∀c o,s.heap.get? c=some o->h'.get? c=some o)->R (.ok (.ret (.ref (s.heap.objs.size+4)))) { s with heap:=h' }):=
 .of_wp λprog w A R s h=>by
  obtain⟨hp,gn,dw,tk,os⟩:=s;obtain⟨cT,dr,h⟩:=h;have fX:=sub_zip;have nT:k.sq (c_.heap ⟨hp,gn,dw,tk,os⟩) l1 xs:=cT;have nU:k.sq (c_.heap ⟨zk1 k hp l1,gn,dw,tk,os⟩) l2 ys:=ok.sqAt dr λo e=>f_ _ e
  wp_walk using ok.iter nT,ok.iter nU
  refine⟨_,rfl,?_⟩;have z1:(zk1 k hp l1).objs.size=hp.objs.size+1:=OS ..;have z2:(zk2 k hp l1 l2).objs.size=hp.objs.size+2:=by rw[OS,z1]
  have z3:(zk3 k hp l1 l2).objs.size=hp.objs.size+3:=by rw[OS,z2]
  have z4:(zk4 k hp l1 l2).objs.size=hp.objs.size+4:=by rw[OS,z3]
  have g5:(zk5 k hp l1 l2).get? (zk4 k hp l1 l2).objs.size=some { cls:=.type "zip", data:=.fields #[.none,.bool false,.bool false,.ref (zk2 k hp l1 l2).objs.size,.ref (zk3 k hp l1 l2).objs.size] }:=x_ _ rfl;have g4:(zk5 k hp l1 l2).get? (zk3 k hp l1 l2).objs.size=some { cls:=.type "tuple", data:=.seq #[.none,.none] }:=f_ _ (x_ _ rfl);have g3:(zk5 k hp l1 l2).get? (zk2 k hp l1 l2).objs.size=some { cls:=.type "tuple", data:=.seq #[.ref hp.objs.size,.ref (zk1 k hp l1).objs.size] }:=f_ _ (f_ _ (x_ _ rfl));have n2:k.it (zk2 k hp l1 l2) (zk1 k hp l1).objs.size l2 0:=ok.new;have n1:k.it (zk1 k hp l1) hp.objs.size l1 0:=ok.new;have i2:k.it (zk5 k hp l1 l2) (zk1 k hp l1).objs.size l2 0:=ok.itAt n2 λo e=>f_ _ (f_ _ (f_ _ e))
  have i1:k.it (zk5 k hp l1 l2) hp.objs.size l1 0:=ok.itAt n1 λo e=>f_ _ (f_ _ (f_ _ (f_ _ e)))
  show R (.ok (.ret (.ref (zk4 k hp l1 l2).objs.size))) { heap:=zk5 k hp l1 l2,gens:=gn,drawn:=dw,toks:=tk,os:=os };rw[z2,z3,z4] at g5;rw[z1,z2] at g3;rw[z3] at g4;rw[z1] at i2;rw[z4];exact h (zk5 k hp l1 l2) g5 g3 g4 i1 i2 λc o e=>f_ _ (f_ _ (f_ _ (f_ _ (f_ _ e))))
theorem GH(ok:KdOk k){xs ys:Array b_}{Q:b_->c_->Prop}(cT:k.sq s.heap l1 xs)(dr:k.sq s.heap l2 ys)(made:∀n h',n=s.heap.objs.size->RU h' (n+4) (n+2) (n+3) .none->Pi h' (n+2) (.ref n) (.ref (n+1))->Pi h' (n+3) .none .none->k.it h' n l1 0->k.it h' (n+1) l2 0->(∀c o,s.heap.get? c=some o->h'.get? c=some o)->Q (.ref (n+4)) { s with heap:=h' }):
  s_ (t_ prog w) A (call (type "zip") ([l1,l2].map b_.ref)) Q E s:=
 callType_new F.called_zip (by decide) (F.typeCall_zip_2 _ _) (F.newCall_zip_2 _ _) (λobj=>F.args_object_init_3 obj _ _) F.entry_zip_new (E5 ok l1 l2 xs ys) ⟨cT,dr,λh' b1 b2 b3 b4 b5 b6=>⟨⟨_,b1,rfl⟩,made _ h' rfl b1 b2 b3 b4 b5 b6⟩⟩
end
section
variable{k:Kd}
noncomputable def Itz(rd:Hp->k_->List V->Prop)(l1 l2:k_):It:=
 ⟨λi H=>∃xs ys x y,rd H l1 xs/\rd H l2 ys/\xs[i]?=some x/\ys[i]?=some y,
  λi H v H'=>∃p x y,H p=none/\v=.ref p/\H'=upd H p (.tup [x,y])/\(∀xs,rd H l1 xs->xs[i]?=some x)/\(∀ys,rd H l2 ys->ys[i]?=some y),
  λi H=>∃xs ys,rd H l1 xs/\rd H l2 ys/\(xs.length<=i\/ys.length<=i)⟩
structure KdRd(K:PySem.W.Frag)(k:Kd)(rd:Hp->k_->List V->Prop):Prop where
 of:∀{X:Cx}{aa:List (k_×Obj)}{U:L2.St}{H:Hp}{s:c_}{a:k_}{xs:List V},X.K=K->Inv X aa U H s->rd H a xs->∃ae:List b_,Vals xs ae/\k.sq s.heap a ae.toArray
 inj:∀{X:Cx}{aa:List (k_×Obj)}{U:L2.St}{H:Hp}{s:c_}{a:k_}{xs ys:List V},X.K=K->Inv X aa U H s->rd H a xs->rd H a ys->xs=ys
theorem B3(K:PySem.W.Frag):KdRd K kdL (λH a xs=>SqL K H a xs) where
 of:=λe I h=>by subst e;obtain⟨ae,r,t,_⟩:=I.list h;exact⟨ae,r,t.isList⟩
 inj:=λe I h h'=>by subst e;exact I.list_inj h h'
theorem AI(K:PySem.W.Frag):KdRd K kdT (λH a xs=>SqT K H a xs) where
 of:=λe I h=>by subst e;obtain⟨ae,r,t,_⟩:=I.tuple h;exact⟨ae,r,t⟩
 inj:=λe I h h'=>by subst e;exact I.tuple_inj h h'
theorem JF{P:A_}{w:I_}{K:PySem.W.Frag}{rd:Hp->k_->List V->Prop}(ok:KdOk k)(kr:KdRd K k rd){z TI TO i1 i2:k_}(D:ZipApart z TI TO i1 i2 l1 l2):
  Turn P w K (.Tuple bE x1 tp) (Itz rd l1 l2) [z,TI,TO,i1,i2] z (λi h=>RU h z TI TO .none/\Pi h TI (.ref i1) (.ref i2)/\(∃a b,Pi h TO a b)/\k.it h i1 l1 i/\k.it h i2 l2 i) where
 mem:=by simp
 obj:=λi h st b hb=>by
  obtain⟨a1,a2,⟨x,y,a3⟩,a4,a5⟩:=st;rw[D_,D_,D_,D_,r_] at hb
  rcases hb with rfl | rfl | rfl | rfl | rfl
  ·exact⟨_,a1,λv q=>by cases(show fields _=RL v from q)⟩
  ·exact⟨_,a2,λv q=>by cases(show seq _ _=RL v from q)⟩
  ·exact⟨_,a3,λv q=>by cases(show seq _ _=RL v from q)⟩
  ·exact ok.itObj a4
  ·exact ok.itObj a5
 keep:=λi h h' st kk=>by
  obtain⟨a1,a2,⟨x,y,a3⟩,a4,a5⟩:=st;exact⟨kk _ (by simp) _ a1,kk _ (by simp) _ a2,⟨x,y,kk _ (by simp) _ a3⟩,ok.itAt a4 λo e=>kk _ (by simp) o e,ok.itAt a5 λo e=>kk _ (by simp) o e⟩
 item:=by
  intro X hP hw hK hc i aa s U H E I hf st hg;subst hP hw;obtain⟨a1,a2,⟨av,bv,a3⟩,a4,a5⟩:=st;obtain⟨xs,ys,x,y,g1,g2,g3,g4⟩:=hg;obtain⟨ae,r1,t1⟩:=kr.of hK I g1;obtain⟨bx,r2,t2⟩:=kr.of hK I g2;obtain⟨u1,e1,e2⟩:=r1.get g3;obtain⟨u2,e3,e4⟩:=r2.get g4;have hT:s.TypeIs (.ref z) "zip":=⟨_,a1,rfl⟩;unfold PL;refine a_ (PQ (NL (name:=Q1 "__next__") hT P_ (NP P_ hT F.entry_zip_next (zI ok D a1 a2 a3 a4 a5 t1 t2 ?_ ?_) (Sf _))))
  case refine_2 =>
   intro non;have f1:ae.toArray[i]?=some u1:=by simpa using e1
   have f2:bx.toArray[i]?=some u2:=by simpa using e3
   rw[f1,f2] at non
   rcases non with non | non<;>cases non
  intro y1 y2 k1 k2 h' ⟨_,b5⟩ b1 b2 ⟨b3,b4⟩ b7;have f1:ae.toArray[i]?=some u1:=by simpa using e1
  have f2:bx.toArray[i]?=some u2:=by simpa using e3
  rw[f1] at k1;cases k1;rw[f2] at k2;cases k2;refine⟨_,rfl,e_ ⟨.ref s.heap.objs.size,rfl,wpAny_letOwnedTupleGo_zip b1 λh2 c1 c2=>?_⟩⟩;have lt:∀{b o},s.heap.get? b=some o->b≠s.heap.objs.size:=λ{b o} e=>NB (E_ e)
  have fY:=lt a1;have k5:=lt a2;have k6:=lt a3
  have kk:∀b u,b∉[z,TI,TO,i1,i2]->s.heap.get? b=some u->h2.get? b=some u:=λb u hb e=>by
   simp only[D_,P3,or_false,not_or] at hb;exact c2.extBut _ _ hb.1 (b7 b u ⟨hb.1,hb.2.2.1,hb.2.2.2.1,hb.2.2.2.2⟩ e)
  have pT:Pi h2 s.heap.objs.size u1 u2:=c2.extBut _ _ (NH fY) b5;have I1:Inv X aa U (upd H s.heap.objs.size (.tup [x,y])) { s with heap:=h2 }:=Ci (t':=s.toks) I hf kk (v_ _) ⟨by show 2<=C_;rw[Of];decide,[u1,u2],.cons e2 (.cons e4 .nil),⟨_,pT,rfl,_,rfl⟩⟩;have fr:=I.hok.fresh (v_ s.heap.objs.size);refine⟨.ref s.heap.objs.size,_,I1,rfl,⟨s.heap.objs.size,x,y,fr,rfl,rfl,λzs hz=>by rw[kr.inj hK I hz g1];exact g3,λzs hz=>by rw[kr.inj hK I hz g2];exact g4⟩,⟨c1,c2.extBut _ _ D.TIz (b7 _ _ ⟨D.TIz,D.TITO,D.TIi1,D.TIi2⟩ a2),⟨u1,u2,c2.extBut _ _ D.TOz b2⟩,ok.itAt b3 λo e=>c2.extBut _ _ D.i1z e,ok.itAt b4 λo e=>c2.extBut _ _ D.i2z e⟩,λb hb=>?_⟩;have jF:=(hf b hb).1
  have nb:b≠s.heap.objs.size:=by
   rw[D_,D_,D_,D_,r_] at hb
   rcases hb with rfl | rfl | rfl | rfl | rfl
   ·exact fY
   ·exact k5
   ·exact k6
   ·exact NB (ok.itLt a4)
   ·exact NB (ok.itLt a5)
  rw[qH nb];exact jF
 done:=by
  intro X hP hw hK hc i aa s U H E I hf st hg;subst hP hw;obtain⟨a1,a2,⟨av,bv,a3⟩,a4,a5⟩:=st;obtain⟨xs,ys,g1,g2,g3⟩:=hg;obtain⟨ae,r1,t1⟩:=kr.of hK I g1;obtain⟨bx,r2,t2⟩:=kr.of hK I g2;have cT:=r1.length;have dr:=r2.length;have hT:s.TypeIs (.ref z) "zip":=⟨_,a1,rfl⟩;unfold PL;refine a_ (PQ (NL (name:=Q1 "__next__") hT P_ (NP P_ hT F.entry_zip_next (zI ok D a1 a2 a3 a4 a5 t1 t2 ?_ λ_=>⟨I.ok.hd hc,λh' e hk he=>?_⟩) (Sf _))))
  ·intro y1 y2 k1 k2;have m1:=(Nw.mp k1).1;have m2:=(Nw.mp k2).1;simp at m1 m2;omega
  ·obtain⟨o,ho,jG⟩:=he;refine a_ (O8 (T:= "StopIteration") (b:=true) ⟨o,ho,jG⟩ RB ?_);refine e_ ⟨rfl,zC (t':=s.toks) I hf λb u hb e=>?_⟩;simp only[D_,P3,or_false,not_or] at hb;exact hk b u ⟨hb.1,hb.2.2.1,hb.2.2.2.1,hb.2.2.2.2⟩ e
 self:=λ_ _ _ _ _ st h=>wpAny_pyIter_zip st.1 h
end
section
variable{B:BB}{a b c:Ny}{es:List Ny}{ga gb gc:M D}
noncomputable def iZip(K:PySem.W.Frag)(ta:TA):TI:=λU H R=>ta U H λvs H1=>(∃l1 l2 xs ys,vs=[.ref l1,.ref l2]/\SqL K H1 l1 xs/\SqL K H1 l2 ys/\R (Itz (λH a xs=>SqL K H a xs) l1 l2) H1)\/(∃l1 l2 xs ys,vs=[.ref l1,.ref l2]/\SqT K H1 l1 xs/\SqT K H1 l2 ys/\R (Itz (λH a xs=>SqT K H a xs) l1 l2) H1)
theorem BD{k:Kd}{rd:Hp->k_->List V->Prop}(ok:KdOk k)(kr:KdRd X.K k rd){H:Hp}{s:c_}{R:It->Hp->Prop}{ys:List V}(I:Inv X aa U H s)(h1:rd H l1 xs)(h2:rd H l2 ys)(q:R (Itz rd l1 l2) H):
  s_ (t_ X.prog X.w) X.A (call (.type "zip") [.ref l1,.ref l2]) (λv s1=>s_ (t_ X.prog X.w) X.A (RW v) (PIE X aa U (.Tuple bE x1 tp) R) X.xe s1) X.xe s:=by
 obtain⟨ae,r1,t1⟩:=kr.of rfl I h1;obtain⟨bx,r2,t2⟩:=kr.of rfl I h2;refine GH ok t1 t2 λn h' hn a1 a2 a3 a4 a5 a6=>wpAny_pyIter_zip a1 ?_
 subst hn;have I1:Inv X aa U H { s with heap:=h' }:=I.kept (t':=s.toks) a6;refine⟨s.heap.objs.size+4,[s.heap.objs.size+4,s.heap.objs.size+2,s.heap.objs.size+3,s.heap.objs.size,s.heap.objs.size+1],_,_,H,rfl,I1,JF ok kr (zipApart_new (ok.sqLt t1) (ok.sqLt t2)),⟨a1,a2,⟨_,_,a3⟩,a4,a5⟩,λb hb=>?_,q⟩;rw[D_,D_,D_,D_,r_] at hb;have up:∀n,FpOk X aa H (s.heap.objs.size+n):=λn=>I.fpOk (OO _ _) (I.hok.fresh (OO _ _))
 rcases hb with rfl | rfl | rfl | rfl | rfl
 ·exact up 4
 ·exact up 2
 ·exact up 3
 ·exact up 0
 ·exact up 1
theorem Hz{p:Pos}(hg:Gl X "zip")(hm:X.mg "zip"=none)(ha:PA X [a,b] ta)(hs:d_ [a,b] X.env=[(false,Nr a X.env),(false,Nr b X.env)]:=by rfl)(cb:d_ [b] X.env=[(false,Nr b X.env)]:=by rfl):
  PI X (.Tuple bE x1 tp) (.Call (.Name "zip" p) [a,b] [] pos) (iZip X.K ta):=by
 intro aa s U H R I h;refine S_ (rS I hg hm boot_zip (Nt (thn (ha pos aa s U H _ I h) λus s1 ⟨vs,H1,I1,r1,q1⟩=>?_) (by rw[hs,cb]) (by rw[cb];rfl)))
 rcases q1 with⟨l1,l2,xs,ys,e,h1,h2,q⟩ | ⟨l1,l2,xs,ys,e,h1,h2,q⟩
 ·subst e;obtain⟨u1,u2,rfl,e1,e2⟩:=r1.two;cases e1;cases e2;exact BD Cv (B3 _) I1 h1 h2 q
 ·subst e;obtain⟨u1,u2,rfl,e1,e2⟩:=r1.two;cases e1;cases e2;exact BD BH (AI _) I1 h1 h2 q
noncomputable def pairsD(xs ys:List D):List D:=(xs.zip ys).map λp=>.tup [p.1,p.2]
noncomputable def zipI(ds:List D):Option (List D):=match ds with
 | [.lst xs,.lst ys]=>some (pairsD xs ys)
 | [.tup xs,.tup ys]=>some (pairsD xs ys)
 | _=>none
theorem AU{K:PySem.W.Frag}{rd:Hp->k_->List V->Prop}{ys:List V}{es:List D}(mono:∀{H a xs},Same I H->rd I a xs->rd H a xs)(inj:∀{H},Same I H->(∀zs,rd H l1 zs->zs=xs)/\(∀zs,rd H l2 zs->zs=ys)\/True)(h1:rd I l1 xs)(h2:rd I l2 ys)(i1:IsA K I ds xs)(i2:IsA K I es ys):Yields K I (pairsD ds es) (Itz rd l1 l2):=λi H s=>by
 have L1:=i1.length;have L2:=i2.length;refine⟨λd hd=>?_,λhi=>⟨xs,ys,mono s h1,mono s h2,?_⟩⟩
 ·unfold pairsD at hd;obtain⟨q,e1,rfl⟩:=getMap hd;obtain⟨e2,e3⟩:=Pa.mp e1;obtain⟨x,f1,f2⟩:=i1.get e2;obtain⟨y,f3,f4⟩:=i2.get e3;refine⟨⟨xs,ys,x,y,mono s h1,mono s h2,f1,f3⟩,λv H2 hy=>?_⟩;obtain⟨p,x',y',g1,g2,g3,g4,g5⟩:=hy;have k1:=g4 xs (mono s h1);have k2:=g5 ys (mono s h2);rw[f1] at k1;cases k1;rw[f3] at k2;cases k2;exact .inr ⟨p,[q.1,q.2],[x,y],rfl,g2,g1,g3,IsA.cons f2 (IsA.cons f4 IsA.nil)⟩
 ·unfold pairsD at hi;rw[u_,SU] at hi;omega
theorem uZ{p:Pos}(hg:Gl X "zip")(hm:X.mg "zip"=none)(ha:AD X B [a,b] t)(hs:d_ [a,b] X.env=[(false,Nr a X.env),(false,Nr b X.env)]:=by rfl)(cb:d_ [b] X.env=[(false,Nr b X.env)]:=by rfl):
  ITD X B (.Tuple bE x1 tp) (.Call (.Name "zip" p) [a,b] [] pos) (fn1 zipI t):=PI.imp (Hz hg hm ha hs cb) λU H R q=>by
 obtain⟨G,I,Y,ds,af,r,e1,k⟩:=q;obtain⟨d,ac,e2,e3⟩:=qE e1;obtain⟨e4,rfl⟩:=qN e3;refine⟨G,I,Y,d,_,r,e2,λvs H1 I1 r1 g1 hd=>?_⟩;unfold zipI at e4;split at e4
 ·cases e4;obtain⟨x,y,rfl,hx,hy⟩:=hd.two;obtain⟨l1,xs,rfl,h1,h2⟩:=qR hx;obtain⟨l2,ys,rfl,h3,h4⟩:=qR hy;exact .inl ⟨l1,l2,xs,ys,rfl,(Same.rdK r1.iH h1).sq,(Same.rdK r1.iH h3).sq,k _ _ _ r1 g1 (AU (λs h=>by rcases h with h | h;exact .inl (Same.rd s h);exact .inr h) (λ_=>.inr trivial) h1.sq h3.sq h2 h4)⟩
 ·cases e4;obtain⟨x,y,rfl,hx,hy⟩:=hd.two;obtain⟨l1,xs,rfl,h1,h2⟩:=qL hx;obtain⟨l2,ys,rfl,h3,h4⟩:=qL hy;exact .inr ⟨l1,l2,xs,ys,rfl,Same.sqT r1.iH h1,Same.sqT r1.iH h3,k _ _ _ r1 g1 (AU (λs h=>Same.sqT s h) (λ_=>.inr trivial) h1 h3 h2 h4)⟩
 ·cases e4
section
variable {k:Kd}
theorem drawsK(ok:KdOk k){prog:A_}{w:I_}(hh:A.handled=none)(it l:k_)(dA:l≠it)(ai:Array b_):Draws prog w A it [it,l] ai.size (λi v=>ai[i]?=some v) (λi h=>k.it h it l i/\k.sq h l ai) where
 live:=λi h st=>by obtain⟨o,e,_⟩:=ok.itObj st.1;exact⟨o,e⟩
 frame:=λi h h' st kk=>⟨ok.itAt st.1 λo e=>kk _ (by simp) o e,ok.sqAt st.2 λo e=>kk _ (by simp) o e⟩
 item:=λi s Q E hi st hQ=>ok.item st.1 st.2 (x:=ai[i]) (by simp[hi]) λh' h1 h2=>hQ _ h' s.toks (by simp[hi]) ⟨h1,ok.sqAt st.2 λo e=>h2.extBut _ _ dA e⟩ h2
 done:=λs Q E st hE=>ok.stop hh st.1 st.2 (by simp) hE
theorem Dq(ok:KdOk k)(l:k_)(ai:Array b_):
  Meets (Ov.«enumerate.__new__» ⟨[.type "enumerate", .ref l],[]⟩) (λ_ R s=>k.sq s.heap l ai ∧
   R (.ok (.ret (.ref (s.heap.push { cls:=.type k.nm,data:=.fields #[.ref l,.int 0 0] }).objs.size)))
    { s with heap:=(s.heap.push { cls:=.type k.nm,data:=.fields #[.ref l,.int 0 0] }).push { cls:=.type "enumerate", data:=.fields #[.none,.bool false,.ref s.heap.objs.size,Rb 0,.none,.none] } }):=
 .of_wp λprog w A R s h=>by
  obtain⟨hp,gn,dw,tk,os⟩:=s;obtain⟨hl,h⟩:=h;have fX:=sub_enumerate;have hL:k.sq (c_.heap ⟨hp,gn,dw,tk,os⟩) l ai:=hl
  wp_walk using ok.iter hL
  refine wpAny_stack_any λframes=>e_ ?_
  split
  next c _ _ _ _ _=>cases c == type "enumerate"<;>(wp_walk using ok.iter hL;exact⟨_,rfl,h⟩)
  next=>wp_walk using ok.iter hL;exact⟨_,rfl,h⟩
end
end
section
variable{prog:A_}{w:I_}{E:b_->c_->Prop}{s:c_}{k:Kd}
noncomputable abbrev en1(k:Kd)(h:J_)(l:k_):J_:=h.push { cls:=.type k.nm,data:=.fields #[.ref l,.int 0 0] }
noncomputable abbrev en2(k:Kd)(h:J_)(l:k_):J_:=(en1 k h l).push { cls:=.type "enumerate", data:=.fields #[.none,.bool false,.ref h.objs.size,Rb 0,.none,.none] }
theorem FP(ok:KdOk k){l:k_}{Q:b_->c_->Prop}(hL:k.sq s.heap l ai)(made:∀n g,n=s.heap.objs.size->IsEnum g (n+1) n 0 .none->k.it g n l 0->(∀b o,s.heap.get? b=some o->g.get? b=some o)->Q (.ref (n+1)) { s with heap:=g }):
  s_ (t_ prog w) A (call (type "enumerate") ([l].map b_.ref)) Q E s:=by
 have cU:(en1 k s.heap l).objs.size=s.heap.objs.size+1:=OS ..;have hX:(en2 k s.heap l).get? (en1 k s.heap l).objs.size=some _:=x_ _ rfl;rw[cU] at hX;refine callType_new F.called_enumerate (by decide) (F.typeCall_enumerate_1 _) (F.newCall_enumerate_1 _) (λobj=>F.args_object_init_2 obj _) F.entry_enumerate_new (Dq ok l ai) ⟨hL,?_⟩;have put:Q (.ref (s.heap.objs.size+1)) { s with heap:=en2 k s.heap l }:=made _ _ rfl hX (ok.itAt ok.new λo e=>f_ _ e) λb o x=>f_ _ (f_ _ x)
 rw[←cU] at put hX;exact⟨⟨_,hX,rfl⟩,put⟩
end
section
variable{B:BB}{a b c:Ny}{es:List Ny}{ga gb gc:M D}{k:Kd}
noncomputable def Ite(rd:Hp->k_->List V->Prop)(l:k_):It:=
 ⟨λi H=>∃xs x,rd H l xs/\xs[i]?=some x,λi H v H'=>∃p x,H p=none/\v=.ref p/\H'=upd H p (.tup [.int i,x])/\(∀xs,rd H l xs->xs[i]?=some x),λi H=>∃xs,rd H l xs/\xs.length<=i⟩
theorem JD{P:A_}{w:I_}{K:PySem.W.Frag}{rd:Hp->k_->List V->Prop}(ok:KdOk k)(kr:KdRd K k rd){z it l:k_}(jH:z≠it)(k7:l≠it)(nV:z≠l):
  Turn P w K (.Tuple bE x1 tp) (Ite rd l) [z,it] z (λi h=>(∃old,IsEnum h z it i old)/\k.it h it l i) where
 mem:=by simp
 obj:=λi h st b hb=>by
  obtain⟨⟨old,a1⟩,a2⟩:=st;rw[D_,r_] at hb
  rcases hb with rfl | rfl
  ·exact⟨_,a1,λv q=>by cases(show fields _=RL v from q)⟩
  ·exact ok.itObj a2
 keep:=λi h h' st kk=>by
  obtain⟨⟨old,a1⟩,a2⟩:=st;exact⟨⟨old,kk _ (by simp) _ a1⟩,ok.itAt a2 λo e=>kk _ (by simp) o e⟩
 item:=by
  intro X hP hw hK hc i aa s U H E I hf st hg;subst hP hw;obtain⟨⟨old,a1⟩,a2⟩:=st;obtain⟨xs,x,g1,g3⟩:=hg;obtain⟨ae,r1,t1⟩:=kr.of hK I g1;obtain⟨u1,e1,e2⟩:=r1.get g3
  have aR:i < ae.toArray.size:=by
   have:=(p_.mp e1).1;simpa using this
  have D:=drawsK ok (prog:=X.prog) (w:=X.w) (A:=X.A.in1) (I.ok.hd hc) it l k7 ae.toArray;refine wpAny_pyNext_enum_itemD D a1 ⟨a2,t1⟩ aR jH (by simp[jH,nV]) λy h' tk b0 b1 b2 b3 b4 b5=>?_
  have hy:y=u1:=by
   have ez:ae.toArray[i]?=some u1:=by simpa using e1
   have k8:ae.toArray[i]?=some y:=b0;rw[ez] at k8;cases k8;rfl
  subst hy;refine⟨.ref s.heap.objs.size,rfl,wpAny_letOwnedTupleGo_enum b1 λh2 c1 c2=>?_⟩;have fY:z≠s.heap.objs.size:=NB (E_ a1);have nW:it≠s.heap.objs.size:=NB (ok.itLt a2)
  have kk:∀b u,b∉[z,it]->s.heap.get? b=some u->h2.get? b=some u:=λb u hb e=>by
   simp only[D_,P3,or_false,not_or] at hb;exact c2.extBut _ _ hb.1 (b5 b u hb.1 hb.2 e)
  have pT:=c2.extBut _ _ (NH fY) b3;have I1:Inv X aa U (upd H s.heap.objs.size (.tup [.int i,x])) { s with heap:=h2,toks:=tk+1 }:=Ci (t':=tk+1) I hf kk (v_ _) ⟨by show 2<=C_;rw[Of];decide,[.int i tk,y],.cons ⟨_,rfl⟩ (.cons e2 .nil),⟨_,pT,rfl,_,rfl⟩⟩;have fr:=I.hok.fresh (v_ s.heap.objs.size);refine⟨.ref s.heap.objs.size,_,I1,rfl,⟨s.heap.objs.size,x,fr,rfl,rfl,λzs hz=>by rw[kr.inj hK I hz g1];exact g3⟩,⟨⟨y,c1⟩,ok.itAt b2.1 λo e=>c2.extBut _ _ jH.symm e⟩,λb hb=>?_⟩;have jF:=(hf b hb).1
  have nb:b≠s.heap.objs.size:=by
   rw[D_,r_] at hb
   rcases hb with rfl | rfl
   ·exact fY
   ·exact nW
  rw[qH nb];exact jF
 done:=by
  intro X hP hw hK hc i aa s U H E I hf st hg;subst hP hw;obtain⟨⟨old,a1⟩,a2⟩:=st;obtain⟨xs,g1,g3⟩:=hg;obtain⟨ae,r1,t1⟩:=kr.of hK I g1;have cT:=r1.length;have hT:s.TypeIs (.ref z) "enumerate":=⟨_,a1,rfl⟩;have hx:ae.toArray[i]?=none:=by simp;omega
  unfold PL;refine a_ (PQ (NL (name:=Q1 "__next__") hT Rs (NP Rs hT F.entry_enumerate_next (a_ (OM (a:=(b_.ref z,[])) rfl (a_ (Ow (i:=2) a1 rfl (x:=.ref it) rfl ?_)))) (F.args_enumerate_next_1 _))));refine a_ (ok.stop (I.ok.hd hc) a2 t1 hx λh' x dU fS=>?_);obtain⟨o,ho,jG⟩:=fS;refine a_ (O8 (T:= "StopIteration") (b:=true) ⟨o,ho,jG⟩ RB ?_);refine e_ ⟨rfl,zC (t':=s.toks) I hf λb u hb e=>?_⟩;simp only[D_,P3,or_false,not_or] at hb;exact dU b u hb.2 e
 self:=λ_ _ _ _ _ st h=>by obtain⟨⟨old,a1⟩,_⟩:=st;exact Sg a1 h
noncomputable def iEnum(K:PySem.W.Frag)(ta:TA):TI:=λU H R=>ta U H λvs H1=>(∃l xs,vs=[.ref l]/\SqL K H1 l xs/\R (Ite (λH a xs=>SqL K H a xs) l) H1)\/(∃l xs,vs=[.ref l]/\SqT K H1 l xs/\R (Ite (λH a xs=>SqT K H a xs) l) H1)
theorem Bc{rd:Hp->k_->List V->Prop}(ok:KdOk k)(kr:KdRd X.K k rd){H:Hp}{s:c_}{R:It->Hp->Prop}{l:k_}(I:Inv X aa U H s)(h1:rd H l xs)(q:R (Ite rd l) H):
  s_ (t_ X.prog X.w) X.A (call (.type "enumerate") [.ref l]) (λv s1=>s_ (t_ X.prog X.w) X.A (RW v) (PIE X aa U (.Tuple bE x1 tp) R) X.xe s1) X.xe s:=by
 obtain⟨ae,r1,t1⟩:=kr.of rfl I h1;refine FP ok t1 λn h' hn a1 a4 a6=>Sg a1 ?_
 subst hn;have I1:Inv X aa U H { s with heap:=h' }:=I.kept (t':=s.toks) a6;have lt:=ok.sqLt t1;refine⟨s.heap.objs.size+1,[s.heap.objs.size+1,s.heap.objs.size],_,_,H,rfl,I1,JD ok kr (Nat.succ_ne_self _) (NB lt) (Qo (Pt lt)),⟨⟨_,a1⟩,a4⟩,λb hb=>?_,q⟩;rw[D_,r_] at hb;have up:∀n,FpOk X aa H (s.heap.objs.size+n):=λn=>I.fpOk (OO _ _) (I.hok.fresh (OO _ _))
 rcases hb with rfl | rfl
 ·exact up 1
 ·exact up 0
theorem Ed{p:Pos}(hg:Gl X "enumerate")(hm:X.mg "enumerate"=none)(ha:PA X [a] ta)(hs:d_ [a] X.env=[(false,Nr a X.env)]:=by rfl):
  PI X (.Tuple bE x1 tp) (.Call (.Name "enumerate" p) [a] [] pos) (iEnum X.K ta):=by
 intro aa s U H R I h;refine S_ (rS I hg hm boot_enumerate (Nt (thn (ha pos aa s U H _ I h) λus s1 ⟨vs,H1,I1,r1,q1⟩=>?_) hs rfl))
 rcases q1 with⟨l1,xs,e,h1,q⟩ | ⟨l1,xs,e,h1,q⟩
 ·subst e;obtain⟨u1,rfl,e1⟩:=r1.one;cases e1;exact Bc Cv (B3 _) I1 h1 q
 ·subst e;obtain⟨u1,rfl,e1⟩:=r1.one;cases e1;exact Bc BH (AI _) I1 h1 q
noncomputable def numD:Nat->List D->List D
 | _,[]=>[]
 | n,d::ds=>.tup [.int n,d]::numD (n+1) ds
theorem uB:∀{ds:List D}{n i:Nat}{d:D},(numD n ds)[i]?=some d->∃x,ds[i]?=some x/\d=.tup [.int ((n+i:Nat):Int),x]
 | [],n,i,d,h=>by rw[numD] at h;simp at h
 | c::ds,n,0,d,h=>by rw[numD] at h;simp at h;exact⟨c,rfl,h.symm⟩
 | c::ds,n,i+1,d,h=>by
  rw[numD] at h;obtain⟨x,e1,e2⟩:=uB (i:=i) (by simpa using h);refine⟨x,by simpa using e1,?_⟩;rw[e2,show n+1+i=n+(i+1) from by omega]
theorem Al:∀(ds:List D) (n:Nat),(numD n ds).length=ds.length
 | [],n=>by rw[numD]
 | c::ds,n=>by rw[numD,NG,NG,Al ds]
noncomputable def enumI(ds:List D):Option (List D):=match ds with
 | [.lst xs]=>some (numD 0 xs)
 | [.tup xs]=>some (numD 0 xs)
 | _=>none
theorem Ba{K:PySem.W.Frag}{rd:Hp->k_->List V->Prop}{l:k_}(mono:∀{H a xs},Same I H->rd I a xs->rd H a xs)(h1:rd I l xs)(i1:IsA K I ds xs):Yields K I (numD 0 ds) (Ite rd l):=λi H s=>by
 refine⟨λd hd=>?_,λhi=>⟨xs,mono s h1,?_⟩⟩
 ·obtain⟨y,e1,rfl⟩:=uB hd;obtain⟨x,f1,f2⟩:=i1.get e1;refine⟨⟨xs,x,mono s h1,f1⟩,λv H2 hy=>?_⟩;obtain⟨p,x',g1,g2,g3,g4⟩:=hy;have k1:=g4 xs (mono s h1);rw[f1] at k1;cases k1;refine .inr ⟨p,_,[.int i,x],rfl,g2,g1,g3,IsA.cons ?_ (IsA.cons f2 IsA.nil)⟩;rw[SV];exact Is.int _
 ·rw[Al,i1.length] at hi;exact hi
theorem wQ{p:Pos}(hg:Gl X "enumerate")(hm:X.mg "enumerate"=none)(ha:AD X B [a] t)(hs:d_ [a] X.env=[(false,Nr a X.env)]:=by rfl):
  ITD X B (.Tuple bE x1 tp) (.Call (.Name "enumerate" p) [a] [] pos) (fn1 enumI t):=PI.imp (Ed hg hm ha hs) λU H R q=>by
 obtain⟨G,I,Y,ds,af,r,e1,k⟩:=q;obtain⟨d,ac,e2,e3⟩:=qE e1;obtain⟨e4,rfl⟩:=qN e3;refine⟨G,I,Y,d,_,r,e2,λvs H1 I1 r1 g1 hd=>?_⟩;unfold enumI at e4;split at e4
 ·cases e4;obtain⟨x,rfl,hx⟩:=hd.one;obtain⟨l1,xs,rfl,h1,h2⟩:=qR hx;exact .inl ⟨l1,xs,rfl,(Same.rdK r1.iH h1).sq,k _ _ _ r1 g1 (Ba (λs h=>by rcases h with h | h;exact .inl (Same.rd s h);exact .inr h) h1.sq h2)⟩
 ·cases e4;obtain⟨x,rfl,hx⟩:=hd.one;obtain⟨l1,xs,rfl,h1,h2⟩:=qL hx;exact .inr ⟨l1,xs,rfl,Same.sqT r1.iH h1,k _ _ _ r1 g1 (Ba (λs h=>Same.sqT s h) h1 h2)⟩
 ·cases e4
noncomputable def blsD:List D->Option (List Bool)
 | []=>some []
 | .bl b::ds=>match blsD ds with
  | some bs=>some (b::bs)
  | none=>none
 | _=>none
theorem yK:∀{ds:List D}{bs:List Bool},blsD ds=some bs->ds=bs.map .bl
 | [],bs,h=>by rw[blsD] at h;cases h;rfl
 | .bl b::ds,bs,h=>by
  rw[blsD] at h;cases e:blsD ds with
  | none=>rw[e] at h;cases h
  | some cs=>rw[e] at h;cases h;rw[yK e];rfl
 | .non::_,_,h=>by cases h
 | .int _::_,_,h=>by cases h
 | .str _::_,_,h=>by cases h
 | .tup _::_,_,h=>by cases h
 | .lst _::_,_,h=>by cases h
theorem xT{K:PySem.W.Frag}{I:Hp}:∀{bs:List Bool}{xs:List V},IsA K I (bs.map .bl) xs->xs=bs.map .bl
 | [],xs,h=>h.nil_inv
 | b::bs,xs,h=>by
  obtain⟨x,r,rfl,h1,h2⟩:=h.cons_inv;rw[rC h1,xT h2];rfl
theorem xp:∀{bs:List Bool}{us:List b_},Vals (bs.map .bl) us->us=bs.map .bool
 | [],us,h=>by cases h;rfl
 | b::bs,us,h=>by
  cases h with
  | cons r t=>rw[xp t];cases r;rfl
theorem Fv(bs:List Bool):(NY bs.length).all (λi=>bs.getD i true)=bs.all id:=by
 induction bs with
 | nil=>rfl
 | cons b bs ih =>
  rw[NG,OZ,Oy,List.all_map,Oy]
  congr 1
theorem JS(bs:List Bool):(NY bs.length).any (λi=>bs.getD i true)=bs.any id:=by
 induction bs with
 | nil=>rfl
 | cons b bs ih =>
  rw[NG,OZ,SR,List.any_map,SR]
  congr 1
theorem Ge(hc:X.calm=true):CallR X (.builtin "all") (λxs H Q=>∃(p:k_) (bs:List Bool),xs=[.ref p]/\SqL X.K H p (bs.map .bl)/\Q (.bl (bs.all id)) H):=by
 intro aa s U H xs us Q I r h;obtain⟨p,bs,rfl,hq,q⟩:=h;obtain⟨u,rfl,ru⟩:=vals1 r;cases ru;obtain⟨ae,rv,t,hz⟩:=I.list hq;have:=xp rv;subst this;have lt:p < s.heap.objs.size:=by obtain⟨_,e,_⟩:=t.isList;exact E_ e
 refine call_all_walk (Ox t.isList ?_);refine⟨s.heap.objs.size,_,_,_,_,_,λi=>bs.getD i true,rfl,R4 (A:=X.A.in1) (I.ok.hd hc) s.heap.objs.size p (NB lt) _,⟨⟨_,x_ _ rfl,rfl,rfl⟩,t.isList.push _⟩,?_,?_⟩
 ·intro i v s' Q' E' hv hQ;have cj:(bs.map b_.bool)[i]?=some v:=by simpa using hv
  obtain⟨b,e1,rfl⟩:=getMap cj;have hQ:Q' (bs.getD i true) s':=hQ;rw[h_,e1] at hQ;exact NQ hQ
 ·intro h' tk kk;have e1:(bs.map b_.bool).toArray.size=bs.length:=by simp
  rw[e1,Fv];refine⟨.bl (bs.all id),H,I.kept λb o e=>kk b o (by simp only[r_];exact NB (E_ e)) (f_ _ e),rfl,q⟩
theorem JK(hc:X.calm=true):CallR X (.builtin "any") (λxs H Q=>∃(p:k_) (bs:List Bool),xs=[.ref p]/\SqL X.K H p (bs.map .bl)/\Q (.bl (bs.any id)) H):=by
 intro aa s U H xs us Q I r h;obtain⟨p,bs,rfl,hq,q⟩:=h;obtain⟨u,rfl,ru⟩:=vals1 r;cases ru;obtain⟨ae,rv,t,hz⟩:=I.list hq;have:=xp rv;subst this;have lt:p < s.heap.objs.size:=by obtain⟨_,e,_⟩:=t.isList;exact E_ e
 refine call_any_walk (Ox t.isList ?_);refine⟨s.heap.objs.size,_,_,_,_,_,λi=>bs.getD i true,rfl,R4 (A:=X.A.in1) (I.ok.hd hc) s.heap.objs.size p (NB lt) _,⟨⟨_,x_ _ rfl,rfl,rfl⟩,t.isList.push _⟩,?_,?_⟩
 ·intro i v s' Q' E' hv hQ;have cj:(bs.map b_.bool)[i]?=some v:=by simpa using hv
  obtain⟨b,e1,rfl⟩:=getMap cj;have hQ:Q' (bs.getD i true) s':=hQ;rw[h_,e1] at hQ;exact NQ hQ
 ·intro h' tk kk;have e1:(bs.map b_.bool).toArray.size=bs.length:=by simp
  rw[e1,JS];refine⟨.bl (bs.any id),H,I.kept λb o e=>kk b o (by simp only[r_];exact NB (E_ e)) (f_ _ e),rfl,q⟩
noncomputable def allF(ds:List D):Option D:=match ds with
 | [.lst xs]=>match blsD xs with
  | some bs=>some (.bl (bs.all id))
  | none=>none
 | _=>none
noncomputable def anyF(ds:List D):Option D:=match ds with
 | [.lst xs]=>match blsD xs with
  | some bs=>some (.bl (bs.any id))
  | none=>none
 | _=>none
theorem BP{p:Pos}(hc:X.calm=true)(hg:Gl X "all")(hm:X.mg "all"=none)(ha:AD X B [e] t)(he:d_ [e] X.env=(false,Nr e X.env)::d_ [] X.env:=by rfl)(aG:(ND pos (d_ [] X.env)).any (·.1)=false:=by rfl):
  ED X B (.Call (.Name "all" p) [e] [] pos) (fn1 allF t):=tL (Ge hc) (λds d e B G I H U Y xs Q r h k=>by
 unfold allF at e;split at e
 ·split at e
  ·rename_i bs eb;cases e;have:=yK eb;subst this;obtain⟨x,rfl,hx⟩:=h.one;obtain⟨q,zs,rfl,h3,h4⟩:=qR hx;have:=xT h4;subst this;exact⟨q,bs,rfl,(Same.rdK r.iH h3).sq,k.now r (Is.bl _)⟩
  ·cases e
 ·cases e) hg hm boot_all ha (by decide) (by decide) he aG
theorem IK{p:Pos}(hc:X.calm=true)(hg:Gl X "any")(hm:X.mg "any"=none)(ha:AD X B [e] t)(he:d_ [e] X.env=(false,Nr e X.env)::d_ [] X.env:=by rfl)(aG:(ND pos (d_ [] X.env)).any (·.1)=false:=by rfl):
  ED X B (.Call (.Name "any" p) [e] [] pos) (fn1 anyF t):=tL (JK hc) (λds d e B G I H U Y xs Q r h k=>by
 unfold anyF at e;split at e
 ·split at e
  ·rename_i bs eb;cases e;have:=yK eb;subst this;obtain⟨x,rfl,hx⟩:=h.one;obtain⟨q,zs,rfl,h3,h4⟩:=qR hx;have:=xT h4;subst this;exact⟨q,bs,rfl,(Same.rdK r.iH h3).sq,k.now r (Is.bl _)⟩
  ·cases e
 ·cases e) hg hm boot_any ha (by decide) (by decide) he aG
noncomputable def reprF(ds:List D):Option D:=match ds with
 | [.bl b]=>some (.str (if b then "True" else "False"))
 | _=>none
end
theorem CompScope.of{cr sc:Ql}{N':List Str}(h:decide (sc.kind=.function/\(∀y∈sc.names,y.2≠.cell)/\(∀y∈sc.names,y.2=.local->sc.names.lookup y.1=some .local)/\(∀y∈sc.names,y.2=.free->cr.names.lookup y.1=some .cell\/cr.names.lookup y.1=some .free)/\N'.Nodup/\N'.length=m+N.length ∧
   (∀p∈(N'.drop m).zip N,((relab sc cr).names.lookup p.1=none)\/(p.1=p.2/\(relab sc cr).names.lookup p.1≠some .local)))=true):CompScope cr sc N N' m:=by
 obtain⟨h1,h2,h3,h4,h5,h6,h7⟩:=of_decide_eq_true h;exact⟨h1,h2,h3,h4,h5,h6,h7⟩
theorem u9{P:A_}{w:I_}{K:PySem.W.Frag}:FnOk P w K mg base CX0 k f fd ps (spD K λ_=>none):=by
 have no:∀vs H Q E,¬spD K (λ_=>none) vs H Q E:=λvs H Q E h=>by
  obtain⟨_,_,_,_,_,_,_,h,_⟩:=h;cases h
 exact⟨λvs H Q E h=>absurd h (no vs H Q E),λA outer s H args us vs Q E _ _ _ _ h=>absurd h (no vs H Q E)⟩
theorem Hn{K:PySem.W.Frag}{H:Hp}{g:List R->Option (R×List R)}(kF:RdK K H a (ns.map V.int))(hg:∃rs,g [.val (.lst (ns.map D.int))]=some (.val (.bl true),rs)):spD K g [.ref a] H (λv _=>v=.bl true) λ_ _ _=>False:=by
 obtain⟨rs,hg⟩:=hg
 have k9:∀ns:List Int,IsA K H (ns.map D.int) (ns.map V.int):=λns=>by
  induction ns with
  | nil=>exact IsA.nil
  | cons n ns ih=>exact IsA.cons (Is.int n) ih
 refine⟨H,H,[.val (.lst (ns.map D.int))],.val (.bl true),rs,?_,rfl,hg,λv H' I' r g' hv=>rC (K:=K) (I:=I') hv⟩;refine⟨Same.refl _,Same.refl _,rfl,λi r e=>?_,λi j r r' v e e' m=>?_,λi ds e=>rfl⟩
 ·match i,e with
  | 0,e=>cases e;exact⟨_,rfl,Is.lst kF (k9 ns)⟩
 ·match i,e with
  | 0,e=>cases e;cases m
theorem Dl{P:A_}{w:I_}{K:PySem.W.Frag}{mb:Str->Option b_}{CX:CXT}{sp:Sp}(KX:K.In aB.heap)(fR:aB.heap.Ns Od mg)(hb:aB.heap.Ns SF mb)(nX:∀x:Str,x ≠ "__name__"->mb x=Ob x)(eX:aB.heap.NoLimit)(hg:aB.gens=#[])(ha:aB.heap.get? a=some { cls:=.type "list", data:=.seq vs.toArray })(hi:SC vs ns)(hl:ns.length<=C_)(hr:Room k RM)(F:∀base:J_,K.In base->base.Ns Od mg->FnOk P w K mg base CX k fa fd [x] sp)(jI:∀(s:c_) (u:b_),R9 s fd ⟨[u],[]⟩ [(x,u)])(dP:∀H:Hp,Only H->RdK K H a (ns.map V.int)->sp [.ref a] H (λv _=>v=.bl true) λ_ _ _=>False)(jJ:∀H e s',CX [] H aB (λ_ _ _=>False) e s'->False):
  Pp (t_ P w) RM (.call (.ref fa) ⟨[.ref a],[]⟩) (λr s'=>r=.ok (.ret (.bool true))/\OldK aB.heap s'.heap/\s'.os=aB.os/\Qy s'.gens) aB:=by
 have rv:=CW hi;have lc:=hi.length
 -- from an abstract heap in which nothing but the script may be cN
 have i9:∀H:Hp,Only H->RdK K H a (ns.map V.int)->HOk P w H aB.heap->(∀b,H b≠none->b=a)->(H a≠none->K.lookup a=none) →
   Pp (t_ P w) RM (.call (.ref fa) ⟨[.ref a],[]⟩) (λr s'=>r=.ok (.ret (.bool true))/\OldK aB.heap s'.heap/\s'.os=aB.os/\Qy s'.gens) aB:=by
  intro H hO hS hok hA hK;have dW:∀{b:k_}{o:Obj},aB.heap.get? b=some o->H b=none->(hidT aB.heap H).get? b=some o:=λe n=>Fd e n
  have fH:∀{b:k_}{o:Obj}{es:Array DictEntry}{ep:Nat},aB.heap.get? b=some o->o.data=.dict es ep->H b=none:=λ{b o es ep} e d=>by
   cases q:H b with
   | none=>rfl
   | some u =>
    have e':b=a:=hA b (by rw[q];simp);subst e';rw[ha] at e;cases e;have d':seq vs.toArray _=Data.dict es ep:=d;cases d'
  have hZ:∀{b:k_}{m:Str->Option b_},aB.heap.Ns b m->(hidT aB.heap H).Ns b m:=λ{b m} ⟨o,es,ep,e,d,r⟩=>⟨o,es,ep,dW e (fH e d),d,r⟩
  have lf:K.In (hidT aB.heap H):=λb o e=>dW (KX b o e) (by
   cases q:H b with
   | none=>rfl
   | some u =>
    have e':b=a:=hA b (by rw[q];simp);subst e'
    rw[hK (by rw[q];simp)] at e;cases e)
  have hM:Mod K mg (hidT aB.heap H):=⟨lf,hZ fR,⟨mb,hZ hb,nX⟩,let ⟨mc,h1,h2⟩:=eX;⟨mc,hZ h1,h2⟩⟩;have e0:Env0 P w K mg (hidT aB.heap H) RM [] aB H:=⟨rfl,hM,λb o e=>Ds e,Sd (EQ _ _),trivial,λb hb=>absurd (show b∈([]:List k_) from hb) (by simp),hok,.of_eq hg⟩;refine O6 ((F _ lf (hZ fR)).run RM [] aB H ⟨[.ref a],[]⟩ [.ref a] [.ref a] _ _ hr e0 (jI aB (.ref a)) (.cons rfl .nil) (dP H hO hS)) λr s' h=>?_
  cases r with
  | error e=>exact(jJ H e s' h).elim
  | ok fl =>
   cases fl with
   | next=>exact S3 h
   | brk=>exact S3 h
   | cont=>exact S3 h
   | ret u =>
    obtain⟨v,H',os,bare,un,lh,r',q⟩:=h;have q':v=.bl true:=q;subst q';obtain rfl:u=b_.bool true:=r';refine⟨rfl,OldK.of_keep λb o e=>?_,os,bare⟩;cases q:H b with
    | none=>exact un.keep b o e q (by intro z;exact absurd (show b∈([]:List k_) from z) (by simp)) (by simp)
    | some u =>
     rcases hO b with z | ⟨ob,xs,z⟩
     ·rw[q] at z;cases z
     ·have z2:=un.frzs b ob _ z;obtain⟨e1,_⟩:=hok b _ z;obtain⟨e2,_⟩:=lh b _ z2;rw[e] at e1;cases e1;exact e2
 cases hk:K.lookup a with
 | some o =>
  -- the script is one of the module's own objects
  have e:=KX a o hk;rw[ha] at e;cases e;refine i9 (λ_=>none) (λ_=>.inl rfl) (.inr ⟨vs,_,hk,rv,by rw[lc];exact hl⟩) (λb u z=>by have z':(none:Option HO)=some u:=z;cases z') (λb z=>absurd rfl z) λz=>absurd rfl z
 | none =>
  refine i9 (λb=>if b=a then some (.frz { cls:=.type "list", data:=.seq vs.toArray } (.lst (ns.map V.int))) else none) (λb=>?_) (.inl (.inr ⟨{ cls:=.type "list", data:=.seq vs.toArray },if_pos rfl⟩)) (λb u z=>?_) (λb z=>?_) λ_=>hk
  ·by_cases hb:b=a
   ·exact .inr ⟨_,_,if_pos hb⟩
   ·exact .inl (if_neg hb)
  ·by_cases hb:b=a
   ·have z':=(if_pos hb).symm.trans z;cases z';subst hb;exact⟨ha,by rw[u_];exact hl,vs,_,rv,ha⟩
   ·have z':=(if_neg hb).symm.trans z;cases z'
  ·by_cases hb:b=a
   ·exact hb
   ·exact absurd (if_neg hb) z
theorem IX{l:PySem.W.OpenLaw}{q:A_}{XP:(Str->Option b_)->J_->Prop}{YP:I_->J_->Prop}{d:DefRec}{K:Params->PySem.W.Frag}{CX:I_->CXT}{sp:I_->Sp}(hn:l.most=some n)(dX:n<=C_)(fM:d.params.defaults=[])(hr:Room k RM)(hY:∀(w:I_) (h:J_),YP w h->(K w.params).In h)(F:∀(w:I_) (mg:Str->Option b_) (fa:k_) (h:J_),(K w.params).In h->h.Ns Od mg->mg d.name=some (.ref fa) →
   ∃fd:O1,(∀(s:c_) (u:b_),R9 s fd ⟨[u],[]⟩ [(x,u)]) ∧
    ∀base:J_,(K w.params).In base->base.Ns Od mg->FnOk l.prog w (K w.params) mg base (CX w) k fa fd [x] (sp w))(dP:∀(w:I_) (H:Hp) (a:k_) (ns:List Int),ns.length<=n->Only H->RdK (K w.params) H a (ns.map V.int)->sp w [.ref a] H (λv _=>v=.bl true) λ_ _ _=>False)(jJ:∀(w:I_) (H:Hp) (s:c_) (e:b_) (s':c_),CX w [] H s (λ_ _ _=>False) e s'->False):
  PySem.W.WalkO q cp XP YP l.row.toRowW d [] (λf vs=>PySem.call f vs):=by
 refine Att.HE hn fM λw s₀ aB mg mb fa o pm cd bL a vs ns G qC ho hd cn fN fO et aR hg=>?_
 have KX:=hY w _ qC;obtain⟨fd,hb,hF⟩:=F w mg fa _ KX G.T.g fN;exact Dl KX G.T.g G.T.b G.T.builtins G.T.nolimit hg fO et (z_ aR dX) hr hF hb (λH hO hS=>dP w H a ns aR hO hS) λH e s'=>jJ w H aB e s'
noncomputable def un1{α:Type}(F:D->Option α)(g:M D):M α:=bnd g λd=>lft (F d)
inductive Ki where
 | iT | sT | bT | tT | lT
noncomputable def Ki.nm:Ki->String
 | .iT => "int"
 | .sT => "str"
 | .bT => "bool"
 | .tT => "tuple"
 | .lT => "list"
noncomputable def isiB:Ki->D->Bool
 | .iT,.int _=>true
 | .iT,.bl _=>true
 | .sT,.str _=>true
 | .bT,.bl _=>true
 | .tT,.tup _=>true
 | .lT,.lst _=>true
 | _,_=>false
noncomputable def isiF(k:Ki)(d:D):Option D:=some (.bl (isiB k d))
section
variable{B:BB}{ga:M D}
theorem JX{k:Ki}{h:J_}{ae:Array b_}{prog:A_}{w:I_}{E:b_->c_->Prop}{s:c_}{Q:b_->c_->Prop}(hl:s.heap.IsList a ae)(q:∀t,Q (.bool (isiB k (.lst ds))) { s with toks:=t }):s_ (t_ prog w) A (call (.builtin "isinstance") [.ref a,.type k.nm]) Q E s:=by
 cases k
 ·exact PySem.IsiPair.isList_int hl (λ_ _ z=>z) (q _)
 ·exact PySem.IsiPair.isList_str hl (λ_ _ z=>z) (q _)
 ·exact PySem.IsiPair.isList_bool hl (λ_ _ z=>z) (q _)
 ·exact PySem.IsiPair.isList_tuple hl (λ_ _ z=>z) (q _)
 ·exact PySem.IsiPair.isList_list hl (λ_ _ z=>z) (q _)
theorem Gj{k:Ki}{h:J_}{ae:Array b_}{prog:A_}{w:I_}{E:b_->c_->Prop}{s:c_}{Q:b_->c_->Prop}(hl:s.heap.IsTuple a ae)(q:∀t,Q (.bool (isiB k (.tup ds))) { s with toks:=t }):s_ (t_ prog w) A (call (.builtin "isinstance") [.ref a,.type k.nm]) Q E s:=by
 cases k
 ·exact PySem.IsiPair.isTuple_int hl (λ_ _ z=>z) (q _)
 ·exact PySem.IsiPair.isTuple_str hl (λ_ _ z=>z) (q _)
 ·exact PySem.IsiPair.isTuple_bool hl (λ_ _ z=>z) (q _)
 ·exact PySem.IsiPair.isTuple_tuple hl (λ_ _ z=>z) (q _)
 ·exact PySem.IsiPair.isTuple_list hl (λ_ _ z=>z) (q _)
theorem Im(k:Ki):CallR X (.builtin "isinstance") (λxs H Q=>∃d x,xs=[x,.ty k.nm]/\Is X.K H d x/\Q (.bl (isiB k d)) H):=by
 intro aa s U H xs us Q I r h;obtain⟨d,x,rfl,hd,q⟩:=h;cases r with
 | cons rx r =>
  cases r with
  | cons rt r =>
   cases r;cases rt;have fin:∀t,EP X aa U Q (.bool (isiB k d)) { s with toks:=t }:=λt=>⟨.bl _,H,I.tok _,rfl,q⟩
   cases d with
   | non =>
    cases(show x=.non from by rw[Is] at hd;exact hd)
    cases rx;cases k
    ·exact PySem.IsiPair.NoneType_int (fin _)
    ·exact PySem.IsiPair.NoneType_str (fin _)
    ·exact PySem.IsiPair.NoneType_bool (fin _)
    ·exact PySem.IsiPair.NoneType_tuple (fin _)
    ·exact PySem.IsiPair.NoneType_list (fin _)
   | bl b =>
    cases rC hd;cases rx;cases k
    ·exact bool_int (fin _)
    ·exact bool_str (fin _)
    ·exact bool_bool (fin _)
    ·exact PySem.IsiPair.bool_tuple (fin _)
    ·exact bool_list (fin _)
   | int i =>
    cases qJ hd;obtain⟨t,rfl⟩:=rx;cases k
    ·exact PySem.IsiPair.int_int (fin _)
    ·exact int_str (fin _)
    ·exact int_bool (fin _)
    ·exact int_tuple (fin _)
    ·exact int_list (fin _)
   | str y =>
    cases(show x=.str y from by rw[Is] at hd;exact hd)
    obtain⟨t,rfl⟩:=rx;cases k
    ·exact str_int (fin _)
    ·exact str_str (fin _)
    ·exact str_bool (fin _)
    ·exact str_tuple (fin _)
    ·exact str_list (fin _)
   | tup ds =>
    obtain⟨a,xs,rfl,h1,h2⟩:=qL hd;cases rx;obtain⟨ae,_,t,_⟩:=I.tuple h1;exact Gj (h:=s.heap) t fin
   | lst ds =>
    obtain⟨a,xs,rfl,h1,h2⟩:=qR hd;cases rx;obtain⟨ae,_,t,_⟩:=I.list h1.sq;exact JX (h:=s.heap) t.isList fin
theorem Kk{k:Ki}:∀U H Q,tD X.K B (un1 (isiF k) ga) U H Q->tCB (λxs H Q=>∃d x,xs=[x,.ty k.nm]/\Is X.K H d x/\Q (.bl (isiB k d)) H) (tCons (tD X.K B ga) (tCons (tC (.ty k.nm)) tNil)) U H Q:=λU H Q q=>by
 obtain⟨G,I,Y,d,af,r,e1,k⟩:=q;obtain⟨d1,ac,e2,e3⟩:=qE e1;obtain⟨e4,rfl⟩:=qN e3;cases e4;exact⟨G,I,Y,d1,_,r,e2,λv H1 I1 r1 g1 h1=>⟨d1,v,rfl,h1.mono r1.iH,k _ _ _ r1 g1 (Is.bl _)⟩⟩
theorem uG{k:Ki}{t:Str}{p:Pos}(hv:Ob t=some (.type k.nm))(hn:t ≠ "__name__")(hd:(t == ("__debug__":Str))=false)(hg:Gl X "isinstance")(hm:X.mg "isinstance"=none)(cw:Gl X t)(bN:X.mg t=none)(ha:ED X B e ga)(he:d_ [e,.Name t p2] X.env=(false,Nr e X.env)::d_ [.Name t p2] X.env:=by rfl)(cx:d_ [.Name t p2] X.env=(false,Nr (.Name t p2) X.env)::d_ [] X.env:=by rfl)(aG:(ND pos (d_ [.Name t p2] X.env)).any (·.1)=false:=by rfl):
  ED X B (.Call (.Name "isinstance" p) [e,.Name t p2] [] pos) (un1 (isiF k) ga):=
 PE.imp (wk (Im k) hg hm boot_isinstance (rR ha (rR (Gx (v:=.ty k.nm) cw bN hv rfl hn hd) sQ cx) he) (by decide) (by decide) he aG) Kk
theorem xP{p:Pos}(hg:Gl X "isinstance")(hm:X.mg "isinstance"=none)(cw:Gl X "int")(bN:X.mg "int"=none)(ha:ED X B e ga)(he:d_ [e,.Name "int" p2] X.env=(false,Nr e X.env)::d_ [.Name "int" p2] X.env:=by rfl)(cx:d_ [.Name "int" p2] X.env=(false,Nr (.Name "int" p2) X.env)::d_ [] X.env:=by rfl)(aG:(ND pos (d_ [.Name "int" p2] X.env)).any (·.1)=false:=by rfl):
  ED X B (.Call (.Name "isinstance" p) [e,.Name "int" p2] [] pos) (un1 (isiF .iT) ga):=uG (k:=.iT) boot_int (by decide) (by decide) hg hm cw bN ha he cx aG
theorem DE{p:Pos}(hg:Gl X "isinstance")(hm:X.mg "isinstance"=none)(cw:Gl X "str")(bN:X.mg "str"=none)(ha:ED X B e ga)(he:d_ [e,.Name "str" p2] X.env=(false,Nr e X.env)::d_ [.Name "str" p2] X.env:=by rfl)(cx:d_ [.Name "str" p2] X.env=(false,Nr (.Name "str" p2) X.env)::d_ [] X.env:=by rfl)(aG:(ND pos (d_ [.Name "str" p2] X.env)).any (·.1)=false:=by rfl):
  ED X B (.Call (.Name "isinstance" p) [e,.Name "str" p2] [] pos) (un1 (isiF .sT) ga):=uG (k:=.sT) boot_str (by decide) (by decide) hg hm cw bN ha he cx aG
theorem vG{p:Pos}(hg:Gl X "isinstance")(hm:X.mg "isinstance"=none)(cw:Gl X "bool")(bN:X.mg "bool"=none)(ha:ED X B e ga)(he:d_ [e,.Name "bool" p2] X.env=(false,Nr e X.env)::d_ [.Name "bool" p2] X.env:=by rfl)(cx:d_ [.Name "bool" p2] X.env=(false,Nr (.Name "bool" p2) X.env)::d_ [] X.env:=by rfl)(aG:(ND pos (d_ [.Name "bool" p2] X.env)).any (·.1)=false:=by rfl):
  ED X B (.Call (.Name "isinstance" p) [e,.Name "bool" p2] [] pos) (un1 (isiF .bT) ga):=uG (k:=.bT) boot_bool (by decide) (by decide) hg hm cw bN ha he cx aG
theorem A8{p:Pos}(hg:Gl X "isinstance")(hm:X.mg "isinstance"=none)(cw:Gl X "tuple")(bN:X.mg "tuple"=none)(ha:ED X B e ga)(he:d_ [e,.Name "tuple" p2] X.env=(false,Nr e X.env)::d_ [.Name "tuple" p2] X.env:=by rfl)(cx:d_ [.Name "tuple" p2] X.env=(false,Nr (.Name "tuple" p2) X.env)::d_ [] X.env:=by rfl)(aG:(ND pos (d_ [.Name "tuple" p2] X.env)).any (·.1)=false:=by rfl):
  ED X B (.Call (.Name "isinstance" p) [e,.Name "tuple" p2] [] pos) (un1 (isiF .tT) ga):=uG (k:=.tT) boot_tuple (by decide) (by decide) hg hm cw bN ha he cx aG
theorem CU{p:Pos}(hg:Gl X "isinstance")(hm:X.mg "isinstance"=none)(cw:Gl X "list")(bN:X.mg "list"=none)(ha:ED X B e ga)(he:d_ [e,.Name "list" p2] X.env=(false,Nr e X.env)::d_ [.Name "list" p2] X.env:=by rfl)(cx:d_ [.Name "list" p2] X.env=(false,Nr (.Name "list" p2) X.env)::d_ [] X.env:=by rfl)(aG:(ND pos (d_ [.Name "list" p2] X.env)).any (·.1)=false:=by rfl):
  ED X B (.Call (.Name "isinstance" p) [e,.Name "list" p2] [] pos) (un1 (isiF .lT) ga):=uG (k:=.lT) boot_list (by decide) (by decide) hg hm cw bN ha he cx aG
noncomputable def negI(d:D):Option D:=match d with
 | .int i=>some (.int (-i))
 | _=>none
theorem Jn:∀U H Q,tD X.K B (un1 negI ga) U H Q->tUn (rU λi=>.int (-i)) (tD X.K B ga) U H Q:=λU H Q q=>by
 obtain⟨G,I,Y,d,af,r,e1,k⟩:=q;obtain⟨d1,ac,e2,e3⟩:=qE e1;obtain⟨e4,rfl⟩:=qN e3;unfold negI at e4;split at e4
 ·cases e4;exact⟨G,I,Y,_,_,r,e2,λv H1 I1 r1 g1 h1=>⟨_,qJ h1,k _ _ _ r1 g1 (Is.int _)⟩⟩
 ·cases e4
theorem yE(ha:ED X B e ga):ED X B (.UnaryOp .USub e pos) (un1 negI ga):=PE.imp (HD FG ha) Jn
end
end DL
namespace PySem.SeqAt
def RcLtAt(A:Oe)(s:c_)(y x:b_)(b:Bool):Prop:=
 ∀(prog:A_) (w:I_) (E:b_->c_->Prop) (Q:b_->c_->Prop),Q (.bool b) s->s_ (t_ prog w) A (richCompare .Lt y x) Q E s
noncomputable def ltFrom(e lt:Nat->Bool)(d:Bool):List Nat->Bool
 | []=>d
 | i::r=>if e i then ltFrom e lt d r else lt i
theorem G4(u v:k_)(us vs:Array b_)(p q:Nat)(du dv:Option k_)(ku kv:Array (Option b_))(e lt:Nat->Bool):
  Meets (Ov.«tuple.__lt__» ⟨[.ref u,.ref v],[]⟩) (λA bf s=>(s.heap.get? u=some ⟨.type "tuple", du,.seq us p,ku⟩/\s.heap.get? v=some ⟨.type "tuple", dv,.seq vs q,kv⟩) ∧
    (∀j (h1:j < us.size) (h2:j < vs.size),S1 A.in1 s us[j] vs[j] (e j)/\(e j=false->RcLtAt A.in1 s us[j] vs[j] (lt j)))/\bf (.ok (.ret (.bool (ltFrom e lt (decide (us.size < vs.size)) (NY (min us.size vs.size)))))) s):=
 .of_wp λprog w A bf s given=>by
  obtain⟨hp,gn,dw,tk,os⟩:=s;obtain⟨⟨gu,gv⟩,fZ,lj⟩:=given;obtain⟨ge,hs⟩:∃ge:Nat->Prop,ge=λi=>bf (.ok (.ret (.bool (ltFrom e lt (decide (us.size < vs.size)) ((NY (min us.size vs.size)).drop i))))) ⟨hp,gn,dw,tk,os⟩:=⟨_,rfl⟩
  have i7:=AutoSeq1.sub_tuple_tuple;have len:(us.toList.zip vs.toList).length=min us.size vs.size:=by rw[SU];rfl
  wp_walk using QT gu,QT gv,wpAny_forIn_list _ (λleft ey now=>ey.1=none/\now=⟨hp,gn,dw,tk,os⟩/\∃i,left=(us.toList.zip vs.toList).drop i/\ge i) _
  case turn =>
   rintro⟨y,x⟩ left ey now ⟨aX,rfl,i,aT,say⟩
   have here:i < min us.size vs.size:=by
    rw[←len];exact Nat.lt_of_not_le λno=>by rw[Pu no] at aT;exact List.cons_ne_nil _ _ aT
   have k1:i < us.size:=by omega
   have k2:i < vs.size:=by omega
   have cut:=NM (l:=us.toList.zip vs.toList) (i:=i) (len▸here);rw[←aT,List.getElem_zip] at cut;obtain⟨yx,lq⟩:=List.cons.inj cut;obtain⟨rfl,rfl⟩:=Prod.mk.inj yx;rw[hs] at say;have ja:=NM (l:=NY (min us.size vs.size)) (i:=i) (by simpa using here);rw[QP] at ja;rw[ja,ltFrom] at say;have two:=fZ i k1 k2;refine a_ (two.1 prog w _ _ ?_);cases like:e i with
   | true =>
    rw[like,if_pos rfl] at say
    wp_walk
    exact⟨rfl,rfl,i+1,lq,by rw[hs];exact say⟩
   | false =>
    rw[like,if_neg i_] at say;refine a_ (R0 (a_ (two.2 like prog w _ _ ?_)))
    wp_walk
    exact⟨_,rfl,say⟩
  case fin =>
   rintro⟨ey,_⟩ now ⟨aX,rfl,i,aT,say⟩;cases aX
   have eY:min us.size vs.size<=i:=by
    rw[←len];exact RC.mp aT.symm
   rw[hs] at say;rw[Pu (by simpa using eY),ltFrom] at say
   wp_walk
   exact⟨_,rfl,by simpa[Ov.Tuple.tupleCompareSizes] using say⟩
  case h=>exact⟨rfl,rfl,0,rfl,by rw[hs];exact lj⟩
theorem RcLtAt.tuples{s:c_}{u v:k_}{us vs:Array b_}{e lt:Nat->Bool}(hu:s.heap.IsTuple u us)(hv:s.heap.IsTuple v vs)(room:A.units < OC)(fZ:∀j (h1:j < us.size) (h2:j < vs.size),S1 A.in1 s us[j] vs[j] (e j)/\(e j=false->RcLtAt A.in1 s us[j] vs[j] (lt j))):RcLtAt A s (.ref u) (.ref v) (ltFrom e lt (decide (us.size < vs.size)) (NY (min us.size vs.size))):=by
 obtain⟨⟨_,du,_,ku⟩,gu,rfl,p,rfl⟩:=hu;obtain⟨⟨_,dv,_,kv⟩,gv,rfl,q,rfl⟩:=hv;exact λprog w E Q h=>richCompare_meets_room (op:=.Lt) ⟨_,gu,rfl⟩ ⟨_,gv,rfl⟩ F.slot_tuple_lt F.entry_tuple_lt (F.args_tuple_lt_2 _ _) (G4 u v us vs p q du dv ku kv e lt) ⟨⟨gu,gv⟩,fZ,b_.noConfusion,h⟩ room
theorem RcLtAt.int_int{s:c_}(a:Int)(t:Tok)(b:Int)(u:Tok):RcLtAt A s (.int a t) (.int b u) (decide (a < b)):=λprog w E Q h=>PyProof.Rows.lt_int h
end PySem.SeqAt
namespace DL
open PySem PySem.Spec PyProof.Rows L2
section
variable{B:BB}{a b c:Ny}{es:List Ny}
noncomputable def rngV(n:Nat):List V:=(NY n).map λ(k:Nat)=>V.int (0+(k:Int))
theorem xK:∀{xs:List V}{us:List b_},xs.length=us.length->(∀(i:Nat) x u,xs[i]?=some x->us[i]?=some u->RelV x u)->Vals xs us
 | [],[],_,_=>.nil
 | [],_::_,h,_=>by cases h
 | _::_,[],h,_=>by cases h
 | x::xs,u::us,h,k=>.cons (k 0 x u rfl rfl) (xK (O9 h) λi y v e f=>k (i+1) y v e f)
theorem Ek{p:Pos}(hc:X.calm=true)(hl:Gl X "list")(jK:X.mg "list"=none)(hg:Gl X "range")(hm:X.mg "range"=none)(ha:PA X [a] ta)(hs:d_ [a] X.env=[(false,Nr a X.env)]:=by rfl)(cb:d_ [.Call (.Name "range" p2) [a] [] cD] X.env=[(false,Nr (.Call (.Name "range" p2) [a] [] cD) X.env)]:=by rfl):
  PE X (.Call (.Name "list" p) [.Call (.Name "range" p2) [a] [] cD] [] pos) (λU H Q=>ta U H λvs H1=>∃j:Int,vs=[.int j]/\-1000000<=j/\j<=1000000/\∀l,H1 l=none->Q (.ref l) (upd H1 l (.lst (rngV j.toNat)))):=by
 intro aa s U H Q I h;refine S_ (rS I hl jK boot_list (Nt ?_ cb rfl));rw[cb];refine Qq (S_ (rS I hg hm SJ (Nt (thn (ha cD aa s U H _ I h) λus s1 ⟨vs,H1,I1,r1,q1⟩=>?_) hs rfl)));obtain⟨j,rfl,q1,q2,q⟩:=q1;obtain⟨u,rfl,t,rfl⟩:=vals1 r1;refine call_range_1 (Qz ?_);have size:rangeSize 0 j 1=j.toNat:=by rw[rangeSize_one];split<;>omega
 refine call_list_range (I1.ok.hd hc) (IsRange.new ..) (small_one (by decide) (by decide) (by omega) (by omega)) size (by omega) λg tk ah c' keep aT ai=>?_
 refine⟨.ref _,_,I1.laid (t':=tk) (λb o e=>keep b o (f_ _ e)) ?_ (o:=.lst (rngV j.toNat)) ⟨?_,ah.toList,c',?_,aT⟩,rfl,q _ ?_⟩
 ·exact PY (by show _ < (J_.push _ _).objs.size;rw[OS];exact Qg _)
 ·show(rngV j.toNat).length<=C_;rw[rngV,u_,Qf,Of];omega
 ·refine xK (by rw[rngV,u_,Qf,NU,ai.1]) λi x u e f=>?_
  rw[PD] at f;obtain⟨t',rfl⟩:=ai.2 i u f;obtain⟨k,e1,rfl⟩:=getMap e;obtain⟨k1,k2⟩:=p_.mp e1;rw[QP] at k2;subst k2;exact⟨t',by simp⟩
 ·refine I1.hok.fresh (PY ?_);show _ < (J_.push _ _).objs.size;rw[OS];exact Qg _
theorem Hj{K:PySem.W.Frag}(n:Nat):IsA K I (rngD 0 n) (rngV n):=by
 unfold rngD rngV
 induction NY n with
 | nil=>exact IsA.nil
 | cons k ks ih=>exact IsA.cons (Is.int _) ih
theorem By{p:Pos}(hc:X.calm=true)(hl:Gl X "list")(jK:X.mg "list"=none)(hg:Gl X "range")(hm:X.mg "range"=none)(ha:AD X B [a] t)(hs:d_ [a] X.env=[(false,Nr a X.env)]:=by rfl)(cb:d_ [.Call (.Name "range" p2) [a] [] cD] X.env=[(false,Nr (.Call (.Name "range" p2) [a] [] cD) X.env)]:=by rfl):
  EO X B (.Call (.Name "list" p) [.Call (.Name "range" p2) [a] [] cD] [] pos) (fn1 rngI1 t):=PE.imp (Ek hc hl jK hg hm ha hs cb) λU H Q q=>by
 obtain⟨G,I,Y,ds,af,r,e1,k⟩:=q;obtain⟨d,ac,e2,e3⟩:=qE e1;obtain⟨e4,rfl⟩:=qN e3;obtain⟨j,rfl,⟨h1,h2⟩,rfl⟩:=Bw e4;refine⟨G,I,Y,_,_,r,e2,λvs H1 I1 r1 g1 hd=>?_⟩;obtain⟨x,rfl,hx⟩:=hd.one;exact⟨j,by rw[qJ hx],h1,h2,λl hl=>(k.after g1).new r1 hl (Hj _)⟩
end
section
variable{prog:A_}{w:I_}{E:b_->c_->Prop}{s:c_}
def SlotAt(P:Nat->b_->Prop)(bt:Nat->Nat->Bool)(j:Nat)(cells:Array b_):Prop:=match j with
 | 0=>cells=#[]
 | j+1=>∃b,cells=#[b,b]/\P (Pf bt j) b
theorem FT{it:k_}{wr:List k_}{P:Nat->b_->Prop}{St:Nat->J_->Prop}{Fit:c_->Prop}{bf:Result->c_->Prop}(W:Walks prog w A.in1 it fp wr n P St)(jb:S∉fp)(SQ:∀s,Fit s->∀i j vi vj,P i vi->P j vj->PySem.SeqAt.RcLtAt A.in1 s vi vj (bt i j))(stay:∀s h' tk,Fit s->(∀b o,b∉wr->b≠S->s.heap.get? b=some o->h'.get? b=some o)->Fit { s with heap:=h',toks:=tk })(gf:0 < n)(fin:∀v s,P (Pf bt (n - 1)) v->Fit s->bf (.ok (.ret v)) s):∀(left:Nat) (s:c_) (cells:Array b_) (c j:Nat),j+left=n->St j s.heap->Fit s->SlotAt P bt j cells->s.heap.get? S=some { cls:=.type "list", dict:=none,data:=.seq cells c,slots:=#[] } →
   Pp (t_ prog w) A (.builtin "min.loop" ⟨[.ref it,.none,.ref S],[]⟩) bf s:=by
 have apart:S∉wr:=λh=>jb (W.sub _ h)
 have eE:∀{g:J_}{f:Obj->Obj}{b:k_}{o:Obj},b≠S->g.get? b=some o->(g.update S f).get? b=some o:=λne e=>(Nv _ _ (NH ne)).trans e
 have ce:(toString "min"++toString ".loop":String) = "min.loop":=by decide
 intro left
 induction left with
 | zero =>
  intro s cells c j len st jL eZ slot;obtain⟨m,rfl⟩:∃m,j=m+1:=⟨j - 1,by omega⟩;obtain⟨b,rfl,fb⟩:=eZ;refine Oj F.entry_min_loop ?_;rw[OT OJ _];refine a_ (m:=seqItems? (.ref S)) (N4 slot rfl (a_ (m:=tryCatch (PL (.ref it)) _) (RD (W.done s _ _ (len▸st) λg tk kk=>?_))));refine a_ (m:=updateSeq S λ_=>#[]) (Pg (kk S _ apart slot) rfl (a_ (P0 (e_ (fin b _ (by rw[←len];exact fb) (stay s _ tk jL λx o n1 n2 e=>eE n2 (kk x o n1 e)))))))
 | succ left ih =>
  intro s cells c j len st jL eZ slot;refine Oj F.entry_min_loop ?_;rw[OT OJ _];refine a_ (m:=seqItems? (.ref S)) (N4 slot rfl (a_ (m:=tryCatch (PL (.ref it)) _) (RD (W.item j s _ _ (by omega) st λv g tk jM h9 kk=>?_))));have cV:=kk S _ apart slot;have gj:=stay s g tk jL λx o n1 _ e=>kk x o n1 e
  have next:∀(f:Obj->Obj) (cL:Array b_) (c':Nat),(g.update S f).get? S=some { cls:=.type "list", dict:=none,data:=.seq cL c',slots:=#[] }->SlotAt P bt (j+1) cL →
    Pp (t_ prog w) A (.builtin "min.loop" ⟨[.ref it,.none,.ref S],[]⟩) bf { s with heap:=g.update S f,toks:=tk }:=λf cL c' here is =>
   ih _ cL c' (j+1) (by omega) (W.frame _ _ _ h9 λb hb o e=>eE (λz=>jb (z▸hb)) e) (stay { s with heap:=g,toks:=tk } _ tk gj λx o _ n2 e=>eE n2 e) is here
  cases j with
  | zero =>
   cases eZ;refine a_ (m:=updateSeq S λ_=>#[v,v]) (Pg cV rfl ?_);rw[ce];exact e_ ⟨Ol OJ _,next _ _ _ (NZ _ cV rfl) ⟨v,rfl,jM⟩⟩
  | succ m =>
   obtain⟨b,rfl,fb⟩:=eZ;refine a_ (m:=tryCatch (Qd [v,v] (richCompare .Lt v b >>= _)) _) (RD (NN (a_ (SQ _ gj (m+1) (Pf bt m) v b jM fb prog w _ _ (a_ (NN (NQ (a_ (P0 (e_ ?_))))))))));cases hb:bt (m+1) (Pf bt m) with
   | true =>
    rw[if_pos rfl];refine a_ (Pg cV rfl (a_ (P0 ?_)));rw[ce];exact e_ ⟨Ol OJ _,next _ _ _ (NZ _ cV rfl) ⟨v,rfl,by rw[Pf,hb];exact jM⟩⟩
   | false =>
    rw[if_neg i_];refine a_ (P0 ?_);rw[ce];exact e_ ⟨Ol OJ _,ih _ _ c (m+2) (by omega) h9 gj ⟨b,rfl,by rw[Pf,hb];exact fb⟩ cV⟩
theorem B6(bt:Nat->Nat->Bool):∀k,Pf bt k<=k
 | 0=>v_ _
 | k+1=>by
  rw[Pf];split
  ·exact v_ _
  ·exact Nat.le_succ_of_le (B6 bt k)
theorem FN{p:k_}{Q:b_->c_->Prop}(hh:A.handled=none)(L:s.heap.IsList p ai)(gf:0 < ai.size)(SQ:∀h' tk,(∀b o,s.heap.get? b=some o->h'.get? b=some o)->∀i j vi vj,ai[i]?=some vi->ai[j]?=some vj->PySem.SeqAt.RcLtAt A.in1 { s with heap:=h',toks:=tk } vi vj (bt i j))(fin:∀v h' tk,ai[Pf bt (ai.size - 1)]?=some v->(∀b o,s.heap.get? b=some o->h'.get? b=some o)->Q v { s with heap:=h',toks:=tk }):s_ (t_ prog w) A (call (.builtin "min") [.ref p]) Q E s:=by
 have low:p < s.heap.objs.size:=by obtain⟨_,e,_⟩:=L;exact E_ e
 refine call_function_tree F.kind_min F.plain_min F.entry_min (F.args_min1 _) ?_;refine a_ (OM (a:=[none,none]) rfl (a_ (e_ (a_ (Ox L (a_ (NC ?_)))))));have ce:(toString "min"++toString ".loop":String) = "min.loop":=by decide
 rw[ce];have W:=R4 (prog:=prog) (w:=w) (A:=A.in1) hh s.heap.objs.size p (NB low) ai;have cU:∀o:Obj,(s.heap.push o).objs.size=s.heap.objs.size+1:=λo=>OS ..
 refine e_ ⟨Ol OJ _,FT (Fit:=λs'=>∃h' tk,s'={ s with heap:=h',toks:=tk }/\∀b o,s.heap.get? b=some o->h'.get? b=some o) (bt:=bt) W ?_ ?_ ?_ gf ?_ ai.size _ #[] 0 0 (SV _) ⟨⟨_,f_ _ (x_ _ rfl),rfl,rfl⟩,(L.push _).push _⟩ ⟨_,_,rfl,λb o e=>f_ _ (f_ _ e)⟩ rfl (x_ _ rfl)⟩
 ·rw[cU];intro z;rw[D_,r_] at z
  rcases z with z | z
  ·exact absurd z (Nat.succ_ne_self _)
  ·exact absurd z (Qo (Pt low))
 ·rintro _ ⟨g,tk,rfl,keep⟩ i j vi vj hi hj;exact SQ g tk keep i j vi vj hi hj
 ·rintro _ h' tk ⟨g,dY,rfl,keep⟩ k;refine⟨h',tk,rfl,λb o e=>k b o (λz=>?_) (λz=>?_) (keep b o e)⟩
  ·rw[r_] at z;exact NB (E_ e) z
  ·rw[cU] at z;have:=E_ e;rw[z] at this;exact absurd this (Nat.not_lt.mpr (SB _))
 ·rintro v _ hv ⟨g,tk,rfl,keep⟩;exact fin v g tk hv keep
end
section
variable{B:BB}{a b c:Ny}{es:List Ny}{kr:Nat}
noncomputable def prD(p:Int×Int):D:=.tup [.int p.1,.int p.2]
noncomputable def ltP(p q:Int×Int):Bool:=if p.1 == q.1 then decide (p.2 < q.2) else decide (p.1 < q.1)
noncomputable def prsD:List D->Option (List (Int×Int))
 | []=>some []
 | .tup [.int a,.int b]::ds=>match prsD ds with
  | some ps=>some ((a,b)::ps)
  | none=>none
 | _=>none
theorem JL:∀(ds:List D) (ps:List (Int×Int)),prsD ds=some ps->ds=ps.map prD:=by
 intro ds
 fun_induction prsD ds with
 | case1=>intro ps h;cases h;rfl
 | case2 a b ds qs e ih=>intro ps h;cases h;rw[ih qs e];rfl
 | case3 a b ds e ih=>intro ps h;cases h
 | case4 ds=>intro ps h;cases h
noncomputable def btP(ps:List (Int×Int))(i j:Nat):Bool:=ltP (ps.getD i (0,0)) (ps.getD j (0,0))
noncomputable def minP(ps:List (Int×Int)):Int×Int:=ps.getD (Pf (btP ps) (ps.length - 1)) (0,0)
open PySem.SeqAt in
theorem FV{s:c_}{u v:k_}{p q:Int×Int}{t1 t2 t3 t4:Tok}(room:A.units < OC)(hu:s.heap.IsTuple u #[.int p.1 t1,.int p.2 t2])(hv:s.heap.IsTuple v #[.int q.1 t3,.int q.2 t4]):RcLtAt A s (.ref u) (.ref v) (ltP p q):=by
 have:=RcLtAt.tuples (e:=λk=>if k=0 then p.1 == q.1 else p.2 == q.2) (lt:=λk=>if k=0 then decide (p.1 < q.1) else decide (p.2 < q.2)) hu hv room (λj h1 h2=>?_)
 ·have e:ltFrom (λk=>if k=0 then p.1 == q.1 else p.2 == q.2) (λk=>if k=0 then decide (p.1 < q.1) else decide (p.2 < q.2)) (decide (2 < 2)) [0,1]=ltP p q:=by
   simp only[ltFrom,ltP];by_cases z:p.1=q.1
   ·by_cases z2:p.2=q.2<;>simp[z,z2]
   ·simp[z]
  rw[←e];exact this
 ·match j,h1,h2 with
  | 0,_,_=>exact⟨S1.int_int _ _ _ _,λ_=>RcLtAt.int_int _ _ _ _⟩
  | 1,_,_=>exact⟨S1.int_int _ _ _ _,λ_=>RcLtAt.int_int _ _ _ _⟩
  | k+2,h,_=>exact absurd h (by simp)
theorem Go(hc:X.calm=true)(hu:X.A.units+100 < OC):CallR X (.builtin "min") (λxs H Q=>∃(p:k_) (zs:List V) (ps:List (Int×Int)),xs=[.ref p]/\SqL X.K H p zs/\ps≠[]/\zs.length=ps.length ∧
  (∀(i:Nat) z,zs[i]?=some z->∃q,z=.ref q/\SqT X.K H q [.int (ps.getD i (0,0)).1,.int (ps.getD i (0,0)).2])/\∀z,zs[Pf (btP ps) (ps.length - 1)]?=some z->Q z H):=by
 intro aa s U H xs us Q I r h;obtain⟨p,zs,ps,rfl,hq,ne,len,fQ,q⟩:=h;obtain⟨u,rfl,ru⟩:=vals1 r;cases ru;obtain⟨ae,rv,t,hz⟩:=I.list hq;have ln:=rv.length;have sz:ae.toArray.size=ps.length:=by rw[n_,←ln,len]
 have tup:∀i v,ae.toArray[i]?=some v->∃q t1 t2,v=.ref q/\s.heap.IsTuple q #[.int (ps.getD i (0,0)).1 t1,.int (ps.getD i (0,0)).2 t2]:=λi v hv=>by
  have cj:ae[i]?=some v:=by simpa using hv
  have hi:i < zs.length:=by rw[ln];exact(p_.mp cj).1
  obtain⟨q,e1,e2⟩:=fQ i zs[i] (g_ hi);obtain⟨w,e3,e4⟩:=rv.get (g_ hi);rw[cj] at e3;cases e3;rw[e1] at e4;cases e4;obtain⟨bx,r2,t2,_⟩:=I.tuple e2;obtain⟨u1,u2,rfl,⟨k1,rfl⟩,⟨k2,rfl⟩⟩:=r2.two;exact⟨q,k1,k2,rfl,t2⟩
 refine FN (bt:=btP ps) (I.ok.hd hc) t.isList (by rw[sz];exact Qt.mpr ne) (λg tk keep i j vi vj hi hj=>?_) λv g tk hv keep=>?_
 ·obtain⟨q1,t1,t2,rfl,T1⟩:=tup i vi hi;obtain⟨q2,t3,t4,rfl,T2⟩:=tup j vj hj;have up:∀{q:k_}{us:Array b_},s.heap.IsTuple q us->g.IsTuple q us:=λT=>by obtain⟨o,e,r⟩:=T;exact⟨o,keep _ o e,r⟩
  exact FV (by show X.A.units+1 < OC;omega) (up T1) (up T2)
 ·rw[sz] at hv;have cj:ae[Pf (btP ps) (ps.length - 1)]?=some v:=by simpa using hv
  have hi:Pf (btP ps) (ps.length - 1) < zs.length:=by rw[ln];exact(p_.mp cj).1
  obtain⟨w,e3,e4⟩:=rv.get (g_ hi);rw[cj] at e3;cases e3;exact⟨_,H,I.kept keep,e4,q _ (g_ hi)⟩
noncomputable def minlF(ds:List D):Option D:=match ds with
 | [.lst xs]=>match prsD xs with
  | some (p::ps)=>some (prD (minP (p::ps)))
  | _=>none
 | _=>none
theorem EU{p:Pos}(hc:X.calm=true)(hr:Room kr X.A)(hg:Gl X "min")(hm:X.mg "min"=none)(ha:AD X B [e] t)(he:d_ [e] X.env=(false,Nr e X.env)::d_ [] X.env:=by rfl)(aG:(ND pos (d_ [] X.env)).any (·.1)=false:=by rfl):
  ED X B (.Call (.Name "min" p) [e] [] pos) (fn1 minlF t):=tL (Go hc (hu100 hr)) (λds d e B G I H U Y xs Q r h k=>by
 unfold minlF at e;split at e
 ·split at e
  ·rename_i p1 ps eb;cases e;have:=JL _ _ eb;subst this;obtain⟨x,rfl,hx⟩:=h.one;obtain⟨q,zs,rfl,h3,h4⟩:=qR hx;have L:=h4.length;rw[u_] at L
   have jd:∀(i:Nat) z,zs[i]?=some z->Is X.K I (prD ((p1::ps).getD i (0,0))) z:=λi z hz=>by
    have hi:i < (p1::ps).length:=by rw[L];exact(p_.mp hz).1
    obtain⟨z',e1,e2⟩:=h4.get (i:=i) (d:=prD (p1::ps)[i]) (by rw[y_,g_ hi];rfl);rw[hz] at e1;cases e1;rw[h_,g_ hi];exact e2
   refine⟨q,zs,p1::ps,rfl,(Same.rdK r.iH h3).sq,by simp,L.symm,λi z hz=>?_,λz hz=>k.now r (jd _ z hz)⟩;obtain⟨q2,ys,rfl,e1,e2⟩:=qL (jd i z hz);obtain⟨y1,y2,rfl,f1,f2⟩:=e2.two;rw[qJ f1,qJ f2] at e1;exact⟨q2,rfl,Same.sqT r.iH e1⟩
  ·cases e
 ·cases e) hg hm boot_min ha (by decide) (by decide) he aG
end
end DL
namespace DL
open PySem PySem.W PyProof.Rows
structure Ord(lt:Nat->Nat->Bool):Prop where
 as:∀a b,lt a b=true->lt b a=false
 tr:∀a b c,lt b a=false->lt c b=false->lt c a=false
section
variable{lt:Nat->Nat->Bool}{s:c_}
def askIn(n:Nat)(lt:Nat->Nat->Bool):Nat->Nat->(Bool->c_->Prop)->c_->Prop:=λi j C s=>i < n/\j < n/\C (lt i j) s
noncomputable def gt(p:Array Nat)(i:Nat):Nat:=p.getD i 0
def Pm(n:Nat)(p:Array Nat):Prop:=p.Perm (NY n).toArray
def Dn(lt:Nat->Nat->Bool)(p:Array Nat)(m:Nat):Prop:=∀i j,i < j->j < m->lt (gt p i) (gt p j)=false
def Up(lt:Nat->Nat->Bool)(p:Array Nat)(m:Nat):Prop:=∀i j,i < j->j < m->lt (gt p j) (gt p i)=false
def Eqs(lt:Nat->Nat->Bool)(p:Array Nat)(a b:Nat):Prop:=∀i j,a<=i->i < b->a<=j->j < b->lt (gt p i) (gt p j)=false
theorem Pm.size{p:Array Nat}(h:Pm n p):p.size=n:=by
 have:=h.size_eq;simpa using this
theorem Pm.bd{p:Array Nat}(h:Pm n p)(pos:0 < n)(i:Nat):gt p i < n:=by
 unfold gt;by_cases hi:i < p.size
 ·have:p[i]∈(NY n).toArray:=h.mem_iff.mp (O0 hi);rw[Tb,dif_pos hi];simpa using this
 ·rw[Tb,dif_neg hi];exact pos
theorem vE{p:Array Nat}:gt p i=p[i]?.getD 0:=by
 unfold gt;exact Op ..
theorem sH{p:Array Nat}(hj:j<=p.size)(k:Nat):gt (Sh p i j) k=if i<=k/\k < j then gt p (i+j - 1 - k) else gt p k:=by
 rw[vE,vE,vE];unfold Sh;rw[getElem?_mirror_all hj];split<;>rfl
theorem AL{p:Array Nat}{cu d:Nat}(hs:cu < p.size)(hd:d<=cu)(k:Nat):gt (bubble p cu d) k=if k=cu - d then gt p cu else if cu - d < k/\k<=cu then gt p (k - 1) else gt p k:=by
 simp only[vE];rw[getElem?_bubble hs d hd];split
 ·rfl
 ·split<;>rfl
theorem Pm.rev{p:Array Nat}(h:Pm n p)(i j:Nat):Pm n (Sh p i j):=trans (mirror_perm _ _ _ _) h
theorem wz{α:Type}{ls:Nat->Nat->(Bool->c_->Prop)->c_->Prop}{Q:α->c_->Prop}{P:α->Prop}(hc:∀i j C,i < n->j < n->C (lt i j) s->ls i j C s)(hq:∀a,P a->Q a s):∀t:KasT α,t.kasWp (askIn n lt) (λa _=>P a) s->t.kasWp ls Q s
 | .ret a,h=>hq a h
 | .ask i j k,⟨h1,h2,h3⟩=>hc i j _ h1 h2 (wz hc hq (k (lt i j)) h3)
theorem ux{α Z:Type}{t:KasT α}{f:α->KasT Z}{P:α->Prop}{Q:Z->Prop}(h:t.kasWp (askIn n lt) (λa _=>P a) s)(k:∀a,P a->(f a).kasWp (askIn n lt) (λb _=>Q b) s):(t.bind f).kasWp (askIn n lt) (λb _=>Q b) s:=by
 rw[KasT.kasWp_bind];exact wz (λi j C h1 h2 h3=>⟨h1,h2,h3⟩) (λa ha=>k a ha) t h
variable (O:Ord lt)(two:2<=n)
include O
theorem Ord.irr(a:Nat):lt a a=false:=by
 cases h:lt a a with
 | false=>rfl
 | true=>rw[←h];exact O.as a a h
theorem Ord.lt_le{a b c:Nat}(h1:lt a b=true)(h2:lt c b=false):lt a c=true:=by
 cases h:lt a c with
 | true=>rfl
 | false =>
  -- c<=a,b<=c
  have:=O.tr b c a h2 h;rw[this] at h1;cases h1
include two
theorem wL{p:Array Nat}(hp:Pm n p):∀(f m:Nat),1<=m->(kas_asc p f m).kasWp (askIn n lt) (λm' _=>m<=m'/\m'<=m+f/\(∀k,m<=k->k < m'->lt (gt p k) (gt p (k - 1))=false)/\(m' < m+f->lt (gt p m') (gt p (m' - 1))=true)) s
 | 0,m,_=>by
  rw[kas_asc];exact⟨v_ _,v_ _,λk h1 h2=>by omega,λh=>by omega⟩
 | f+1,m,hm=>by
  rw[kas_asc];refine⟨hp.bd (by omega) m,hp.bd (by omega) (m - 1),?_⟩;cases h:lt (p.getD m 0) (p.getD (m - 1) 0) with
  | true =>
   dsimp only;rw[if_pos rfl];exact⟨v_ _,by omega,λk h1 h2=>by omega,λ_=>h⟩
  | false =>
   dsimp only;rw[if_neg i_];refine wz (λi j C h1 h2 h3=>⟨h1,h2,h3⟩) (λm' h'=>?_) _ (wL hp f (m+1) (by omega));obtain⟨a1,a2,a3,a4⟩:=h';refine⟨by omega,by omega,λk h1 h2=>?_,λh'=>a4 (by omega)⟩;by_cases z:k=m
   ·rw[z];exact h
   ·exact a3 k (by omega) h2
omit two in
theorem Up.of_steps{p:Array Nat}{m':Nat}(hm:Up lt p m)(st:∀k,m<=k->k < m'->1<=k->lt (gt p k) (gt p (k - 1))=false):Up lt p m':=by
 intro i j
 induction j with
 | zero=>intro h;omega
 | succ j ih =>
  intro cZ hj;by_cases z:j+1 < m
  ·exact hm i (j+1) cZ z
  ·have s1:=st (j+1) (by omega) hj (by omega);rw[Nat.add_sub_cancel] at s1;by_cases e:i=j
   ·rw[e];exact s1
   ·exact O.tr _ _ _ (ih (by omega) (by omega)) s1
omit two O in
theorem Dn.up{p:Array Nat}{m:Nat}(hm:m<=p.size)(h:Dn lt p m):Up lt (Sh p 0 m) m:=by
 intro i j cZ hj;rw[sH hm,sH hm,if_pos ⟨NK _,hj⟩,if_pos ⟨NK _,by omega⟩];exact h _ _ (by omega) (by omega)
omit two O in
theorem Dn.turn{p:Array Nat}{a:Nat}(hm:m<=p.size)(h:Dn lt p m)(e:Eqs lt p a m):Dn lt (Sh p a m) m:=by
 intro i j cZ hj;rw[sH hm,sH hm];by_cases h1:a<=i
 ·rw[if_pos ⟨h1,by omega⟩,if_pos ⟨by omega,hj⟩];exact e _ _ (by omega) (by omega) (by omega) (by omega)
 ·rw[if_neg (by omega)];by_cases h2:a<=j
  ·rw[if_pos ⟨h2,hj⟩];exact h _ _ (by omega) (by omega)
  ·rw[if_neg (by omega)];exact h _ _ cZ hj
omit two in
theorem Dn.next{p:Array Nat}(h:Dn lt p m)(hm:1<=m)(st:lt (gt p (m - 1)) (gt p m)=false):Dn lt p (m+1):=by
 intro i j cZ hj;by_cases z:j < m
 ·exact h i j cZ z
 ·have:j=m:=by omega
  subst this;by_cases e:i=j - 1
  ·rw[e];exact st
  ·exact O.tr _ _ _ st (h i (j - 1) (by omega) (by omega))
theorem v9:∀(f:Nat) (p:Array Nat) (m q:Nat),Pm n p->1<=m->m+f<=n->q < m->Dn lt p m->Eqs lt p (m - (q+1)) m →
  (kas_desc f p m q).kasWp (askIn n lt) (λr _=>Pm n r.1/\1<=r.2.1/\r.2.1<=n/\r.2.2 < r.2.1/\Dn lt r.1 r.2.1/\Eqs lt r.1 (r.2.1 - (r.2.2+1)) r.2.1) s
 | 0,p,m,q,hp,h1,h2,h3,h4,h5=>by
  rw[kas_desc];exact⟨hp,h1,(by show m<=n;omega),h3,h4,h5⟩
 | f+1,p,m,q,hp,h1,h2,h3,h4,h5=>by
  rw[kas_desc]
  have one:∀(p':Array Nat),Pm n p'->Eqs lt p' (m+1 - (0+1)) (m+1):=λp' _ i j a b c d=>by
   have:i=m:=by omega
   have:j=m:=by omega
   subst i;subst j;exact O.irr _
  refine⟨hp.bd (by omega) m,hp.bd (by omega) (m - 1),?_⟩;cases h:lt (p.getD m 0) (p.getD (m - 1) 0) with
  | true =>
   dsimp only;rw[if_pos rfl];have st:lt (gt p (m - 1)) (gt p m)=false:=O.as _ _ h;split
   ·have sz:m<=p.size:=by rw[hp.size];omega
    refine v9 f _ (m+1) 0 (hp.rev _ _) (by omega) (by omega) (by omega) (Dn.next O (h4.turn sz h5) h1 ?_) (one _ (hp.rev _ _));rw[sH sz,sH sz,if_pos ⟨by omega,by omega⟩,if_neg (by omega)];refine O.tr _ _ _ st ?_;exact h5 _ _ (by omega) (by omega) (by omega) (by omega)
   ·exact v9 f _ (m+1) 0 hp (by omega) (by omega) (by omega) (Dn.next O h4 h1 st) (one _ hp)
  | false =>
   dsimp only;rw[if_neg i_];refine⟨hp.bd (by omega) (m - 1),hp.bd (by omega) m,?_⟩;cases h':lt (p.getD (m - 1) 0) (p.getD m 0) with
   | true =>
    dsimp only;rw[if_pos rfl];exact⟨hp,h1,(by show m<=n;omega),h3,h4,h5⟩
   | false =>
    dsimp only;rw[if_neg i_];refine v9 f p (m+1) (q+1) hp (by omega) (by omega) (by omega) (Dn.next O h4 h1 h') λi j a b c d=>?_
    have up:∀i,m - (q+1)<=i->i < m->lt (gt p i) (gt p m)=false:=λi x y=>O.tr _ _ _ h' (h5 i (m - 1) x y (by omega) (by omega))
    have dn:∀i,m - (q+1)<=i->i < m->lt (gt p m) (gt p i)=false:=λi x y=>O.tr _ _ _ (h5 (m - 1) i (by omega) (by omega) x y) h
    by_cases zi:i=m
    ·by_cases zj:j=m
     ·rw[zi,zj];exact O.irr _
     ·rw[zi];exact dn j (by omega) (by omega)
    ·by_cases zj:j=m
     ·rw[zj];exact up i (by omega) (by omega)
     ·exact h5 i j (by omega) (by omega) (by omega) (by omega)
theorem Cw{p:Array Nat}(hp:Pm n p)(h1:1<=m)(h2:m<=n)(h:Dn lt p m):(kas_tail3 m n p).kasWp (askIn n lt) (λr _=>1<=r.1/\r.1<=n/\Pm n r.2/\Up lt r.2 r.1) s:=by
 unfold kas_tail3;refine ux (wL O two (hp.rev 0 m) (n - m) m h1) λm' ⟨a1,a2,a3,_⟩=>?_
 have up:=h.up (by rw[hp.size];exact h2);exact⟨by omega,by omega,hp.rev 0 m,Up.of_steps O up λk x y _=>a3 k x y⟩
theorem Bk{p:Array Nat}(hp:Pm n p)(h1:1<=m)(h2:m < n)(h:Dn lt p (m+1)):(kas_descPart m n p).kasWp (askIn n lt) (λr _=>1<=r.1/\r.1<=n/\Pm n r.2/\Up lt r.2 r.1) s:=by
 unfold kas_descPart;refine ux (v9 O two (n - (m+1)) p (m+1) 0 hp (by omega) (by omega) (by omega) h λi j a b c d=>?_) λr ⟨b1,b2,b3,b4,b5,b6⟩=>?_
 ·have:i=m:=by omega
  have:j=m:=by omega
  subst i;subst j;exact O.irr _
 ·split
  ·exact Cw O two (b1.rev _ _) b2 b3 (b5.turn (by rw[b1.size];exact b3) b6)
  ·exact Cw O two b1 b2 b3 b5
theorem GF{p:Array Nat}(hp:Pm n p):(kas_count n p).kasWp (askIn n lt) (λr _=>1<=r.1/\r.1<=n/\Pm n r.2/\Up lt r.2 r.1) s:=by
 unfold kas_count;refine ux (wL O two hp (n - 1) 1 (v_ _)) λm ⟨a1,a2,a3,a4⟩=>?_
 have up1:Up lt p m:=Up.of_steps O (m:=1) (λi j x y=>by omega) λk x y z=>a3 k x y
 split
 ·exact⟨a1,by omega,hp,up1⟩
 ·rename_i ne;have ne:m≠n:=by simpa using ne
  have fc:=a4 (by omega);split
  ·refine⟨hp.bd (by omega) 0,hp.bd (by omega) (m - 1),?_⟩;cases h:lt (p.getD 0 0) (p.getD (m - 1) 0) with
   | true =>
    dsimp only;rw[if_pos rfl];exact⟨a1,by omega,hp,up1⟩
   | false =>
    dsimp only;rw[if_neg i_]
    have all:Eqs lt p 0 m:=λi j x1 x2 y1 y2=>by
     -- the first is not SQ than the fc,and they rise
     have l0:∀i,i < m->lt (gt p i) (gt p 0)=false:=λi x=>by
      by_cases z:i=0
      ·rw[z];exact O.irr _
      ·exact up1 0 i (by omega) x
     have lz:∀j,j < m->lt (gt p (m - 1)) (gt p j)=false:=λj x=>by
      by_cases z:j=m - 1
      ·rw[z];exact O.irr _
      ·exact up1 j (m - 1) (by omega) (by omega)
     -- i against j: i<=fc<=first<=j,whichever
     have f1:lt (gt p i) (gt p (m - 1))=false:=O.tr _ _ _ h (l0 i x2);exact O.tr _ _ _ (lz j y2) f1
    have sz:m<=p.size:=by rw[hp.size];omega
    have all2:Dn lt (Sh p 0 m) m:=Dn.turn sz (λi j x y=>all i j (NK _) (by omega) (NK _) y) all;refine Bk O two (hp.rev _ _) a1 (by omega) (Dn.next O all2 a1 ?_);rw[sH sz,sH sz,if_pos ⟨NK _,by omega⟩,if_neg (by omega)];refine O.tr _ _ _ (O.as _ _ fc) ?_;exact all _ _ (NK _) (by omega) (NK _) (by omega)
  ·have:m=1:=by omega
   subst this;exact Bk O two hp (v_ _) (by omega) (Dn.next O (λi j x y=>by omega) (v_ _) (O.as _ _ fc))
theorem yU{p:Array Nat}{k:Nat}(hp:Pm n p)(hk:k < n)(up:Up lt p k):∀(f l r:Nat),l<=r->r<=k->r - l<=f->(∀i,i < l->lt (gt p k) (gt p i)=false)->(∀i,r<=i->i < k->lt (gt p k) (gt p i)=true) →
  (kas_place p k f l r).kasWp (askIn n lt) (λl' _=>l'<=k/\(∀i,i < l'->lt (gt p k) (gt p i)=false)/\∀i,l'<=i->i < k->lt (gt p k) (gt p i)=true) s
 | 0,l,r,h1,h2,h3,h4,h5=>by
  rw[kas_place];exact⟨by omega,h4,λi x y=>h5 i (by omega) y⟩
 | f+1,l,r,h1,h2,h3,h4,h5=>by
  rw[kas_place];split
  ·exact⟨by omega,h4,λi x y=>h5 i (by omega) y⟩
  ·refine⟨hp.bd (by omega) k,hp.bd (by omega) _,?_⟩;cases h:lt (p.getD k 0) (p.getD ((l+r) / 2) 0) with
   | true =>
    dsimp only;rw[if_pos rfl];refine yU hp hk up f l ((l+r) / 2) (by omega) (by omega) (by omega) h4 λi x y=>?_
    by_cases z:i=(l+r) / 2
    ·rw[z];exact h
    ·exact O.lt_le h (up _ _ (by omega) y)
   | false =>
    dsimp only;rw[if_neg i_];refine yU hp hk up f ((l+r) / 2+1) r (by omega) (by omega) (by omega) (λi x=>?_) h5;by_cases z:i=(l+r) / 2
    ·rw[z];exact h
    ·exact O.tr _ _ _ (up i ((l+r) / 2) (by omega) (by omega)) h
theorem CH:∀(f:Nat) (p:Array Nat) (k:Nat),Pm n p->Up lt p k->1<=k->k+f=n->(kas_bin f p k).kasWp (askIn n lt) (λp' _=>Pm n p'/\Up lt p' n) s
 | 0,p,k,hp,up,h1,h2=>by
  rw[kas_bin];have:k=n:=by omega
  subst this;exact⟨hp,up⟩
 | f+1,p,k,hp,up,h1,h2=>by
  rw[kas_bin];refine ux (yU O two hp (by omega) up k 0 k (NK _) (v_ _) (by omega) (λi h=>by omega) λi x y=>by omega) λl ⟨c1,c2,c3⟩=>?_
  refine CH f _ (k+1) (trans (bubble_perm _ _ _) hp) (λi j cZ hj=>?_) (by omega) (by omega);have hk:k < p.size:=by rw[hp.size];omega
  rw[AL hk (by omega),AL hk (by omega),show k - (k - l)=l by omega];by_cases j1:j=l
  ·rw[if_pos j1,if_neg (by omega),if_neg (by omega)];exact c2 i (by omega)
  ·rw[if_neg j1];by_cases j2:l < j/\j<=k
   ·rw[if_pos j2];by_cases i1:i=l
    ·rw[if_pos i1];exact O.as _ _ (c3 (j - 1) (by omega) (by omega))
    ·rw[if_neg i1];by_cases i2:l < i/\i<=k
     ·rw[if_pos i2];exact up _ _ (by omega) (by omega)
     ·rw[if_neg i2];exact up _ _ (by omega) (by omega)
   ·rw[if_neg j2,if_neg (by omega),if_neg (by omega)];exact up _ _ cZ (by omega)
theorem GK:(kas_sort n).kasWp (askIn n lt) (λp _=>Pm n p/\Up lt p n) s:=by
 unfold kas_sort;refine ux (GF O two (p:=(NY n).toArray) (Array.Perm.refl _)) λr ⟨a1,a2,a3,a4⟩=>?_
 split
 ·refine CH O two _ _ _ a3 ?_ (by omega) (by omega);rw[Nat.max_eq_left a1];exact a4
 ·have:r.1=n:=by omega
  rw[this] at a4;exact⟨a3,a4⟩
end
end DL
namespace DL
open PySem PySem.W PySem.Spec PyProof.Rows
section
variable{prog:A_}{w:I_}{E:b_->c_->Prop}{s:c_}
noncomputable def byP(vs:List b_)(p:Array Nat):List b_:=p.toList.map λi=>vs.getD i b_.none
theorem Eg(vs:List b_):byP vs (NY vs.length).toArray=vs:=by
 unfold byP;refine List.ext_getElem (by simp) λi h1 h2=>?_
 simp[h2]
theorem Kb{p:Array Nat}(h:Pm vs.length p):(byP vs p).length=vs.length:=by
 unfold byP;rw[u_,NU,h.size]
def KeptBut(a:k_)(h h':J_):Prop:=∀b o,b≠a->h.get? b=some o->h'.get? b=some o
theorem IJ{e:Nat}{κ:SortKind}{lt:Nat->Nat->Bool}{P:PySem.Fin->c_->Prop}(ho:s.heap.get? a=some (PN "list" vs.toArray e))(ic:vs.length < 64)(O:Ord lt)(kind:∀h' Q,KeptBut a s.heap h'->2<=vs.length->Q κ { s with heap:=h' }->s_ (t_ prog w) A (keyKind' vs.toArray) Q E { s with heap:=h' })(SQ:∀h' i j C,KeptBut a s.heap h'->i < vs.length->j < vs.length->C (lt i j) { s with heap:=h' }->s_ (t_ prog w) A (keyLt' κ (vs.getD i b_.none) (vs.getD j b_.none)) C (λ_ _=>False) { s with heap:=h' })(fin:∀p h' c,Pm vs.length p->Up lt p vs.length->KeptBut a s.heap h'->h'.get? a=some (PN "list" (byP vs p).toArray c)->P (.done (.ret .none)) { s with heap:=h' }):
  s_ (t_ prog w) A (Ov.«list.sort» ⟨[.ref a],[]⟩) P E s:=by
 have line:64<=C_:=by rw[Of];decide
 obtain⟨g1,jN⟩:∃g1,g1=s.heap.update a (Rh λ_=>(#[]:Array b_)):=⟨_,rfl⟩;obtain⟨e1,o1⟩:∃e1,g1.get? a=some (PN "list" #[] e1):=⟨_,by rw[jN];exact get?_update_seq ho _⟩;have k1:KeptBut a s.heap g1:=λb o ne x=>by rw[jN];exact(Nv _ _ (NH ne)).trans x
 obtain⟨g2,jO⟩:∃g2,g2=(g1.push (PN "tuple" vs.toArray 0)).push (PN "list" #[] 0):=⟨_,rfl⟩;have o2:g2.get? a=some (PN "list" #[] e1):=by rw[jO];exact f_ _ (f_ _ o1)
 have k2:KeptBut a s.heap g2:=λb o ne x=>by rw[jO];exact f_ _ (f_ _ (k1 b o ne x))
 have je:∀jP,(2<=vs.length->jP=κ)->s_ (t_ prog w) A ((if vs.toArray.size < 2 then pure () else sortRuns').run (SortSt.mk' jP (vs.toArray.zip vs.toArray) #[] 7 none))
   (λr s'=>s'={ s with heap:=g2 }/\∃p,Pm vs.length p/\Up lt p vs.length/\(arrOf r.2).map (·.2)=(byP vs p).toArray/\failedOf r.2=none) E { s with heap:=g2 }:=λjP nY=>by
  rcases Qu vs.length 2 with eF | cW
  ·rw[if_pos (by rw[n_];exact eF)];refine e_ ⟨rfl,(NY vs.length).toArray,Array.Perm.refl _,λi j x y=>by omega,?_,rfl⟩;rw[Eg];show((vs.toArray.zip vs.toArray).map (·.2))=_;refine Array.ext (by simp) λi h1 h2=>by simp
  ·rw[if_neg (by rw[n_];omega),nY cW];refine kat_run (ks:=vs) (vs:=vs) (G:=λp s'=>(Pm vs.length p/\Up lt p vs.length)/\s'={ s with heap:=g2 }) (Q:=λst s'=>s'={ s with heap:=g2 }/\∃p,Pm vs.length p/\Up lt p vs.length/\(arrOf st).map (·.2)=(byP vs p).toArray/\failedOf st=none) rfl cW ic ?_ ?_
   ·rintro p st s' hz jQ aX ⟨⟨hp,up⟩,rfl⟩;exact⟨rfl,p,hp,up,kat_snds rfl jQ,aX⟩
   ·exact wz (P:=λp=>Pm vs.length p/\Up lt p vs.length) (λi j C h1 h2 h3=>SQ g2 i j C k2 h1 h2 h3) (λp hp=>⟨hp,rfl⟩) _ (GK O cW)
 rw[list_sort_plain];refine a_ (listItems_at ho rfl (a_ (listUpdate_at ho rfl ?_ (by rw[n_];omega) (NK _))));rw[←jN];refine a_ (seqEpoch_at o1 rfl (a_ (wpAny_newTuple (a_ (wpAny_newList (NN ?_) (NK _))) (by show vs.length<=_;omega))));show s_ (t_ prog w) A _ P E { s with heap:=(g1.push (PN "tuple" vs.toArray 0)).push (PN "list" #[] 0) };rw[←jO];dsimp only
 rcases Qu vs.length 2 with eF | cW
 all_goals
  first
   | (rw[if_pos (by rw[n_];exact eF)];refine a_ (e_ ?_);have step:=je general' λh=>by omega)
   | (rw[if_neg (by rw[n_];omega)];refine a_ (kind g2 _ k2 cW ?_);have step:=je κ λ_=>rfl)
  refine a_ (N2 step (λr s' h=>?_) λ_ _ x=>x);obtain⟨rfl,p,hp,up,jQ,aX⟩:=h;rw[jQ,aX];refine a_ (seqEpoch_at o2 rfl (a_ (listUpdate_at o2 rfl ?_ (NK _) ?_)))
  ·dsimp only;rw[bne_self_eq_false,if_neg i_];exact e_ (fin p _ _ hp up (λb o ne x=>(Nv _ _ (NH ne)).trans (k2 b o ne x)) (get?_update_seq o2 λ_=>(byP vs p).toArray))
  ·show(byP vs p).toArray.size<=_;rw[n_,Kb hp];omega
theorem yf{l:k_}{κ:SortKind}{lt:Nat->Nat->Bool}{Q:b_->c_->Prop}(ic:vs.length < 64)(O:Ord lt)(gm:∀Q':List b_->c_->Prop,(∀h' tk,(∀b o,s.heap.get? b=some o->h'.get? b=some o)->s.heap.objs.size<=h'.objs.size->Q' vs { s with heap:=h',toks:=tk })->s_ (t_ prog w) A.in1 (S7 (.ref l)) Q' E s)(kind:∀h' tk Q,(∀b o,s.heap.get? b=some o->h'.get? b=some o)->2<=vs.length->Q κ { s with heap:=h',toks:=tk }->s_ (t_ prog w) A.in1.in1 (keyKind' vs.toArray) Q (λ_ _=>False) { s with heap:=h',toks:=tk })(SQ:∀h' tk i j C,(∀b o,s.heap.get? b=some o->h'.get? b=some o)->i < vs.length->j < vs.length->C (lt i j) { s with heap:=h',toks:=tk }->s_ (t_ prog w) A.in1.in1 (keyLt' κ (vs.getD i b_.none) (vs.getD j b_.none)) C (λ_ _=>False) { s with heap:=h',toks:=tk })(fin:∀p h' tk D c,Pm vs.length p->Up lt p vs.length->(∀b o,s.heap.get? b=some o->h'.get? b=some o)->s.heap.objs.size<=D->h'.get? D=some (PN "list" (byP vs p).toArray c)->Q (.ref D) { s with heap:=h',toks:=tk }):
  s_ (t_ prog w) A (call (.builtin "sorted") [b_.ref l]) Q E s:=by
 have line:64<=C_:=by rw[Of];decide
 refine Calls.call_function_entry kind_sorted plain_sorted entry_sorted (args_sorted1 _) ?_;refine a_ (m:=checkCount "sorted" 1 1 _) (e_ (a_ (gm _ λg tk kg above=>a_ (wpAny_newList ?_ (by omega)))));have aT:(g.push (PN "list" vs.toArray 0)).get? g.objs.size=some (PN "list" vs.toArray 0):=x_ _ rfl
 have old:∀(h':J_),KeptBut g.objs.size (g.push (PN "list" vs.toArray 0)) h'->∀b o,s.heap.get? b=some o->h'.get? b=some o:=λh' k b o x =>
  k b o (NB (G_ (E_ x) above)) (f_ _ (kg b o x))
 refine a_ (NN (NP PyProof.Rows.slot_list_sort ⟨_,aT,rfl⟩ PyProof.Rows.entry_list_sort ?_ (args_list_sort _)));refine IJ (s:={ s with heap:=g.push (PN "list" vs.toArray 0),toks:=tk }) (lt:=lt) (κ:=κ) aT ic O (λh' Q' k two q=>N2 (kind h' tk Q' (old h' k) two q) (λ_ _ x=>x) λ_ _ x=>x.elim) (λh' i j C k=>SQ h' tk i j C (old h' k)) λp h' c hp up k here=>?_
 exact⟨_,rfl,e_ ⟨_,rfl,fin p h' tk _ c hp up (old h' k) above here⟩⟩
end
end DL
namespace DL
open PySem PySem.W PySem.Spec PyProof.Rows L2
noncomputable def rk:D->Nat
 | .non=>0
 | .bl _=>1
 | .int _=>2
 | .str _=>3
 | .tup _=>4
 | .lst _=>5
noncomputable def cI(a b:Int):Ordering:=if a < b then .lt else if b < a then .gt else .eq
mutual
noncomputable def cO:D->D->Ordering
 | .int a,.int b=>cI a b
 | .tup xs,.tup ys=>cOA xs ys
 | a,b=>cI (rk a) (rk b)
noncomputable def cOA:List D->List D->Ordering
 | [],[]=>.eq
 | [],_::_=>.lt
 | _::_,[]=>.gt
 | x::xs,y::ys=>(cO x y).then (cOA xs ys)
end
theorem uh(a b:Int):cI b a=(cI a b).swap:=by
 unfold cI;by_cases h1:a < b
 ·rw[if_pos h1,if_neg (by omega),if_pos h1];rfl
 ·by_cases h2:b < a
  ·rw[if_pos h2,if_neg h1,if_pos h2];rfl
  ·rw[if_neg h2,if_neg h1,if_neg h1,if_neg h2];rfl
theorem zf{a b:D}(h:rk a≠rk b):cO a b=cI (rk a) (rk b):=by
 cases a<;>cases b<;>first | rfl | (exact absurd rfl h) | (simp[cO];done)
mutual
theorem yN:∀a b:D,cO b a=(cO a b).swap
 | .int a,b=>by
  cases b<;>simp only[cO]<;>exact uh _ _
 | .tup xs,b=>by
  cases b<;>simp only[cO]<;>first | exact uh _ _ | exact zg _ _
 | .non,b=>by cases b<;>simp only[cO]<;>exact uh _ _
 | .bl _,b=>by cases b<;>simp only[cO]<;>exact uh _ _
 | .str _,b=>by cases b<;>simp only[cO]<;>exact uh _ _
 | .lst _,b=>by cases b<;>simp only[cO]<;>exact uh _ _
theorem zg:∀xs ys:List D,cOA ys xs=(cOA xs ys).swap
 | [],[]=>by simp[cOA]
 | [],_::_=>by simp[cOA]
 | _::_,[]=>by simp[cOA]
 | x::xs,y::ys=>by
  rw[cOA,cOA,yN x y,zg xs ys];cases cO x y<;>rfl
end
noncomputable def dl(a b:D):Bool:=cO a b == .lt
noncomputable def dlA(xs ys:List D):Bool:=cOA xs ys == .lt
theorem xC(a b:Int):(cI a b == Ordering.lt)=decide (a < b):=by
 unfold cI;by_cases h1:a < b
 ·rw[if_pos h1];simp[h1]
 ·rw[if_neg h1];split<;>simp[h1]
theorem sw{a b:Int}:dl (.int a) (.int b)=decide (a < b):=by
 unfold dl;rw[cO,xC]
theorem uo{xs:List D}:dl (.tup xs) (.tup ys)=dlA xs ys:=by
 unfold dl dlA;rw[cO]
theorem vw:dlA [] []=false:=by unfold dlA;simp[cOA]
theorem tM{y:D}:dlA [] (y::ys)=true:=by unfold dlA;simp[cOA]
theorem uY{y:D}:dlA (y::ys) []=false:=by unfold dlA;simp[cOA]
theorem uX{x y:D}{xs:List D}:dlA (x::xs) (y::ys)=(dl x y||(!dl y x&&dlA xs ys)):=by
 unfold dlA dl;rw[cOA,yN x y];cases cO x y<;>simp[Ordering.then,Ordering.swap]
theorem AS{a b:D}(h:rk a < rk b):dl a b=true:=by
 unfold dl;rw[zf (NB h),xC];simp;omega
theorem Ew{a b:D}(h:rk b < rk a):dl a b=false:=by
 unfold dl;rw[zf (Qo h),xC];simp;omega
theorem vP{a b:D}(h:rk a=rk b)(h1:rk a≠2)(h2:rk a≠4):dl a b=false:=by
 unfold dl;cases a<;>cases b<;>first | (simp[rk] at h;done) | (exact absurd rfl h1) | (exact absurd rfl h2) | (simp[cO,cI,rk];done)
mutual
theorem uK:∀a b c:D,dl b a=false->dl c b=false->dl c a=false:=λa b c h1 h2=>by
 have r1:rk a<=rk b:=Q5 λh=>by rw[AS h] at h1;cases h1
 have r2:rk b<=rk c:=Q5 λh=>by rw[AS h] at h2;cases h2
 rcases Qu (rk a) (rk c) with h | h
 ·exact Ew h
 ·have e1:rk b=rk a:=by omega
  have e2:rk c=rk a:=by omega
  match a,b,c with
  | .int a,.int b,.int c =>
   rw[sw] at h1 h2 ⊢;simp at h1 h2 ⊢;omega
  | .tup xs,.tup ys,.tup zs =>
   rw[uo] at h1 h2 ⊢;exact B8 xs ys zs h1 h2
  | .non,_,_=>exact vP e2 (by rw[e2];decide) (by rw[e2];decide)
  | .bl _,_,_=>exact vP e2 (by rw[e2];simp[rk]) (by rw[e2];simp[rk])
  | .str _,_,_=>exact vP e2 (by rw[e2];simp[rk]) (by rw[e2];simp[rk])
  | .lst _,_,_=>exact vP e2 (by rw[e2];simp[rk]) (by rw[e2];simp[rk])
termination_by a b c=>sizeOf a+sizeOf b+sizeOf c
decreasing_by all_goals (simp_wf;omega)
theorem B8:∀xs ys zs:List D,dlA ys xs=false->dlA zs ys=false->dlA zs xs=false
 | [],_,[],_,_=>vw
 | [],_,z::zs,_,_=>uY
 | x::xs,[],_,h1,_=>by rw[tM] at h1;cases h1
 | x::xs,y::ys,[],_,h2=>by rw[tM] at h2;cases h2
 | x::xs,y::ys,z::zs,h1,h2=>by
  simp only[uX,Bool.or_eq_false_iff,Bool.and_eq_false_iff,Bool.not_eq_false'] at h1 h2 ⊢;obtain⟨a1,a2⟩:=h1;obtain⟨b1,b2⟩:=h2;refine⟨uK x y z a1 b1,?_⟩;cases hx:dl x z with
  | true=>exact .inl rfl
  | false =>
   right
   rcases a2 with a2 | a2
   ·have:=uK y z x b1 hx;rw[a2] at this;cases this
   ·rcases b2 with b2 | b2
    ·have:=uK z x y hx a1;rw[b2] at this;cases this
    ·exact B8 xs ys zs a2 b2
termination_by xs ys zs=>sizeOf xs+sizeOf ys+sizeOf zs
decreasing_by all_goals (simp_wf;omega)
end
theorem zc(a b:D)(h:dl a b=true):dl b a=false:=by
 unfold dl at h ⊢;rw[yN a b];cases e:cO a b<;>rw[e] at h<;>first | rfl | (cases h;done)
theorem yn(ds:List D):Ord λi j=>dl (ds.getD i .non) (ds.getD j .non):=⟨λa b h=>zc _ _ h,λa b c h1 h2=>uK _ _ _ h1 h2⟩
mutual
noncomputable def cmB:D->D->Bool
 | .int _,.int _=>true
 | .tup xs,.tup ys=>cmA xs ys
 | _,_=>false
noncomputable def cmA:List D->List D->Bool
 | x::xs,y::ys=>cmB x y&&cmA xs ys
 | _,_=>true
end
mutual
theorem sY:∀a b:D,cmB a b=true->deq a b=(!dl a b&&!dl b a)
 | .int a,.int b,_=>by
  rw[sw,sw];by_cases h:a=b
  ·simp[deq,h]
  ·rcases Int.lt_or_gt_of_ne h with h' | h'
   ·simp[deq,h,h']
   ·simp[deq,h,h']
 | .tup xs,.tup ys,h=>by
  rw[cmB] at h;rw[deq,uo,uo];exact AW xs ys h
 | .non,_,h=>by simp[cmB] at h
 | .bl _,_,h=>by simp[cmB] at h
 | .str _,_,h=>by simp[cmB] at h
 | .lst _,_,h=>by simp[cmB] at h
 | .int _,.non,h=>by simp[cmB] at h
 | .int _,.bl _,h=>by simp[cmB] at h
 | .int _,.str _,h=>by simp[cmB] at h
 | .int _,.tup _,h=>by simp[cmB] at h
 | .int _,.lst _,h=>by simp[cmB] at h
 | .tup _,.non,h=>by simp[cmB] at h
 | .tup _,.bl _,h=>by simp[cmB] at h
 | .tup _,.str _,h=>by simp[cmB] at h
 | .tup _,.int _,h=>by simp[cmB] at h
 | .tup _,.lst _,h=>by simp[cmB] at h
theorem AW:∀xs ys:List D,cmA xs ys=true->deqA xs ys=(!dlA xs ys&&!dlA ys xs)
 | [],[],_=>by simp[deqA,vw]
 | [],_::_,_=>by simp[deqA,tM,uY]
 | _::_,[],_=>by simp[deqA,tM,uY]
 | x::xs,y::ys,h=>by
  rw[cmA,Nx] at h;rw[deqA,sY x y h.1,AW xs ys h.2,uX,uX];cases h1:dl x y<;>cases h2:dl y x<;>simp
end
mutual
theorem um:∀a b:D,cmB a b=true->deq a b=true->a=b
 | .int a,.int b,_,h=>by simp[deq] at h;rw[h]
 | .tup xs,.tup ys,c,h=>by
  rw[cmB] at c;rw[deq] at h;rw[zk xs ys c h]
 | .non,_,h,_=>by simp[cmB] at h
 | .bl _,_,h,_=>by simp[cmB] at h
 | .str _,_,h,_=>by simp[cmB] at h
 | .lst _,_,h,_=>by simp[cmB] at h
 | .int _,.non,h,_=>by simp[cmB] at h
 | .int _,.bl _,h,_=>by simp[cmB] at h
 | .int _,.str _,h,_=>by simp[cmB] at h
 | .int _,.tup _,h,_=>by simp[cmB] at h
 | .int _,.lst _,h,_=>by simp[cmB] at h
 | .tup _,.non,h,_=>by simp[cmB] at h
 | .tup _,.bl _,h,_=>by simp[cmB] at h
 | .tup _,.str _,h,_=>by simp[cmB] at h
 | .tup _,.int _,h,_=>by simp[cmB] at h
 | .tup _,.lst _,h,_=>by simp[cmB] at h
theorem zk:∀xs ys:List D,cmA xs ys=true->deqA xs ys=true->xs=ys
 | [],[],_,_=>rfl
 | [],_::_,_,h=>by simp[deqA] at h
 | _::_,[],_,h=>by simp[deqA] at h
 | x::xs,y::ys,c,h=>by
  rw[cmA,Nx] at c;rw[deqA,Nx] at h;rw[um x y c.1 h.1,zk xs ys c.2 h.2]
end
open PySem.SeqAt in
theorem zU(e lt:Nat->Bool)(d:Bool)(f:Nat->Nat):∀l:List Nat,ltFrom e lt d (l.map f)=ltFrom (λi=>e (f i)) (λi=>lt (f i)) d l
 | []=>rfl
 | i::l=>by rw[H_,ltFrom,ltFrom,zU e lt d f l]
open PySem.SeqAt in
theorem Af:∀xs ys:List D,cmA xs ys=true->ltFrom (λj=>deq (xs.getD j .non) (ys.getD j .non)) (λj=>dl (xs.getD j .non) (ys.getD j .non)) (decide (xs.length < ys.length)) (NY (min xs.length ys.length))=dlA xs ys
 | [],[],_=>by simp[ltFrom,vw]
 | [],_::_,_=>by simp[ltFrom,tM]
 | _::_,[],_=>by simp[ltFrom,uY]
 | x::xs,y::ys,c=>by
  rw[cmA,Nx] at c;have ih:=Af xs ys c.2;rw[NG,NG,Nat.succ_min_succ,OZ,ltFrom,zU,uX]
  have e:ltFrom (λi=>deq ((x::xs).getD i.succ .non) ((y::ys).getD i.succ .non)) (λi=>dl ((x::xs).getD i.succ .non) ((y::ys).getD i.succ .non)) (decide (xs.length+1 < ys.length+1)) (NY (min xs.length ys.length))=dlA xs ys:=by
   rw[←ih]
   congr 1
   simp
  rw[e];show(if deq x y=true then dlA xs ys else dl x y)=_;rw[sY x y c.1];cases h1:dl x y<;>cases h2:dl y x<;>simp
theorem Ay:∀(xs ys:List D),cmA xs ys=true->∀j,j < xs.length->j < ys.length->cmB (xs.getD j .non) (ys.getD j .non)=true
 | [],_,_,j,h,_=>by simp at h
 | _::_,[],_,j,_,h=>by simp at h
 | x::xs,y::ys,c,j,h1,h2=>by
  rw[cmA,Nx] at c;cases j with
  | zero=>exact c.1
  | succ j=>exact Ay xs ys c.2 j (by simpa using h1) (by simpa using h2)
section
variable{H:Hp}{s:c_}
open PySem.SeqAt in
theorem Jv(I:Inv X aa U H s):∀(n:Nat) (A:Oe),A.units+n < OC->∀(a b:D) (x y:V) (u v:b_),dep a<=n->cmB a b=true->Is X.K H a x->Is X.K H b y->RelV x u->RelV y v->RcLtAt A s u v (dl a b):=by
 intro n
 induction n with
 | zero =>
  intro A hu a b x y u v hd c ha hb ru rv;cases a<;>cases b<;>simp[cmB] at c
  ·rename_i i j;rw[qJ ha] at ru;rw[qJ hb] at rv;obtain⟨t1,rfl⟩:=ru;obtain⟨t2,rfl⟩:=rv;rw[sw];exact RcLtAt.int_int _ _ _ _
  ·rw[dep] at hd;omega
 | succ n ih =>
  intro A hu a b x y u v hd c ha hb ru rv;cases a<;>cases b<;>simp[cmB] at c
  ·rename_i i j;rw[qJ ha] at ru;rw[qJ hb] at rv;obtain⟨t1,rfl⟩:=ru;obtain⟨t2,rfl⟩:=rv;rw[sw];exact RcLtAt.int_int _ _ _ _
  ·rename_i ds es;have eB:A.in1.units+n < OC:=by show A.units+1+n < OC;omega
   obtain⟨p,xs,rfl,h1,h2⟩:=qL ha;obtain⟨q,ys,rfl,h3,h4⟩:=qL hb;cases ru;cases rv;obtain⟨ae,r1,t1,_⟩:=I.tuple h1;obtain⟨bx,r2,t2,_⟩:=I.tuple h3;have l1:ae.toArray.size=ds.length:=by rw[n_,←r1.length,h2.length]
   have l2:bx.toArray.size=es.length:=by rw[n_,←r2.length,h4.length]
   have two:∀j (g1:j < ae.toArray.size) (g2:j < bx.toArray.size),S1 A.in1 s ae.toArray[j] bx.toArray[j] (deq (ds.getD j .non) (es.getD j .non))/\(deq (ds.getD j .non) (es.getD j .non)=false->RcLtAt A.in1 s ae.toArray[j] bx.toArray[j] (dl (ds.getD j .non) (es.getD j .non))):=λj g1 g2=>by
    obtain⟨v1,q1,q2⟩:=h2.getU r1 g1;obtain⟨v2,q3,q4⟩:=h4.getU r2 g2
    have m1:ds.getD j .non∈ds:=by
     rw[h_,g_ (by omega)];exact NS _
    have k1:=se m1;rw[dep] at hd;exact⟨(ub I n A.in1 eB _ _ _ _ _ _ (.inl (by omega)) q2 q4 q1 q3).2.1,λ_=>ih A.in1 eB _ _ _ _ _ _ (by omega) (Ay ds es c j (by omega) (by omega)) q2 q4 q1 q3⟩
   have R1:=RcLtAt.tuples (A:=A) t1 t2 (by omega) two;rw[l1,l2,Af ds es c] at R1;rw[uo];exact R1
end
end DL
namespace DL
open PySem PySem.W PySem.Spec PyProof.Rows L2
noncomputable def leD(a b:D):Bool:=!dl b a
noncomputable def sortD(ds:List D):List D:=ds.mergeSort leD
theorem BC(a b c:D)(h1:leD a b=true)(h2:leD b c=true):leD a c=true:=by
 unfold leD at *;simp only[Pv] at *;exact uK a b c h1 h2
theorem AH(a b:D):(leD a b||leD b a)=true:=by
 unfold leD;cases h:dl b a with
 | false=>rfl
 | true=>rw[zc b a h];rfl
theorem tG(ds:List D):(sortD ds).Perm ds:=O3 ds leD
theorem ut(ds:List D):(sortD ds).Pairwise λa b=>leD a b=true:=Q7 BC AH ds
theorem uO:∀(l m:List D),l.Perm m->(l.Pairwise λa b=>leD a b=true)->(m.Pairwise λa b=>leD a b=true)->(∀a∈l,∀b∈l,leD a b=true->leD b a=true->a=b)->l=m
 | [],m,p,_,_,_=>by rw[List.nil_perm.mp p]
 | a::l,[],p,_,_,_=>by have:=p.length_eq;simp at this
 | a::l,b::m,p,h1,h2,an=>by
  have e:a=b:=by
   have ia:a∈b::m:=p.mem_iff.mp m_;have ib:b∈a::l:=p.mem_iff.mpr m_
   rcases D_.mp ia with h | h
   ·exact h
   ·rcases D_.mp ib with h' | h'
    ·exact h'.symm
    ·exact an a m_ b ib ((PR.mp h1).1 b h') ((PR.mp h2).1 a h)
  subst e;rw[uO l m ((List.perm_cons a).mp p) (PR.mp h1).2 (PR.mp h2).2 λx hx y hy=>an x (j_ _ hx) y (j_ _ hy)]
noncomputable def permD(p:Array Nat)(ds:List D):List D:=p.toList.map λi=>ds.getD i .non
noncomputable def permV(p:Array Nat)(zs:List V):List V:=p.toList.map λi=>zs.getD i .non
noncomputable def cmAll(ds:List D):Bool:=ds.all λa=>ds.all λb=>cmB a b
theorem Ep{p:Array Nat}(hp:Pm ds.length p)(up:Up (λi j=>dl (ds.getD i .non) (ds.getD j .non)) p ds.length)(cm:cmAll ds=true):permD p ds=sortD ds:=by
 have pm:(permD p ds).Perm ds:=by
  have h1:p.toList.Perm (NY ds.length):=by
   have:=O4.mp hp;simpa using this
  have h2:=h1.map λi=>ds.getD i .non
  have h3:((NY ds.length).map λi=>ds.getD i .non)=ds:=by
   refine List.ext_getElem (by simp) λi h1 h2=>?_
   simp[h2]
  rw[h3] at h2;exact h2
 have ig:∀a∈permD p ds,∀b∈permD p ds,cmB a b=true:=λa ha b hb=>by
  have:=q_.mp cm a (pm.mem_iff.mp ha);exact q_.mp this b (pm.mem_iff.mp hb)
 refine uO _ _ (pm.trans (tG ds).symm) ?_ (ut ds) λa ha b hb h1 h2=>?_
 ·rw[Qx];intro i j hi hj cZ;unfold permD at hi hj ⊢;rw[u_,NU,hp.size] at hi hj;have:=up i j cZ hj;simp only[QE,RE];unfold gt at this;rw[Tb,dif_pos (by rw[hp.size];exact hj),Tb,dif_pos (by rw[hp.size];exact hi)] at this;unfold leD;rw[Pv];exact this
 ·have c:=ig a ha b hb;refine um a b c ?_;rw[sY a b c];unfold leD at h1 h2;rw[h1,h2];rfl
section
variable{H:Hp}{s:c_}
noncomputable def fstI:D->Bool
 | .tup (.int _::_)=>true
 | _=>false
noncomputable def fstT:D->Bool
 | .tup (.tup _::_)=>true
 | _=>false
noncomputable def isInt:D->Bool
 | .int _=>true
 | _=>false
theorem AF(I:Inv X aa U H s){prog:A_}{w:I_}{n:Nat}{b fin:Bool}{Q:Bool->c_->Prop}(hu:A.units+n < OC):∀(ds es:List D) (xs ys:List V) (us vs:List b_) (i:Nat),IsA X.K H ds xs->IsA X.K H es ys->Vals xs us->Vals ys vs →
  depA ds<=n->cmA ds es=true->fin=decide (ds.length < es.length)->(b=true->i=0->∀d e r r',ds=d::r->es=e::r'->isInt d=true/\isInt e=true)->Q (dlA ds es) s->KatLex prog w A b fin Q (us.zip vs) i s
 | [],es,xs,ys,us,vs,i,h1,h2,h3,h4,hd,c,hf,fl,q=>by
  have:=h1.nil_inv;subst this;cases h3;rw[List.zip_nil_left];refine kat_nil ?_;rw[hf];cases es with
  | nil=>rw[vw] at q;exact q
  | cons e es=>rw[tM] at q;simpa using q
 | d::ds,[],xs,ys,us,vs,i,h1,h2,h3,h4,hd,c,hf,fl,q=>by
  have:=h2.nil_inv;subst this;cases h4;rw[List.zip_nil_right];refine kat_nil ?_;rw[hf];rw[uY] at q;simpa using q
 | d::ds,e::es,xs,ys,us,vs,i,h1,h2,h3,h4,hd,c,hf,fl,q=>by
  obtain⟨x,xr,rfl,a1,a2⟩:=h1.cons_inv;obtain⟨y,yr,rfl,b1,b2⟩:=h2.cons_inv;cases h3 with
  | cons r1 r2 =>
   cases h4 with
   | cons s1 s2 =>
    rename_i u nZ v n4;rw[depA] at hd;rw[cmA,Nx] at c;rw[uX] at q;have eq:=(ub I n A hu d e x y u v (.inl (by omega)) a1 b1 r1 s1).2.1;have lt:=Jv I n A hu d e x y u v (by omega) c.1 a1 b1 r1 s1;have ed:=sY d e c.1;rw[Om];refine kat_cons (eq prog w _ _ (kat_go (λh=>kat_yes ?_) λh=>kat_no ?_))
    ·refine AF I hu ds es xr yr nZ n4 (i+1) a2 b2 r2 s2 (by omega) c.2 (by rw[hf];simp) (λ_ z=>by omega) ?_;rw[h] at ed;have ed:=ed.symm;simp only[Nx,Pv] at ed;rw[ed.1,ed.2] at q;simpa using q
    ·have q':Q (dl d e) s:=by
      rw[h] at ed;cases h1:dl d e with
      | true=>rw[h1] at q;simpa using q
      | false =>
       rw[h1] at ed q;cases h2:dl e d with
       | true=>rw[h2] at q;simpa using q
       | false=>rw[h2] at ed;cases ed
     by_cases z:b=true/\i=0
     ·obtain⟨zb,zi⟩:=z;obtain⟨f1,f2⟩:=fl zb zi d e ds es rfl rfl;subst zb;subst zi;cases d<;>simp[isInt] at f1
      cases e<;>simp[isInt] at f2
      rw[qJ a1] at r1;rw[qJ b1] at s1;obtain⟨t1,rfl⟩:=r1;obtain⟨t2,rfl⟩:=s1;show s_ _ _ (oneLt' true _ _) _ _ _;rw[←keyLt'_oneType];rw[sw] at q';exact kat_lt_int q'
     ·have:(b&&i == 0)=false:=by
       cases b
       ·rfl
       ·simp at z ⊢;exact z
      rw[this];exact kat_one _ _ (lt prog w _ _ q')
theorem at_k(h:IsA X.K H ds zs)(r:Vals zs vs)(hk:k < vs.length):∃x,Is X.K H (ds.getD k .non) x/\RelV x (vs.getD k .none)/\ds.getD k .non∈ds/\zs[k]?=some x:=by
 have l1:=h.length;have l2:=r.length;have jR:k < ds.length:=by omega
 obtain⟨x,e1,e2⟩:=h.get (g_ jR);obtain⟨u,e3,e4⟩:=r.get e1;refine⟨x,?_,?_,?_,e1⟩
 ·rw[h_,g_ jR];exact e2
 ·rw[h_,e3];exact e4
 ·rw[h_,g_ jR];exact NS _
theorem yI(I:Inv X aa U H s)(prog:A_)(w:I_)(P:D->Bool)(T:b_)(hP:∀d,P d=true->∃f r,d=.tup (f::r)/\∀x u,Is X.K H f x->RelV x u->SW (t_ prog w) s.heap (SN u) T):
  ∀(ds:List D) (zs:List V) (vs:List b_),IsA X.K H ds zs->Vals zs vs->ds.all P=true->∃fs,KatTups s.heap vs fs/\fs.length=vs.length/\∀v∈fs,SW (t_ prog w) s.heap (SN v) T
 | [],zs,vs,h,r,_=>by
  have:=h.nil_inv;subst this;cases r;exact⟨[],KatTups.nil,rfl,λv hv=>nomatch hv⟩
 | d::ds,zs,vs,h,r,ok=>by
  obtain⟨x,zr,rfl,h1,h2⟩:=h.cons_inv;rw[Oy,Nx] at ok;cases r with
  | cons r1 r2 =>
   obtain⟨fs,k1,k2,k3⟩:=yI I prog w P T hP ds zr _ h2 r2 ok.2;obtain⟨f,aj,rfl,look⟩:=hP d ok.1;obtain⟨a,ys,rfl,g1,g2⟩:=qL h1;cases r1;obtain⟨ae,q1,q2,_⟩:=I.tuple g1;obtain⟨y,yr,rfl,g3,g4⟩:=g2.cons_inv;cases q1 with
   | cons q3 q4 =>
    obtain⟨o,e1,e2,n,e3⟩:=q2;refine⟨_::fs,KatTups.cons e1 e2 e3 rfl k1,by simp[k2],λv hv=>?_⟩
    rcases D_.mp hv with rfl | hv
    ·exact look y _ g3 q3
    ·exact k3 v hv
def SortOk(ds:List D):Prop:=ds.length < 64/\cmAll ds=true/\depA ds<=50/\(ds.all isInt=true\/ds.all fstI=true\/ds.all fstT=true)
theorem Ck(hu:X.A.units+100 < OC){l:k_}{Q:VK}(I:Inv X aa U H s)(ha:IsA X.K H ds zs)(rv:Vals zs ae)(ok:SortOk ds)(gm:∀Q':List b_->c_->Prop,(∀h' tk,(∀b o,s.heap.get? b=some o->h'.get? b=some o)->s.heap.objs.size<=h'.objs.size->Q' ae { s with heap:=h',toks:=tk })->s_ (t_ X.prog X.w) X.A.in1 (S7 (.ref l)) Q' X.xe s)(k:∀l q,Pm ds.length q->permD q ds=sortD ds->H l=none->Q (.ref l) (upd H l (.lst (permV q zs)))):s_ (t_ X.prog X.w) X.A (call (.builtin "sorted") [.ref l]) (EP X aa U Q) X.xe s:=by
 obtain⟨ic,cm,dp,kd⟩:=ok;have l1:=ha.length;have l2:=rv.length;have n1:ae.length=ds.length:=by omega
 have lv:∀i j,i < ae.length->j < ae.length->cmB (ds.getD i .non) (ds.getD j .non)=true:=λi j hi hj=>by
  obtain⟨_,_,_,mi,_⟩:=at_k ha rv hi;obtain⟨_,_,_,mj,_⟩:=at_k ha rv hj;exact q_.mp (q_.mp cm _ mi) _ mj
 have bf:∀q h' tk D c,Pm ae.length q->Up (λi j=>dl (ds.getD i .non) (ds.getD j .non)) q ae.length->(∀b o,s.heap.get? b=some o->h'.get? b=some o)->s.heap.objs.size<=D->h'.get? D=some (PN "list" (byP ae q).toArray c)->EP X aa U Q (.ref D) { s with heap:=h',toks:=tk }:=λq h' tk D c hp up keep above here=>by
  rw[n1] at hp up
  have hv:Vals (permV q zs) (byP ae q):=by
   refine xK (by simp[permV,byP]) λi x u e1 e2=>?_
   obtain⟨j,f1,rfl⟩:=getMap e1;obtain⟨j',f2,rfl⟩:=getMap e2;rw[f1] at f2;cases f2
   have hj:j < ds.length:=by
    have h1:j∈q.toList:=B_ f1;have h2:=(O4.mp hp).mem_iff.mp h1;simpa using h2
   obtain⟨x,_,e4,_,e5⟩:=at_k ha rv (k:=j) (by omega);rw[h_,e5];exact e4
  refine⟨.ref D,_,I.laid (t':=tk) keep above (o:=.lst (permV q zs)) ⟨?_,byP ae q,c,hv,here⟩,rfl,k D q hp (Ep hp up cm) (I.hok.fresh above)⟩;show(permV q zs).length<=C_;rw[permV,u_,NU,hp.size,Of];omega
 have gr:∀(b:Bool) (P:D->Bool),(∀d,P d=true->∃f r,d=.tup (f::r)/\(b=true->isInt f=true))->ds.all P=true->∀h' tk i j C,(∀b o,s.heap.get? b=some o->h'.get? b=some o)->i < ae.length->j < ae.length->C (dl (ds.getD i .non) (ds.getD j .non)) { s with heap:=h',toks:=tk } →
   s_ (t_ X.prog X.w) X.A.in1.in1 (keyLt' (tuples' b) (ae.getD i b_.none) (ae.getD j b_.none)) C (λ_ _=>False) { s with heap:=h',toks:=tk }:=λb P hP all h' tk i j C keep hi hj hc=>by
  have I':Inv X aa U H { s with heap:=h',toks:=tk }:=I.kept (t':=tk) keep;obtain⟨x,a1,a2,a3,_⟩:=at_k ha rv hi;obtain⟨y,b1,b2,b3,_⟩:=at_k ha rv hj;have cc:=lv i j hi hj;have dq:=se a3;obtain⟨f1,r1,e1,g1⟩:=hP _ (q_.mp all _ a3);obtain⟨f2,r2,e2,g2⟩:=hP _ (q_.mp all _ b3);rw[e1] at a1 cc hc dq;rw[e2] at b1 cc hc;obtain⟨pa,xs,rfl,x1,x2⟩:=qL a1;obtain⟨pb,ys,rfl,y1,y2⟩:=qL b1;generalize ae.getD i b_.none=ui at a2;generalize ae.getD j b_.none=uj at b2;cases a2;cases b2;obtain⟨us,q1,q2,_⟩:=I'.tuple x1;obtain⟨vs,q3,q4,_⟩:=I'.tuple y1;obtain⟨oa,m1,m2,na,m3⟩:=q2;obtain⟨ob,m4,m5,nb,m6⟩:=q4;rw[uo] at hc;rw[cmB] at cc;rw[dep] at dq;refine kat_lt m1 m3 m4 m6 (AF I' (n:=50) (by show X.A.units+1+1+50 < OC;omega) _ _ xs ys _ _ 0 x2 y2 q1 q3 (by omega) cc ?_ (λzb _ d e rr qg z1 z2=>?_) hc)
  ·have:=x2.length;have:=y2.length;have:=q1.length;have:=q3.length;simp only[n_]
   congr 1
   apply propext
   constructor<;>intro _<;>omega
  ·cases z1;cases z2;exact⟨g1 zb,g2 zb⟩
 rcases kd with kd | kd | kd
 ·-- bJ numbers
  have jS:∀k,k < ae.length->∃i t,ae.getD k b_.none=.int i t/\ds.getD k .non=.int i:=λk hk=>by
   obtain⟨x,a1,a2,a3,_⟩:=at_k ha rv hk;have:=q_.mp kd _ a3;cases e:ds.getD k .non<;>rw[e] at this a1<;>simp[isInt] at this
   rw[qJ a1] at a2;obtain⟨t,a2⟩:=a2;exact⟨_,t,a2,rfl⟩
  refine yf (κ:=oneType') (lt:=λi j=>dl (ds.getD i .non) (ds.getD j .non)) (by omega) (yn ds) gm (λh' tk Q' keep two q=>?_) (λh' tk i j C keep hi hj hc=>?_) bf
  ·refine kas_kind (T:=.type "int") two (λv hv=>?_) (by decide) (by decide) q;obtain⟨k,hk,rfl⟩:=Pw hv;obtain⟨i,t,e,_⟩:=jS k hk;rw[h_,g_ hk] at e
   change ae[k]=_ at e
   rw[e];exact SW.now
  ·obtain⟨a,t1,e1,f1⟩:=jS i hi;obtain⟨b,t2,e2,f2⟩:=jS j hj;rw[f1,f2,sw] at hc;rw[e1,e2];exact kat_lt_int hc
 ·-- tuples that begin with a bJ number
  refine yf (κ:=tuples' true) (lt:=λi j=>dl (ds.getD i .non) (ds.getD j .non)) (by omega) (yn ds) gm (λh' tk Q' keep two q=>?_) (λh' tk i j C keep hi hj hc=>gr true fstI (λd hd=>?_) kd h' tk i j C keep hi hj hc) bf
  ·have I':Inv X aa U H { s with heap:=h',toks:=tk }:=I.kept (t':=tk) keep
   obtain⟨fs,k1,k2,k3⟩:=yI I' X.prog X.w fstI (.type "int") (λd hd=>by
    unfold fstI at hd;split at hd
    ·refine⟨_,_,rfl,λx u hx hr=>?_⟩;rw[qJ hx] at hr;obtain⟨t,rfl⟩:=hr;exact SW.now
    ·cases hd) ds zs ae ha rv kd
   exact kat_kind k1 (by omega) k3 (by decide) q
  ·unfold fstI at hd;split at hd
   ·exact⟨_,_,rfl,λ_=>rfl⟩
   ·cases hd
 ·-- tuples that begin with a tuple
  refine yf (κ:=tuples' false) (lt:=λi j=>dl (ds.getD i .non) (ds.getD j .non)) (by omega) (yn ds) gm (λh' tk Q' keep two q=>?_) (λh' tk i j C keep hi hj hc=>gr false fstT (λd hd=>?_) kd h' tk i j C keep hi hj hc) bf
  ·have I':Inv X aa U H { s with heap:=h',toks:=tk }:=I.kept (t':=tk) keep
   obtain⟨fs,k1,k2,k3⟩:=yI I' X.prog X.w fstT (.type "tuple") (λd hd=>by
    unfold fstT at hd;split at hd
    ·refine⟨_,_,rfl,λx u hx hr=>?_⟩;obtain⟨a,ys,rfl,g1,g2⟩:=qL hx;cases hr;obtain⟨bx,q1,q2,_⟩:=I'.tuple g1;obtain⟨o,e1,e2,n,e3⟩:=q2;have look:SW (t_ X.prog X.w) h' (SN (.ref a)) o.cls:=(SW.ld e1).andThen .now;rw[e2] at look;exact look
    ·cases hd) ds zs ae ha rv kd
   exact kat_kind k1 (by omega) k3 (by decide) q
  ·unfold fstT at hd;split at hd
   ·exact⟨_,_,rfl,λh=>by cases h⟩
   ·cases hd
theorem G0(hu:X.A.units+100 < OC):CallR X (.builtin "sorted") (λxs H Q=>∃(p:k_) (zs:List V) (ds:List D),xs=[.ref p]/\SqL X.K H p zs/\IsA X.K H ds zs/\SortOk ds/\∀l q,Pm ds.length q->permD q ds=sortD ds->H l=none->Q (.ref l) (upd H l (.lst (permV q zs)))):=by
 intro aa s U H xs us Q I r h;obtain⟨p,zs,ds,rfl,hq,ha,ok,k⟩:=h;obtain⟨u,rfl,ru⟩:=vals1 r;cases ru;obtain⟨ae,rv,t,hz⟩:=I.list hq;have l1:=ha.length;have l2:=rv.length;have line:64<=C_:=by rw[Of];decide
 refine Ck hu I ha rv ok (λQ' q=>collect_list t.isList (q _ s.toks (λb o x=>?_) ?_) (by have:=ok.1;omega)) k
 ·exact(Nv _ _ (NH (NB (E_ x)))).trans (f_ _ x)
 ·rw[J_.size_update,size_push'];exact SB _
end
section
variable{B:BB}{kr:Nat}
noncomputable def sortF(ds:List D):Option (List D):=match ds with
 | [.lst xs]=>if xs.length < 64/\cmAll xs=true/\depA xs<=50/\(xs.all isInt=true\/xs.all fstI=true\/xs.all fstT=true) then some (sortD xs) else none
 | _=>none
theorem IsA.perm{K:PySem.W.Frag}{q:Array Nat}(h:IsA K I ds zs)(hp:Pm ds.length q):IsA K I (permD q ds) (permV q zs):=by
 have low:∀j∈q.toList,j < ds.length:=λj hj=>by
  have:=(O4.mp hp).mem_iff.mp hj;simpa using this
 unfold permD permV;clear hp;generalize q.toList=js at low
 induction js with
 | nil=>exact IsA.nil
 | cons j js ih =>
  rw[H_,H_];refine IsA.cons ?_ (ih λi hi=>low i (j_ _ hi));have hj:=low j m_;obtain⟨x,e1,e2⟩:=h.get (g_ hj);rw[h_,h_,e1,g_ hj];exact e2
theorem ue{p:Pos}(hr:Room kr X.A)(hg:Gl X "sorted")(hm:X.mg "sorted"=none)(ha:AD X B [e] t)(he:d_ [e] X.env=(false,Nr e X.env)::d_ [] X.env:=by rfl)(aG:(ND pos (d_ [] X.env)).any (·.1)=false:=by rfl):
  EO X B (.Call (.Name "sorted" p) [e] [] pos) (fn1 sortF t):=EF (G0 (hu100 hr)) (λds d e B G I H U Y xs Q r h k=>by
 unfold sortF at e;split at e
 ·obtain⟨ok,rfl⟩:=rm e;obtain⟨x,rfl,hx⟩:=h.one;obtain⟨q,zs,rfl,h3,h4⟩:=qR hx;refine⟨q,zs,_,rfl,(Same.rdK r.iH h3).sq,h4.mono r.iH,ok,λl q' hp es hl=>?_⟩;refine k.new r hl ?_;rw[←es];exact h4.perm hp
 ·cases e) hg hm boot_sorted ha (by decide) (by decide) he aG
end
end DL
namespace DL
open PySem PySem.SetTable
def Ris(xs:Array Nat):Prop:=∀i j (hi:i < xs.size) (hj:j < xs.size),i < j->xs[i] < xs[j]
theorem xx{xs:Array Nat}(R:Ris xs)(j:Nat):∀(f lo hi:Nat),hi<=xs.size->lo<=hi->hi - lo<=f->(∀i (h:i < xs.size),i < lo->xs[i] < j)->(∀i (h:i < xs.size),hi<=i->j<=xs[i]) →
  (PH.go xs j f lo hi<=xs.size/\(∀i (h:i < xs.size),i < PH.go xs j f lo hi->xs[i] < j)/\∀i (h:i < xs.size),PH.go xs j f lo hi<=i->j<=xs[i])
 | 0,lo,hi,h1,h2,h3,h4,h5=>by
  rw[PH.go];exact⟨by omega,h4,λi h x=>h5 i h (by omega)⟩
 | f+1,lo,hi,h1,h2,h3,h4,h5=>by
  rw[PH.go];split
  ·have hm:(lo+hi) / 2 < xs.size:=by omega
   have e:xs.getD ((lo+hi) / 2) j=xs[(lo+hi) / 2]:=by rw[Tb,dif_pos hm];rfl
   dsimp only;rw[e];split
   ·rename_i lt;refine xx R j f ((lo+hi) / 2+1) hi h1 (by omega) (by omega) (λi h x=>?_) h5;by_cases z:i=(lo+hi) / 2
    ·subst z;exact lt
    ·exact Nat.lt_trans (R i _ h hm (by omega)) lt
   ·rename_i ly;refine xx R j f lo ((lo+hi) / 2) (by omega) (by omega) (by omega) h4 λi h x=>?_
    by_cases z:i=(lo+hi) / 2
    ·subst z;omega
    ·have:=R _ i hm h (by omega);omega
  ·exact⟨by omega,h4,λi h x=>h5 i h (by omega)⟩
theorem ve{xs:Array Nat}(R:Ris xs)(j:Nat):PH xs j<=xs.size/\(∀i (h:i < xs.size),i < PH xs j->xs[i] < j)/\∀i (h:i < xs.size),PH xs j<=i->j<=xs[i]:=
 xx R j xs.size 0 xs.size (v_ _) (NK _) (v_ _) (λi h x=>by omega) λi h x=>by omega
theorem Jh{xs:Array Nat}(R:Ris xs)(h:i < xs.size):PH xs xs[i]=i:=by
 obtain⟨b1,b2,b3⟩:=ve R xs[i]
 rcases PU (PH xs xs[i]) i with l | l | l
 ·have:=b3 (PH xs xs[i]) (by omega) (v_ _);have:=R _ i (by omega) h l;omega
 ·exact l
 ·have:=b2 i h l;omega
section
variable {t:N0}
theorem AR(R:Ris t.place)(h:i < t.place.size):t.slot t.place[i]=.live i:=by
 unfold slot;dsimp only;rw[Jh R h,l_ h];simp
theorem Dr(R:Ris t.place)(hd:t.dummies=#[])(h:j∉t.place):t.slot j=.empty:=by
 unfold slot;dsimp only
 have e:¬(t.place[PH t.place j]? == some j)=true:=by
  intro z;have z:t.place[PH t.place j]?=some j:=by simpa using z
  exact h (PJ z)
 rw[if_neg e];unfold has;rw[hd];simp
noncomputable def hd(m i p:Nat):Probe:=⟨i,OW m i - i,i,p,none⟩
noncomputable def adv(m:Nat)(p:Probe):Probe:=match p with
 | ⟨j,k+1,i,q,d⟩=>⟨j+1,k,i,q,d⟩
 | ⟨_,0,i,q,d⟩=>⟨(S8 m i q).1,OW m (S8 m i q).1 - (S8 m i q).1,(S8 m i q).1,(S8 m i q).2,d⟩
noncomputable def pth(m:Nat)(h:Int):Nat->Probe
 | 0=>hd m (RQ h % (m+1)) (RQ h)
 | k+1=>adv m (pth m h k)
theorem B1(h:Int)(k:Nat):t.advance (pth t.mask h k)=pth t.mask h (k+1):=by
 rw[pth]
 rcases pth t.mask h k with⟨j,more,i,q,d⟩
 cases more<;>rfl
theorem Bv(m:Nat)(h:Int):∀k,(pth m h k).dummy=none
 | 0=>rfl
 | k+1=>by
  have ih:=Bv m h k;rw[pth]
  revert ih
  rcases pth m h k with⟨j,more,i,q,d⟩
  intro ih;cases more<;>exact ih
noncomputable def sl(m:Nat)(h:Int)(k:Nat):Nat:=(pth m h k).j
theorem ye{m:Nat}{h:Int}{c i p:Nat}(e:pth m h c=hd m i p):∀d,d<=OW m i - i->pth m h (c+d)=⟨i+d,OW m i - i - d,i,p,none⟩
 | 0,_=>e
 | d+1,ck=>by
  have ih:=ye e d (by omega);rw[←Nat.add_assoc,pth,ih];obtain⟨k,hk⟩:∃k,OW m i - i - d=k+1:=⟨OW m i - i - d - 1,by omega⟩;rw[hk,show OW m i - i - (d+1)=k by omega];rfl
theorem zV{c p:Nat}(e:pth m h c=hd m i p):pth m h (c+(OW m i - i)+1)=hd m (S8 m i p).1 (S8 m i p).2:=by
 have:=ye e (OW m i - i) (v_ _);rw[pth,this,Nat.sub_self];rfl
theorem Do(m i:Nat):OW m i - i<=9:=by
 unfold OW;split<;>omega
noncomputable def lp(m:Nat):Nat->Nat->Nat->Nat×Nat
 | 0,i,p=>(i,p)
 | n+1,i,p=>lp m n (S8 m i p).1 (S8 m i p).2
theorem CI{m:Nat}{h:Int}:∀(n c i p:Nat),pth m h c=hd m i p->∃c',c<=c'/\c'<=c+10*n/\pth m h c'=hd m (lp m n i p).1 (lp m n i p).2
 | 0,c,i,p,e=>⟨c,v_ _,by omega,e⟩
 | n+1,c,i,p,e=>by
  obtain⟨c',h1,h2,h3⟩:=CI n _ _ _ (zV e);have:=Do m i;exact⟨c',by omega,by omega,h3⟩
theorem Ax(m:Nat):∀(a b i p:Nat),lp m (a+b) i p=lp m b (lp m a i p).1 (lp m a i p).2
 | 0,b,i,p=>by rw[SV];rfl
 | a+1,b,i,p=>by rw[Nat.succ_add,lp,Ax m a b];rfl
theorem zF(m:Nat):∀(n i p:Nat),(lp m n i p).2=p / 32 ^ n
 | 0,i,p=>by simp[lp]
 | n+1,i,p=>by
  rw[lp,zF m n];show(p / 32) / 32 ^ n=_;rw[Nat.div_div_eq_div_mul,Nat.pow_succ,Nat.mul_comm]
theorem AJ{m:Nat}:∀(n i p:Nat),i < m+1->(lp m n i p).1 < m+1
 | 0,i,p,h=>h
 | n+1,i,p,h=>by
  rw[lp];exact AJ n _ _ (S9 _ (SX _))
theorem EI(h:Int):RQ h < 2 ^ 64:=by
 unfold RQ;have h1:=Px h (b:=2 ^ 64) (by decide);have h2:=QF h (b:=2 ^ 64) (by decide);omega
def Round(m:Nat):Prop:=∀i,i < m+1->∀j,j < m+1->∃n,n < m+1/\(lp m n i 0).1=j
theorem round7:Round 7:=by
 have:∀i,i < 8->∀j,j < 8->∃n,n < 8/\(lp 7 n i 0).1=j:=by decide +kernel
 exact this
theorem round31:Round 31:=by
 have:∀i,i < 32->∀j,j < 32->∃n,n < 32/\(lp 31 n i 0).1=j:=by decide +kernel
 exact this
theorem A7(R:Round m)(h:Int)(hj:j < m+1):∃n,n < m+14/\(lp m n (RQ h % (m+1)) (RQ h)).1=j:=by
 have p0:(lp m 13 (RQ h % (m+1)) (RQ h)).2=0:=by
  rw[zF];refine Nat.div_eq_of_lt (G_ (EI h) ?_);decide
 have l0:=AJ (m:=m) 13 (RQ h % (m+1)) (RQ h) (S9 _ (SX _));obtain⟨n,h1,h2⟩:=R _ l0 j hj;refine⟨13+n,by omega,?_⟩;rw[Ax,p0];exact h2
theorem JZ(R:Round m)(h:Int)(hj:j < m+1):∃k,k < 10*(m+14)/\sl m h k=j:=by
 obtain⟨n,h1,h2⟩:=A7 R h hj;obtain⟨c,h3,h4,h5⟩:=CI (m:=m) (h:=h) n 0 _ _ rfl;refine⟨c,by omega,?_⟩;unfold sl;rw[h5];exact h2
end
noncomputable def hA(es:Array (Int×b_))(i:Nat):Int:=(es[i]?.map (·.1)).getD 0
theorem zK(h:i < es.size):hA es i=es[i].1:=by
 unfold hA;rw[l_ h];rfl
structure TabOk(t:N0)(es:Array (Int×b_)):Prop where
 nd:t.dummies=#[]
 ris:Ris t.place
 sz:t.place.size=es.size
 low:∀i (h:i < t.place.size),t.place[i]<=t.mask
 few:t.place.size<=18/\(t.mask=31\/(t.mask=7/\t.place.size<=4))
 pl:t.plain=true
 reach:∀i (h:i < es.size) (h':i < t.place.size),∃k,sl t.mask es[i].1 k=t.place[i]/\∀k',k' < k->sl t.mask es[i].1 k'∈t.place
theorem xJ:∀(n:Nat) (l:List Nat),(∀j,j < n->j∈l)->n<=l.length
 | 0,_,_=>NK _
 | n+1,l,h=>by
  have:=xJ n (l.erase n) λj hj=>(List.mem_erase_of_ne (by omega)).mpr (h j (by omega))
  rw[QV (h n (by omega))] at this;have:0 < l.length:=List.length_pos_of_mem (h n (by omega));omega
section
variable{t:N0}
theorem TabOk.round(T:TabOk t es):Round t.mask:=by
 rcases T.few.2 with h | h
 ·rw[h];exact round31
 ·rw[h.1];exact round7
theorem TabOk.free(T:TabOk t es)(h:Int):∃K,K < 10*(t.mask+14)/\sl t.mask h K∉t.place/\∀k,k < K->sl t.mask h k∈t.place:=by
 have ex:∃k,k < 10*(t.mask+14)/\sl t.mask h k∉t.place:=by
  apply Qa
  intro no
  have:t.mask+1<=t.place.toList.length:=xJ (t.mask+1) _ λj hj=>by
   obtain⟨k,k1,k2⟩:=JZ T.round h hj
   apply Qa
   intro nj;exact no ⟨k,k1,by rw[k2];simpa using nj⟩
  rw[NU] at this;have:=T.few;omega
 obtain⟨k,k1,k2⟩:=ex
 induction k using Nat.strongRecOn with
 | ind k ih =>
  by_cases z:∃k',k' < k/\sl t.mask h k'∉t.place
  ·obtain⟨k',a,b⟩:=z;exact ih k' a (by omega) b
  ·refine⟨k,k1,k2,λk' bF=>?_⟩
   apply Qa
   intro nj;exact z ⟨k',bF,nj⟩
theorem CM(h:i<=m):i+(OW m i - i)<=m:=by
 unfold OW;split<;>omega
theorem vR(m:Nat)(h:Int):∀k,(pth m h k).j+(pth m h k).more<=m/\(pth m h k).i<=m
 | 0=>by
  have:RQ h % (m+1)<=m:=Si (S9 _ (SX _));exact⟨CM this,this⟩
 | k+1=>by
  have ih:=vR m h k;rw[pth]
  revert ih
  rcases pth m h k with⟨j,more,i,q,d⟩
  intro ih;cases more with
  | zero =>
   have:(S8 m i q).1<=m:=Si (S9 _ (SX _));exact⟨CM this,this⟩
  | succ more =>
   dsimp only at ih;exact⟨by show j+1+more<=m;omega,ih.2⟩
theorem G7{xs:Array Nat}(h:j∈xs):∃i,∃h:i < xs.size,xs[i]=j:=by
 obtain⟨i,hi,e⟩:=P4 h;exact⟨i,hi,e⟩
theorem zB(T:TabOk t es){h:Int}{K:Nat}(hK:sl t.mask h K∉t.place)(hk:∀k,k < K->sl t.mask h k∈t.place):∀(f k:Nat),k<=K->K - k < f →
  (∃k' i,∃hi:i < es.size,∃bj:i < t.place.size,k<=k'/\k' < K/\t.place[i]=sl t.mask h k'/\es[i].1=h/\Qv t (hA es) h f (pth t.mask h k)=some (.candidate (sl t.mask h k') i (pth t.mask h (k'+1))) ∧
   ∀bz,k<=bz->bz < k'->∀j (hj:j < es.size) (bw:j < t.place.size),t.place[j]=sl t.mask h bz->es[j].1≠h) ∨
  (Qv t (hA es) h f (pth t.mask h k)=some (.empty (sl t.mask h K) none)/\∀bz,k<=bz->bz < K->∀j (hj:j < es.size) (bw:j < t.place.size),t.place[j]=sl t.mask h bz->es[j].1≠h)
 | 0,k,h1,h2=>by omega
 | f+1,k,h1,h2=>by
  by_cases z:k=K
  ·subst z;right;refine⟨?_,λbz a b=>by omega⟩;rw[Qv,show(pth t.mask h k).j=sl t.mask h k from rfl,Dr T.ris T.nd hK,Bv]
  ·obtain⟨i,hi,e⟩:=G7 (hk k (by omega));have cg:i < es.size:=by rw[←T.sz];exact hi
   have st:t.slot (pth t.mask h k).j=.live i:=by
    rw[show(pth t.mask h k).j=t.place[i] from e.symm];exact AR T.ris hi
   have only:∀j (bw:j < t.place.size),t.place[j]=sl t.mask h k->j=i:=λj bw ej=>by
    rcases PU j i with l | l | l
    ·have:=T.ris j i bw hi l;omega
    ·exact l
    ·have:=T.ris i j hi bw l;omega
   by_cases same:es[i].1=h
   ·left;refine⟨k,i,cg,hi,v_ _,by omega,e,same,?_,λbz a b=>by omega⟩;rw[Qv,st];dsimp only;rw[zK cg,same,if_pos (by simp),B1];rfl
   ·have go:Qv t (hA es) h (f+1) (pth t.mask h k)=Qv t (hA es) h f (pth t.mask h (k+1)):=by
     rw[Qv,st];dsimp only;rw[zK cg,if_neg (by simpa using same),B1]
    rw[go]
    have here:∀j (hj:j < es.size) (bw:j < t.place.size),t.place[j]=sl t.mask h k->es[j].1≠h:=λj hj bw ej=>by
     have:=only j bw ej;subst this;exact same
    rcases zB T hK hk f (k+1) (by omega) (by omega) with⟨k',i',a1,a2,a3,a4,a5,a6,a7,a8⟩ | ⟨a1,a2⟩
    ·refine .inl ⟨k',i',a1,a2,by omega,a4,a5,a6,a7,λbz b1 b2 j hj bw ej=>?_⟩;by_cases z':bz=k
     ·subst z';exact here j hj bw ej
     ·exact a8 bz (by omega) b2 j hj bw ej
    ·refine .inr ⟨a1,λbz b1 b2 j hj bw ej=>?_⟩;by_cases z':bz=k
     ·subst z';exact here j hj bw ej
     ·exact a2 bz (by omega) b2 j hj bw ej
theorem ud{α:Type}{xs:Array α}{p:Nat}(hp:p<=xs.size)(x:α)(i:Nat):(N1 xs p x)[i]?=if i < p then xs[i]? else if i=p then some x else xs[i - 1]?:=by
 unfold N1;rw[Array.getElem?_append,Array.size_push,Qh];have e:min p xs.size - 0=p:=by omega
 rw[e];by_cases h1:i < p
 ·rw[if_pos (by omega),if_pos h1,RR,Qh,e,if_neg (by omega),Rk,if_pos (by omega),SV]
 ·rw[if_neg h1];by_cases h2:i=p
  ·rw[if_pos (by omega),if_pos h2,RR,Qh,e,if_pos h2]
  ·rw[if_neg (by omega),if_neg h2,Rk];by_cases h3:i - (p+1) < min xs.size xs.size - p
   ·rw[if_pos h3]
    congr 1
    omega
   ·rw[if_neg h3]
    symm
    rw[OP];omega
theorem xt{α:Type}{xs:Array α}{p:Nat}(hp:p<=xs.size)(x:α):(N1 xs p x).size=xs.size+1:=by
 unfold N1;rw[Array.size_append,Array.size_push,Qh,Qh];omega
theorem Aa{α:Type}{xs:Array α}{p:Nat}(hp:p<=xs.size)(x y:α):y∈N1 xs p x↔y=x\/y∈xs:=by
 constructor
 ·intro h;obtain⟨i,e⟩:=O'.mp h;rw[ud hp] at e;split at e
  ·exact .inr (PJ e)
  ·split at e
   ·cases e;exact .inl rfl
   ·exact .inr (PJ e)
 ·rintro(rfl | h)
  ·refine O'.mpr ⟨p,?_⟩;rw[ud hp,if_neg (by omega),if_pos rfl]
  ·obtain⟨i,e⟩:=O'.mp h;by_cases z:i < p
   ·exact O'.mpr ⟨i,by rw[ud hp,if_pos z];exact e⟩
   ·exact O'.mpr ⟨i+1,by rw[ud hp,if_neg (by omega),if_neg (by omega)];exact e⟩
theorem IS(T:TabOk t es){x:b_}{K:Nat}(hK:sl t.mask h K∉t.place)(hk:∀k,k < K->sl t.mask h k∈t.place):
  let q:=t.put (sl t.mask h K)
  q.1.dummies=#[]/\Ris q.1.place/\q.1.place.size=(N1 es q.2 (h,x)).size/\(∀i (h:i < q.1.place.size),q.1.place[i]<=q.1.mask)/\q.1.mask=t.mask/\q.1.plain=t.plain/\q.1.led=t.led/\q.1.moves=t.moves/\q.1.place.size=t.place.size+1/\q.2<=es.size ∧
   (∀i (h1:i < (N1 es q.2 (h,x)).size) (h2:i < q.1.place.size),∃k,sl q.1.mask (N1 es q.2 (h,x))[i].1 k=q.1.place[i]/\∀k',k' < k->sl q.1.mask (N1 es q.2 (h,x))[i].1 k'∈q.1.place):=by
 intro q;obtain⟨b1,b2,b3⟩:=ve T.ris (sl t.mask h K);have q2:q.2=PH t.place (sl t.mask h K):=rfl;have q1:q.1.place=N1 t.place (PH t.place (sl t.mask h K)) (sl t.mask h K):=rfl;have hp:q.2<=es.size:=by rw[q2,←T.sz];exact b1
 have nh:has t.dummies (sl t.mask h K)=false:=by rw[T.nd];rfl
 have qd:q.1.dummies=#[]:=by
  show(if has t.dummies (sl t.mask h K)=true then _ else t.dummies)=_;rw[nh,if_neg i_];exact T.nd
 have get:∀i (h2:i < q.1.place.size),(i < q.2/\∃hi:i < t.place.size,q.1.place[i]=t.place[i])\/(i=q.2/\q.1.place[i]=sl t.mask h K)\/(q.2 < i/\∃hi:i - 1 < t.place.size,q.1.place[i]=t.place[i - 1]):=λi h2=>by
  have e:=ud (x:=sl t.mask h K) b1 i;rw[←q1,←q2,l_ h2] at e;by_cases z1:i < q.2
  ·rw[if_pos z1] at e;obtain⟨hi,e⟩:=Nw.mp e.symm;exact .inl ⟨z1,hi,e.symm⟩
  ·rw[if_neg z1] at e;by_cases z2:i=q.2
   ·rw[if_pos z2] at e;exact .inr (.inl ⟨z2,Nz e⟩)
   ·rw[if_neg z2] at e;obtain⟨hi,e⟩:=Nw.mp e.symm;exact .inr (.inr ⟨by omega,hi,e.symm⟩)
 have sz:q.1.place.size=t.place.size+1:=by rw[q1];exact xt b1 _
 have ne:∀i (hi:i < t.place.size),t.place[i]≠sl t.mask h K:=λi hi z=>hK (by rw[←z];exact O0 hi)
 refine⟨qd,?_,by rw[sz,xt hp,T.sz],?_,rfl,rfl,rfl,rfl,sz,hp,?_⟩
 ·intro i j hi hj lt
  rcases get i hi with⟨a1,a2,a3⟩ | ⟨a1,a3⟩ | ⟨a1,a2,a3⟩<;>rcases get j hj with⟨c1,c2,c3⟩ | ⟨c1,c3⟩ | ⟨c1,c2,c3⟩
  ·rw[a3,c3];exact T.ris i j a2 c2 lt
  ·rw[a3,c3];exact b2 i a2 (by omega)
  ·rw[a3,c3];have:=b2 i a2 (by omega);have:=b3 (j - 1) c2 (by omega);omega
  ·omega
  ·omega
  ·rw[a3,c3];have:=b3 (j - 1) c2 (by omega);have:=ne (j - 1) c2;omega
  ·omega
  ·omega
  ·rw[a3,c3];exact T.ris (i - 1) (j - 1) a2 c2 (by omega)
 ·intro i hi;show _<=t.mask
  rcases get i hi with⟨a1,a2,a3⟩ | ⟨a1,a3⟩ | ⟨a1,a2,a3⟩
  ·rw[a3];exact T.low _ _
  ·rw[a3];have:=(vR t.mask h K).1;unfold sl;omega
  ·rw[a3];exact T.low _ _
 ·intro i h1 h2;have da:∀y,y∈t.place->y∈q.1.place:=λy hy=>by rw[q1];exact(Aa b1 _ _).mpr (.inr hy)
  have e:=ud (x:=(h,x)) hp i;rw[l_ h1] at e;show ∃k,sl t.mask _ k=_/\∀k',k' < k->sl t.mask _ k'∈_
  rcases get i h2 with⟨a1,a2,a3⟩ | ⟨a1,a3⟩ | ⟨a1,a2,a3⟩
  ·rw[if_pos a1] at e;obtain⟨hi,e⟩:=Nw.mp e.symm;obtain⟨k,k1,k2⟩:=T.reach i hi a2;rw[←e,a3];exact⟨k,k1,λk' bF=>da _ (k2 k' bF)⟩
  ·rw[if_neg (by omega),if_pos a1] at e;rw[Nz e,a3];exact⟨K,rfl,λk' bF=>da _ (hk k' bF)⟩
  ·rw[if_neg (by omega),if_neg (by omega)] at e;obtain⟨hi,e⟩:=Nw.mp e.symm;obtain⟨k,k1,k2⟩:=T.reach (i - 1) hi a2;rw[←e,a3];exact⟨k,k1,λk' bF=>da _ (k2 k' bF)⟩
end
noncomputable def tak(o:Array (Option Nat))(j:Nat):Bool:=(o.getD j (some 0)).isSome
theorem Cy{m:Nat}{o:Array (Option Nat)}{h:Int}:∀(f c i p:Nat),pth m h c=hd m i p →
  (∃k,c<=k/\PV m o f i p=some (sl m h k)/\tak o (sl m h k)=false/\∀k',c<=k'->k' < k->tak o (sl m h k')=true)\/(∀n,n < f->tak o (lp m n i p).1=true)
 | 0,c,i,p,e=>.inr λn h=>by omega
 | f+1,c,i,p,e=>by
  have run:=λd ck=>ye e d ck
  have aT:∀d,d<=OW m i - i->sl m h (c+d)=i+d:=λd ck=>by unfold sl;rw[run d ck]
  have up:i<=OW m i:=by unfold OW;split<;>omega
  rw[PV];cases hf:(NY (OW m i+1 - i)).find? λk=>(o.getD (i+k) (some 0)).isNone with
  | some d =>
   obtain⟨d1,d2,d3⟩:=List.find?_range_eq_some.mp hf;rw[OE] at d2;left;refine⟨c+d,by omega,?_,?_,λk' a b=>?_⟩
   ·dsimp only;rw[aT d (by omega)]
   ·rw[aT d (by omega)];unfold tak;cases x:o.getD (i+d) (some 0) with
    | none=>rfl
    | some v=>rw[x] at d1;cases d1
   ·obtain⟨d',rfl⟩:∃d',k'=c+d':=⟨k' - c,by omega⟩;rw[aT d' (by omega)];have:=d3 d' (by omega);unfold tak;cases x:o.getD (i+d') (some 0) with
    | none=>rw[x] at this;cases this
    | some v=>rfl
  | none =>
   have no:=List.find?_range_eq_none.mp hf
   have all:∀k',c<=k'->k' < c+(OW m i - i)+1->tak o (sl m h k')=true:=λk' a b=>by
    obtain⟨d',rfl⟩:∃d',k'=c+d':=⟨k' - c,by omega⟩;rw[aT d' (by omega)];have:=no d' (by omega);unfold tak;cases x:o.getD (i+d') (some 0) with
    | none=>rw[x] at this;cases this
    | some v=>rfl
   dsimp only
   rcases Cy (o:=o) f _ _ _ (zV e) with⟨k,k1,k2,k3,k4⟩ | aj
   ·left;refine⟨k,by omega,k2,k3,λk' a b=>?_⟩;by_cases z:k' < c+(OW m i - i)+1
    ·exact all k' a z
    ·exact k4 k' (by omega) b
   ·right;intro n hn;cases n with
    | zero =>
     have:=all c (v_ _) (by omega);rw[←Nat.add_zero c,aT 0 (by omega)] at this;exact this
    | succ n =>
     rw[lp];exact aj n (by omega)
theorem vZ:∀(k:Nat) (l:List Nat),l.Nodup->(∀x∈l,x < k)->l.length<=k
 | 0,l,_,h=>by
  cases l with
  | nil=>exact v_ _
  | cons x l=>exact absurd (h x m_) (RF _)
 | k+1,l,nd,h=>by
  by_cases z:k∈l
  ·have:=vZ k (l.erase k) (nd.erase k) λx hx=>by
    have h1:=h x (List.mem_of_mem_erase hx)
    have h2:x≠k:=λe=>by
     subst e;exact(SY.not_mem_erase nd) hx
    omega
   rw[QV z] at this;omega
  ·have:=vZ k l nd λx hx=>by
    have h1:=h x hx;have h2:x≠k:=λe=>z (e▸hx)
    omega
   omega
structure Laid(m:Nat)(hs:List Int)(o:Array (Option Nat))(k:Nat):Prop where
 sz:o.size=m+1
 old:∀(j v:Nat),o[j]?=some (some v)->v < k
 one:∀(j j' v:Nat),o[j]?=some (some v)->o[j']?=some (some v)->j=j'
 way:∀(v:Nat),v < k->∃(j c:Nat),o[j]?=some (some v)/\sl m (hs.getD v 0) c=j/\∀c',c' < c->tak o (sl m (hs.getD v 0) c')=true
theorem Laid.room{hs:List Int}{o:Array (Option Nat)}(L:Laid m hs o k)(hk:k<=m):∃j,j < m+1/\tak o j=false:=by
 apply Qa
 intro no
 have all:∀j,j < m+1->∃v,o[j]?=some (some v):=λj hj=>by
  have t:tak o j=true:=by
   cases x:tak o j with
   | true=>rfl
   | false=>exact absurd ⟨j,hj,x⟩ no
  unfold tak at t;rw[Tb,dif_pos (by rw[L.sz];exact hj)] at t;rw[l_ (by rw[L.sz];exact hj)];cases x:o[j]'(by rw[L.sz];exact hj) with
  | none=>simp[x] at t
  | some v=>exact⟨v,rfl⟩
 have nd:((NY (m+1)).map λj=>((o[j]?).bind id).getD 0).Nodup:=by
  unfold SY;rw[QG];refine imp_of_mem ?_ List.nodup_range;intro a b ha hb ne e;obtain⟨v,hv⟩:=all a (OE.mp ha);obtain⟨v',cj⟩:=all b (OE.mp hb);rw[hv,cj] at e;have e:v=v':=e;subst e;exact ne (L.one a b v hv cj)
 have:=vZ k _ nd λx hx=>by
  obtain⟨j,hj,rfl⟩:=w_.mp hx;obtain⟨v,hv⟩:=all j (OE.mp hj);rw[hv];exact L.old j v hv
 rw[u_,Qf] at this;omega
theorem Laid.step(R:Round m){hs:List Int}{o:Array (Option Nat)}(L:Laid m hs o k)(hk:k<=m):∃j,PV m o (SZ m) (RQ (hs.getD k 0) % (m+1)) (RQ (hs.getD k 0))=some j/\Laid m hs (o.setIfInBounds j (some k)) (k+1):=by
 rcases Cy (m:=m) (o:=o) (h:=hs.getD k 0) (SZ m) 0 _ _ rfl with⟨K,_,k2,k3,k4⟩ | full
 ·refine⟨_,k2,?_⟩
  have hj:sl m (hs.getD k 0) K < o.size:=by
   rw[L.sz];have:=(vR m (hs.getD k 0) K).1;unfold sl;omega
  have free:o[sl m (hs.getD k 0) K]?=some none:=by
   unfold tak at k3;rw[Op,l_ hj] at k3;rw[l_ hj];cases x:o[sl m (hs.getD k 0) K] with
   | none=>rfl
   | some v=>rw[x] at k3;cases k3
  have get:∀i,(o.setIfInBounds (sl m (hs.getD k 0) K) (some k))[i]?=if sl m (hs.getD k 0) K=i then some (some k) else o[i]?:=λi=>by
   rw[Array.getElem?_setIfInBounds];split
   ·rename_i e;subst e;simp[hj]
   ·rfl
  have more:∀i,tak o i=true->tak (o.setIfInBounds (sl m (hs.getD k 0) K) (some k)) i=true:=λi hi=>by
   unfold tak at hi ⊢;rw[Op] at hi ⊢;rw[get];split
   ·rfl
   ·exact hi
  refine⟨by rw[Array.size_setIfInBounds];exact L.sz,λj v e=>?_,λj j' v e e'=>?_,λv hv=>?_⟩
  ·rw[get] at e;split at e
   ·cases e;omega
   ·have:=L.old j v e;omega
  ·rw[get] at e e';split at e
   ·cases e;split at e'
    ·omega
    ·have:=L.old j' k e';omega
   ·split at e'
    ·cases e';have:=L.old j k e;omega
    ·exact L.one j j' v e e'
  ·by_cases z:v=k
   ·subst z;exact⟨_,K,by rw[get,if_pos rfl],rfl,λc' aN=>more _ (k4 c' (NK _) aN)⟩
   ·obtain⟨j,c,e1,e2,e3⟩:=L.way v (by omega);refine⟨j,c,?_,e2,λc' aN=>more _ (e3 c' aN)⟩;rw[get,if_neg ?_]
    ·exact e1
    ·intro e;subst e;rw[free] at e1;cases e1
 ·obtain⟨j,hj,tj⟩:=L.room hk;obtain⟨n,n1,n2⟩:=A7 R (hs.getD k 0) hj;have:=full n (by unfold SZ;omega);rw[n2,tj] at this;cases this
theorem Eu(R:Round m)(hs:List Int)(hm:hs.length<=m):∃o,layClean m hs.toArray=some o/\Laid m hs o hs.length:=by
 unfold layClean;rw[←Array.foldl_toList]
 have aU:∀(l pre:List Int) (o:Array (Option Nat)),hs=pre++l->Laid m hs o pre.length->∃o',List.foldl (λah h=>do
   let (owner,k) ←ah
   let j ←PV m owner (SZ m) (RQ h % (m+1)) (RQ h)
   pure (owner.setIfInBounds j (some k),k+1)) (some (o,pre.length)) l=some (o',hs.length)/\Laid m hs o' hs.length:=by
  intro l
  induction l with
  | nil =>
   intro pre o e L;rw[N3] at e;subst e;exact⟨o,rfl,L⟩
  | cons h l ih =>
   intro pre o e L;have gk:hs.getD pre.length 0=h:=by rw[e,h_];simp
   have lk:pre.length<=m:=by
    have:=congrArg length e;simp at this;omega
   obtain⟨j,j1,j2⟩:=L.step R lk;rw[gk] at j1;obtain⟨o',h1,h2⟩:=ih (pre++[h]) (o.setIfInBounds j (some pre.length)) (by rw[e];simp) (by simpa using j2);refine⟨o',?_,h2⟩;rw[S0,←h1]
   congr 1
   show(PV m o (SZ m) (RQ h % (m+1)) (RQ h)).bind _=_;rw[j1];simp
 have aX:∀(j v:Nat),(Array.replicate (m+1) (none:Option Nat))[j]?=some (some v)->False:=λj v e=>by
  rw[Array.getElem?_replicate] at e;split at e
  ·cases e
  ·cases e
 obtain⟨o',h1,h2⟩:=aU hs [] (Array.replicate (m+1) none) rfl ⟨by simp,λj v e=>(aX j v e).elim,λj j' v e=>(aX j v e).elim,λv hv=>absurd hv (RF _)⟩
 exact⟨o',by
  have:=congrArg (Option.map (·.1)) h1
  exact this,h2⟩
theorem KN(few:es.size<=18)(finger moves:Nat)(led:Bool):∃t bO,laid 31 finger moves led true (es.map (·.1))=some (t,bO)/\(bO.filterMap (es[·]?)).size=es.size/\TabOk t (bO.filterMap (es[·]?))/\t.mask=31/\t.led=led ∧
  (∀x,x∈bO.filterMap (es[·]?)↔x∈es):=by
 obtain⟨o,h1,L⟩:=Eu round31 (es.map (·.1)).toList (by simp;omega);rw[Array.toArray_toList] at h1;have nl:(es.map (·.1)).toList.length=es.size:=by simp
 rw[nl] at L;obtain⟨live,dB⟩:∃live:List (Nat×Nat),live=(NY 32).filterMap λj=>(o.getD j none).map (j,·):=⟨_,rfl⟩
 have mem:∀j v,(j,v)∈live↔o[j]?=some (some v):=λj v=>by
  rw[dB,Qp];constructor
  ·rintro⟨a,ha,e⟩;rw[Op] at e;cases x:o[a]? with
   | none=>rw[x] at e;cases e
   | some w =>
    rw[x] at e;cases w with
    | none=>cases e
    | some w=>cases e;exact x
  ·intro e;have:=(Nw.mp e).1;refine⟨j,OE.mpr (by rw[L.sz] at this;exact this),?_⟩;rw[Op,e];rfl
 have ris:live.Pairwise λa b=>a.1 < b.1:=by
  rw[dB,List.pairwise_filterMap];refine QN.imp ?_ List.pairwise_lt_range;intro a b lt x hx y hy;cases e:o.getD a none with
  | none=>rw[e] at hx;cases hx
  | some v =>
   rw[e] at hx;cases hx;cases e':o.getD b none with
   | none=>rw[e'] at hy;cases hy
   | some v'=>rw[e'] at hy;cases hy;exact lt
 have lB:(live.map (·.2)).Nodup:=by
  unfold SY;rw[QG];refine imp_of_mem ?_ ris;intro a b ha hb lt e;have h1:=(mem a.1 a.2).mp ha;have h2:=(mem b.1 b.2).mp hb;rw[e] at h1;have:=L.one _ _ _ h1 h2;omega
 have lo:live.length=es.size:=by
  refine Nat.le_antisymm ?_ ?_
  ·have:=vZ es.size (live.map (·.2)) lB λx hx=>by
    obtain⟨q,hq,rfl⟩:=w_.mp hx;exact L.old q.1 q.2 ((mem _ _).mp hq)
   simpa using this
  ·have:=xJ es.size (live.map (·.2)) λv hv=>by
    obtain⟨j,c,e,_⟩:=L.way v hv;exact w_.mpr ⟨(j,v),(mem j v).mpr e,rfl⟩
   simpa using this
 have low:∀q∈live,q.2 < es.size:=λq hq=>L.old q.1 q.2 ((mem _ _).mp hq)
 have bf:((live.map (·.2)).toArray.filterMap (es[·]?)).toList=live.map λq=>es[q.2]?.getD (0,b_.none):=by
  rw[Array.toList_filterMap];show(live.map (·.2)).filterMap (es[·]?)=_;clear lo lB ris mem dB
  induction live with
  | nil=>rfl
  | cons q live ih =>
   have hq:=low q m_;rw[H_,Qm,l_ hq,H_,l_ hq];rw[ih λq hq=>low q (j_ _ hq)];rfl
 refine⟨{ mask:=31,place:=(live.map (·.1)).toArray,dummies:=#[],finger,led,moves,plain:=true },(live.map (·.2)).toArray,?_,?_,?_,rfl,rfl,λx=>?_⟩
 ·unfold laid;rw[h1];show some _=some _;rw[dB]
 ·rw[←NU,bf,u_,lo]
 ·have n5:((live.map (·.2)).toArray.filterMap (es[·]?)).size=live.length:=by rw[←NU,bf,u_]
  have n6:∀i (h1:i < ((live.map (·.2)).toArray.filterMap (es[·]?)).size) (h2:i < live.length),((live.map (·.2)).toArray.filterMap (es[·]?))[i]=es[live[i].2]?.getD (0,b_.none):=λi h1 h2=>by
   rw[←RE]
   have:((live.map (·.2)).toArray.filterMap (es[·]?)).toList[i]'(by rw[NU];exact h1)=(live.map λq=>es[q.2]?.getD (0,b_.none))[i]'(by simpa using h2):=by
    congr 1
   rw[this,QE]
  refine⟨rfl,λi j hi hj lt=>?_,?_,λi hi=>?_,⟨?_,.inl rfl⟩,rfl,λi h1 h2=>?_⟩
  ·simp at hi hj;simp only[P5,QE];exact(Qx.mp ris) i j hi hj lt
  ·rw[n5];simp
  ·simp at hi;simp only[P5,QE];have:=(mem live[i].1 live[i].2).mp (NS hi);have:=(Nw.mp this).1;rw[L.sz] at this;show _<=31;omega
  ·simp;omega
  ·have jT:i < live.length:=by simpa using h2
   rw[n6 i h1 jT];simp only[P5,QE];have m1:=(mem live[i].1 live[i].2).mp (NS jT);have v1:=low live[i] (NS jT);obtain⟨j,c,e1,e2,e3⟩:=L.way live[i].2 v1;have:j=live[i].1:=L.one _ _ _ e1 m1;subst this
   have hh:(es.map (·.1)).toList.getD live[i].2 0=es[live[i].2].1:=by
    rw[h_];simp[v1]
   rw[hh] at e2 e3;rw[l_ v1];refine⟨c,e2,λc' aN=>?_⟩;have tk:=e3 c' aN;unfold tak at tk;have lt:=(vR 31 es[live[i].2].1 c').1;have lt:sl 31 es[live[i].2].1 c' < o.size:=by rw[L.sz];unfold sl;omega
   rw[Tb,dif_pos lt] at tk;show sl 31 es[live[i].2].1 c'∈_;cases x:o[sl 31 es[live[i].2].1 c'] with
   | none=>simp[x] at tk
   | some v =>
    have:(sl 31 es[live[i].2].1 c',v)∈live:=(mem _ _).mpr (by rw[l_ lt,x]);simp only[List.mem_toArray,w_];exact⟨_,this,rfl⟩
 ·rw[←RG,bf,w_];constructor
  ·rintro⟨q,hq,rfl⟩;rw[l_ (low q hq)];exact O0 _
  ·intro hx;obtain⟨v,hv,rfl⟩:=P4 hx;obtain⟨j,c,e,_⟩:=L.way v hv;refine⟨(j,v),(mem j v).mpr e,?_⟩;dsimp only;rw[l_ hv];rfl
end DL
namespace DL
open PySem PySem.W PySem.Spec PyProof.Rows L2
mutual
def KV(h:J_):D->b_->Prop
 | .int i,u=>∃t,u=.int i t
 | .tup ds,u=>∃a o ae e,u=.ref a/\h.get? a=some o/\o.cls=.type "tuple"/\o.data=.seq (ae:List b_).toArray e/\KVs h ds ae
 | _,_=>False
def KVs(h:J_):List D->List b_->Prop
 | [],[]=>True
 | d::ds,u::us=>KV h d u/\KVs h ds us
 | _,_=>False
end
mutual
noncomputable def kyB:D->Bool
 | .int _=>true
 | .tup ds=>kyA ds
 | _=>false
noncomputable def kyA:List D->Bool
 | []=>true
 | d::ds=>kyB d&&kyA ds
end
section
variable{H:Hp}{s:c_}
mutual
theorem wB(I:Inv X aa U H s):∀(d:D) (x:V) (u:b_),kyB d=true->Is X.K H d x->RelV x u->KV s.heap d u
 | .int i,x,u,_,h,r=>by
  rw[qJ h] at r;obtain⟨t,rfl⟩:=r;rw[KV];exact⟨t,rfl⟩
 | .tup ds,x,u,ky,h,r=>by
  obtain⟨a,xs,rfl,h1,h2⟩:=qL h;cases r;obtain⟨ae,r1,t1,_⟩:=I.tuple h1;obtain⟨o,e1,e2,n,e3⟩:=t1;rw[kyB] at ky;rw[KV];exact⟨a,o,ae,n,rfl,e1,e2,e3,Dd I ds xs ae ky h2 r1⟩
 | .non,_,_,ky,_,_=>by simp[kyB] at ky
 | .bl _,_,_,ky,_,_=>by simp[kyB] at ky
 | .str _,_,_,ky,_,_=>by simp[kyB] at ky
 | .lst _,_,_,ky,_,_=>by simp[kyB] at ky
theorem Dd(I:Inv X aa U H s):∀(ds:List D) (xs:List V) (us:List b_),kyA ds=true->IsA X.K H ds xs->Vals xs us->KVs s.heap ds us
 | [],xs,us,_,h,r=>by
  have:=h.nil_inv;subst this;cases r;rw[KVs];trivial
 | d::ds,xs,us,ky,h,r=>by
  obtain⟨x,xr,rfl,h1,h2⟩:=h.cons_inv;cases r with
  | cons r1 r2 =>
   rw[kyA,Nx] at ky;rw[KVs];exact⟨wB I d x _ ky.1 h1 r1,Dd I ds xr _ ky.2 h2 r2⟩
end
end
section
variable {prog:A_}{w:I_}{E:b_->c_->Prop}
mutual
noncomputable def hD:D->Int
 | .int i=>hashInt i
 | .tup ds=>reduceHash (tupleHashOf (hDs ds))
 | _=>0
noncomputable def hDs:List D->List Int
 | []=>[]
 | d::ds=>hD d::hDs ds
end
mutual
theorem BU:∀(d:D) (u:b_) (A:Oe) (s:c_) (Q:Int->c_->Prop),KV s.heap d u->A.units+dep d < OC->(∀tk,Q (hD d) { s with toks:=tk })->s_ (t_ prog w) A (pyHash u) Q E s
 | .int i,u,A,s,Q,x,hu,q=>by
  rw[KV] at x;obtain⟨t,rfl⟩:=x;exact wpAny_pyHash_int (by have:=q (s.toks+1);rw[hD] at this;exact this)
 | .tup ds,u,A,s,Q,x,hu,q=>by
  rw[KV] at x;obtain⟨a,o,ae,e,rfl,x1,x2,x3,x4⟩:=x;rw[dep] at hu;refine pyHash_slot (T:= "tuple") ⟨o,x1,x2⟩ Sj F.entry_tuple_hash (F.args_tuple_hash_1 _) (beq_builtin_none _) (.inr (by omega)) ?_;refine a_ (m:=tupleItemsOf (.ref a)) (wpAny_tupleItemsOf x1 x3 (a_ ?_));rw[←Rl];refine CS ds ae A.in1 s #[] _ x4 (by show A.units+1+_ < _;omega) λtk b hb=>?_
  refine a_ (m:=mkInt (tupleHashOf b.toList)) (wpAny_mkInt (e_ ⟨_,_,rfl,?_⟩));rw[hb];have:=q (tk+1);rw[hD] at this;exact this
 | .non,_,_,_,_,x,_,_=>by simp[KV] at x
 | .bl _,_,_,_,_,x,_,_=>by simp[KV] at x
 | .str _,_,_,_,_,x,_,_=>by simp[KV] at x
 | .lst _,_,_,_,_,x,_,_=>by simp[KV] at x
theorem CS:∀(ds:List D) (us:List b_) (A:Oe) (s:c_) (b:Array Int) (Q:Array Int->c_->Prop),KVs s.heap ds us->A.units+depA ds < OC->(∀tk b',b'.toList=b.toList++hDs ds->Q b' { s with toks:=tk }) →
  s_ (t_ prog w) A (forIn us b λx r=>do let h ←pyHash x;pure unit;pure (SO (r.push h))) Q E s
 | [],us,A,s,b,Q,x,hu,q=>by
  cases us with
  | cons u us=>simp[KVs] at x
  | nil =>
   rw[Qj];exact e_ (q s.toks b (by simp[hDs]))
 | d::ds,us,A,s,b,Q,x,hu,q=>by
  cases us with
  | nil=>simp[KVs] at x
  | cons u us =>
   rw[KVs] at x;rw[depA] at hu;rw[Ph];refine a_ (a_ (BU d u A s _ x.1 (by omega) λtk=>a_ (e_ (e_ ?_))));exact CS ds us A { s with toks:=tk } _ Q x.2 (by omega) λdY b' hb=>q dY b' (by rw[hb,hDs];simp)
end
mutual
theorem xn:∀(d:D) (u:b_) (n:Nat) (A:Oe) (s:c_) (Q:Bool->c_->Prop),KV s.heap d u->dep d<=n->Q true s->s_ (t_ prog w) A (eqIsQuiet n u) Q E s
 | .int i,u,n,A,s,Q,x,hn,q=>by
  rw[KV] at x;obtain⟨t,rfl⟩:=x;exact OM (eqIsQuiet_byValue n rfl) q
 | .tup ds,u,n,A,s,Q,x,hn,q=>by
  rw[KV] at x;obtain⟨a,o,ae,e,rfl,x1,x2,x3,x4⟩:=x;rw[dep] at hn;obtain⟨n,rfl⟩:∃k,n=k+1:=⟨n - 1,by omega⟩;have hT:s.TypeIs (.ref a) "tuple":=⟨o,x1,x2⟩;unfold eqIsQuiet;refine a_ (Rq hT F.slot_tuple_eq.lookup ?_);refine a_ (m:=isInstance (.ref a) (.type "tuple")) (O8 hT isSubtype_tuple_tuple ?_);simp only[PX,Pd,if_false];refine a_ (N4 x1 x3 (a_ ?_));show s_ _ _ (forIn ae.toArray _ _) _ _ s;rw[←Rl];refine Cz ds ae n A s _ x4 (by omega) ?_;exact e_ q
 | .non,_,_,_,_,_,x,_,_=>by simp[KV] at x
 | .bl _,_,_,_,_,_,x,_,_=>by simp[KV] at x
 | .str _,_,_,_,_,_,x,_,_=>by simp[KV] at x
 | .lst _,_,_,_,_,_,x,_,_=>by simp[KV] at x
theorem Cz:∀(ds:List D) (us:List b_) (n:Nat) (A:Oe) (s:c_) (Q:Option Bool×PUnit->c_->Prop),KVs s.heap ds us->depA ds<=n->Q (none,()) s →
  s_ (t_ prog w) A (forIn us (none,()) λy r=>do
   let __do_lift ←eqIsQuiet n y
   if(!__do_lift)=true then pure (RH (some false,())) else do pure unit;pure (SO (none,()))) Q E s
 | [],us,n,A,s,Q,x,hn,q=>by
  cases us with
  | cons u us=>simp[KVs] at x
  | nil =>
   rw[Qj];exact e_ q
 | d::ds,us,n,A,s,Q,x,hn,q=>by
  cases us with
  | nil=>simp[KVs] at x
  | cons u us =>
   rw[KVs] at x;rw[depA] at hn;rw[Ph];refine a_ (a_ (xn d u n A s _ x.1 (by omega) ?_));rw[if_neg (by simp)];refine a_ (e_ (e_ ?_));exact Cz ds us n A s Q x.2 (by omega) q
end
mutual
theorem yZ:∀(d:D) (u:b_) (n:Nat) (A:Oe) (s:c_) (Q:Bool->c_->Prop),KV s.heap d u->dep d<=n->Q false s->s_ (t_ prog w) A (Py n u) Q E s
 | .int i,u,n,A,s,Q,x,hn,q=>by
  rw[KV] at x;obtain⟨t,rfl⟩:=x;unfold Py;exact e_ q
 | .tup ds,u,n,A,s,Q,x,hn,q=>by
  rw[KV] at x;obtain⟨a,o,ae,e,rfl,x1,x2,x3,x4⟩:=x;rw[dep] at hn;obtain⟨n,rfl⟩:∃k,n=k+1:=⟨n - 1,by omega⟩;have look:SW (t_ prog w) s.heap (SN (.ref a)) o.cls:=(SW.ld x1).andThen .now;rw[x2] at look;unfold Py;refine a_ (look.here ?_);dsimp only;rw[if_pos (by decide)];refine a_ (e_ ?_);simp only[PX,Pd,if_false];refine a_ (N4 x1 x3 (a_ ?_));show s_ _ _ (forIn ae.toArray _ _) _ _ s;rw[←Rl];refine BX ds ae n A s _ x4 (by omega) ?_;exact e_ q
 | .non,_,_,_,_,_,x,_,_=>by simp[KV] at x
 | .bl _,_,_,_,_,_,x,_,_=>by simp[KV] at x
 | .str _,_,_,_,_,_,x,_,_=>by simp[KV] at x
 | .lst _,_,_,_,_,_,x,_,_=>by simp[KV] at x
theorem BX:∀(ds:List D) (us:List b_) (n:Nat) (A:Oe) (s:c_) (Q:Option Bool×PUnit->c_->Prop),KVs s.heap ds us->depA ds<=n->Q (none,()) s →
  s_ (t_ prog w) A (forIn us (none,()) λy r=>do
   let __do_lift ←Py n y
   if __do_lift=true then pure (RH (some true,())) else do pure unit;pure (SO (none,()))) Q E s
 | [],us,n,A,s,Q,x,hn,q=>by
  cases us with
  | cons u us=>simp[KVs] at x
  | nil =>
   rw[Qj];exact e_ q
 | d::ds,us,n,A,s,Q,x,hn,q=>by
  cases us with
  | nil=>simp[KVs] at x
  | cons u us =>
   rw[KVs] at x;rw[depA] at hn;rw[Ph];refine a_ (a_ (yZ d u n A s _ x.1 (by omega) ?_));rw[if_neg i_];refine a_ (e_ (e_ ?_));exact BX ds us n A s Q x.2 (by omega) q
end
mutual
theorem Ad:∀(d:D) (u:b_) (n:Nat) (A:Oe) (s:c_) (Q:Bool->c_->Prop),KV s.heap d u->dep d<=n->Q true s->s_ (t_ prog w) A (QH n u) Q E s
 | .int i,u,n,A,s,Q,x,hn,q=>by
  rw[KV] at x;obtain⟨t,rfl⟩:=x;unfold QH;exact e_ q
 | .tup ds,u,n,A,s,Q,x,hn,q=>by
  rw[KV] at x;obtain⟨a,o,ae,e,rfl,x1,x2,x3,x4⟩:=x;rw[dep] at hn;obtain⟨n,rfl⟩:∃k,n=k+1:=⟨n - 1,by omega⟩;have hT:s.TypeIs (.ref a) "tuple":=⟨o,x1,x2⟩;unfold QH;refine a_ (Rq hT Sj.lookup ?_);refine a_ (m:=seqItems? (.ref a)) (N4 x1 x3 (a_ ?_));show s_ _ _ (forIn ae.toArray _ _) _ _ s;rw[←Rl];refine BJ ds ae n A s _ x4 (by omega) ?_;exact e_ q
 | .non,_,_,_,_,_,x,_,_=>by simp[KV] at x
 | .bl _,_,_,_,_,_,x,_,_=>by simp[KV] at x
 | .str _,_,_,_,_,_,x,_,_=>by simp[KV] at x
 | .lst _,_,_,_,_,_,x,_,_=>by simp[KV] at x
theorem BJ:∀(ds:List D) (us:List b_) (n:Nat) (A:Oe) (s:c_) (Q:Option Bool×PUnit->c_->Prop),KVs s.heap ds us->depA ds<=n->Q (none,()) s →
  s_ (t_ prog w) A (forIn us (none,()) λy r=>do
   let __do_lift ←QH n y
   if(!__do_lift)=true then pure (RH (some false,())) else do pure unit;pure (SO (none,()))) Q E s
 | [],us,n,A,s,Q,x,hn,q=>by
  cases us with
  | cons u us=>simp[KVs] at x
  | nil =>
   rw[Qj];exact e_ q
 | d::ds,us,n,A,s,Q,x,hn,q=>by
  cases us with
  | nil=>simp[KVs] at x
  | cons u us =>
   rw[KVs] at x;rw[depA] at hn;rw[Ph];refine a_ (a_ (Ad d u n A s _ x.1 (by omega) ?_));rw[if_neg (by simp)];refine a_ (e_ (e_ ?_));exact BJ ds us n A s Q x.2 (by omega) q
end
end
end DL
namespace DL
open PySem PySem.W PySem.Spec PyProof.Rows L2 PySem.SetTable
section
variable{prog:A_}{w:I_}{E:b_->c_->Prop}{s:c_}
theorem TabOk.fits{t:N0}(T:TabOk t es):t.fits es.size=true:=by
 have:=T.few;have:=T.sz;unfold N0.fits N0.fill;rw[T.nd];simp[T.sz];omega
theorem TabOk.gave{t:N0}(T:TabOk t es):t.gaveWay=false:=by
 unfold gaveWay
 rcases T.few.2 with h | h
 ·rw[h];decide
 ·rw[h.1];decide
theorem IC{o:Obj}{t:N0}(ho:s.heap.get? a=some o)(dZ:o.data=.set es ep t)(T:TabOk t es){x:b_}(gw:∀i (hi:i < es.size),∃b,es[i].2=.ref b)(eq:∀i (hi:i < es.size),es[i].1=h->PySem.SeqAt.EqAt A s es[i].2 x (eqf i))(seen:t.led=false->∀Q:Bool->c_->Prop,Q false s->s_ (t_ prog w) A (Pz x ((es.filter (·.1 == h)).toList.map (·.2))) Q E s){K:Nat}(hK:sl t.mask h K∉t.place)(hk:∀k,k < K->sl t.mask h k∈t.place)(bn:K < 10*(t.mask+14)){Q:SetFound->c_->Prop}(jU:∀i (hi:i < es.size),es[i].1=h->eqf i=true->Q (.there none) s)(free:(∀i (hi:i < es.size),es[i].1=h->eqf i=false)->Q (.free (sl t.mask h K) false) s):
  ∀(f k:Nat) (bK:Option Probe),k<=K->K - k < f->bK.getD (t.probeStart h)=pth t.mask h k->(∀bz,bz < k->∀j (hj:j < es.size) (bw:j < t.place.size),t.place[j]=sl t.mask h bz->es[j].1=h->eqf j=false) →
   s_ (t_ prog w) A (setSearchFrom a x h true f bK) Q E s:=by
 intro f
 induction f with
 | zero=>intro k bK h1 h2;omega
 | succ f ih =>
  intro k bK h1 h2 hs eY;unfold setSearchFrom;refine a_ (NT ho dZ T.fits ?_);dsimp only;rw[T.gave,if_neg i_]
  have pr:∀m,Qv t (hA es) h (10*SZ t.mask) (pth t.mask h k)=some m->t.probe (W.hashAt es) h (bK.getD (t.probeStart h))=some m:=λm e=>by
   rw[hs];exact e
  rcases zB T hK hk (10*SZ t.mask) k h1 (by unfold SZ;omega) with⟨k',i,hi,bj,a1,a2,a3,a4,a5,a6⟩ | ⟨a1,a2⟩
  ·have e:=pr _ a5
   change t.probe _ h _=_ at e
   have e':t.probe (λi=>(es[i]?.map (·.1)).getD 0) h (bK.getD (t.probeStart h))=some (.candidate (sl t.mask h k') i (pth t.mask h (k'+1))):=e;show s_ _ _ (match t.probe (λi=>(es[i]?.map (·.1)).getD 0) h (bK.getD (t.probeStart h)) with | some met=>_ | _=>_) _ _ _;rw[e'];dsimp only;obtain⟨b,eb⟩:=gw i hi;have gi:es[i]?=some es[i]:=l_ hi;have n9:t.slot (sl t.mask h k')=.live i:=by rw[←a3];exact AR T.ris bj
   have lD:=eq i hi a4;rw[eb] at lD;have ask:t.led=true\/t.led=false:=by cases t.led<;>simp
   rcases ask with led | led
   all_goals
    first
     | (rw[led,PX,if_neg i_])
     | (rw[led,Bool.not_false,if_pos rfl];refine a_ (seen led _ ?_);rw[if_neg i_])
    rw[gi];dsimp only;rw[eb];refine a_ (NN (lD prog w _ _ (a_ (NT ho dZ T.fits ?_))));dsimp only;cases c:eqf i with
    | true =>
     rw[if_pos (by rfl)];exact e_ (jU i hi a4 c)
    | false =>
     rw[if_neg (by decide)];have sm:t.sameMemory t.moves t.mask=some true:=by unfold sameMemory;simp
     rw[sm];dsimp only;rw[if_pos rfl,n9];dsimp only;rw[gi];dsimp only;rw[eb];refine a_ (wpAny_isSame_ref_self (a_ (e_ ?_)));rw[if_pos rfl];dsimp only;rw[if_neg i_];refine ih (k'+1) _ (by omega) (by omega) rfl λbz b1 j hj bw ej hh=>?_
     by_cases z1:bz < k
     ·exact eY bz z1 j hj bw ej hh
     ·by_cases z2:bz=k'
      ·have:j=i:=by
        rw[z2,←a3] at ej
        rcases PU j i with l | l | l
        ·have:=T.ris j i bw bj l;omega
        ·exact l
        ·have:=T.ris i j bj bw l;omega
       subst this;exact c
      ·exact absurd hh (a6 bz (by omega) (by omega) j hj bw ej)
  ·have e':t.probe (λi=>(es[i]?.map (·.1)).getD 0) h (bK.getD (t.probeStart h))=some (.empty (sl t.mask h K) none):=pr _ a1;show s_ _ _ (match t.probe (λi=>(es[i]?.map (·.1)).getD 0) h (bK.getD (t.probeStart h)) with | some met=>_ | _=>_) _ _ _;rw[e'];dsimp only;refine e_ (free λi hi hh=>?_);have bj:i < t.place.size:=by rw[T.sz];exact hi
   obtain⟨c,c1,c2⟩:=T.reach i hi bj;rw[hh] at c1 c2
   have cK:c < K:=by
    rcases PU c K with l | l | l
    ·exact l
    ·subst l;exact absurd (by rw[c1];exact O0 bj) hK
    ·exact absurd (c2 K l) hK
   by_cases z:c < k
   ·exact eY c z i hi bj c1.symm hh
   ·exact absurd hh (a2 c (by omega) cK i hi bj c1.symm)
end
section
variable{prog:A_}{w:I_}{E:b_->c_->Prop}{s:c_}
def SetAt(h:J_)(a:k_)(led:Bool)(es:Array (Int×b_)):Prop:=∃o ep t,h.get? a=some o/\o.cls=.type "set"/\o.data=.set es ep t/\TabOk t es/\t.led=led
theorem z5{h:J_}{o:Obj}{es':Array (Int×b_)}{t t':N0}(ho:h.get? a=some o)(hd:o.data=.set es ep t):(h.update a (putSet es' t')).get? a=some { o with data:=.set es' (ep+1) t' }:=by
 have e:=putSet_of es' t' hd;have:=NZ (putSet es' t') ho (by rw[e];rfl);rw[e] at this;exact this
theorem Dm{led:Bool}{Q:Bool->c_->Prop}(S:SetAt s.heap a led es)(few:(∀i (hi:i < es.size),es[i].1=h->eqf i=false)->es.size<=17)(gw:∀i (hi:i < es.size),∃b,es[i].2=.ref b)(eq:∀i (hi:i < es.size),es[i].1=h->PySem.SeqAt.EqAt A s es[i].2 (.ref b) (eqf i))(seen:∀Q:Bool->c_->Prop,Q false s->s_ (t_ prog w) A (Pz (.ref b) ((es.filter (·.1 == h)).toList.map (·.2))) Q E s)(value:∀Q:Bool->c_->Prop,Q true s->s_ (t_ prog w) A (QH 8 (.ref b)) Q E s)(old:∀i (hi:i < es.size),es[i].1=h->eqf i=true->Q false s)(new:(∀i (hi:i < es.size),es[i].1=h->eqf i=false)->∀h' es',SetAt h' a led es'->(∀e,e∈es'↔e=(h,.ref b)\/e∈es)->es'.size=es.size+1->KeptBut a s.heap h'->Q true { s with heap:=h' }):
  s_ (t_ prog w) A (setAddHashed a (.ref b) h) Q E s:=by
 have line:64<=C_:=by rw[Of];decide
 obtain⟨o,ep,t,ho,hc,dZ,T,tl⟩:=S;obtain⟨K,k1,k2,k3⟩:=T.free h;have fits:=T.fits;unfold setAddHashed;refine NN ?_;unfold setAddHashedIn;refine a_ (NT ho dZ fits ?_);dsimp only;rw[if_neg (by simp[byScan,b_.scannable])];unfold setSearch;refine a_ (IC ho dZ T gw eq (λ_=>seen) k2 k3 k1 (λi hi hh ee=>?_) (λaX=>?_) 100000 0 none (NK _) ?_ rfl λbz z=>by omega)
 ·exact e_ (old i hi hh ee)
 ·have few:=few aX;dsimp only;refine a_ (NT ho dZ fits ?_);dsimp only;obtain⟨p1,p2,p3,p4,p5,p6,p7,p8,p9,jV,lE⟩:=IS T (h:=h) (x:=.ref b) k2 k3;obtain⟨q,oe⟩:∃q,q=t.put (sl t.mask h K):=⟨_,rfl⟩;rw[←oe] at p1 p2 p3 p4 p5 p6 p7 p8 p9 jV lE ⊢;rw[p6,T.pl,if_pos rfl];refine a_ (value _ ?_);rw[if_pos rfl];have cy:(N1 es q.2 (h,b_.ref b)).size=es.size+1:=xt jV _;refine a_ (Sk ho dZ ?_ (by rw[cy];omega));have g1:=z5 (es':=N1 es q.2 (h,b_.ref b)) (t':=q.1) ho dZ;have cz:KeptBut a s.heap (s.heap.update a (putSet (N1 es q.2 (h,b_.ref b)) q.1)):=λc u ne e=>(Nv _ _ (NH ne)).trans e
  have da:∀e,e∈N1 es q.2 (h,b_.ref b)↔e=(h,.ref b)\/e∈es:=λe=>Aa jV _ e
  obtain⟨h1,og⟩:∃h1,h1=s.heap.update a (putSet (N1 es q.2 (h,b_.ref b)) q.1):=⟨_,rfl⟩;rw[←og] at g1 cz ⊢
  have fill:q.1.fill=es.size+1:=by
   unfold N0.fill;rw[p1,p9,T.sz];rfl
  by_cases full:q.1.tooFull=true
  ·-- laid anew: five things,32 places
   have m7:t.mask=7/\es.size+1=5:=by
    unfold tooFull at full;rw[fill,p5] at full;simp only[ge_iff_le,decide_eq_true_eq] at full;have:=T.few;have:=T.sz
    rcases this with x
    rcases T.few.2 with m | m
    ·rw[m] at full;omega
    ·rw[m.1] at full;omega
   rw[if_pos (by simp[full])];unfold setRelay
   have jW:q.1.fits (N1 es q.2 (h,b_.ref b)).size=true:=by
    unfold N0.fits;rw[fill,cy,p5,m7.1,p9,T.sz];simp;omega
   refine a_ (a_ (NT (s:={ s with heap:=h1 }) g1 rfl jW ?_));dsimp only;have sa:sizeAbove (grown (es.size+1))=32:=by rw[m7.2];decide
   rw[sa,if_neg (by omega)];obtain⟨t2,bO,l1,l2,l3,l4,l5,l6⟩:=KN (es:=N1 es q.2 (h,b_.ref b)) (by rw[cy];omega) q.1.finger (q.1.movedTo 31) q.1.led
   have oh:q.1.relaid ((N1 es q.2 (h,b_.ref b)).map (·.1)) (grown (es.size+1))=some (t2,bO):=by
    unfold relaid;rw[sa,p6,T.pl];exact l1
   rw[oh];refine a_ (OM (a:=(bO.filterMap ((N1 es q.2 (h,b_.ref b))[·]?),t2)) ?_ ?_)
   ·show(if((bO.filterMap ((N1 es q.2 (h,b_.ref b))[·]?)).size != (N1 es q.2 (h,b_.ref b)).size)=true then _ else pure _)=_;rw[l2,bne_self_eq_false,if_neg i_]
   ·dsimp only;refine Sk g1 rfl ?_ (by rw[l2,cy];omega);refine e_ (new aX _ _ ⟨_,_,t2,z5 g1 rfl,hc,rfl,l3,by rw[l5,p7,tl]⟩ (λe=>(l6 e).trans (da e)) (by rw[l2,cy]) λc u ne e=>(Nv _ _ (NH ne)).trans (cz c u ne e))
  ·rw[if_neg (by simp[full])];refine e_ (new aX h1 _ ⟨_,_,q.1,g1,hc,rfl,⟨p1,p2,p3,p4,?_,by rw[p6];exact T.pl,lE⟩,by rw[p7,tl]⟩ da cy cz);unfold tooFull at full;rw[fill,p5] at full;simp only[ge_iff_le,decide_eq_true_eq] at full;have:=T.sz;rw[p9,p5];refine⟨by omega,?_⟩
   rcases T.few.2 with m | m
   ·exact .inl m
   ·refine .inr ⟨m.1,?_⟩;rw[m.1] at full;omega
 ·rcases T.few.2 with m | m
  ·rw[m] at k1;omega
  ·rw[m.1] at k1;omega
end
noncomputable def dstep(ah:List D)(d:D):List D:=if ah.any (λe=>deq e d)=true then ah else ah++[d]
noncomputable def dd(ds:List D):List D:=ds.foldl dstep []
theorem EE(ah:List D)(d:D):ah.length<=(dstep ah d).length:=by
 unfold dstep;split
 ·exact v_ _
 ·simp
theorem CY:∀(ds ah:List D),ah.length<=(ds.foldl dstep ah).length
 | [],ah=>v_ _
 | d::ds,ah=>z_ (EE ah d) (CY ds _)
theorem DD(ds:List D)(h:i < ds.length):dd (ds.take (i+1))=dstep (dd (ds.take i)) ds[i]:=by
 unfold dd;rw[OU,QI,g_ h];rfl
theorem Ea(ds:List D)(i:Nat):(dd (ds.take i)).length<=(dd ds).length:=by
 unfold dd
 conv=>rhs;rw[←O_ i ds,QI]
 exact CY _ _
theorem Am{d:D}:∀(ds ah:List D),d∈ds.foldl dstep ah->d∈ah\/d∈ds
 | [],ah,h=>.inl h
 | e::ds,ah,h=>by
  rcases Am ds _ h with h | h
  ·unfold dstep at h;split at h
   ·exact .inl h
   ·rcases L_.mp h with h | h
    ·exact .inl h
    ·exact .inr (by rw[r_.mp h];exact m_)
  ·exact .inr (j_ _ h)
theorem u4(h:d∈dd ds):d∈ds:=by
 rcases Am ds [] h with h | h
 ·cases h
 ·exact h
section
variable{H:Hp}{s0 s:c_}{prog:A_}{w:I_}{E:b_->c_->Prop}
def Stn(X:Cx)(H:Hp)(e:Int×b_)(d:D):Prop:=e.1=hD d/\∃x,Is X.K H d x/\RelV x e.2
def EsOk(X:Cx)(H:Hp)(es:Array (Int×b_))(L:List D):Prop:=es.size=L.length/\(∀e∈es,∃d∈L,Stn X H e d)/\∀d∈L,∃e∈es,Stn X H e d
noncomputable def isT:D->Bool
 | .tup _=>true
 | _=>false
theorem vM{x:V}(ht:isT d=true)(h:Is X.K H d x)(r:RelV x u):∃b,x=.ref b/\u=.ref b:=by
 cases d<;>simp[isT] at ht
 obtain⟨a,xs,rfl,h1,h2⟩:=qL h;cases r;exact⟨a,rfl,rfl⟩
theorem Stn.det(I:Inv X aa U H s){e:Int×b_}{d':D}(h:isT d=true)(h':isT d'=true)(x:Stn X H e d)(y:Stn X H e d'):d=d':=by
 obtain⟨_,v,a1,a2⟩:=x;obtain⟨_,v',b1,b2⟩:=y;obtain⟨b,rfl,e1⟩:=vM h a1 a2;obtain⟨b',rfl,e2⟩:=vM h' b1 b2;rw[e1] at e2;cases e2;exact u7 I a1 b1
theorem FE{x:b_}(hx:KV s.heap d x)(dx:dep d<=8):∀(ys:List b_) (Q:Bool->c_->Prop),(∀y∈ys,∃e,KV s.heap e y/\dep e<=8)->Q false s->s_ (t_ prog w) A (Pz x ys) Q E s:=by
 intro ys Q hy q;unfold Pz;refine a_ ?_
 have aU:∀(ys:List b_) (R:Option Bool×PUnit->c_->Prop) (body:b_->Option Bool×PUnit->Sem (ForInStep (Option Bool×PUnit))),(∀y∈ys,∀R':ForInStep (Option Bool×PUnit)->c_->Prop,R' (.yield (none,())) s->s_ (t_ prog w) A (body y (none,())) R' E s)->R (none,()) s →
   s_ (t_ prog w) A (forIn ys (none,()) body) R E s:=by
  intro ys R body hb r
  induction ys with
  | nil=>rw[Qj];exact e_ r
  | cons y ys ih =>
   rw[Ph];exact a_ (hb y m_ _ (ih λz hz=>hb z (j_ _ hz)))
 refine aU ys _ _ (λy oj R' r'=>?_) (e_ q);obtain⟨e,ky,ke⟩:=hy y oj;dsimp only;split
 all_goals
  split
  ·exact e_ r'
  ·refine a_ (xn d _ 8 A s _ hx dx ?_);rw[if_neg (by simp)];refine a_ (xn e _ 8 A s _ ky ke ?_);rw[if_neg (by simp)];refine a_ (yZ d _ 8 A s _ hx dx ?_);rw[if_neg i_];refine a_ (yZ e _ 8 A s _ ky ke ?_);rw[if_neg i_];exact e_ r'
end
section
variable{H:Hp}{s0 s:c_}{prog:A_}{w:I_}{E:b_->c_->Prop}
def Ext(s0 s:c_):Prop:=∃h tk,s={ s0 with heap:=h,toks:=tk }/\∀b o,s0.heap.get? b=some o->h.get? b=some o
theorem Ext.inv(I:Inv X aa U H s0)(e:Ext s0 s):Inv X aa U H s:=by
 obtain⟨h,tk,rfl,k⟩:=e;exact I.kept (t':=tk) k
theorem Ext.next(e:Ext s0 s)(k:∀b o,b < s0.heap.objs.size->s.heap.get? b=some o->h'.get? b=some o):Ext s0 { s with heap:=h',toks:=tk }:=by
 obtain⟨h,t,rfl,k0⟩:=e;exact⟨h',tk,rfl,λb o x=>k b o (E_ x) (k0 b o x)⟩
def SetOk(ds:List D):Prop:=cmAll ds=true/\ds.all kyB=true/\ds.all isT=true/\depA ds<=8/\(dd ds).length<=18
theorem SetAt.kept{h:J_}{led:Bool}(S:SetAt h a led es)(k:∀o,h.get? a=some o->h'.get? a=some o):SetAt h' a led es:=by
 obtain⟨o,ep,t,r1,r2⟩:=S;exact⟨o,ep,t,k _ r1,r2⟩
theorem Stn.up{J:Hp}(hJ:∀d x,Is X.K J d x->Is X.K H d x){e:Int×b_}{d:D}(h:Stn X J e d):Stn X H e d:=by
 obtain⟨h1,x,h2,h3⟩:=h;exact⟨h1,x,hJ _ _ h2,h3⟩
theorem Fx(I0:Inv X aa U H s0){It:k_}(hS:s0.heap.objs.size<=S)(om:s0.heap.objs.size<=It){P:Nat->b_->Prop}{St:Nat->J_->Prop}(W:Walks prog w A.in1 It fp [It] n P St)(lH:S∉fp)(hJ:∀d x,Is X.K J d x->Is X.K H d x)(ha:IsA X.K J ds zs)(ok:SetOk ds)(hn:n=ds.length)(hP:∀i v,P i v->∃x,zs[i]?=some x/\RelV x v)(hu:A.units+20 < OC){led:Bool}{R:Result->c_->Prop}:
  ∀(k i:Nat) (s:c_),n - i=k->i<=n->Ext s0 s->St i s.heap->(∃es,SetAt s.heap S led es/\EsOk X J es (dd (ds.take i))) →
   (∀s' es,Ext s0 s'->SetAt s'.heap S led es->EsOk X J es (dd ds)->R (.ok (.ret .none)) s') →
   Pp (t_ prog w) A (.builtin "set.update.loop" ⟨[.ref S,.ref It],[]⟩) R s:=by
 obtain⟨cm,ky,ti,dp,few⟩:=ok;have lI:S≠It:=λe=>lH (by rw[e];exact W.sub It m_)
 have nb:∀b,b < s0.heap.objs.size->b∉[It]:=λb hb h=>by
  rw[r_.mp h] at hb;exact absurd om (Nat.not_le.mpr hb)
 have oo:∀b,b < s0.heap.objs.size->b≠S:=λb hb h=>by
  rw[h] at hb;exact absurd hS (Nat.not_le.mpr hb)
 intro k
 induction k with
 | zero =>
  intro i s hk hi ex st gy r;obtain⟨es,s1,s2⟩:=gy;have:i=n:=by omega
  subst this;refine Oj Q8 ?_;rw[OT OK _];refine a_ (m:=PL (.ref It)) (W.done s _ _ st λh' tk keep=>e_ ?_);rw[hn,On] at s2;exact r _ es (ex.next λb o hb x=>keep b o (nb b hb) x) (s1.kept λo x=>keep S o (by simpa using lI) x) s2
 | succ k ih =>
  intro i s hk hi ex st gy r;obtain⟨es,s1,s2⟩:=gy;have lt:i < ds.length:=by omega
  refine Oj Q8 ?_;rw[OT OK _];refine a_ (m:=PL (.ref It)) (W.item i s _ _ (by omega) st λv h1 oq pv h9 cz=>?_);obtain⟨x,e1,rv⟩:=hP i v pv;obtain⟨x',ez,hx⟩:=ha.get (g_ lt);rw[e1] at ez;cases ez;have dm:ds[i]∈ds:=NS lt;have td:isT ds[i]=true:=q_.mp ti _ dm;have lJ:dep ds[i]<=8:=z_ (se dm) dp;obtain⟨b,rfl,rfl⟩:=vM td hx rv;have jX:∀tk,Ext s0 { s with heap:=h1,toks:=tk }:=λtk=>ex.next λb o hb x=>cz b o (nb b hb) x
  have lK:SetAt h1 S led es:=s1.kept λo x=>cz S o (by simpa using lI) x
  have I1:=(jX oq).inv I0;have jY:=wB I1 _ _ _ (q_.mp ky _ dm) (hJ _ _ hx) rv;refine a_ (m:=Qd [.ref b] (setAdd S (.ref b))) (NN ?_);unfold setAdd;refine NN (a_ (BU _ _ _ _ _ jY (by show A.units+1+_ < _;omega) λtk=>?_));have I2:=(jX tk).inv I0
  have ch:∀k,∃d',∀hk:k < es.size,d'∈dd (ds.take i)/\Stn X J es[k] d':=λk=>by
   by_cases hk:k < es.size
   ·obtain⟨d',m,q⟩:=s2.2.1 es[k] (O0 hk);exact⟨d',λ_=>⟨m,q⟩⟩
   ·exact⟨.non,λh=>absurd h hk⟩
  have gz:∀k (hk:k < es.size),(ch k).choose∈dd (ds.take i)/\Stn X J es[k] (ch k).choose:=λk hk=>(ch k).choose_spec hk
  have sub:∀d'∈dd (ds.take i),d'∈ds:=λd' h=>Ot (u4 h)
  have ou:∀d'∈dd (ds.take i),cmB d' ds[i]=true:=λd' h=>q_.mp (q_.mp cm _ (sub d' h)) _ dm
  have eC:∀d'∈dd (ds.take i),isT d'=true:=λd' h=>q_.mp ti _ (sub d' h)
  have jf:∀d'∈dd (ds.take i),dep d'<=8:=λd' h=>z_ (se (sub d' h)) dp
  have ow:∀d'∈dd (ds.take i),∀e,Stn X J e d'->KV h1 d' e.2:=λd' h e q=>by
   obtain⟨_,y,q1,q2⟩:=q;exact wB I2 _ _ _ (q_.mp ky _ (sub d' h)) (hJ _ _ q1) q2
  have aX:(∀k (hk:k < es.size),es[k].1=hD ds[i]->deq (ch k).choose ds[i]=false)->(dd (ds.take i)).any (λe=>deq e ds[i])=false:=λhz=>by
   rw[Sl];intro h;obtain⟨d',m,q⟩:=N5.mp h;obtain⟨e,m1,q1⟩:=s2.2.2 d' m;obtain⟨k,hk,rfl⟩:=P4 m1;have same:=Stn.det I2 (eC _ (gz k hk).1) (eC _ m) ((gz k hk).2.up hJ) (q1.up hJ);have ox:=um _ _ (ou d' m) q;have:=hz k hk (by rw[q1.1,ox]);rw[same,q] at this;cases this
  have step:dd (ds.take (i+1))=dstep (dd (ds.take i)) ds[i]:=DD ds lt
  have cont:∀h2 es',KeptBut S h1 h2->SetAt h2 S led es'->EsOk X J es' (dd (ds.take (i+1)))->Pp (t_ prog w) A (.builtin "set.update.loop" ⟨[.ref S,.ref It],[]⟩) R { s with heap:=h2,toks:=tk }:=λh2 es' kb sa eo=>by
   refine ih (i+1) _ (by omega) (by omega) ((jX tk).next (tk:=tk) λb o hb x=>kb b o (oo b hb) x) (W.frame _ _ _ h9 λb hb o x=>kb b o (λe=>lH (e▸hb)) x) ⟨es',sa,eo⟩ r
  refine Dm (s:={ s with heap:=h1,toks:=tk }) (led:=led) (es:=es) (eqf:=λk=>deq (ch k).choose ds[i]) lK (λhz=>?_) (λk hk=>?_) (λk hk _=>?_) (λQ q=>?_) (λQ q=>Ad _ _ 8 _ _ _ jY lJ q) (λk hk hh ee=>?_) λhz h2 es' sa mem sz kb=>?_
  ·have l1:=Ea ds (i+1);rw[step,dstep,if_neg (by rw[aX hz];exact i_),o_,Oo,←s2.1] at l1;omega
  ·obtain⟨m,_,y,q1,q2⟩:=gz k hk;obtain⟨b',_,e⟩:=vM (eC _ m) q1 q2;exact⟨b',e⟩
  ·obtain⟨m,_,y,q1,q2⟩:=gz k hk;exact(ub I2 8 A.in1 (by show A.units+1+8 < _;omega) _ _ _ _ _ _ (.inl (jf _ m)) (hJ _ _ q1) (hJ _ _ hx) q2 rv).2.1
  ·refine FE (s:={ s with heap:=h1,toks:=tk }) (d:=ds[i]) jY lJ _ _ (λy hy=>?_) q;obtain⟨e,m,rfl⟩:=w_.mp hy;have m':e∈es:=(Array.mem_filter.mp (RG.mp m)).1;obtain⟨d',m1,q1⟩:=s2.2.1 e m';exact⟨d',ow d' m1 e q1,jf d' m1⟩
  ·refine e_ ⟨Ol OK _,cont h1 es (λb o _ x=>x) lK ?_⟩;rw[step,dstep,if_pos (N5.mpr ⟨_,(gz k hk).1,ee⟩)];exact s2
  ·refine e_ ⟨Ol OK _,cont h2 es' kb sa ?_⟩;rw[step,dstep,if_neg (by rw[aX hz];exact i_)];have own:Stn X J (hD ds[i],.ref b) ds[i]:=⟨rfl,_,hx,rv⟩;refine⟨by rw[sz,s2.1];simp,λe he=>?_,λd' ck=>?_⟩
   ·rcases(mem e).mp he with rfl | he
    ·exact⟨_,by simp,own⟩
    ·obtain⟨d',m,q⟩:=s2.2.1 e he;exact⟨d',NI _ m,q⟩
   ·rcases L_.mp ck with h | h
    ·obtain⟨e,m,q⟩:=s2.2.2 d' h;exact⟨e,(mem e).mpr (.inr m),q⟩
    ·rw[r_.mp h];exact⟨_,(mem _).mpr (.inl rfl),own⟩
end
theorem Ao:Manifest.owners.lookup (String.ofList ['r','o','t','a','r','e','t','i','_','t','e','s'].reverse)=some Manifest.sig_set_iterator:=by kernel_rfl
theorem tx:Slot "set_iterator" "__next__" "set_iterator.__next__":=.of (owner:= "set_iterator") (n:= "__next__") (by rw[typeLookup_type,Rt];kernel_rfl) (by decide +kernel) (by decide +kernel) (by decide +kernel) (by first | exact .inl (by decide +kernel) | exact .inr (by decide +kernel)) (by rw[isSubtype_type];kernel_rfl)
theorem BS:entryFor table "set_iterator.__next__"=some Ov.«set_iterator.__next__»:=entryFor_of_tree (by kernel_rfl)
theorem AX(a:b_):argsOk "set_iterator.__next__" ⟨[a],[]⟩:=by
 unfold argsOk;rw[signature?_of (id:= "set_iterator.__next__") (n:=['_','_','t','x','e','n','_','_']) (o:=['r','o','t','a','r','e','t','i','_','t','e','s']) (by kernel_rfl) Ao]
 kernel_rfl
theorem HN:entryFor table "set.__iter__"=some Ov.«frozenset.__iter__»:=entryFor_alias (id':= "frozenset.__iter__") (by kernel_rfl) rfl (by decide +kernel) (by kernel_rfl)
theorem Dg{α:Type}:∀(l:List α) (i:Nat) (h:i < l.length),(l[i]::l.eraseIdx i).Perm l
 | a::l,0,h=>Qk.refl _
 | a::l,i+1,h=>by
  rw[OI,Rm];exact(swap a _ _).trans ((Dg l i (by simpa using h)).cons a)
theorem Di{α:Type}(next:Nat->Nat):∀(f k:Nat) (left:List α) (bf:Array α),left.length=f->(Q9.go next f k left bf).toList.Perm (bf.toList++left)
 | 0,k,left,bf,h=>by
  rw[Q9.go,N_.mp h,N3]
 | f+1,k,left,bf,h=>by
  have lt:next k % left.length < left.length:=S9 _ (by omega);rw[Q9.go,g_ lt];dsimp only;refine(Di next f (k+1) _ _ (by rw[List.length_eraseIdx_of_lt lt];omega)).trans ?_;rw[Array.toList_push,Oc];exact Qk.append_left _ (Dg left _ lt)
theorem GG{α:Type}(next:Nat->Nat)(xs:Array α):(Q9 next xs).toList.Perm xs.toList:=by
 have:=Di next xs.size 0 xs.toList #[] (by simp);simpa[Q9] using this
section
variable{prog:A_}{w:I_}{E:b_->c_->Prop}{s:c_}
noncomputable def byTx(w:I_):Bool:=w.params.followText "set-order"
noncomputable def walkOf(w:I_)(S:k_)(ep:Nat)(es:Array (Int×b_)):Array (Int×b_):=if byTx w=true then Q9 (w.params.setOrder S ep) es else es
theorem wM(w:I_)(S:k_)(ep:Nat)(es:Array (Int×b_)):(walkOf w S ep es).toList.Perm es.toList:=by
 unfold walkOf;split
 ·exact GG _ _
 ·exact Qk.refl _
theorem vV(w:I_)(S:k_)(ep:Nat)(es:Array (Int×b_)):(walkOf w S ep es).size=es.size:=by
 have:=(wM w S ep es).length_eq;simpa using this
noncomputable def slotAt(w:I_)(t:N0)(k:Nat):Nat:=if byTx w=true then 0 else match k with
 | 0=>0
 | k+1=>t.place.getD k 0+1
def SitAt(h:J_)(I S:k_)(slot k n ep:Nat):Prop:=∃o,h.get? I=some o/\o.cls=.type "set_iterator"/\o.data=.fields #[.int slot 0,.int k 0,.ref S,.int n 0,.int ep 0]
def SetIs(h:J_)(S:k_)(es:Array (Int×b_))(ep:Nat)(t:N0):Prop:=∃o,h.get? S=some o/\o.cls=.type "set"/\o.data=.set es ep t
theorem Fj{w:I_}{t:N0}(T:TabOk t es)(hb:byTx w=false)(hk:k<=es.size):PH t.place (slotAt w t k)=k:=by
 unfold slotAt;rw[hb,if_neg i_];have sz:=T.sz;cases k with
 | zero =>
  dsimp only;obtain⟨b1,b2,b3⟩:=ve T.ris 0
  rcases Nat.eq_zero_or_pos (PH t.place 0) with h | h
  ·exact h
  ·have:=b2 0 (by omega) h;omega
 | succ k =>
  dsimp only;have lt:k < t.place.size:=by omega
  rw[Tb,dif_pos lt]
  change PH t.place (t.place[k]+1)=k+1
  obtain⟨b1,b2,b3⟩:=ve T.ris (t.place[k]+1)
  rcases PU (PH t.place (t.place[k]+1)) (k+1) with l | l | l
  ·have:=b3 k lt (by omega);omega
  ·exact l
  ·have h1:k+1 < t.place.size:=by omega
   have:=b2 (k+1) h1 l;have:=T.ris k (k+1) lt h1 (by omega);omega
theorem xz{Q:Bool->c_->Prop}(q:Q (byTx w) s):s_ (t_ prog w) A setsByText Q E s:=a_ (Q_ (e_ q))
theorem zy{t:N0}(T:TabOk t es)(led:t.led=!byTx w)(hS:SetIs s.heap S es ep t)(hk:k<=es.size){Q:Option (b_×Nat)->c_->Prop}(q:Q ((walkOf w S ep es)[k]?.map λe=>(e.2,slotAt w t (k+1))) s):s_ (t_ prog w) A (S' S (slotAt w t k) k ep) Q E s:=by
 obtain⟨o,ho,hc,hd⟩:=hS;unfold S';refine a_ (NT ho hd T.fits ?_);dsimp only;refine a_ (xz ?_);cases hb:byTx w with
 | true =>
  rw[if_pos rfl,bne_self_eq_false,if_neg i_];have z:∀k,slotAt w t k=0:=λk=>by unfold slotAt;rw[hb,if_pos rfl]
  rw[z];rw[z] at q;refine a_ ?_;unfold setWalk;refine a_ (NT ho hd T.fits ?_);dsimp only;refine a_ (xz ?_);rw[hb,if_pos rfl];refine a_ (Q_ (e_ (e_ ?_)));unfold walkOf at q;rw[hb,if_pos rfl] at q;exact q
 | false =>
  rw[if_neg i_];show s_ _ _ (if(!t.plain&&decide (es.size > 1))=true then _ else _) _ _ _;rw[T.pl,PX,Rw,if_neg i_];refine a_ ?_;show s_ _ _ (if(!t.led&&!es.isEmpty)=true then _ else _) _ _ _;rw[led,hb,Bool.not_false,PX,Rw,if_neg i_];refine e_ (e_ ?_);rw[Fj T hb hk];unfold walkOf at q;rw[hb,if_neg i_] at q;have sz:=T.sz;by_cases lt:k < es.size
  ·have lt':k < t.place.size:=by omega
   rw[l_ lt,l_ lt'];rw[l_ lt] at q;unfold slotAt at q;rw[hb,if_neg i_] at q;simp only[map_some,Tb,lt',dif_pos] at q;exact q
  ·rw[OP (by omega)];rw[OP (by omega)] at q;exact q
end
section
variable{prog:A_}{w:I_}{E:b_->c_->Prop}{s:c_}
theorem z9:Slot "set_iterator" "__iter__" "set_iterator.__iter__":=.of (owner:= "set_iterator") (n:= "__iter__") (by rw[typeLookup_type,Rt];kernel_rfl) (by decide +kernel) (by decide +kernel) (by decide +kernel) (by first | exact .inl (by decide +kernel) | exact .inr (by decide +kernel)) (by rw[isSubtype_type];kernel_rfl)
theorem KF:entryFor table "set_iterator.__iter__"=some Ov.«dict_keyiterator.__iter__»:=entryFor_alias (id':= "dict_keyiterator.__iter__") (by kernel_rfl) rfl (by decide +kernel) (by kernel_rfl)
theorem JQ(a:b_):argsOk "set_iterator.__iter__" ⟨[a],[]⟩:=by
 unfold argsOk;rw[signature?_of (id:= "set_iterator.__iter__") (n:=['_','_','r','e','t','i','_','_']) (o:=['r','o','t','a','r','e','t','i','_','t','e','s']) (by kernel_rfl) Ao]
 kernel_rfl
theorem SitAt.type{I:k_}{slot:Nat}(h:SitAt s.heap I S slot k n ep):s.TypeIs (.ref I) "set_iterator":=by
 obtain⟨o,h1,h2,_⟩:=h;exact⟨o,h1,h2⟩
theorem SetIs.type{t:N0}(h:SetIs s.heap S es ep t):s.TypeIs (.ref S) "set":=by
 obtain⟨o,h1,h2,_⟩:=h;exact⟨o,h1,h2⟩
theorem DX{t:N0}(T:TabOk t es)(hS:SetIs s.heap S es ep t){Q:b_->c_->Prop}(q:Q (.ref s.heap.objs.size) { s with heap:=s.heap.push { cls:=.type "set_iterator", data:=.fields #[.int 0 0,.int 0 0,.ref S,.int es.size 0,.int ep 0] } }):s_ (t_ prog w) A (RW (.ref S)) Q E s:=by
 have hT:=hS.type;obtain⟨o,ho,hc,hd⟩:=hS;refine Sm hT F.slot_set_iter (NP F.slot_set_iter hT HN ?_ (F.args_set_iter_1 _));refine a_ (m:=slot0 "__iter__" ⟨[.ref S],[]⟩) (a_ (e_ (e_ ?_)));refine a_ (m:=Ov.Frozenset.sizeOf S) (a_ (Qc ho hd T.fits (e_ ?_)));refine a_ (m:=setDrawn S) ?_;unfold setDrawn;refine a_ (NT ho hd T.fits ?_);dsimp only;refine a_ (xz (e_ ?_));have z:(!byTx w&&(!t.plain&&decide (es.size > 1)))=false:=by rw[T.pl];simp
 show s_ _ _ (if(!byTx w&&(!t.plain&&decide (es.size > 1)))=true then _ else _) _ _ _;rw[z,if_neg i_];refine a_ (e_ (a_ ?_));unfold setEpoch;refine a_ (NT ho hd T.fits (e_ ?_));exact a_ (NC (e_ ⟨_,rfl, "set_iterator", _,⟨_,x_ _ rfl,rfl⟩,tx.lookup,q⟩))
theorem Kh(hh:A.handled=none){Q:Option b_->c_->Prop}(q:∀h',(∀b o,s.heap.get? b=some o->h'.get? b=some o)->Q none { s with heap:=h' }):
  s_ (t_ prog w) A (newExc (.type "StopIteration") [] >>= λe=>(raiseNew e:Sem PySem.Fin)) (λ_ _=>False) (λe s'=>s_ (t_ prog w) A (isInstance e (.type "StopIteration")) (λb fq=>b=true/\Q none fq) (λ_ _=>False) s') s:=by
 refine a_ ?_;unfold newExc newTuple;refine a_ (NC (a_ (m:=Rz _ _) (OM (a:=b_.none) (by first | rfl | (simp only[Rz];rfl)) (NC ?_ (by size_fits)))) (by size_fits));unfold raiseNew;refine a_ (wpAny_handled ?_);rw[hh];refine a_ (e_ (wpAny_throw ?_));refine O8 (T:= "StopIteration") (b:=true) ⟨_,x_ _ rfl,rfl⟩ RB ⟨rfl,q _ λb o x=>?_⟩;exact f_ _ (f_ _ x)
theorem Jl{I:k_}{t:N0}(T:TabOk t es)(led:t.led=!byTx w)(hI:SitAt s.heap I S (slotAt w t k) k es.size ep)(hS:SetIs s.heap S es ep t)(hk:k < es.size){Q:Option b_->c_->Prop}(q:∀v h',(walkOf w S ep es)[k]?.map (·.2)=some v->SitAt h' I S (slotAt w t (k+1)) (k+1) es.size ep->KeptBut I s.heap h'->Q (some v) { s with heap:=h' }):s_ (t_ prog w) A (PL (.ref I)) Q E s:=by
 have hT:=hI.type;obtain⟨o,ho,hc,hd⟩:=hI;obtain⟨oS,jZ,oy,j0⟩:=id hS;unfold PL;refine a_ (PQ (NL (name:=Q1 "__next__") hT tx (NP tx hT BS ?_ (AX _))));refine a_ (m:=slotArgs "__next__" 0 ⟨[.ref I],[]⟩) (e_ ?_);refine a_ (wpAny_fieldsOf ho hd ?_);refine a_ (Qc jZ j0 T.fits ?_);rw[if_neg (by simp)];dsimp only;have lt:k < (walkOf w S ep es).size:=by rw[vV];exact hk
 refine a_ (m:=S' S _ _ _) ?_;simp only[Pc];refine zy T led hS (PY hk) ?_;rw[l_ lt,map_some];dsimp only;refine a_ (Pr ho hd (by simp) ?_);obtain⟨h1,e1⟩:∃h1,h1=s.heap.update I (Obj.mapFields (·.setIfInBounds 0 (Rb ((slotAt w t (k+1):Nat):Int)))):=⟨_,rfl⟩;have j3:=NZ (Obj.mapFields (·.setIfInBounds 0 (Rb ((slotAt w t (k+1):Nat):Int)))) ho (PF (Ps hd _));have j4:=Ps hd (·.setIfInBounds 0 (Rb ((slotAt w t (k+1):Nat):Int)));have k1:KeptBut I s.heap h1:=λb o ne x=>by rw[e1];exact(Nv _ _ (NH ne)).trans x
 rw[←e1] at j3 ⊢;refine a_ (Pr j3 j4 (by simp) (e_ ⟨_,rfl,e_ (q _ _ (by rw[l_ lt];rfl) ⟨_,NZ _ j3 (PF (Ps j4 _)),?_,?_⟩ λb o ne x=>(Nv _ _ (NH ne)).trans (k1 b o ne x))⟩))
 ·exact((QC ..).trans (QC ..)).trans hc
 ·rw[Ps j4];simp[Rb]
theorem JY(hh:A.handled=none){I:k_}{t:N0}(T:TabOk t es)(led:t.led=!byTx w)(hI:SitAt s.heap I S (slotAt w t es.size) es.size es.size ep)(hS:SetIs s.heap S es ep t){Q:Option b_->c_->Prop}(q:∀h',KeptBut I s.heap h'->Q none { s with heap:=h' }):s_ (t_ prog w) A (PL (.ref I)) Q E s:=by
 have hT:=hI.type;obtain⟨o,ho,hc,hd⟩:=hI;obtain⟨oS,jZ,oy,j0⟩:=id hS;unfold PL;refine a_ (PQ (NL (name:=Q1 "__next__") hT tx (NP tx hT BS ?_ (AX _))));refine a_ (m:=slotArgs "__next__" 0 ⟨[.ref I],[]⟩) (e_ ?_);refine a_ (wpAny_fieldsOf ho hd ?_);refine a_ (Qc jZ j0 T.fits ?_);rw[if_neg (by simp)];dsimp only;refine a_ (m:=S' S _ _ _) ?_;simp only[Pc];refine zy T led hS (v_ _) ?_;rw[OP (by rw[vV];exact v_ _),Option.map_none];dsimp only;refine a_ (Pr ho hd (by simp) ?_);refine N2 (Kh (A:=A.in1) (s:={ s with heap:=_ }) (Q:=Q) hh λh' keep=>q h' λb o ne x=>keep b o ((Nv _ _ (NH ne)).trans x)) (λ_ _ x=>x.elim) λe s' h=>?_
 refine a_ (N2 (wpAny_of_in1 h) (λb fq hb=>?_) λ_ _ x=>x.elim);obtain⟨rfl,hq⟩:=hb;exact e_ hq
theorem HB(hh:A.handled=none){I:k_}(ne:S≠I){t:N0}(T:TabOk t es)(led:t.led=!byTx w):
  Walks prog w A I [I,S] [I] es.size (λk v=>(walkOf w S ep es)[k]?.map (·.2)=some v) (λk h=>SitAt h I S (slotAt w t k) k es.size ep/\SetIs h S es ep t) where
 sub:=λb hb=>by
  rw[r_.mp hb];exact m_
 frame:=λk h h' st keep=>by
  obtain⟨⟨o,a1,a2⟩,⟨o',b1,b2⟩⟩:=st;exact⟨⟨o,keep I (by simp) o a1,a2⟩,⟨o',keep S (by simp) o' b1,b2⟩⟩
 item:=λk s Q E hk st q=>Jl T led st.1 st.2 hk λv h' e si kb=>by
  refine q v h' s.toks e ⟨si,?_⟩ λb o nb x=>kb b o (λz=>nb (by rw[z];simp)) x
  obtain⟨o',b1,b2⟩:=st.2;exact⟨o',kb S o' ne b1,b2⟩
 done:=λs Q E st q=>JY hh T led st.1 st.2 λh' kb=>q h' s.toks λb o nb x=>kb b o (λz=>nb (by rw[z];simp)) x
 self:=λk s Q E st q=>by
  have hT:=st.1.type;exact Sm hT z9 (NP z9 hT KF (e_ ⟨_,rfl, "set_iterator", _,hT,tx.lookup,q⟩) (JQ _))
end
section
variable{prog:A_}{w:I_}{E:b_->c_->Prop}{s:c_}
theorem Jf{xs:Array b_}(h:ItemsOf (λk v=>xs[k]?=some v) ah xs.size):ah=xs:=by
 refine Array.ext h.1 λi h1 h2=>?_
 have:=h.2 i ah[i] (l_ h1)
 change xs[i]?=some ah[i] at this
 rw[l_ h2] at this;exact Eq.symm (Nz this)
theorem Ib{Q:Bool->c_->Prop}(hT:s.TypeIs (.ref S) "set")(q:Q false s):s_ (t_ prog w) A (listLengthHint (.ref S)) Q E s:=by
 unfold listLengthHint;refine a_ (Rq hT F.slot_set_len.lookup ?_);have sp:splitId "set.__len__"=some ("set", "__len__"):=by decide +kernel
 dsimp only;rw[sp];dsimp only;refine a_ (O8 hT sub_set_self ?_);rw[if_neg (by decide)];exact a_ (Sa hT (e_ q))
theorem Iy(hh:A.handled=none){t:N0}(T:TabOk t es)(led:t.led=!byTx w)(hS:SetIs s.heap S es ep t){Q:List b_->c_->Prop}(q:∀h' tk,(∀b o,s.heap.get? b=some o->h'.get? b=some o)->s.heap.objs.size<=h'.objs.size->Q ((walkOf w S ep es).toList.map (·.2)) { s with heap:=h',toks:=tk }):s_ (t_ prog w) A (S7 (.ref S)) Q E s:=by
 have line:64<=C_:=by rw[Of];decide
 have few:es.size<=18:=by have:=T.few;have:=T.sz;omega
 have lL:S < s.heap.objs.size:=by
  obtain⟨o,ho,_⟩:=hS;exact E_ ho
 unfold S7;refine a_ (wpAny_runValue (Oj F.entry_proto_collect ?_));rw[OT F.plain_proto_collect _];refine a_ (m:=newList []) (NC (e_ ⟨Ol Sn _,Oj F.entry_list_iadd ?_⟩));rw[OT Sn _];obtain⟨h1,e1⟩:∃h1,h1=s.heap.push { cls:=.type "list", data:=.seq ([]:List b_).toArray }:=⟨_,rfl⟩;have eG:h1.objs.size=s.heap.objs.size+1:=by rw[e1,OS]
 have ff:∀b o,s.heap.get? b=some o->h1.get? b=some o:=λb o x=>by rw[e1];exact f_ _ x
 have lM:h1.get? s.heap.objs.size=some { cls:=.type "list", data:=.seq ([]:List b_).toArray }:=by rw[e1];exact x_ _ rfl
 rw[←e1]
 have j5:SetIs h1 S es ep t:=by
  obtain⟨o,ho,r⟩:=hS;exact⟨o,ff _ _ ho,r⟩
 have fi:s.heap.objs.size≠S:=Qo lL;show s_ _ A.in1 (listExtendWith (.ref s.heap.objs.size) (.ref S) (.ref s.heap.objs.size)) _ _ { s with heap:=h1 };unfold listExtendWith;refine a_ (Sa (s:={ s with heap:=h1 }) j5.type ?_);rw[if_neg (by simp[Ov.List.listSameRef,fi])];refine a_ (DX (s:={ s with heap:=h1 }) T j5 ?_);obtain⟨I,eI⟩:∃I,I=h1.objs.size:=⟨_,rfl⟩;obtain⟨h2,e2⟩:∃h2,h2=h1.push { cls:=.type "set_iterator", data:=.fields #[.int 0 0,.int 0 0,.ref S,.int es.size 0,.int ep 0] }:=⟨_,rfl⟩;have gA:∀b o,h1.get? b=some o->h2.get? b=some o:=λb o x=>by rw[e2];exact f_ _ x
 have lN:SitAt h2 I S (slotAt w t 0) 0 es.size ep:=⟨_,by rw[e2,eI];exact x_ _ rfl,rfl,by unfold slotAt;split<;>rfl⟩
 have lO:SetIs h2 S es ep t:=by
  obtain⟨o,ho,r⟩:=j5;exact⟨o,gA _ _ ho,r⟩
 show s_ _ _ _ _ _ { s with heap:=h1.push _ };rw[←e2];rw[←eI];refine a_ (NN (Ib (s:={ s with heap:=h2 }) lO.type ?_));rw[if_pos (by decide +kernel)];refine a_ (R0 (a_ (m:=Ov.List.listTouch (.ref s.heap.objs.size)) ?_));have jg:=gA _ _ lM;refine a_ (m:=updateSeq s.heap.objs.size (·.push .none)) (Pg jg rfl ?_ (by simp) (by simp));have jh:=NZ (Rh (·.push b_.none)) jg rfl;refine Pg jh rfl ?_ (by show(#[b_.none]:Array b_).size<=_;simp;omega) (by simp);have ji:=NZ (Rh (·.pop)) jh rfl;obtain⟨h4,e4⟩:∃h4,h4=((h2.update s.heap.objs.size (Rh (·.push b_.none))).update s.heap.objs.size (Rh (·.pop))):=⟨_,rfl⟩;have dS:KeptBut s.heap.objs.size h2 h4:=λb o ne x=>by rw[e4];exact(Nv _ _ (NH ne)).trans ((Nv _ _ (NH ne)).trans x)
 rw[←e4] at ji;show s_ _ _ _ _ _ { s with heap:=J_.update (J_.update h2 _ _) _ _ };rw[←e4];have ii:s.heap.objs.size≠I:=by rw[eI,eG];exact NB (Qg _)
 have lP:S≠I:=by rw[eI,eG];exact NB (Pt lL)
 have W:=(HB (prog:=prog) (w:=w) (A:=A.in1) (ep:=ep) (by exact hh) lP T led).toS;refine e_ ⟨Ol F.plain_extend_loop _,codeAny_extend_loopS W (by omega) s.heap.objs.size (by simp[ii,fi]) _ es.size 0 _ _ _ rfl (NK _) ?_ ji (ItemsOf.nil _) λs' ah c mv here it=>?_⟩
 ·obtain⟨o,a1,a2⟩:=lN;obtain⟨o',b1,b2⟩:=lO;exact⟨⟨o,dS _ _ (NH ii) a1,a2⟩,⟨o',dS _ _ (NH fi) b1,b2⟩⟩
 ·obtain⟨h',g',d',dY,dM⟩:=s';have eg:g'=s.gens:=mv.gens;have ed:d'=s.drawn:=mv.drawn;have eo:dM=s.os:=mv.os;subst eg;subst ed;subst eo;refine a_ (wpAny_load here (e_ ?_));have size:es.size=((walkOf w S ep es).map (·.2)).size:=by rw[Array.size_map,vV]
  have all:ah=(walkOf w S ep es).map (·.2):=Jf (by
   rw[←size];refine⟨it.1,λj v hj=>?_⟩;have:=it.2 j v hj;show((walkOf w S ep es).map (·.2))[j]?=some v;rw[Array.getElem?_map]
   exact this)
  have lt':s.heap.objs.size < h'.objs.size:=E_ here;have:=q h' dY (λb o x=>mv.heap b o (λhb=>?_) (dS b o (NB (E_ x)) (gA _ _ (ff _ _ x)))) (PY lt')
  ·rw[all];simpa using this
  ·have lb:=E_ x
   rcases D_.mp hb with z | z
   ·exact NB lb z
   ·rw[r_.mp z,eI,eG] at lb;exact absurd lb (Nat.not_lt.mpr (SB _))
end
section
variable{prog:A_}{w:I_}{E:b_->c_->Prop}{s:c_}
noncomputable def fresh0(w:I_):Obj:={ cls:=.type "set", dict:=none,data:=.set #[] 0 (.fresh 0 0 (!byTx w)) }
theorem G1(a:b_){Q:b_->c_->Prop}(q:Q (.ref s.heap.objs.size) { s with heap:=s.heap.push (fresh0 w) }):
  Pp (t_ prog w) A (.call (.builtin "set.__new__") ⟨[.type "set", a],[]⟩) (wants Q E) s:=by
 refine codeAny_of_tree (a_ (m:=checkBuiltinCall "set.__new__" ⟨[.type "set", a],[]⟩) (OM (PySem.F.newCall_set_1 a) (e_ ⟨Ol F.plain_set_new _,Oj F.entry_set_new ?_⟩)));rw[OT F.plain_set_new _];unfold Ov.«set.__new__» newClass;have fX:=sub_set_self;obtain⟨hp,g,d,tk,os⟩:=s;dsimp only
 wp_walk
 refine Q_ (e_ (a_ (wpAny_alloc (e_ (e_ q)))))
theorem IZ(w:I_):TabOk (.fresh 0 0 (!byTx w)) #[]:=by
 refine⟨rfl,λi j hi=>?_,rfl,λi hi=>?_,⟨NK _,.inr ⟨rfl,NK _⟩⟩,rfl,λi hi=>?_⟩
 all_goals exact absurd hi (RF _)
variable{H:Hp}
theorem HZ(I0:Inv X aa U H s)(hh:A.handled=none){l:k_}{ai:List b_}(hl:s.heap.IsList l ai.toArray)(hJ:∀d x,Is X.K J d x->Is X.K H d x)(ha:IsA X.K J ds zs)(hv:Vals zs ai)(ok:SetOk ds)(hu:A.units+50 < OC){Q:b_->c_->Prop}(q:∀S s' es,Ext s s'->s.heap.objs.size<=S->SetAt s'.heap S (!byTx w) es->EsOk X J es (dd ds)->Q (.ref S) s'):s_ (t_ prog w) A (call (.type "set") [.ref l]) Q E s:=by
 obtain⟨c,tl,pG⟩:=Pk.mro;have oz:=Pk.made;have fX:=Pk.sub;refine wpAny_call (codeAny_of_tree (e_ ⟨Code.quiet_builtin _ (by decide +kernel),Oj F.entry_type_call ?_⟩));rw[Oe.under_plain (weight_type_call_type "set" [.ref l] []) rfl];have h1:=Pk.notType;have h2:=Pk.canCreate;have qh:=PySem.F.typeCall_set_1 (.ref l)
 repeat any_goals first | assumption | wp_step
 refine O6 (G1 (w:=w) (.ref l) (E:=E) (Q:=λobj aB=>obj=.ref s.heap.objs.size/\aB={ s with heap:=s.heap.push (fresh0 w) }) ⟨rfl,rfl⟩) λr aB hr=>?_
 rcases r with e | fl
 ·exact hr
 cases fl with
 | ret obj =>
  obtain⟨rfl,rfl⟩:=hr;have hS:(s.heap.push (fresh0 w)).get? s.heap.objs.size=some (fresh0 w):=x_ _ rfl;have hT:c_.TypeIs { s with heap:=s.heap.push (fresh0 w) } (.ref s.heap.objs.size) "set":=⟨_,hS,rfl⟩;have k7:=Pk.init.lookup;have qi:=Pk.init.bind (.ref s.heap.objs.size)
  repeat any_goals first | assumption | wp_step
  refine O6 (codeAny_call_builtin (R:=wants (λr dL=>r=.none/\∃es,Ext s dL/\SetAt dL.heap s.heap.objs.size (!byTx w) es/\EsOk X J es (dd ds)) E) Pk.init.plain F.entry_set_init (check_set_init_1 hT ?_)) λlR dL eH=>?_
  ·obtain⟨ol,lU,fv,nl,lV⟩:=hl;have lW:l < s.heap.objs.size:=E_ lU;obtain⟨pH,j6,oA,ij⟩:=ol;simp only at fv lV;subst fv;subst lV;have jj:(s.heap.push (fresh0 w)).get? l=some { cls:=.type "list", dict:=j6,data:=.seq ai.toArray nl,slots:=ij }:=f_ _ lU;have pI:=PySem.F.sub_list_set;have pJ:=PySem.F.sub_list_frozenset;have dA:(type "list" == type "dict")=false:=(by decide);have cT:(s.heap.push (fresh0 w)).IsList l ai.toArray:=⟨_,jj,rfl,nl,rfl⟩;obtain⟨h1,e1⟩:∃h1,h1=s.heap.push (fresh0 w):=⟨_,rfl⟩;have eG:h1.objs.size=s.heap.objs.size+1:=by rw[e1,OS]
   have ff:∀b o,s.heap.get? b=some o->h1.get? b=some o:=λb o x=>by rw[e1];exact f_ _ x
   rw[←e1] at hS jj cT;show s_ _ _ _ _ _ { s with heap:=s.heap.push (fresh0 w) };rw[←e1];have oB:h1.get? s.heap.objs.size=some { cls:=.type "set", dict:=none,data:=.set #[] 0 (.fresh 0 0 (!byTx w)) }:=hS;unfold Ov.«set.__init__» noKeywords updateFrom;generalize hPI:RW=PI
   wp_walk
   subst hPI;refine Ox (s:={ s with heap:=h1 }) cT (a_ (wpAny_runValue ?_));have ii:l≠h1.objs.size:=by rw[eG];exact NB (Pt lW)
   refine Fx (s0:=s) (led:=!byTx w) I0 (v_ _) (by rw[eG];exact SB _) (R4 (by exact hh) h1.objs.size l ii ai.toArray) ?_ hJ ha ok (by rw[n_,←hv.length,←ha.length]) (λi v hi=>?_) (by show A.units+1+1+20 < _;omega) _ 0 _ rfl (NK _) ?_ ?_ ?_ λs' es ex sa eo=>?_
   ·rw[eG];intro hm
    rcases D_.mp hm with z | z
    ·exact absurd z (NB (Qg _))
    ·exact absurd (r_.mp z) (Qo lW)
   ·have bj:ai[i]?=some v:=by simpa using hi
    have li:i < zs.length:=by
     rw[hv.length]
     rcases Qu i ai.length with z | z
     ·exact z
     ·rw[O7 z] at bj;cases bj
    obtain⟨u,e3,e4⟩:=hv.get (g_ li);rw[bj] at e3;cases e3;exact⟨_,g_ li,e4⟩
   ·exact⟨_,s.toks,rfl,λb o x=>f_ _ (ff b o x)⟩
   ·exact⟨⟨_,x_ _ rfl,rfl,rfl⟩,cT.push _⟩
   ·refine⟨#[],⟨_,0,_,f_ _ oB,rfl,rfl,IZ w,rfl⟩,rfl,λe he=>?_,λd hd=>?_⟩
    ·simp at he
    ·cases hd
   ·exact e_ (e_ ⟨rfl,es,ex,sa,eo⟩)
  ·rcases lR with e | j7
   ·exact eH
   ·cases j7 with
    | ret r =>
     obtain⟨rfl,es,e1,e2,e3⟩:=eH
     repeat any_goals first | assumption | wp_step
     exact q _ _ es e1 (v_ _) e2 e3
    | _=>exact eH.elim
 | _=>exact hr.elim
end
theorem IsA.up{K:PySem.W.Frag}{J H:Hp}(h:∀d x,Is K J d x->Is K H d x):∀{ds:List D}{zs:List V},IsA K J ds zs->IsA K H ds zs
 | [],zs,a=>by rw[a.nil_inv];exact IsA.nil
 | d::ds,zs,a=>by
  obtain⟨x,r,rfl,h1,h2⟩:=a.cons_inv;exact IsA.cons (h _ _ h1) (IsA.up h h2)
section
variable{H:Hp}{s:c_}
theorem xy{α:Type}:∀(l m:List α),l.Nodup->(∀x∈l,x∈m)->m.length<=l.length->l.Perm m
 | [],m,_,_,h=>by rw[N_.mp (Nat.le_zero.mp h)]
 | x::l,m,nd,h,len=>by
  obtain⟨a,b,rfl⟩:=R5 (h x m_);rw[N9] at nd
  have p:=xy l (a++b) nd.2 (λy hy=>by
   have:=h y (j_ _ hy)
   rcases L_.mp this with z | z
   ·exact(NI _ z)
   ·rcases D_.mp z with z | z
    ·subst z;exact absurd hy nd.1
    ·exact F_ _ z) (by simp at len ⊢;omega)
  exact(p.cons x).trans List.perm_middle.symm
theorem Ap:∀(ds ah:List D),ah.Nodup->(ds.foldl dstep ah).Nodup
 | [],ah,h=>h
 | d::ds,ah,h=>by
  refine Ap ds _ ?_;unfold dstep;split
  ·exact h
  ·rename_i no;rw[Rn];refine⟨h,by simp,λa ha b hb e=>?_⟩;rw[r_.mp hb] at e;subst e;exact no (N5.mpr ⟨a,ha,uN a⟩)
theorem Ch(ds:List D):(dd ds).Nodup:=Ap ds [] RN
theorem Dv{l m:List D}(p:l.Perm m)(cm:cmAll l=true):sortD l=sortD m:=by
 refine uO _ _ ((tG l).trans (p.trans (tG m).symm)) (ut l) (ut m) λa ha b hb h1 h2=>?_
 have c:=q_.mp (q_.mp cm a ((tG l).mem_iff.mp ha)) b ((tG l).mem_iff.mp hb);refine um a b c ?_;rw[sY a b c];unfold leD at h1 h2;rw[h1,h2];rfl
theorem Ag{n:Nat}:∀{xs:List D},(∀x∈xs,dep x<=n)->depA xs<=n
 | [],_=>by rw[depA];exact NK _
 | x::xs,h=>by
  rw[depA];exact Nat.max_le.mpr ⟨h x m_,Ag λy hy=>h y (j_ _ hy)⟩
theorem CJ{J:Hp}{M:List D}:∀(L:List (Int×b_)),(∀e∈L,∃d∈M,Stn X J e d)->∃ds zs,IsA X.K J ds zs/\Vals zs (L.map (·.2))/\ds.length=L.length/\(∀d∈ds,d∈M)/\∀e∈L,∃d∈ds,Stn X J e d
 | [],_=>⟨[],[],IsA.nil,.nil,rfl,λd hd=>(by cases hd),λe he=>(by cases he)⟩
 | e::L,h=>by
  obtain⟨ds,zs,a1,a2,a3,a4,a5⟩:=CJ L λe he=>h e (j_ _ he)
  obtain⟨d,m,q⟩:=h e m_;obtain⟨_,x,q1,q2⟩:=id q;refine⟨d::ds,x::zs,IsA.cons q1 a1,.cons q2 a2,by simp[a3],λd' ck=>?_,λe' dU=>?_⟩
  ·rcases D_.mp ck with z | z
   ·rw[z];exact m
   ·exact a4 d' z
  ·rcases D_.mp dU with z | z
   ·rw[z];exact⟨d,m_,q⟩
   ·obtain⟨d',m',q'⟩:=a5 e' z;exact⟨d',j_ _ m',q'⟩
theorem Kv(hu:X.A.units+100 < OC)(hh:X.A.handled=none)(I:Inv X aa U H s){p:k_}(hJ:∀d x,Is X.K J d x->Is X.K H d x)(hq:SqL X.K H p zs)(ha:IsA X.K J ds zs)(ok:SetOk ds)(kd:ds.all fstI=true\/ds.all fstT=true){Q:VK}(k:∀l ec,IsA X.K J (sortD (dd ds)) ec->H l=none->Q (.ref l) (upd H l (.lst ec))):
  s_ (t_ X.prog X.w) X.A (call (.type "set") [.ref p]) (λv s'=>s_ (t_ X.prog X.w) X.A (call (.builtin "sorted") [v]) (EP X aa U Q) X.xe s') X.xe s:=by
 obtain⟨ae,rv,t,hz⟩:=I.list hq;refine HZ I hh t.isList hJ ha rv ok (by omega) λS s' es ex le sa eo=>?_
 have I':=ex.inv I;obtain⟨cm,ky,ti,dp,few⟩:=ok;obtain⟨o,ep,tb,ho,hc,hd,T,led⟩:=sa
 obtain⟨dR,ec,a1,a2,a3,a4,a5⟩:=CJ (X:=X) (J:=J) (M:=dd ds) (walkOf X.w S ep es).toList λe he=>eo.2.1 e (by
  have:=(wM X.w S ep es).mem_iff.mp he
  simpa using this)
 have tt:∀d∈dd ds,isT d=true:=λd hd=>q_.mp ti _ (u4 hd)
 have pm:(dd ds).Perm dR:=by
  refine xy _ _ (Ch ds) (λd hd=>?_) (by rw[a3,NU,vV,eo.1];exact v_ _);obtain⟨e,m,q⟩:=eo.2.2 d hd;obtain⟨d',m',q'⟩:=a5 e ((wM X.w S ep es).mem_iff.mpr (by simpa using m));have:=Stn.det I' (tt d hd) (tt d' (a4 d' m')) (q.up hJ) (q'.up hJ);rw[this];exact m'
 have sub:∀d∈dR,d∈ds:=λd hd=>u4 (a4 d hd)
 have ig:cmAll dR=true:=q_.mpr λa oC=>q_.mpr λb oD=>q_.mp (q_.mp cm a (sub a oC)) b (sub b oD)
 have oE:IsA X.K H dR ec:=IsA.up hJ a1;refine Ck hu I' oE a2 ⟨by have:=pm.length_eq;omega,ig,z_ (Ag λx hx=>se (sub x hx)) (by omega),?_⟩ (λQ' q=>Iy (A:=X.A.in1) (by exact hh) T led ⟨o,ho,hc,hd⟩ q) λl q hp e hl=>k l _ ?_ hl
 ·rcases kd with z | z
  ·exact .inr (.inl (q_.mpr λx hx=>q_.mp z x (sub x hx)))
  ·exact .inr (.inr (q_.mpr λx hx=>q_.mp z x (sub x hx)))
 ·rw[←Dv pm.symm ig,←e];exact a1.perm hp
end
section
variable{B:BB}{kr:Nat}
def rSS(X:Cx)(xs:List V)(H:Hp)(Q:VK):Prop:=∃(p:k_) (zs:List V) (ds:List D) (J:Hp),xs=[.ref p]/\SqL X.K H p zs/\IsA X.K J ds zs/\(∀d x,Is X.K J d x->Is X.K H d x)/\SetOk ds/\(ds.all fstI=true\/ds.all fstT=true) ∧
 ∀l ec,IsA X.K J (sortD (dd ds)) ec->H l=none->Q (.ref l) (upd H l (.lst ec))
theorem EY{p:Pos}{t:TA}(hr:Room kr X.A)(hg:Gl X "sorted")(hm:X.mg "sorted"=none)(j8:Gl X "set")(fx:X.mg "set"=none)(ha:PA X [e] t)(he:d_ [e] X.env=(false,Nr e X.env)::d_ [] X.env:=by rfl)(dU:d_ [.Call (.Name "set" p') [e] [] aH] X.env=(false,Nr (.Call (.Name "set" p') [e] [] aH) X.env)::d_ [] X.env:=by rfl)(aG:∀pos,(ND pos (d_ [] X.env)).any (·.1)=false:=by intros;rfl):
  PE X (.Call (.Name "sorted" p) [.Call (.Name "set" p') [e] [] aH] [] pos) (tCB (rSS X) t):=by
 intro aa s U H Q I h;refine ON (rS I hg hm boot_sorted (PM ?_ dU (aG _)) (by decide) (by decide));rw[dU];refine Qq (ON (rS I j8 fx boot_set (Nt ?_ he (aG _)) (by decide) (by decide)));refine thn (ha aH aa s U H _ I h) λus s1 ⟨vs,H1,I1,r1,p,zs,ds,J,e1,q1,q2,q3,q4,q5,q6⟩=>?_
 subst e1;obtain⟨u,rfl,ru⟩:=vals1 r1;cases ru;exact thn (Kv (hu100 hr) hr.hd I1 q3 q1 q2 q4 q5 q6) λv s2 q=>Qz q
noncomputable def setF(ds:List D):Option (List D):=match ds with
 | [.lst xs]=>if(cmAll xs=true/\xs.all kyB=true/\xs.all isT=true/\depA xs<=8/\(dd xs).length<=18)/\(xs.all fstI=true\/xs.all fstT=true) then some (sortD (dd xs)) else none
 | _=>none
theorem FQ{p:Pos}(hr:Room kr X.A)(hg:Gl X "sorted")(hm:X.mg "sorted"=none)(j8:Gl X "set")(fx:X.mg "set"=none)(ha:AD X B [e] t)(he:d_ [e] X.env=(false,Nr e X.env)::d_ [] X.env:=by rfl)(dU:d_ [.Call (.Name "set" p') [e] [] aH] X.env=(false,Nr (.Call (.Name "set" p') [e] [] aH) X.env)::d_ [] X.env:=by rfl)(aG:∀pos,(ND pos (d_ [] X.env)).any (·.1)=false:=by intros;rfl):
  EO X B (.Call (.Name "sorted" p) [.Call (.Name "set" p') [e] [] aH] [] pos) (fn1 setF t):=PE.imp (EY hr hg hm j8 fx ha he dU aG) (yF λds d e B G I H U Y xs Q r h k=>by
 unfold setF at e;split at e
 ·obtain⟨ok,rfl⟩:=rm e;obtain⟨x,rfl,hx⟩:=h.one;obtain⟨q,zs,rfl,h3,h4⟩:=qR hx;exact⟨q,zs,_,I,rfl,(Same.rdK r.iH h3).sq,h4,λd x hx=>hx.mono r.iH,ok.1,ok.2,λl ec hz hl=>k.new r hl hz⟩
 ·cases e)
end
end DL
namespace DL
open PySem PySem.W PySem.Spec PyProof.Rows L2
section
variable{B:BB}{a:Ny}{ga:M D}{kr:Nat}
noncomputable def inN(neg:Bool)(i:Nat)(g:M D):M D:=bnd g λd=>bnd (look i) λl=>lft (inF neg d l)
theorem z0{K:PySem.W.Frag}:∀U H Q,tD K B (inN neg i ga) U H Q->tOp (rInD K neg) (tD K B ga) (tVar i) U H Q:=λU H Q q=>by
 obtain⟨G,I,Y,d,af,r,e1,k⟩:=q;obtain⟨n,ac,e2,e3⟩:=qE e1;obtain⟨l,ag,e4,e5⟩:=qE e3;obtain⟨e6,rfl⟩:=qN e5;refine⟨G,I,Y,n,ac,r,e2,λv H1 I1 r1 g1 hn=>?_⟩;obtain⟨rfl,p,xs,ds,rfl,f1,f2,f3⟩:=uk e4 r1;obtain⟨hd,rfl⟩:=rm e6;exact⟨.ref p,f1,n,ds,hn.mono r1.iH,.inl (Is.lst (RdK.of f2) (f3.mono r1.iH)),hd,(k.after g1).now r1 (Is.bl _)⟩
theorem Iu(hr:Room kr X.A)(ha:ED X B a ga)(hv:PE X (.Name x p1) (tVar i)):TD X B (.Compare a [.In] [.Name x p1] pos) (tst (inN false i ga)):=PT.imp (vL (BL (hu100 hr)) ha hv rfl) (tX z0)
theorem Es(hr:Room kr X.A)(ha:ED X B a ga)(hv:PE X (.Name x p1) (tVar i)):TD X B (.Compare a [.NotIn] [.Name x p1] pos) (tst (inN true i ga)):=PT.imp (vL (BN (hu100 hr)) ha hv rfl) (tX z0)
end
section
variable{B:BB}{c:Ny}{body:List NO}{gb:M Fl}
noncomputable def whlS:Nat->M Bool->M Fl->M Fl
 | 0,_,_=>λ_=>none
 | n+1,c,b=>bnd c λk=>if k=true then bnd b λf=>match f with
   | .nx=>whlS n c b
   | .ct=>whlS n c b
   | .bk=>ret .nx
   | .rt r=>ret (.rt r)
  else ret .nx
theorem Kp(hp:QX (t_ X.prog X.w) X.A X.env X.xe)(hc:TD X B c gc)(hb:SDs X B body gb):SD X B (.While c body [] pos) (whlS n gc gb):=PS.imp (Ie hp hc hb) λE U H q=>by
 obtain⟨G,I,Y,f,af,r,e1,k⟩:=q;refine⟨λm U H=>∃I2 ag,Rep X.K B G I2 H U ag/\Grow G I I2/\whlS m gc gb ag=some (f,af),⟨n,I,Y,r,Grow.refl _ _,e1⟩,?_⟩;rintro m a9 H2 ⟨I2,ag,r2,g2,e2⟩;cases m with
 | zero=>cases e2
 | succ m =>
  obtain⟨b,aL,e3,e4⟩:=qE e2;refine⟨G,I2,ag,b,aL,r2,e3,λH3 I3 r3 g3=>?_⟩;cases b with
  | true =>
   rw[if_pos rfl] at e4 ⊢;obtain⟨fl,aS,e5,e6⟩:=qE e4;refine⟨λam H'=>∃I4,Rep X.K B G I4 H' am aS/\Grow G I I4/\(fl=.nx\/fl=.ct),λam H' ⟨I4,r4,g4,hf⟩=>⟨m,Qg m,I4,aS,r4,g4,?_⟩,G,I3,aL,fl,aS,r3,e5,λcY H5 I5 r5 g5=>?_⟩
   ·rcases hf with rfl | rfl<;>exact e6
   ·have gg:Grow G I I5:=g2.trans (g3.trans g5);cases fl with
    | nx=>exact⟨I5,r5,gg,.inl rfl⟩
    | ct=>exact⟨I5,r5,gg,.inr rfl⟩
    | bk=>cases e6;exact k cY H5 I5 r5 gg
    | rt v=>cases e6;exact k cY H5 I5 r5 gg
  | false =>
   rw[if_neg i_] at e4 ⊢;cases e4;exact k a9 H3 I3 r3 (g2.trans g3)
end
section
variable{B:BB}{g:M (List D)}
noncomputable def setY(i:Nat)(g:M (List D)):M Fl:=bnd g λd=>bnd (putS i (.fro d)) λ_=>ret .nx
theorem BQ{K:PySem.W.Frag}:∀E U H,tS K B (setY i g) E U H->tAsg (tO K B g) (gName i) E U H:=λE U H q=>by
 obtain⟨G,I,Y,f,af,r,e1,k⟩:=q;obtain⟨d1,ac,e2,e3⟩:=qE e1;obtain⟨d2,ag,e4,e5⟩:=qE e3;cases e5;obtain⟨hl,rfl⟩:=tF e4;exact⟨G,I,Y,d1,ac,r,e2,λp xs H1 I1 r1 g1 h1 h2 h3 h4 h5=>k _ H1 _ ((r1.freeze h1 h2 h4).store (by rw[r1.len];exact hl) ⟨p,xs,rfl,qQ,h3,h5.mono (rl h2 _)⟩ (λm=>nomatch m) (λ_ z=>nomatch z)) (g1.trans (growFreeze h2 h3))⟩
theorem Dk(hN:X.N.Nodup)(he:EO X B e g)(hi:X.N[i]?=some x:=by rfl)(hx:locB X.env.scope x=true:=by rfl)(hs:N8 e (some (.Name x aH)) pos.line X.env=pure false:=by rfl)(hf:fnB X x=true:=by rfl):SD X B (.Assign [.Name x aH] e pos) (setY i g):=PS.imp (vT hN hi (locI hx) he hs (fnI hf)) BQ
noncomputable def froS(j:Nat):M (List D):=λY=>match Y[j]? with
 | some (some (.fro ds))=>some (ds,Y)
 | _=>none
theorem AB(h:froS j Y=some (ds,af)):af=Y/\Y[j]?=some (some (.fro ds)):=by
 unfold froS at h;split at h
 ·rename_i e;cases h;exact⟨rfl,e⟩
 ·cases h
noncomputable def cpS(i j:Nat):M Fl:=bnd (froS j) λd=>bnd (putS i (.fro d)) λ_=>ret .nx
theorem zt{p:Pos}(hN:X.N.Nodup)(he:PE X (.Name y p) (tVar j))(hi:X.N[i]?=some x:=by rfl)(hx:locB X.env.scope x=true:=by rfl)(hs:N8 (.Name y p) (some (.Name x aH)) pos.line X.env=pure false:=by rfl)(hf:fnB X x=true:=by rfl):SD X B (.Assign [.Name x aH] (.Name y p) pos) (cpS i j):=PS.imp (vT hN hi (locI hx) he hs (fnI hf)) λE U H q=>by
 obtain⟨G,I,Y,f,af,r,e1,k⟩:=q;obtain⟨d1,ac,e2,e3⟩:=qE e1;obtain⟨d2,ag,e4,e5⟩:=qE e3;cases e5;obtain⟨hl,rfl⟩:=tF e4;obtain⟨rfl,aT⟩:=AB e2;obtain⟨v,h1,h2⟩:=r.slot j _ aT;exact⟨v,h1,k _ H I (r.store (by rw[r.len];exact hl) h2 (λm=>nomatch m) (λ_ z=>nomatch z)) (Grow.refl _ _)⟩
noncomputable def retY(j:Nat):M Fl:=bnd (froS j) λd=>ret (.rt (.fro d))
theorem EN{p:Pos}(he:PE X (.Name y p) (tVar j)):SD X B (.Return (some (.Name y p)) pos) (retY j):=PS.imp (u0 he) λE U H q=>by
 obtain⟨G,I,Y,f,af,r,e1,k⟩:=q;obtain⟨d1,ac,e2,e3⟩:=qE e1;cases e3;obtain⟨rfl,aT⟩:=AB e2;obtain⟨v,h1,h2⟩:=r.slot j _ aT;exact⟨v,h1,k U H I r (Grow.refl _ _) v h2⟩
end
section
variable{B:BB}{bm:Ny}{N':List Str}
theorem Jx(S:CompScope X.env.scope scope X.N N' m)(hc:X.calm=true)(hN:X.N.Nodup)(hi:ITD X B tg iter it)(hg:∀C s H ex,GD (cxC X scope N' C s H ex) (bUp m B) m tg aE)(ht:∀C s H ex,TDs (cxC X scope N' C s H ex) (bUp m B) aZ ts)(he:∀C s H ex,ED (cxC X scope N' C s H ex) (bUp m B) bm el)(bj:X.N[i]?=some y:=by rfl)(hy:X.env.scope.names.lookup y=some .local:=by rfl)(eA:N8 (.ListComp bm [⟨tg,iter,aZ,0⟩] scope pos) (some (.Name y py)) bM.line X.env=pure true:=by rfl)(hs:∀x,NR iter X.env x=pure x:=by intros;rfl):SD X B (.Assign [.Name y py] (.ListComp bm [⟨tg,iter,aZ,0⟩] scope pos) bM) (setY i (compO m it aE ts el)):=PS.imp (yM (g:=tGD X.K (bUp m B) m aE) (tt:=tTD X.K (bUp m B) ts) (te:=tD X.K (bUp m B) el) S hc hN bj hy hi hg ht he eA hs) λE U H q=>by
 have z:=BQ E U H q;exact vg U H _ z
end
end DL
namespace DL
open PySem
end DL
namespace DL
open PySem PySem.W PySem.Spec PyProof.Rows L2
section
variable{B:BB}{c:Ny}{st:NO}{ss sa sb body:List NO}{g h:M Fl}{tc:M Bool}{ga:M D}
@[irreducible] def SI(X:Cx)(B:BB)(st:NO)(g:M Fl):Prop:=SD X B st g
@[irreducible] def SIs(X:Cx)(B:BB)(ss:List NO)(g:M Fl):Prop:=SDs X B ss g
theorem pV(k:SD X B st g):SI X B st g:=by unfold SI;exact k
theorem qP(k:SIs X B ss g):SDs X B ss g:=by unfold SIs at k;exact k
theorem qU:SIs X B [] (ret .nx):=by unfold SIs;exact E7
theorem qF(k:SI X B st g):SIs X B [st] g:=by unfold SI at k;unfold SIs;exact FO k
theorem kB(k:SI X B st g)(t:SIs X B ss h):SIs X B (st::ss) (seqS g h):=by unfold SI at k;unfold SIs at t ⊢;exact KR k t
theorem qV(hc:TD X B c tc)(ha:SIs X B sa g)(hb:SIs X B sb h):SI X B (.If c sa sb pos) (ifS tc g h):=by unfold SIs at ha hb;unfold SI;exact FI hc ha hb
theorem rj(hp:QX (t_ X.prog X.w) X.A X.env X.xe)(hc:X.calm=true)(hi:ITD X B tg iter it)(hg:GD X B m tg aE)(hb:SIs X B body g)(hs:∀x,NR iter X.env x=pure x:=by intros;rfl):SI X B (.For tg iter body [] pos) (forS it aE g):=by unfold SIs at hb;unfold SI;exact IM hp hc hi hg hb hs
theorem BY(hp:QX (t_ X.prog X.w) X.A X.env X.xe)(hc:TD X B c gc)(hb:SIs X B body g):SI X B (.While c body [] pos) (whlS n gc g):=by unfold SIs at hb;unfold SI;exact Kp hp hc hb
theorem qK(hN:X.N.Nodup)(he:ED X B e ga)(hi:X.N[i]?=some x:=by rfl)(hx:locB X.env.scope x=true:=by rfl)(hs:N8 e (some (.Name x aH)) pos.line X.env=pure false:=by rfl)(hf:fnB X x=true:=by rfl):SI X B (.Assign [.Name x aH] e pos) (setV i ga):=by unfold SI;exact DQ hN he hi hx hs hf
end
section
variable{B:BB}{a st:Ny}{es:List Ny}
noncomputable def lastF(d:D):Option D:=match d with
 | .lst ds=>ds[ds.length - 1]?
 | _=>none
noncomputable def popV(i:Nat):M D:=mutS i (bnd (look i) λl=>bnd (lft (lastF l)) λd=>bnd (wr i λds=>some ds.dropLast) λ_=>ret d)
theorem IsA.dropLast{K:PySem.W.Frag}(h:IsA K I ds xs):IsA K I ds.dropLast xs.dropLast:=by
 rw[Ru,Ru,←h.length];exact h.take _
theorem zP(hv:PE X (.Name x p1) (tVar i))(ba:OB (.Name x p1) "pop" X.env (Nr (.Name x p1) X.env)=Nr (.Name x p1) X.env:=by rfl)(bb:(aK.endLine == aC.line)=true:=by rfl):
  ED X B (.Call (.Attribute (.Name x p1) "pop" aK) [] [] aC) (popV i):=
 PE.imp (zv OR PySem.F.slot_list_pop PySem.F.type_list_pop Kr hv ba bb) λU H Q q=>by
  obtain⟨G,I,Y,d,af,r,e1,k⟩:=q;obtain⟨hm,e1⟩:=sD e1;obtain⟨l,ac,e2,e3⟩:=qE e1;obtain⟨d',ag,e4,e5⟩:=qE e3;obtain⟨u,aL,e6,e7⟩:=qE e5;obtain⟨e8,rfl⟩:=qN e4;clear e4;cases e7;obtain⟨rfl,p,xs,ds,rfl,h1,h2,h3⟩:=uk e2 r;obtain⟨p',bG,cs,es',h4,h5,h6,h7,h8⟩:=uI e6 r;have hp:p'=p:=by rw[h1] at h4;cases h4;rfl
  subst hp;rw[h2] at h5;cases h5;cases h7;unfold lastF at e8;obtain⟨v,hv1,hv2⟩:=h3.get e8;rw[h3.length] at hv1;exact⟨_,h1,.inl ⟨rfl,xs,SqL.of h2⟩,p',xs,v,rfl,rfl,h2,hv1,k v _ I (h8 _ h6.dropLast) (Grow.refl _ _) hv2⟩
end
end DL
namespace DL
open PySem PySem.W PySem.Spec PyProof.Rows L2
open PySem.SeqAt
open PySem.AutoSeq1 (wpAny_loadPart')
open PySem.MeetsSeq PySem.MeetsSeq2 PySem.MeetsSeq3
end DL
namespace DL
open PySem PySem.W PySem.Spec PyProof.Rows L2
end DL
namespace DL
open PySem PySem.W PySem.Spec PyProof.Rows L2
open PySem.SeqAt
open PySem.AutoSeq1 (wpAny_loadPart')
open PySem.MeetsSeq PySem.MeetsSeq2 PySem.MeetsSeq3
noncomputable def isStar:Ny->Bool
 | .Starred ..=>true
 | _=>false
theorem HR{aj:List Ny}(h:isStar e=false):d_ (e::aj) env=(false,Nr e env)::d_ aj env:=by
 cases e<;>first | rfl | (simp[isStar] at h)
theorem f'{B:BB}{es:List Ny}{g:M D}(ha:ED X B e g)(hr:AD X B es t)(h:isStar e=false):AD X B (e::es) (consA g t):=Ee ha hr (HR h)
end DL
namespace DL
open PySem PySem.Spec PyProof.Rows L2
noncomputable def kAll(f:Ny->Option (M D)):List Ny->Option (M (List D))
 | []=>some nilA
 | e::es=>match f e with
  | some g=>match kAll f es with
   | some t=>some (consA g t)
   | none=>none
  | none=>none
noncomputable def kM:Nat->Ny->Option (M D)
 | 0,_=>none
 | n+1,e=>match e with
  | .Constant (.int i) _ _=>some (ret (.int i))
  | .Constant (.bool b) _ _=>some (ret (.bl b))
  | .Constant .none _ _=>some (ret .non)
  | .Constant (.str x) _ _=>some (ret (.str x))
  | .UnaryOp .USub a _=>match kM n a with
   | some g=>some (un1 negI g)
   | none=>none
  | .BinOp a .Pow b _=>match kM n a with
   | some g=>match kM n b with
    | some h=>some (op2 powI g h)
    | none=>none
   | none=>none
  | .Tuple es _ _=>match kAll (kM n) es with
   | some t=>some (tupA t)
   | none=>none
  | .List es _=>match kAll (kM n) es with
   | some t=>some (frz (lstA t))
   | none=>none
  | _=>none
section
variable{B:BB}
theorem vc{f:Ny->Option (M D)}(hf:∀e g,f e=some g->ED X B e g/\isStar e=false):∀(es:List Ny) (t:M (List D)),kAll f es=some t->AD X B es t
 | [],t,h=>by cases h;exact gx
 | e::es,t,h=>by
  rw[kAll] at h;split at h
  ·rename_i g hg;split at h
   ·rename_i t' ht;cases h;obtain⟨h1,h2⟩:=hf e g hg;exact f' h1 (vc hf es t' ht) h2
   ·cases h
  ·cases h
theorem tP:∀(n:Nat) (e:Ny) (g:M D),kM n e=some g->ED X B e g/\isStar e=false
 | 0,_,_,h=>by cases h
 | n+1,e,g,h=>by
  unfold kM at h;split at h
  ·cases h;exact⟨gV,rfl⟩
  ·cases h;exact⟨uJ,rfl⟩
  ·cases h;exact⟨sB,rfl⟩
  ·cases h;exact⟨rM,rfl⟩
  ·split at h
   ·rename_i g' hg;cases h;exact⟨yE (tP n _ _ hg).1,rfl⟩
   ·cases h
  ·split at h
   ·rename_i g' hg;split at h
    ·rename_i g2 cw;cases h;exact⟨xY (tP n _ _ hg).1 (tP n _ _ cw).1,rfl⟩
    ·cases h
   ·cases h
  ·split at h
   ·rename_i t ht;cases h;exact⟨qT (vc (tP n) _ _ ht),rfl⟩
   ·cases h
  ·split at h
   ·rename_i t ht;cases h;exact⟨qI (qM (vc (tP n) _ _ ht)),rfl⟩
   ·cases h
  ·cases h
theorem sd{e1 e2 e3 e4:Ny}{es:List Ny}{g1 g2 g3 g4:M D}(h1:ED X B e1 g1)(h2:ED X B e2 g2)(h3:ED X B e3 g3)(h4:ED X B e4 g4)(hr:AD X B es t)(s1:isStar e1=false)(s2:isStar e2=false)(s3:isStar e3=false)(s4:isStar e4=false):AD X B (e1::e2::e3::e4::es) (consA g1 (consA g2 (consA g3 (consA g4 t)))):=
 f' h1 (f' h2 (f' h3 (f' h4 hr s4) s3) s2) s1
theorem ad_k{es:List Ny}(h:kAll (kM 9) es=some t):AD X B es t:=vc (tP 9) es t h
end
end DL
namespace DL
open PySem PySem.W PySem.Spec PyProof.Rows L2 PySem.SetTable
end DL
namespace DL
open PySem PySem.W PySem.Spec PyProof.Rows L2
section
variable{B:BB}
noncomputable def pkF(as:List D)(l:D):Option D:=match as,l with
 | [.int n],.lst ds=>if 0<=n/\n < 1000000 then ds[n.toNat]? else none
 | _,_=>none
noncomputable def ersF(as:List D)(ds:List D):Option (List D):=match as with
 | [.int n]=>some (ds.eraseIdx n.toNat)
 | _=>none
noncomputable def popAt(i:Nat)(t:M (List D)):M D:=mutS i (bnd t λas=>bnd (look i) λl=>bnd (lft (pkF as l)) λd=>bnd (wr i (ersF as)) λ_=>ret d)
theorem IsA.eraseIdx{K:PySem.W.Frag}{I:Hp}:∀{ds:List D}{xs:List V} (n:Nat),IsA K I ds xs->IsA K I (ds.eraseIdx n) (xs.eraseIdx n)
 | [],xs,n,h=>by rw[h.nil_inv];exact IsA.nil
 | d::ds,xs,n,h=>by
  obtain⟨x,r,rfl,h1,h2⟩:=h.cons_inv;cases n with
  | zero=>exact h2
  | succ n=>exact IsA.cons h1 (IsA.eraseIdx n h2)
theorem Gi(hv:PE X (.Name x p1) (tVar i))(ha:AD X B [e] t)(ba:OB (.Name x p1) "pop" X.env (Nr (.Name x p1) X.env)=Nr (.Name x p1) X.env:=by rfl)(cf:((ND aC (d_ [e] X.env)).all (λx=>!x.1)&&(Sc aC (QA [] X.env)).all (λx=>x.1.isSome)&&decide ([e].length+([]:List Qe).length+(if([]:List Qe).isEmpty then 0 else 1) < 30))=true:=by rfl)(bb:(aK.endLine == aC.line)=true:=by rfl)(cX:d_ [e] X.env=(false,Nr e X.env)::d_ [] X.env:=by rfl)(bu:(ND aC (d_ [] X.env)).any (·.1)=false:=by rfl):
  ED X B (.Call (.Attribute (.Name x p1) "pop" aK) [e] [] aC) (popAt i t):=
 PE.imp (vk OR PySem.F.slot_list_pop PySem.F.type_list_pop Fq hv ha ba cf bb cX bu) λU H Q q=>by
  obtain⟨G,I,Y,d,af,r,e1,k⟩:=q;obtain⟨hm,e1⟩:=sD e1;obtain⟨as,aO,f1,f2⟩:=qE e1;obtain⟨p,xs,h1,h2⟩:=sy hm r;refine⟨_,h1,.inl ⟨rfl,xs,SqL.of h2⟩,G,I,Y,as,aO,r,f1,λvs H1 I1 r1 g1 hd=>?_⟩;obtain⟨l,ac,e2,e3⟩:=qE f2;obtain⟨d',ag,e4,e5⟩:=qE e3;obtain⟨u,aL,e6,e7⟩:=qE e5;obtain⟨e8,rfl⟩:=qN e4;clear e4;cases e7;obtain⟨rfl,p2,fu,ds,rfl,i1,i2,i3⟩:=uk e2 r1;obtain⟨p',bG,cs,es',h4,h5,h6,h7,h8⟩:=uI e6 r1;have hp:p'=p:=by rw[h1] at h4;cases h4;rfl
  subst hp;have dy:p2=p':=by rw[h1] at i1;cases i1;rfl
  subst dy;rw[i2] at h5;cases h5;unfold pkF at e8;split at e8
  ·rename_i n dR eq;cases eq
   have ok:0<=n/\n < 1000000:=by
    rcases Decidable.em (0<=n/\n < 1000000) with z | z
    ·exact z
    ·rw[if_neg z] at e8;cases e8
   rw[if_pos ok] at e8;obtain⟨y,rfl,hy⟩:=hd.one;rw[qJ hy];obtain⟨v,hv1,hv2⟩:=i3.get e8;cases h7;have lt:n.toNat < fu.length:=(p_.mp hv1).1;exact⟨p2,fu,n,n.toNat,v,rfl,rfl,i2,So (by decide) ok.1,Int.lt_of_lt_of_le ok.2 (by decide),PySem.StrLaws.seqIndex_nonneg ok.1 (by omega),hv1,k v _ I1 (h8 _ (h6.eraseIdx _)) g1 hv2⟩
  ·cases e8
end
noncomputable def retFO(j i:Nat):M Fl:=λY=>match Y[j]? with
 | some (some (.fro es))=>match Y[i]? with
  | some (some (.own ds))=>some (.rt (.tfr [.lst es,.lst ds]),Y.set i none)
  | _=>none
 | _=>none
theorem IF{B:BB}(hy:PE X (.Name y py) (tVar j))(hx:PE X (.Name x px) (tVar i))(h1:d_ [.Name y py,.Name x px] X.env=(false,Nr (.Name y py) X.env)::d_ [.Name x px] X.env:=by rfl)(h2:d_ [.Name x px] X.env=(false,Nr (.Name x px) X.env)::d_ [] X.env:=by rfl):
  SD X B (.Return (some (.Tuple [.Name y py,.Name x px] k pos)) aH) (retFO j i):=PS.imp (u0 (Db (rR hy (rR hx sQ h2) h1))) λE U H q=>by
 obtain⟨G,I,Y,f,af,r,e1,kk⟩:=q;unfold retFO at e1;split at e1
 case h_2=>cases e1
 rename_i es e2;split at e1
 case h_2=>cases e1
 rename_i ds e3;cases e1;obtain⟨v,s1,a,ys,rfl,a1,a2,a3⟩:=r.slot j _ e2;obtain⟨w,s2,p,xs,rfl,p1,p2,p3,p4⟩:=r.slot i _ e3;have ne:a≠p:=λz=>by rw[z,p2] at a1;cases a1
 have dS:Apart U (Y.set i none) p:=λl r1 z m s=>by
  rcases qW z with⟨_,z',_⟩ | ⟨n,z'⟩
  ·cases z'
  ·exact n (r.dist l i r1 _ _ z' e3 m rfl s s2)
 have rF:=(r.forget i).freeze p1 p2 dS;have up:=rl p2 (.lst xs);refine⟨_,s1,_,s2,⟨by simp[C_],λq hq=>?_⟩⟩;have uq:=rl (rF.iFree hq) (.tup [.ref a,.ref p]);have aq:=uq _ _ (up _ _ a1);have pq:upd (upd I p (.lst xs)) q (.tup [.ref a,.ref p]) p=some (.lst xs):=uq _ _ qQ;refine kk U _ _ (rF.alloc hq _) ((growFreeze p2 p3).trans (rF.growAlloc hq _)) _ ⟨q,_,rfl,qQ,rF.gFree hq,IsA.cons (Is.lst (RdK.of aq) ((a3.mono up).mono uq)) (IsA.cons (Is.lst (RdK.of pq) ((p4.mono up).mono uq)) IsA.nil),λl b z _=>?_,λl m b z1 z2 _=>?_,λl os z=>?_⟩
 ·match l,z with
  | 0,z=>cases z;exact a2
  | 1,z=>cases z;exact p3
  | _+2,z=>simp at z
 ·match l,m,z1,z2 with
  | 0,0,_,_=>rfl
  | 1,1,_,_=>rfl
  | 0,1,z1,z2=>cases z1;cases z2;exact absurd rfl ne
  | 1,0,z1,z2=>cases z1;cases z2;exact absurd rfl ne
  | _+2,_,z1,_=>simp at z1
  | 0,_+2,_,z2=>simp at z2
  | 1,_+2,_,z2=>simp at z2
 ·match l,z with
  | 0,z=>cases z;exact⟨a,ys,rfl,aq,(a3.mono up).mono uq⟩
  | 1,z=>cases z;exact⟨p,xs,rfl,pq,(p4.mono up).mono uq⟩
  | _+2,z=>simp at z
noncomputable def ctF(g:List R->Option (R×List R))(ds:List D):Option (List D):=match g (ds.map .val) with
 | some (.tfr d,_)=>some d
 | _=>none
def Told(K:PySem.W.Frag)(B:BB)(G I:Hp)(aO:Gm)(i:Nat)(ds:List D)(U:L2.St)(H:Hp):Prop:=∃H0 bP J xs a,Rep K B G I H0 bP aO/\U=bP.set i (some (.ref a))/\Same H0 H/\Same I J/\Same J H/\J a=some (.tup xs)/\IsA K J ds xs ∧
 (∀b o,J b=some o->I b=some o\/H0 b=none)/\(∀(j:Nat) (p:k_) (es:List D),ds[j]?=some (.lst es)->xs[j]?=some (V.ref p)->H0 p=none)/\(∀(j l:Nat) (p:k_) (es es':List D),ds[j]?=some (.lst es)->ds[l]?=some (.lst es')->xs[j]?=some (V.ref p)->xs[l]?=some (V.ref p)->j=l)/\∀(j:Nat) (es:List D),ds[j]?=some (.lst es)->∃p ys,xs[j]?=some (V.ref p)/\J p=some (.lst ys)/\IsA K J es ys
noncomputable def hidR:Option R->Option R
 | some (.val d)=>some (.val d)
 | _=>none
theorem Hb{o:Option R}{r:R}(h:hidR o=some r):∃d,r=.val d/\o=some (.val d):=by
 unfold hidR at h;split at h
 ·cases h;exact⟨_,rfl,rfl⟩
 ·cases h
section
variable{K:PySem.W.Frag}{B B':BB}{H:Hp}{aO:Gm}
theorem At(hi:i < aO.length)(r:Rep K B G I H0 bP aO)(h2:Same I J)(h3:Same J H)(h4:J a=some (.tup xs))(h5:IsA K J ds xs):Rep K B' H J H (bP.set i (some (.ref a))) ((aO.map hidR).set i (some (.val (.tup ds)))):=by
 have aT:∀(j:Nat) (q:R),((aO.map hidR).set i (some (.val (.tup ds))))[j]?=some (some q)->(j=i/\q=.val (.tup ds))\/(j≠i/\∃d,q=.val d/\aO[j]?=some (some (.val d))):=λj q e=>by
  rcases qW e with⟨z1,z2,_⟩ | ⟨z1,z2⟩
  ·cases z2;exact .inl ⟨z1,rfl⟩
  ·rw[y_,NA] at z2;obtain⟨o,z2,z3⟩:=z2;obtain⟨d,rfl,rfl⟩:=Hb z3;exact .inr ⟨z1,d,rfl,z2⟩
 refine⟨h3,Same.refl _,by rw[OA,OA,u_];exact r.len,λj q e=>?_,λj j' q q' v e e' m=>?_,λj es e=>?_⟩
 ·rcases aT j q e with⟨rfl,rfl⟩ | ⟨ne,d,rfl,z⟩
  ·exact⟨.ref a,by rw[Og (by rw[r.len];exact hi)],Is.tup (SqT.of h4) h5⟩
  ·obtain⟨v,e1,e2⟩:=r.slot j _ z;exact⟨v,by rw[NE (NH ne)];exact e1,Is.mono h2 e2⟩
 ·rcases aT j q e with⟨rfl,rfl⟩ | ⟨ne,d,rfl,z⟩
  ·cases m
  ·cases m
 ·rcases aT j _ e with⟨rfl,z⟩ | ⟨ne,d,z,_⟩
  ·cases z
  ·cases z
theorem Told.rep(hi:i < aO.length)(h:Told K B G I aO i ds U H):∃J,Rep K B' H J H U ((aO.map hidR).set i (some (.val (.tup ds)))):=by
 obtain⟨H0,bP,J,xs,a,r,rfl,h1,h2,h3,h4,h5,_⟩:=h;exact⟨J,At hi r h2 h3 h4 h5⟩
theorem Bf{v:V}(r:Rep K B G I H0 bP aO)(h:Same H0 H1):Rep K B G I H1 (bP.set i (some v)) (aO.set i none):=by
 have r1:Rep K B G I H1 bP aO:=r.ext (Same.refl _) h (r.iH.trans h) λb o z=>.inl z
 have r2:=r1.forget i;refine⟨r2.iH,r2.gH,by rw[OA];exact r2.len,λj q e=>?_,λj j' q q' v e e' m m' z z'=>?_,λj es e=>?_⟩
 ·rcases qW e with⟨_,z,_⟩ | ⟨ne,z⟩
  ·cases z
  ·obtain⟨w,e1,e2⟩:=r1.slot j q z;exact⟨w,by rw[NE (NH ne)];exact e1,e2⟩
 ·rcases qW e with⟨_,y,_⟩ | ⟨ne,y⟩
  ·cases y
  rcases qW e' with⟨_,y',_⟩ | ⟨oF,y'⟩
  ·cases y'
  rw[NE (NH ne)] at z;rw[NE (NH oF)] at z';exact r1.dist j j' q q' v y y' m m' z z'
 ·rcases qW e with⟨_,z,_⟩ | ⟨ne,z⟩
  ·cases z
  ·rw[NE (NH ne)];exact r1.bor j es z
end
noncomputable def tT(K:PySem.W.Frag)(B:BB)(i:Nat)(g:List D->M Fl):TS:=λE U H=>∃G I aO ds f af,i < aO.length/\Told K B G I aO i ds U H/\g ds aO=some (f,af)/\KS K B G I af f E
def TL(X:Cx)(B:BB)(i:Nat)(ss:List NO)(g:List D->M Fl):Prop:=PSs X ss (tT X.K B i g)
section
variable{B:BB}{c:Ny}{es:List Ny}{p p3:Pos}{g:List R->Option (R×List R)}{ss:List NO}{tc:M Bool}{h:M Fl}
noncomputable def tellS(g:List R->Option (R×List R))(i:Nat)(t:M (List D))(aj:List D->M Fl):M Fl:=bnd t λds=>bnd (lft (ctF g ds)) λos ac=>if i < ac.length then aj os ac else none
theorem DZ(hN:X.N.Nodup)(F:FnOk X.prog X.w X.K X.mg X.base CX0 k f fd ps (spD X.K g))(hr:Room k X.A)(hg:Gl X x)(hm:X.mg x=some (.ref f))(hk:O2 X.K (.ref f)=true)(hb:Binds X.K fd ps [])(ha:AD X B (e::es) t)(bQ:TL X B i ss aj)(hi:X.N[i]?=some y:=by rfl)(hy:locB X.env.scope y=true:=by rfl)(hf:fnB X y=true:=by rfl)(bD:(x == ("__debug__":Str))=false:=by decide)(he:d_ (e::es) X.env=(false,Nr e X.env)::d_ es X.env:=by rfl)(aG:(ND pos (d_ es X.env)).any (·.1)=false:=by rfl)(hs:QJ [.Name y px] (.Call (.Name x p) (e::es) [] pos) aH.line X.env=pure false:=by rfl)(hw:QK [.Name y px] (.Call (.Name x p) (e::es) [] pos) X.env=pure none:=by rfl)(h1:(Oi [.Name y px] X.env).map (·.2)=[P8 (.Name y px) X.env]:=by rfl):SIs X B (.Assign [.Name y px] (.Call (.Name x p) (e::es) [] pos) aH::ss) (tellS g i t aj):=by
 unfold SIs;refine PSs.imp (u6 (xk (u8 F hr hg hm hk hb .nil pass0 ha bD he aG) (A6 hN hi (locI hy) (fnI hf)) hs hw h1) bQ) λE U H q=>?_
 obtain⟨G,I,Y,fl,af,r,e1,kk⟩:=q;obtain⟨ds,ac,e2,e3⟩:=qE e1;obtain⟨os,ag,e4,e5⟩:=qE e3;obtain⟨e6,rfl⟩:=qN e4;split at e5
 case isFalse=>cases e5
 rename_i c8;refine⟨G,I,Y,ds,_,r,e2,λvs H1 I1 r1 g1 h1=>?_⟩;show spD X.K g (vs++[]) H1 _ _;rw[N3];unfold ctF at e6;split at e6
 ·rename_i d aW e7;cases e6;refine⟨H1,I1,ds.map .val,.tfr os,aW,tH r1 h1,tE ds,e7,λv H' I' r' g' hv=>?_⟩;obtain⟨a,xs,rfl,b1,b2,b3,b4,b5,b6⟩:=hv
  have aT:∀(j:Nat) (p:k_) (es:List D),os[j]?=some (.lst es)->xs[j]?=some (V.ref p)->∃ys,I' p=some (.lst ys):=λj p es z1 z2=>by
   obtain⟨p',ys,c1,c2,_⟩:=b6 j es z1;rw[z2] at c1;cases c1;exact⟨ys,c2⟩
  exact⟨G,I1,_,os,fl,af,c8,⟨H1,U,I',xs,a,r1,rfl,r'.gH,g'.up,r'.iH,b1,b3,g'.new,λj p es z1 z2=>b4 j p z2 (aT j p es z1 z2),λj l p es es' z1 z2 z3 z4=>b5 j l p z3 z4 (aT j p es z1 z3),b6⟩,e5,kk.after g1⟩
 ·cases e6
noncomputable def tstP(i:Nat)(c:M Bool)(aj:List D->M Fl)(ds:List D):M Fl:=λaO=>match c ((aO.map hidR).set i (some (.val (.tup ds)))) with
 | some (true,_)=>some (.rt (.val (.bl false)),aO.set i none)
 | some (false,_)=>aj ds aO
 | none=>none
theorem z7{pr pb:Pos}(hc:TD X B c tc)(bQ:TL X B i ss aj):TL X B i (.If c [.Return (some (.Constant (.bool false) j pb)) pr] [] pos::ss) (tstP i tc aj):=by
 refine PSs.imp (u6 (zN hc (CC (u0 Ac)) Cu) bQ) λE U H q=>?_
 obtain⟨G,I,aO,ds,fl,af,c8,T,e1,kk⟩:=q;obtain⟨J,r⟩:=T.rep (B':=B) c8;unfold tstP at e1;cases e2:tc ((aO.map hidR).set i (some (.val (.tup ds)))) with
 | none=>rw[e2] at e1;cases e1
 | some q =>
  obtain⟨b,ag⟩:=q;rw[e2] at e1;refine⟨H,J,_,b,ag,r,e2,λH1 I1 r1 g1=>?_⟩;obtain⟨H0,bP,J0,xs,a,r0,rfl,t1,t2,t3,t4,t5,t6,t7,t8,t9⟩:=T;cases b with
  | true =>
   rw[if_pos rfl];cases e1;exact kk _ H1 I (Bf (v:=.ref a) r0 (t1.trans r1.gH)) (Grow.refl _ _) _ (show Is X.K I (.bl false) (.bl false) from Is.bl false)
  | false =>
   rw[if_neg (by decide)];exact⟨G,I,aO,ds,fl,af,c8,⟨H0,bP,J0,xs,a,r0,rfl,t1.trans r1.gH,t2,t3.trans r1.gH,t4,t5,t6,t7,t8,t9⟩,e1,kk⟩
noncomputable def calmD:D->Bool
 | .lst es=>noLA es
 | d=>noL d
noncomputable def appP(i n:Nat)(g:M D)(aj:List D->M Fl)(ds:List D):M Fl:=λaO=>match g ((aO.map hidR).set i (some (.val (.tup ds)))),ds[n]? with
 | some (d,_),some (.lst es)=>if noL d=true/\ds.all calmD=true/\es.length < lim then aj (ds.set n (.lst (es++[d]))) aO else none
 | _,_=>none
noncomputable def noneH:Hp:=λ_=>none
theorem C'{K:PySem.W.Frag}{p:k_}{ys:List V}{v:V}(hp:J p=some (.lst ys))(hd:noL d=true)(h:Is K J d v):Is K (upd J p (.lst zs)) d v:=by
 refine(Cc (I0:=noneH) (λ_ _ z=>by cases z) d v hd h).mono λb o z=>?_
 rcases uE z with z | ⟨_,z1,z2⟩
 ·cases z
 ·rw[qH λq=>by rw[q,hp] at z1;cases z1;exact z2 _ rfl];exact z1
theorem CL{K:PySem.W.Frag}{p:k_}{ys:List V}{vs:List V}(hp:J p=some (.lst ys))(hd:noLA ds=true)(h:IsA K J ds vs):IsA K (upd J p (.lst zs)) ds vs:=by
 refine(v8 (I0:=noneH) (λ_ _ z=>by cases z) ds vs hd h).mono λb o z=>?_
 rcases uE z with z | ⟨_,z1,z2⟩
 ·cases z
 ·rw[qH λq=>by rw[q,hp] at z1;cases z1;exact z2 _ rfl];exact z1
theorem zp{K:PySem.W.Frag}{J:Hp}:∀{ds:List D}{xs:List V},ds.length=xs.length->(∀(i:Nat) (d:D) (x:V),ds[i]?=some d->xs[i]?=some x->Is K J d x)->IsA K J ds xs
 | [],[],_,_=>IsA.nil
 | [],_::_,h,_=>by simp at h
 | _::_,[],h,_=>by simp at h
 | d::ds,x::xs,h,k=>IsA.cons (k 0 d x rfl rfl) (zp (by simpa using h) λi d' x' h1 h2=>k (i+1) d' x' (by simpa using h1) (by simpa using h2))
theorem DB{ga:M D}(hv:PE X (.Name x p1) (tVar i))(ha:ED X B e ga)(bQ:TL X B i ss aj)(hz:(n:Int)=z:=by rfl)(hs:N8 (.Call (.Attribute (.Subscript (.Name x p1) (.Constant (.int z) jc pc) p2) "append" aK) [e] [] aC) none pos.line X.env=pure false:=by rfl)(cX:d_ [e] X.env=(false,Nr e X.env)::d_ [] X.env:=by rfl)(ba:OB (.Subscript (.Name x p1) (.Constant (.int z) jc pc) p2) "append" X.env (Nr (.Subscript (.Name x p1) (.Constant (.int z) jc pc) p2) X.env)=Nr (.Subscript (.Name x p1) (.Constant (.int z) jc pc) p2) X.env:=by rfl)(cf:((ND aC (d_ [e] X.env)).all (λx=>!x.1)&&(Sc aC (QA [] X.env)).all (λx=>x.1.isSome)
   &&decide ([e].length+([]:List Qe).length+(if([]:List Qe).isEmpty then 0 else 1) < 30))=true:=by rfl)(bb:(aK.endLine == aC.line)=true:=by rfl)(bu:(ND aC (d_ [] X.env)).any (·.1)=false:=by rfl):
  TL X B i (.Expr (.Call (.Attribute (.Subscript (.Name x p1) (.Constant (.int z) jc pc) p2) "append" aK) [e] [] aC) pos::ss) (appP i n ga aj):=by
 subst hz;refine PSs.imp (u6 (uV (vk OR PySem.F.slot_list_append PySem.F.type_list_append w6 (vd xD hv xm (λ_ _=>rfl)) (rR ha sQ cX) ba cf bb cX bu) hs) bQ) λE U H q=>?_
 obtain⟨G,I,aO,ds,fl,af,c8,T,e1,kk⟩:=q;obtain⟨H0,bP,J,xs,a,r0,rfl,t1,t2,t3,t4,t5,t6,t7,t8,t9⟩:=T;have r:=At (B':=B) c8 r0 t2 t3 t4 t5;unfold appP at e1;split at e1
 case h_2=>cases e1
 rename_i d oG es e2 e3;split at e1
 case isFalse=>cases e1
 rename_i hc;obtain⟨c1,c2,c3⟩:=hc;obtain⟨l,ys,l1,l2,l5⟩:=t9 n es e3;have l3:=t7 n l es e3 l1;have l4:H l=some (.lst ys):=t3 _ _ l2;have si:(bP.set i (some (V.ref a)))[i]?=some (some (V.ref a)):=by rw[Og (by rw[r0.len];exact c8)]
 refine⟨_,si,a,xs,n,.ref l,rfl,rfl,SqT.of (t3 _ _ t4),zx l1,.inl ⟨rfl,ys,SqL.of l4⟩,H,J,_,d,oG,r,e2,λv H1 J1 r1 g1 hd=>⟨l,ys,v,rfl,rfl,r1.gH _ _ l4,by rw[←l5.length];exact G_ c3 (sA (v_ _)),?_⟩⟩;have j1:J1 l=some (.lst ys):=g1.up _ _ l2;have ne:a≠l:=λz=>by rw[z,l2] at t4;cases t4
 have j9:∀{j:Nat}{os:List D},(ds.set n (.lst (es++[d])))[j]?=some (.lst os)->∃dM,ds[j]?=some (.lst dM):=λ{j os} z=>by
  rcases qW z with⟨rfl,_,_⟩ | ⟨_,z'⟩
  ·exact⟨_,e3⟩
  ·exact⟨_,z'⟩
 have part:∀(j:Nat) (os:List D),j≠n->ds[j]?=some (.lst os)->∃p zs,xs[j]?=some (V.ref p)/\upd J1 l (.lst (ys++[v])) p=some (.lst zs)/\IsA X.K (upd J1 l (.lst (ys++[v]))) os zs:=λj os nj z=>by
  obtain⟨p,zs,a1,a2,a3⟩:=t9 j os z;have np:p≠l:=λq=>nj (t8 j n l os es z e3 (by rw[←q];exact a1) l1)
  have cq:calmD (.lst os)=true:=q_.mp c2 _ (B_ z);exact⟨p,zs,a1,by rw[qH np];exact g1.up _ _ a2,CL j1 cq (a3.mono g1.up)⟩
 have lX:IsA X.K (upd J1 l (.lst (ys++[v]))) (es++[d]) (ys++[v]):=IsA.append (CL j1 (q_.mp c2 _ (B_ e3)) (l5.mono g1.up)) (IsA.cons (C' j1 c1 hd) IsA.nil);refine⟨G,I,aO,_,fl,af,c8,⟨H0,bP,upd J1 l (.lst (ys++[v])),xs,a,r0,rfl,λb o z=>?_,λb o z=>?_,wX r1.iH _,by rw[qH ne];exact g1.up _ _ t4,zp (by rw[OA];exact t5.length) λj q w z1 z2=>?_,λb o z=>?_,λj p os z1 z2=>?_,λj k p os dM z1 z2 z3 z4=>?_,λj os z=>?_⟩,e1,kk⟩
 ·rw[qH (λq=>by rw[q,l3] at z;cases z)];exact r1.gH _ _ (t1 b o z)
 ·rw[qH (λq=>by rw[q,r0.iFree l3] at z;cases z)];exact g1.up _ _ (t2 b o z)
 ·rcases qW z1 with⟨rfl,q1,_⟩ | ⟨nj,fT⟩
  ·rw[l1] at z2;cases z2;cases q1;exact Is.lst (RdK.of qQ) lX
  ·by_cases cl:∃os,q=.lst os
   ·obtain⟨os,rfl⟩:=cl;obtain⟨p,zs,a1,a2,a3⟩:=part j os nj fT;rw[a1] at z2;cases z2;exact Is.lst (RdK.of a2) a3
   ·obtain⟨w',b1,b2⟩:=t5.get fT;rw[b1] at z2;cases z2;have cq:=q_.mp c2 _ (B_ fT)
    have cq:noL q=true:=by
     cases q<;>first | exact cq | exact absurd ⟨_,rfl⟩ cl
    exact C' j1 cq (b2.mono g1.up)
 ·by_cases q:b=l
  ·subst q;exact .inr l3
  ·rw[qH q] at z
   rcases g1.new b o z with z | z
   ·exact t6 b o z
   ·exact .inr (t1.free z)
 ·obtain⟨dM,z3⟩:=j9 z1;exact t7 j p dM z3 z2
 ·obtain⟨o1,y1⟩:=j9 z1;obtain⟨o2,y2⟩:=j9 z2;exact t8 j k p o1 o2 y1 y2 z3 z4
 ·rcases qW z with⟨rfl,q1,_⟩ | ⟨nj,z'⟩
  ·cases q1;exact⟨l,_,l1,qQ,lX⟩
  ·exact part j os nj z'
noncomputable def clrP(i n:Nat)(h:M Fl)(ds:List D):M Fl:=λaO=>match ds[n]? with
 | some (.lst _)=>h (aO.set i none)
 | _=>none
theorem EK(hv:PE X (.Name x p1) (tVar i))(bQ:SIs X B ss h)(hz:(n:Int)=z:=by rfl)(ba:OB (.Subscript (.Name x p1) (.Constant (.int z) jc pc) p2) "clear" X.env (Nr (.Subscript (.Name x p1) (.Constant (.int z) jc pc) p2) X.env)=Nr (.Subscript (.Name x p1) (.Constant (.int z) jc pc) p2) X.env:=by rfl)(bb:(aK.endLine == aC.line)=true:=by rfl)(hs:N8 (.Call (.Attribute (.Subscript (.Name x p1) (.Constant (.int z) jc pc) p2) "clear" aK) [] [] aC) none pos.line X.env=pure false:=by rfl):
  TL X B i (.Expr (.Call (.Attribute (.Subscript (.Name x p1) (.Constant (.int z) jc pc) p2) "clear" aK) [] [] aC) pos::ss) (clrP i n h):=by
 unfold SIs at bQ;subst hz;refine PSs.imp (u6 (uV (zv OR PySem.F.slot_list_clear PySem.F.type_list_clear Ik (vd xD hv xm (λ_ _=>rfl)) ba bb) hs) bQ) λE U H q=>?_
 obtain⟨G,I,aO,ds,fl,af,c8,⟨H0,bP,J0,xs,a,r0,rfl,t1,t2,t3,t4,t5,t6,t7,t8,t9⟩,e1,kk⟩:=q;unfold clrP at e1;split at e1
 ·rename_i zs e2;obtain⟨l,ys,l1,l2,_⟩:=t9 n zs e2;have l3:=t7 n l zs e2 l1;have l4:H l=some (.lst ys):=t3 _ _ l2;have si:(bP.set i (some (V.ref a)))[i]?=some (some (V.ref a)):=by rw[Og (by rw[r0.len];exact c8)]
  refine⟨_,si,a,xs,n,.ref l,rfl,rfl,SqT.of (t3 _ _ t4),zx l1,.inl ⟨rfl,ys,SqL.of l4⟩,l,ys,rfl,rfl,l4,?_⟩;exact⟨G,I,aO.set i none,fl,af,Bf r0 (λb o z=>by rw[qH (λq=>by rw[q,l3] at z;cases z)];exact t1 b o z),e1,kk⟩
 ·cases e1
end
end DL
namespace DL
open PySem L2
variable {α Z:Type}
def wp(m:M α)(Y:Gm)(Q:α->Gm->Prop):Prop:=∃a af,m Y=some (a,af)/\Q a af
def wpF(g:List R->Option (R×List R))(rs:List R)(Q:R->List R->Prop):Prop:=∃r aW,g rs=some (r,aW)/\Q r aW
def wpB(g:List R->Option (R×List R))(c ds:List D)(Q:R->List D->Prop):Prop:=∃r c',bcF g c ds=some (r,c')/\Q r c'
section
variable{Q:α->Gm->Prop}{QD:D->Gm->Prop}{QL:List D->Gm->Prop}{QB:Bool->Gm->Prop}{QS:Fl->Gm->Prop}{QU:Unit->Gm->Prop}
theorem wp.mono{m:M α}{Q':α->Gm->Prop}(h:wp m Y Q)(f:∀a Y,Q a Y->Q' a Y):wp m Y Q':=by
 obtain⟨a,af,e,q⟩:=h;exact⟨a,af,e,f _ _ q⟩
@[simp ↓] theorem r9{a:α}:wp (ret a) Y Q↔Q a Y:=by
 constructor
 ·rintro⟨b,af,e,q⟩;cases e;exact q
 ·intro q;exact⟨_,_,rfl,q⟩
@[simp ↓] theorem ra{Z:Type}{m:M Z}{f:Z->M α}:wp (bnd m f) Y Q↔wp m Y λb ac=>wp (f b) ac Q:=by
 constructor
 ·rintro⟨a,af,e,q⟩;obtain⟨b,ac,e1,e2⟩:=qE e;exact⟨b,ac,e1,a,af,e2,q⟩
 ·rintro⟨b,ac,e1,a,af,e2,q⟩;exact⟨a,af,by unfold bnd;rw[e1];exact e2,q⟩
@[simp ↓] theorem HQ{a:α}:wp (lft (some a)) Y Q↔Q a Y:=by
 constructor
 ·rintro⟨b,af,e,q⟩;cases e;exact q
 ·intro q;exact⟨_,_,rfl,q⟩
theorem wD{o:Option α}{a:α}(h:o=some a):wp (lft o) Y Q↔Q a Y:=by rw[h,HQ]
@[simp ↓] theorem Nd:wp (nm i) Y QD↔match Y[i]? with
  | some (some (.val d))=>QD d Y
  | some (some (.own ds))=>QD (.lst ds) (Y.set i (some (.val (.lst ds))))
  | some (some (.fro ds))=>QD (.lst ds) Y
  | _=>False:=by
 unfold wp nm
 rcases e:Y[i]? with _ | _ | r
 ·simp
 ·simp
 ·cases r<;>simp<;>exact⟨λ⟨_,_,⟨h1,h2⟩,q⟩=>by subst h1;subst h2;exact q,λq=>⟨_,_,⟨rfl,rfl⟩,q⟩⟩
@[simp ↓] theorem M0{F:D->D->Option α}{a b:M D}:wp (op2 F a b) Y Q↔wp a Y λx ac=>wp b ac λy ag=>wp (lft (F x y)) ag Q:=by simp[op2]
@[simp ↓] theorem LS{F:List D->Option α}:wp (fn1 F t) Y Q↔wp t Y λds ac=>wp (lft (F ds)) ac Q:=by simp[fn1]
@[simp ↓] theorem MX:wp nilA Y QL↔QL [] Y:=by simp[nilA]
@[simp ↓] theorem L7{g:M D}:wp (consA g t) Y QL↔wp g Y λd ac=>wp t ac λds ag=>QL (d::ds) ag:=by simp[consA]
@[simp ↓] theorem Mn:wp (tupA t) Y QD↔wp t Y λds ac=>wp (lft (if ds.length<=lim then some (.tup ds) else none)) ac QD:=by simp[tupA]
@[simp ↓] theorem LG:wp (lstA t) Y QL↔wp t Y λds ac=>wp (lft (if ds.length<=lim then some ds else none)) ac QL:=by simp[lstA]
@[simp ↓] theorem MG:wp (frz t) Y QD↔wp t Y λds ac=>QD (.lst ds) ac:=by simp[frz]
@[simp ↓] theorem LA{g:M D}:wp (tst g) Y QB↔wp g Y λd ac=>wp (lft (asB d)) ac QB:=by simp[tst]
@[simp] theorem Ml{b:Bool}:asB (.bl b)=some b:=rfl
@[simp] theorem Ls{b:Int}:asI (.int b)=some b:=rfl
@[simp ↓] theorem MS{F:D->D->Option D}{a b c:M D}:wp (chn F F' a b c) Y QD↔wp a Y λx ac=>wp b ac λy ag=>wp (lft (F x y)) ag λz aL=>wp (lft (asB z)) aL λk aS=>if k=true then wp c aS λw dQ=>wp (lft (F' y w)) dQ QD else QD (.bl false) aS:=by
 simp only[chn,ra]
 constructor<;>(intro h;refine h.mono λx ac h=>h.mono λy ag h=>h.mono λz aL h=>h.mono λk aS h=>?_)<;>(cases k<;>simpa using h)
@[simp ↓] theorem LF{a b:M Bool}:wp (andT a b) Y QB↔wp a Y λk ac=>if k=true then wp b ac QB else QB false ac:=by
 simp only[andT,ra]
 constructor<;>(intro h;refine h.mono λk ac h=>?_)<;>(cases k<;>simpa using h)
@[simp ↓] theorem M3{a b:M Bool}:wp (orT a b) Y QB↔wp a Y λk ac=>if k=true then QB true ac else wp b ac QB:=by
 simp only[orT,ra]
 constructor<;>(intro h;refine h.mono λk ac h=>?_)<;>(cases k<;>simpa using h)
@[simp ↓] theorem L4{a:M Bool}:wp (notT a) Y QB↔wp a Y λk ac=>QB (!k) ac:=by simp[notT]
@[simp ↓] theorem Mv{a b:M D}:wp (andV a b) Y QD↔wp a Y λd ac=>wp (lft (asB d)) ac λk ag=>if k=true then wp b ag QD else QD (.bl false) ag:=by
 simp only[andV,ra]
 constructor<;>(intro h;refine h.mono λd ac h=>h.mono λk ag h=>?_)<;>(cases k<;>simpa using h)
@[simp ↓] theorem M2{c:M Bool}{a b:M D}:wp (ifV c a b) Y QD↔wp c Y λk ac=>if k=true then wp a ac QD else wp b ac QD:=by
 simp only[ifV,ra]
 constructor<;>(intro h;refine h.mono λk ac h=>?_)<;>(cases k<;>simpa using h)
theorem AY{a b:M Fl}:wp (seqS a b) Y QS↔wp a Y λf ac=>match f with
  | .nx=>wp b ac QS
  | .rt r=>QS (.rt r) ac
  | .bk=>QS .bk ac
  | .ct=>QS .ct ac:=by
 simp only[seqS,ra]
 constructor<;>(intro h;refine h.mono λf ac h=>?_)<;>(cases f<;>simpa using h)
@[simp ↓] theorem Lj{a:M D}:wp (dropS a) Y QS↔wp a Y λ_ ac=>QS .nx ac:=by simp[dropS]
@[simp ↓] theorem Lh{a:M D}:wp (retS a) Y QS↔wp a Y λd ac=>QS (.rt (.val d)) ac:=by simp[retS]
@[simp ↓] theorem Mz{a:M (List D)}:wp (retO a) Y QS↔wp a Y λd ac=>QS (.rt (.own d)) ac:=by simp[retO]
@[simp ↓] theorem CD{c:M Bool}{a b:M Fl}:wp (ifS c a b) Y QS↔wp c Y λk ac=>if k=true then wp a ac QS else wp b ac QS:=by
 simp only[ifS,ra]
 constructor<;>(intro h;refine h.mono λk ac h=>?_)<;>(cases k<;>simpa using h)
@[simp ↓] theorem FS{q:R}:wp (putS i q) Y QU↔i < Y.length/\QU () (Y.set i (some q)):=by
 unfold wp putS;constructor
 ·rintro⟨a,af,e,h⟩;obtain⟨h1,h2⟩:=rm e;cases h2;exact⟨h1,h⟩
 ·rintro⟨h1,h2⟩;exact⟨(),_,by rw[if_pos h1],h2⟩
@[simp ↓] theorem MA:wp (tgN i d) Y QU↔i < Y.length/\QU () (Y.set i (some (.val d))):=by simp[tgN]
@[simp ↓] theorem M4:wp (tgNil []) Y QU↔QU () Y:=by simp[tgNil]
@[simp ↓] theorem Me{f:D->M Unit}{t:List D->M Unit}:wp (tgCons f t (d::ds)) Y QU↔wp (f d) Y λ_ ac=>wp (t ds) ac QU:=by simp[tgCons]
@[simp ↓] theorem LJ{t:List D->M Unit}:wp (tgTup n t (.tup ds)) Y QU↔ds.length=n/\wp (t ds) Y QU:=by
 unfold tgTup;by_cases h:ds.length=n
 ·simp[h]
 ·simp only[h,if_false,false_and,iff_false];rintro⟨_,_,e,_⟩;cases e
@[simp ↓] theorem Lk{g:M D}{f:D->M Unit}:wp (asgS g f) Y QS↔wp g Y λd ac=>wp (f d) ac λ_ ag=>QS .nx ag:=by simp[asgS]
@[simp ↓] theorem Mi{g:M D}:wp (setV i g) Y QS↔wp g Y λd ac=>i < ac.length/\QS .nx (ac.set i (some (.val d))):=by simp[setV]
@[simp ↓] theorem K8{g:M (List D)}:wp (setO i g) Y QS↔wp g Y λd ac=>i < ac.length/\QS .nx (ac.set i (some (.own d))):=by simp[setO]
@[simp ↓] theorem sC{m:M α}:wp (mutS i m) Y Q↔isMut Y i=true/\wp m Y Q:=by
 unfold mutS wp;by_cases h:isMut Y i=true
 ·simp[h]
 ·simp[h]
@[simp ↓] theorem M5:wp (wr i F) Y QU↔match Y[i]? with
  | some (some (.own ds))=>∃es,F ds=some es/\QU () (Y.set i (some (.own es)))
  | some (some (.bor ds))=>∃es,F ds=some es/\QU () (Y.set i (some (.bor es)))
  | _=>False:=by
 unfold wp wr
 rcases e:Y[i]? with _ | _ | r
 ·simp
 ·simp
 ·cases r with
  | val d=>simp
  | fro d=>simp
  | tfr d=>simp
  | dic d=>simp
  | own ds =>
   rcases he:F ds with _ | es
   ·simp[he]
   ·simp[he];exact⟨λ⟨_,q⟩=>q,λq=>⟨(),q⟩⟩
  | bor ds =>
   rcases he:F ds with _ | es
   ·simp[he]
   ·simp[he];exact⟨λ⟨_,q⟩=>q,λq=>⟨(),q⟩⟩
@[simp ↓] theorem Mx{g:M D}:wp (appS i g) Y QS↔isMut Y i=true/\wp g Y λd ac=>wp (wr i (appF d)) ac λ_ ag=>QS .nx ag:=by simp only[appS,sC,ra,r9]
@[simp ↓] theorem MC{g:M D}:wp (extS i g) Y QS↔isMut Y i=true/\wp g Y λd ac=>wp (wr i (extF d)) ac λ_ ag=>QS .nx ag:=by simp only[extS,sC,ra,r9]
@[simp ↓] theorem Mo{gi gv:M D}:wp (stS i gi gv) Y QS↔wp gv Y λd ac=>isMut ac i=true/\wp gi ac λn ag=>wp (lft (asI n)) ag λk aL=>wp (wr i (stF k d)) aL λ_ aS=>QS .nx aS:=by simp only[stS,sC,ra,r9]
@[simp ↓] theorem MM:wp (look i) Y QD↔match Y[i]? with
  | some (some (.own ds))=>QD (.lst ds) Y
  | some (some (.bor ds))=>QD (.lst ds) Y
  | _=>False:=by
 unfold wp look
 rcases e:Y[i]? with _ | _ | r
 ·simp
 ·simp
 ·cases r<;>simp<;>exact⟨λ⟨_,_,⟨h1,h2⟩,q⟩=>by subst h1;subst h2;exact q,λq=>⟨_,_,⟨rfl,rfl⟩,q⟩⟩
@[simp ↓] theorem L8{g:M D}:wp (atN i g) Y QD↔isMut Y i=true/\wp g Y λn ac=>wp (look i) ac λl ag=>wp (lft (ixF l n)) ag QD:=by simp only[atN,sC,ra]
@[simp ↓] theorem Mp:wp (lenN i) Y QD↔wp (look i) Y λl ag=>wp (lft (lenF [l])) ag QD:=by simp only[lenN,ra]
@[simp ↓] theorem Nn{g:M D}:wp (cmpN neg i g) Y QD↔isMut Y i=true/\wp g Y λn ac=>wp (look i) ac λl ag=>wp (lft (eqF neg l n)) ag QD:=by simp only[cmpN,sC,ra]
@[simp ↓] theorem MR{g:M D}{QO:Option Int->Gm->Prop}:wp (prt g) Y QO↔wp g Y λd ac=>wp (lft (asI d)) ac λi ag=>QO (some i) ag:=by simp[prt]
@[simp ↓] theorem LX{F:D->Option Int->Option Int->Option α}{g:M D}:wp (sl3 F g gl gh) Y Q↔wp g Y λd ac=>wp gl ac λl ag=>wp gh ag λh aL=>wp (lft (F d l h)) aL Q:=by simp[sl3]
@[simp ↓] theorem Mg{g:M D}:wp (itS g) Y QL↔wp g Y λd ac=>wp (lft (seqI d)) ac QL:=by simp[itS]
@[simp ↓] theorem JI:wp (forS it aE body) Y QS↔wp it Y λds ac=>wp (forM aE body ds) ac QS:=by simp[forS]
@[simp ↓] theorem MK{g:List R->Option (R×List R)}{QR:R->Gm->Prop}:wp (callB i g t) Y QR↔isMut Y i=true/\wp t Y λds ac=>match ac[i]? with
  | some (some (.own c))=>wpB g c ds λr c'=>QR r (ac.set i (some (.own c')))
  | some (some (.bor c))=>wpB g c ds λr c'=>QR r (ac.set i (some (.bor c')))
  | _=>False:=by
 simp only[callB,sC,ra];refine and_congr_right λ_=>?_
 have aU:∀(ds:List D) (ac:Gm),wp (λY:Gm=>match Y[i]? with
   | some (some (.own c))=>match bcF g c ds with
    | some (r,c')=>some (r,Y.set i (some (.own c')))
    | none=>none
   | some (some (.bor c))=>match bcF g c ds with
    | some (r,c')=>some (r,Y.set i (some (.bor c')))
    | none=>none
   | _=>none) ac QR↔(match ac[i]? with
  | some (some (.own c))=>wpB g c ds λr c'=>QR r (ac.set i (some (.own c')))
  | some (some (.bor c))=>wpB g c ds λr c'=>QR r (ac.set i (some (.bor c')))
  | _=>False):=by
  intro ds ac;unfold wp wpB;dsimp only
  rcases e:ac[i]? with _ | _ | r
  ·simp
  ·simp
  ·cases r with
   | val d=>simp
   | fro d=>simp
   | tfr d=>simp
   | dic d=>simp
   | own c =>
    rcases he:bcF g c ds with _ | ⟨r,c'⟩
    ·simp[he]
    ·simp only[he];constructor
     ·rintro⟨a,b,h,q⟩;cases h;exact⟨_,_,rfl,q⟩
     ·rintro⟨a,b,h,q⟩;cases h;exact⟨_,_,rfl,q⟩
   | bor c =>
    rcases he:bcF g c ds with _ | ⟨r,c'⟩
    ·simp[he]
    ·simp only[he];constructor
     ·rintro⟨a,b,h,q⟩;cases h;exact⟨_,_,rfl,q⟩
     ·rintro⟨a,b,h,q⟩;cases h;exact⟨_,_,rfl,q⟩
 constructor
 ·intro h;exact h.mono λds ac h=>(aU ds ac).mp h
 ·intro h;exact h.mono λds ac h=>(aU ds ac).mpr h
@[simp ↓] theorem Lz{g:List R->Option (R×List R)}:wp (cbV i g t) Y QD↔wp (callB i g t) Y λr ac=>wp (lft (asV r)) ac QD:=by simp only[cbV,ra]
@[simp ↓] theorem Lu{g:List R->Option (R×List R)}:wp (cbO i g t) Y QL↔wp (callB i g t) Y λr ac=>wp (lft (asO r)) ac QL:=by simp only[cbO,ra]
@[simp] theorem Lm:asV (.val d)=some d:=rfl
@[simp] theorem LM{d:List D}:asO (.own d)=some d:=rfl
theorem Bq(J:Nat->Gm->Prop)(h0:J 0 Y)(hs:∀(i:Nat) (d:D) (Y:Gm),ds[i]?=some d->J i Y->wp (aE d) Y λ_ ac=>wp body ac λf ag=>match f with
   | .nx=>J (i+1) ag
   | .ct=>J (i+1) ag
   | .bk=>QS .nx ag
   | .rt r=>QS (.rt r) ag)(hd:∀Y,J ds.length Y->QS .nx Y):wp (forM aE body ds) Y QS:=by
 have aU:∀(n:Nat) (es:List D) (Y:Gm) (i:Nat),es.length=n->ds.drop i=es->i<=ds.length->J i Y->wp (forM aE body es) Y QS:=by
  intro n
  induction n with
  | zero =>
   intro es Y i hl he hi hj;have:es=[]:=N_.mp hl;subst this
   have cg:i=ds.length:=by
    have:=congrArg length he;rw[PZ] at this;simp at this;omega
   subst cg;exact⟨_,_,rfl,hd Y hj⟩
  | succ n ih =>
   intro es Y i hl he hi hj;cases es with
   | nil=>simp at hl
   | cons d es =>
    have bH:i < ds.length:=by
     have:=congrArg length he;rw[PZ,NG] at this;omega
    have cx:ds.drop i=ds[i]::ds.drop (i+1):=NM bH;rw[cx] at he;injection he with e1 e2
    have ck:ds[i]?=some d:=by rw[g_ bH,e1]
    have step:=hs i d Y ck hj;rw[forM,ra];refine step.mono λ_ ac h1=>?_
    rw[ra];refine h1.mono λf ag h2=>?_
    cases f with
    | nx=>exact ih es ag (i+1) (by simpa using hl) e2 bH h2
    | ct=>exact ih es ag (i+1) (by simpa using hl) e2 bH h2
    | bk=>exact⟨_,_,rfl,h2⟩
    | rt r=>exact⟨_,_,rfl,h2⟩
 exact aU ds.length ds Y 0 rfl rfl (NK _) h0
theorem zd{rs:List R}{QR:R->List R->Prop}(hl:rs.length=ar)(h:wp body (rs.map some++NF (n - rs.length) none) λf af=>∃r,flR f=some r/\∃l,fin rs af=some l/\QR r l):wpF (fnD n ar body) rs QR:=by
 obtain⟨f,af,e,r,e1,l,e2,q⟩:=h;refine⟨r,l,?_,q⟩;unfold fnD;rw[if_pos hl];unfold fnD1;rw[e];simp only[e1,e2]
theorem Ip{g:List R->Option (R×List R)}(h:wpF g (ds.map .val) λr _=>r=.val d):cvF g ds=some d:=by
 obtain⟨r,aW,e,rfl⟩:=h;unfold cvF;rw[e]
theorem GC{g:List R->Option (R×List R)}{P:List D->Prop}(h:wpF g (ds.map .val) λr _=>∃d,r=.own d/\P d):∃d,coF g ds=some d/\P d:=by
 obtain⟨r,aW,e,d,rfl,hp⟩:=h;exact⟨d,by unfold coF;rw[e],hp⟩
theorem DK{g:List R->Option (R×List R)}{c:List D}{QR:R->List D->Prop}(h:wpF g (.bor c::ds.map .val) λr aW=>∃c' t,aW=.bor c'::t/\QR r c'):wpB g c ds QR:=by
 obtain⟨r,aW,e,c',t,rfl,q⟩:=h;exact⟨r,c',by unfold bcF;rw[e],q⟩
end
end DL
namespace DL
open PySem L2
section
variable{α:Type}{Q:α->Gm->Prop}{QD:D->Gm->Prop}{QL:List D->Gm->Prop}{i j:Int}
@[simp ↓] theorem sh{c:Prop}[Decidable c]{a:α}:wp (lft (if c then some a else none)) Y Q↔c/\Q a Y:=by
 by_cases h:c
 ·simp[h]
 ·simp only[h,if_false,false_and,iff_false];rintro⟨_,_,e,_⟩;cases e
@[simp ↓] theorem Nj:wp (λ_=>(none:Option (α×Gm))) Y Q↔False:=by
 simp only[iff_false];rintro⟨_,_,e,_⟩;cases e
@[simp] theorem MB:subI (.int i) (.int j)=some (.int (i - j)):=rfl
@[simp] theorem Nf:addF (.int i) (.int j)=some (.int (i+j)):=rfl
@[simp] theorem f_lt:ltI (.int i) (.int j)=some (.bl (decide (i < j))):=rfl
@[simp] theorem f_le:leI (.int i) (.int j)=some (.bl (decide (i<=j))):=rfl
@[simp] theorem f_gt:gtI (.int i) (.int j)=some (.bl (decide (j < i))):=rfl
@[simp] theorem f_ge:geI (.int i) (.int j)=some (.bl (decide (j<=i))):=rfl
@[simp ↓] theorem Mw:wp (lft (modI (.int i) (.int j))) Y QD↔0 < j/\QD (.int (i % j)) Y:=by simp[modI,intF]
@[simp ↓] theorem Lo:wp (lft (divI (.int i) (.int j))) Y QD↔(0 < j/\j < 2 ^ 200)/\QD (.int (i / j)) Y:=by simp only[divI,intF,decide_eq_true_eq,sh]
@[simp ↓] theorem Nl:wp (lft (mulI (.int i) (.int j))) Y QD↔((-(2 ^ 64) < i/\i < 2 ^ 64)\/(-(2 ^ 64) < j/\j < 2 ^ 64))/\QD (.int (i*j)) Y:=by simp only[mulI,intF,decide_eq_true_eq,sh]
@[simp ↓] theorem Mh:wp (lft (powI (.int i) (.int j))) Y QD↔(0<=j/\j<=1000000/\i.natAbs < 2 ^ 64)/\QD (.int (i ^ j.toNat)) Y:=by simp only[powI,intF,decide_eq_true_eq,sh]
@[simp] theorem LY:ixF (.lst ds) (.int i)=atI ds i:=rfl
@[simp] theorem Ng:ixF (.tup ds) (.int i)=atI ds i:=rfl
theorem rV{α:Type}{ds:List α}:atI ds (n:Int)=ds[n]?:=by
 unfold atI ixN;rw[if_pos (by omega)];by_cases h:(n:Int) < ds.length
 ·rw[if_pos h];simp
 ·rw[if_neg h];have:ds.length<=n:=by omega
  simp[O7 this]
@[simp] theorem ME{α:Type}{a:α}{ds:List α}:atI (a::ds) 0=some a:=by
 rw[show(0:Int)=((0:Nat):Int) from rfl,rV];rfl
@[simp] theorem M1{α:Type}{a b:α}{ds:List α}:atI (a::b::ds) 1=some b:=by
 rw[show(1:Int)=((1:Nat):Int) from rfl,rV];rfl
@[simp] theorem Nk{α:Type}{a b c:α}{ds:List α}:atI (a::b::c::ds) 2=some c:=by
 rw[show(2:Int)=((2:Nat):Int) from rfl,rV];rfl
theorem yq{α:Type}{ds:List α}{i:Int}(h0:0<=i)(h1:i < ds.length):∃a,atI ds i=some a/\a∈ds:=by
 obtain⟨n,rfl⟩:=Oh h0;have h:n < ds.length:=by omega
 exact⟨ds[n],by rw[rV,g_ h],NS h⟩
@[simp] theorem MP{a b:D}:stF 1 d (a::b::ds)=some (a::d::ds):=by
 unfold stF ixN;rw[if_pos (by omega),if_pos (by simp;omega)];rfl
@[simp] theorem Mc{a b c:D}:stF 2 d (a::b::c::ds)=some (a::b::d::ds):=by
 unfold stF ixN;rw[if_pos (by omega),if_pos (by simp;omega)];rfl
@[simp] theorem M6:lenF [.lst ds]=some (.int ds.length):=rfl
@[simp] theorem LQ:lenF [.tup ds]=some (.int ds.length):=rfl
@[simp] theorem LP:minF [.int i,.int j]=some (.int (min i j)):=by
 unfold minF;dsimp only;congr 2;split<;>omega
@[simp] theorem Mu:maxF [.int i,.int j]=some (.int (max i j)):=by
 unfold maxF;dsimp only;congr 2;split<;>omega
@[simp] theorem No:tupF [.lst ds]=some (.tup ds):=rfl
@[simp] theorem Mj:tupF [.tup ds]=some (.tup ds):=rfl
@[simp] theorem M':lstF [.lst ds]=some ds:=rfl
@[simp] theorem K':lstF [.tup ds]=some ds:=rfl
@[simp] theorem EJ:seqI (.lst ds)=some ds:=rfl
@[simp] theorem LN:seqI (.tup ds)=some ds:=rfl
@[simp] theorem LH{b:Bool}:reprF [.bl b]=some (.str (if b then "True" else "False")):=rfl
@[simp] theorem Mm{lo:Option Int}:slF (.lst ds) lo hi=some (.lst (cutD ds lo hi)):=rfl
@[simp] theorem LO{xs:List D}:zipI [.lst xs,.lst ys]=some (pairsD xs ys):=rfl
@[simp] theorem Ma{xs:List D}:zipI [.tup xs,.tup ys]=some (pairsD xs ys):=rfl
@[simp] theorem Li{xs:List D}:enumI [.lst xs]=some (numD 0 xs):=rfl
@[simp] theorem L'{xs:List D}:enumI [.tup xs]=some (numD 0 xs):=rfl
@[simp ↓] theorem Ll:wp (lft (rngI1 [.int j])) Y QL↔(-1000000<=j/\j<=1000000)/\QL (rngD 0 j.toNat) Y:=by simp only[rngI1,sh]
@[simp ↓] theorem MZ:wp (lft (rngI2 [.int i,.int j])) Y QL↔((-1000000<=i/\i<=1000000)/\-1000000<=j/\j<=1000000)/\QL (rngD i (j - i).toNat) Y:=by simp only[rngI2,sh]
@[simp ↓] theorem Nc{a b:D}:wp (lft (eqF neg a b)) Y QD↔(dep a<=100\/dep b<=100)/\QD (.bl (if neg then !deq a b else deq a b)) Y:=by simp only[eqF,sh]
@[simp ↓] theorem Lp{xs:List D}:wp (lft (catF (.lst xs) (.lst ys))) Y QL↔xs.length+ys.length<=lim/\QL (xs++ys) Y:=by simp only[catF,sh]
@[simp ↓] theorem Ms{xs:List D}:wp (lft (addF (.tup xs) (.tup ys))) Y QD↔xs.length+ys.length<=lim/\QD (.tup (xs++ys)) Y:=by simp only[addF,sh]
@[simp] theorem Ld{a:Int}:dep (.int a)=0:=by simp[dep]
@[simp] theorem Lq{a:Bool}:dep (.bl a)=0:=by simp[dep]
@[simp] theorem Lw{a:Str}:dep (.str a)=0:=by simp[dep]
@[simp] theorem MJ:dep (.lst [])=1:=by simp[dep,depA]
@[simp] theorem Mb{a b:Bool}:deq (.bl a) (.bl b)=(a == b):=by simp[deq]
@[simp] theorem MV{a b:Str}:deq (.str a) (.str b)=(a == b):=by simp[deq]
@[simp] theorem rp{a b:Int}:deq (.int a) (.int b)=(a == b):=by simp[deq]
@[simp] theorem wZ:deq (.lst ds) (.lst [])=ds.isEmpty:=by cases ds<;>simp[deq,deqA]
@[simp] theorem M9{a b:Bool}:deq (.str (if a then "True" else "False")) (.str (if b then "True" else "False"))=(a == b):=by cases a<;>cases b<;>decide
@[simp] theorem AK:lim=1000000:=rfl
theorem vU{d:Nat}:HT.sIx n d (some (k:Int))=min k n:=by
 show(if(k:Int) < 0 then((k:Int)+(n:Int)).toNat else min (k:Int).toNat n)=min k n;rw[if_neg (by omega),Pc]
theorem BO:cutD ds none (some (n:Int))=ds.take n:=by
 unfold cutD;rw[vU,HT.vn];simp
theorem FR:cutD ds (some (n:Int)) none=ds.drop n:=by
 unfold cutD;rw[vU,HT.vn,List.take_of_length_le (by simp)];by_cases h:n<=ds.length
 ·rw[Nat.min_eq_left h]
 ·rw[Nat.min_eq_right (by omega),Pq (v_ _),Pq (by omega)]
theorem zO(h:n < ds.length):slF (.tup ds) none (some (n:Int))=some (.tup (ds.take n)):=by
 unfold slF;dsimp only;rw[vU,HT.vn,if_neg (by omega),BO]
theorem zA(h:0 < ds.length)(h1:0 < n):slF (.tup ds) (some (n:Int)) none=some (.tup (ds.drop n)):=by
 unfold slF;dsimp only;rw[vU,HT.vn,if_neg (by omega),FR]
@[simp] theorem Nh{P:List D->Prop}:(∃es,appF d ds=some es/\P es)↔ds.length < 1000000/\P (ds++[d]):=by
 unfold appF;rw[AK];by_cases h:ds.length < 1000000<;>simp[h]
@[simp] theorem MU{xs:List D}{P:List D->Prop}:(∃es,extF (.lst xs) ds=some es/\P es)↔ds.length+xs.length<=1000000/\P (ds++xs):=by
 unfold extF;rw[AK];by_cases h:ds.length+xs.length<=1000000<;>simp[h]
theorem pE{a b:M Fl}{QS:Fl->Gm->Prop}(h:∀K:Fl->Gm->Prop,(∀ac,wp b ac QS->K .nx ac)->(∀r ac,QS (.rt r) ac->K (.rt r) ac)->wp a Y K):wp (seqS a b) Y QS:=by
 rw[AY];exact h _ (λ_ h=>h) (λ_ _ h=>h)
theorem tQ{a b:M Fl}{QS:Fl->Gm->Prop}(P:Gm->Prop)(h:∀K:Fl->Gm->Prop,(∀ac,P ac->K .nx ac)->(∀r ac,QS (.rt r) ac->K (.rt r) ac)->wp a Y K)(h2:∀ac,P ac->wp b ac QS):wp (seqS a b) Y QS:=by
 rw[AY];exact h _ (λ_ p=>h2 _ p) (λ_ _ h=>h)
theorem rn{QS:Fl->Gm->Prop}(J:Nat->Gm->Prop)(h0:J 0 Y)(hs:∀(i:Nat) (d:D) (Y:Gm),ds[i]?=some d->J i Y->∀K:Fl->Gm->Prop,(∀ag,J (i+1) ag->K .nx ag)->(∀ag,J (i+1) ag->K .ct ag)->(∀ag,QS .nx ag->K .bk ag)->(∀r ag,QS (.rt r) ag->K (.rt r) ag)->wp (aE d) Y λ_ ac=>wp body ac K)(hd:∀Y,J ds.length Y->QS .nx Y):wp (forM aE body ds) Y QS:=
 Bq J h0 (λi d Y h j=>hs i d Y h j _ (λ_ h=>h) (λ_ h=>h) (λ_ h=>h) (λ_ _ h=>h)) hd
theorem so{rs:List R}{QR:R->List R->Prop}(hl:rs.length=ar)(h:∀K:Fl->Gm->Prop,(∀r af,(∃l,fin rs af=some l/\QR r l)->K (.rt r) af)->(∀af,(∃l,fin rs af=some l/\QR (.val .non) l)->K .nx af)->wp body (rs.map some++NF (n - rs.length) none) K):wpF (fnD n ar body) rs QR:=
 zd hl (h _ (λr _ h=>⟨r,rfl,h⟩) (λ_ h=>⟨_,rfl,h⟩))
theorem tV{c:List D}{QR:R->List D->Prop}(hl:ds.length+1=ar)(h:∀K:Fl->Gm->Prop,(∀r c' af,(∃t,fin (ds.map .val) af=some t)->QR r c'->K (.rt r) (some (.bor c')::af))->(∀c' af,(∃t,fin (ds.map .val) af=some t)->QR (.val .non) c'->K .nx (some (.bor c')::af))->wp body ((.bor c::ds.map .val).map some++NF (n - (ds.length+1)) none) K):wpB (fnD n ar body) c ds QR:=by
 refine DK (so (by simpa using hl) λK k1 k2=>?_);refine(by simpa using h K (λr c' af ⟨t,e⟩ q=>k1 r _ ⟨_,by simp[fin,e],c',t,rfl,q⟩) (λc' af ⟨t,e⟩ q=>k2 _ ⟨_,by simp[fin,e],c',t,rfl,q⟩))
theorem Cq{α:Type}(xs:List α)(f:α->D)(p:α->Bool)(v:α->D)(h:wp it Y λds ac=>ds=xs.map f/\xs.length<=1000000/\(∀x∈xs,∀cs:Gm,cs.length=m->wp (aE (f x)) (cs++ac) λ_ ag=>wp ts ag λb aL=>b=p x/\(if b=true then wp el aL λy aS=>y=v x/\∃cA,cA.length=m/\aS=cA++ac else ∃cA,cA.length=m/\aL=cA++ac)) ∧
   QL ((xs.filter p).map v) ac):wp (compO m it aE ts el) Y QL:=by
 unfold compO;rw[ra];refine h.mono λds ac ⟨ft,hl,hp,hq⟩=>?_
 subst ft;rw[if_pos (by simpa using hl)]
 have aU:∀(es:List α) (cs:Gm),(∀d∈es,d∈xs)->cs.length=m->∃cA,cA.length=m/\compM aE ts el (es.map f) (cs++ac)=some ((es.filter p).map v,cA++ac):=by
  intro es
  induction es with
  | nil=>intro cs _ hc;exact⟨cs,hc,rfl⟩
  | cons d es ih =>
   intro cs hm hc;obtain⟨u,ag,e1,b,aL,e2,hb,h3⟩:=hp d (hm d m_) cs hc;have fx:∀d∈es,d∈xs:=λd hd=>hm d (j_ _ hd)
   cases b with
   | false =>
    rw[if_neg i_] at h3;obtain⟨cA,aN,rfl⟩:=h3;obtain⟨ka,de,e3⟩:=ih cA fx aN;refine⟨ka,de,?_⟩;rw[H_,compM];unfold bnd;simp only[e1,e2,Pd,if_false];rw[e3,P6,←hb];simp
   | true =>
    rw[if_pos rfl] at h3;obtain⟨x,aS,e4,rfl,cA,aN,rfl⟩:=h3;obtain⟨ka,de,e3⟩:=ih cA fx aN;refine⟨ka,de,?_⟩;rw[H_,compM];unfold bnd;simp only[e1,e2,if_true,e4];rw[e3,P6,←hb];rfl
 obtain⟨cA,aN,e⟩:=aU xs (NF m none) (λ_ h=>h) (by simp);refine⟨_,_,?_,hq⟩;unfold inC;rw[e];simp[aN,List.drop_append]
theorem rJ{α:Type}(xs:List α)(f:α->D)(p:α->Bool)(v:α->D)(h:wp it Y λds ac=>ds=xs.map f/\xs.length<=1000000/\(∀x∈xs,∀a,wp (aE (f x)) (a::ac) λ_ ag=>wp ts ag λb aL=>b=p x/\(if b=true then wp el aL λy aS=>y=v x/\∃a',aS=a'::ac else ∃a',aL=a'::ac)) ∧
   QL ((xs.filter p).map v) ac):wp (compO 1 it aE ts el) Y QL:=by
 refine Cq xs f p v (h.mono λds ac ⟨h1,h2,h3,h4⟩=>⟨h1,h2,λx hx cs hc=>?_,h4⟩);obtain⟨a,rfl⟩:=List.length_eq_one_iff.mp hc;refine(h3 x hx a).mono λ_ ag h=>h.mono λb aL ⟨h5,h6⟩=>⟨h5,?_⟩
 cases b with
 | true=>simp only[if_true] at h6 ⊢;exact h6.mono λy aS ⟨h7,a',h8⟩=>⟨h7,[a'],rfl,h8⟩
 | false=>simp only[Pd,if_false] at h6 ⊢;obtain⟨a',h8⟩:=h6;exact⟨[a'],rfl,h8⟩
theorem sU{α:Type}(xs:List α)(f:α->D)(p:α->Bool)(v:α->D)(h:wp it Y λds ac=>ds=xs.map f/\xs.length<=1000000/\(∀x∈xs,∀a b,wp (aE (f x)) (a::b::ac) λ_ ag=>wp ts ag λb aL=>b=p x/\(if b=true then wp el aL λy aS=>y=v x/\∃a' b',aS=a'::b'::ac else ∃a' b',aL=a'::b'::ac)) ∧
   QL ((xs.filter p).map v) ac):wp (compO 2 it aE ts el) Y QL:=by
 refine Cq xs f p v (h.mono λds ac ⟨h1,h2,h3,h4⟩=>⟨h1,h2,λx hx cs hc=>?_,h4⟩)
 obtain⟨a,b,rfl⟩:∃a b,cs=[a,b]:=by
  match cs,hc with
  | [a,b],_=>exact⟨a,b,rfl⟩
 refine(h3 x hx a b).mono λ_ ag h=>h.mono λb aL ⟨h5,h6⟩=>⟨h5,?_⟩
 cases b with
 | true=>simp only[if_true] at h6 ⊢;exact h6.mono λy aS ⟨h7,a',b',h8⟩=>⟨h7,[a',b'],rfl,h8⟩
 | false=>simp only[Pd,if_false] at h6 ⊢;obtain⟨a',b',h8⟩:=h6;exact⟨[a',b'],rfl,h8⟩
theorem rE(hl:ds.length=ar)(h:∀K:Fl->Gm->Prop,(∀af,(∃l,fin (ds.map .val) af=some l)->K (.rt (.val d)) af)->(∀af,d=.non->(∃l,fin (ds.map .val) af=some l)->K .nx af)->wp body ((ds.map .val).map some++NF (n - ds.length) none) K):cvF (fnD n ar body) ds=some d:=by
 refine Ip (so (by simpa using hl) λK k1 k2=>?_);have:=h K (λaf ⟨l,e⟩=>k1 _ _ ⟨l,e,rfl⟩) (λaf hd ⟨l,e⟩=>k2 _ ⟨l,e,by rw[hd]⟩);simpa using this
theorem Bu{α:Type}{f:α->Bool}{xs:List α}:blsD (xs.map λx=>.bl (f x))=some (xs.map f):=by
 induction xs with
 | nil=>rfl
 | cons x xs ih=>simp only[H_,blsD,ih]
theorem Bx{α:Type}{f:α->Bool}{xs:List α}:allF [.lst (xs.map λx=>.bl (f x))]=some (.bl (xs.all f)):=by
 unfold allF;simp only[Bu];simp[RI]
theorem Dw{α:Type}{f:α->Bool}{xs:List α}:anyF [.lst (xs.map λx=>.bl (f x))]=some (.bl (xs.any f)):=by
 unfold anyF;simp only[Bu];simp[RI]
theorem wb{α Z:Type}{f:α->D}{g:Z->D}{xs:List α}{ys:List Z}:pairsD (xs.map f) (ys.map g)=(xs.zip ys).map λq=>.tup [f q.1,g q.2]:=by
 unfold pairsD
 induction xs generalizing ys with
 | nil=>rfl
 | cons x xs ih =>
  cases ys with
  | nil=>rfl
  | cons y ys=>simp only[H_,Om,ih]
end
section
variable{α:Type}{Q:α->Gm->Prop}{QD:D->Gm->Prop}{QL:List D->Gm->Prop}{i j:Int}
@[simp ↓] theorem Nm{i:Nat}{g:M D}:wp (inN neg i g) Y QD↔wp g Y λd ac=>wp (look i) ac λl ag=>wp (lft (inF neg d l)) ag QD:=by simp only[inN,ra]
theorem IP{xs:List D}(h:SetOk xs)(k:xs.all fstI=true\/xs.all fstT=true):setF [.lst xs]=some (sortD (dd xs)):=by
 unfold setF;exact if_pos ⟨h,k⟩
theorem zJ{xs:List D}(h:SortOk xs):sortF [.lst xs]=some (sortD xs):=by
 unfold sortF;exact if_pos h
theorem Ku(ds:List D):∀d∈ds,(dd ds).any (λe=>deq e d)=true:=by
 have aU:∀(ds ah:List D),(∀d,ah.any (λe=>deq e d)=true->(ds.foldl dstep ah).any (λe=>deq e d)=true)/\∀d∈ds,(ds.foldl dstep ah).any (λe=>deq e d)=true:=by
  intro ds
  induction ds with
  | nil=>exact λah=>⟨λd h=>h,λd h=>by cases h⟩
  | cons c ds ih =>
   intro ah;obtain⟨h1,h2⟩:=ih (dstep ah c)
   have st:∀d,ah.any (λe=>deq e d)=true->(dstep ah c).any (λe=>deq e d)=true:=λd h=>by
    unfold dstep;split
    ·exact h
    ·rw[List.any_append,h];rfl
   refine⟨λd h=>h1 d (st d h),λd h=>?_⟩
   rcases D_.mp h with rfl | h
   ·refine h1 d ?_;unfold dstep;split
    ·assumption
    ·rw[List.any_append];simp[uN]
   ·exact h2 d h
 exact(aU ds []).2
theorem Bl(ds:List D):(dd ds).length<=ds.length:=by
 have aU:∀(ds ah:List D),(ds.foldl dstep ah).length<=ah.length+ds.length:=by
  intro ds
  induction ds with
  | nil=>exact λah=>v_ _
  | cons c ds ih =>
   intro ah;have:=ih (dstep ah c)
   have:(dstep ah c).length<=ah.length+1:=by
    unfold dstep;split
    ·omega
    ·simp
   rw[S0,NG];omega
 have:=aU ds [];simpa[dd] using this
end
end DL
namespace DL
theorem wx{α:Type}:∀(l m:List α),l.Nodup->(∀x∈l,x∈m)->l.length<=m.length
 | [],m,_,_=>NK _
 | x::l,m,nd,h=>by
  obtain⟨a,b,rfl⟩:=R5 (h x m_);rw[N9] at nd
  have:=wx l (a++b) nd.2 (λy hy=>by
   have:=h y (j_ _ hy)
   rcases L_.mp this with z | z
   ·exact(NI _ z)
   ·rcases D_.mp z with z | z
    ·subst z;exact absurd hy nd.1
    ·exact(F_ _ z))
  simp at this ⊢;omega
theorem sW{os:List D}(hl:ds.length=ar)(h:∀K:Fl->Gm->Prop,(∀af,(∃l,fin (ds.map .val) af=some l)->K (.rt (.own os)) af)->wp body ((ds.map .val).map some++NF (n - ds.length) none) K):coF (fnD n ar body) ds=some os:=by
 have w:wpF (fnD n ar body) (ds.map .val) λr _=>r=.own os:=so (by simpa using hl) λK k1 _=>by
  have:=h K (λaf ⟨l,e⟩=>k1 _ _ ⟨l,e,rfl⟩);simpa using this
 obtain⟨r,aW,e,rfl⟩:=w;unfold coF;rw[e]
section
variable{QS:Fl->Gm->Prop}{QL:List D->Gm->Prop}
@[simp ↓] theorem Lc:wp (froS j) Y QL↔match Y[j]? with
  | some (some (.fro ds))=>QL ds Y
  | _=>False:=by
 unfold wp froS
 rcases e:Y[j]? with _ | _ | r
 ·simp
 ·simp
 ·cases r<;>simp<;>exact⟨λ⟨_,_,⟨h1,h2⟩,q⟩=>by subst h1;subst h2;exact q,λq=>⟨_,_,⟨rfl,rfl⟩,q⟩⟩
@[simp ↓] theorem Lb{g:M (List D)}:wp (setY i g) Y QS↔wp g Y λd ac=>i < ac.length/\QS .nx (ac.set i (some (.fro d))):=by simp[setY]
@[simp ↓] theorem MY:wp (cpS i j) Y QS↔wp (froS j) Y λd ac=>i < ac.length/\QS .nx (ac.set i (some (.fro d))):=by simp only[cpS,ra,FS,r9]
@[simp ↓] theorem Na:wp (retY j) Y QS↔wp (froS j) Y λd ac=>QS (.rt (.fro d)) ac:=by simp only[retY,ra,r9]
theorem Cg{c:M Bool}{b:M Fl}(J:Nat->Gm->Prop)(hs:∀(m:Nat) (Y:Gm),J m Y->wp c Y λk ac=>if k=true then ∃m',m=m'+1/\∀K:Fl->Gm->Prop,(∀ag,J m' ag->K .nx ag)->(∀ag,J m' ag->K .ct ag)->(∀ag,QS .nx ag->K .bk ag)->(∀r ag,QS (.rt r) ag->K (.rt r) ag)->wp b ac K else QS .nx ac):
  ∀(n m:Nat) (Y:Gm),m < n->J m Y->wp (whlS n c b) Y QS:=by
 intro n
 induction n with
 | zero=>intro m Y h;omega
 | succ n ih =>
  intro m Y h j;rw[whlS,ra];refine(hs m Y j).mono λk ac q=>?_
  cases k with
  | false=>rw[if_neg i_] at q ⊢;rw[r9];exact q
  | true =>
   rw[if_pos rfl] at q ⊢;obtain⟨m',rfl,q⟩:=q;rw[ra];refine q _ (λag j2=>?_) (λag j2=>?_) (λag z=>?_) λr ag z=>?_
   ·exact ih m' ag (by omega) j2
   ·exact ih m' ag (by omega) j2
   ·exact(r9).mpr z
   ·exact(r9).mpr z
theorem Ks{os:List D}(hl:ds.length=ar)(no:noLA os=true)(h:∀K:Fl->Gm->Prop,(∀af,(∃l,fin (ds.map .val) af=some l)->K (.rt (.fro os)) af)->wp body ((ds.map .val).map some++NF (n - ds.length) none) K):coF (fnD n ar body) ds=some os:=by
 have w:wpF (fnD n ar body) (ds.map .val) λr _=>r=.fro os:=so (by simpa using hl) λK k1 _=>by
  have:=h K (λaf ⟨l,e⟩=>k1 _ _ ⟨l,e,rfl⟩);simpa using this
 obtain⟨r,aW,e,rfl⟩:=w;unfold coF;rw[e];exact if_pos no
end
end DL
namespace Own
open PySem PySem.Spec PyProof.Rows L2 DL
noncomputable def xW:M Fl:=
 (forS (itS (nm 0)) (tgN 1)
  (ifS (tst (op2 (eqF true) (fn1 lenF (consA (nm 1) nilA)) (fn1 lenF (consA (op2 ixF (nm 0) (ret (.int 0))) nilA))))
  (λ_=>none) (ret .nx)))
noncomputable def rL:List R->Option (R×List R):=fnD 2 1 xW
noncomputable def xj:M Fl:=
 (seqS (dropS (fn1 (cvF rL) (consA (frz (lstA (consA (nm 0) (consA (nm 1) nilA)))) nilA)))
  (retS (fn1 allF (consA (frz (compO 2 (fn1 zipI (consA (nm 0) (consA (nm 1) nilA))) (tgTup 2 (tgCons (tgN 0) (tgCons (tgN 1) tgNil))) (ret true) (chn leI leI (op2 ixF (nm 0) (ret (.int 0))) (nm 1) (op2 ixF (nm 0) (ret (.int 1)))))) nilA))))
noncomputable def tm:List R->Option (R×List R):=fnD 2 2 xj
noncomputable def xI:M Fl:=
 (seqS (dropS (fn1 (cvF rL) (consA (frz (lstA (consA (nm 0) (consA (nm 1) nilA)))) nilA)))
  (retS (fn1 allF (consA (frz (compO 2 (fn1 zipI (consA (nm 0) (consA (nm 1) nilA))) (tgTup 2 (tgCons (tgN 0) (tgCons (tgN 1) tgNil))) (ret true) (andV (op2 leI (op2 ixF (nm 0) (ret (.int 0))) (op2 ixF (nm 1) (ret (.int 0)))) (op2 leI (op2 ixF (nm 1) (ret (.int 1))) (op2 ixF (nm 0) (ret (.int 1))))))) nilA))))
noncomputable def uL:List R->Option (R×List R):=fnD 2 2 xI
noncomputable def yG:M Fl:=
 (seqS (dropS (fn1 (cvF rL) (consA (frz (lstA (consA (nm 0) (consA (nm 1) nilA)))) nilA)))
  (seqS (setO 2 (lstA nilA))
  (seqS (forS (fn1 zipI (consA (nm 0) (consA (nm 1) nilA))) (tgTup 2 (tgCons (tgN 3) (tgCons (tgN 4) tgNil)))
  (seqS (setV 5 (fn1 maxF (consA (op2 ixF (nm 3) (ret (.int 0))) (consA (op2 ixF (nm 4) (ret (.int 0))) nilA))))
  (seqS (setV 6 (fn1 minF (consA (op2 ixF (nm 3) (ret (.int 1))) (consA (op2 ixF (nm 4) (ret (.int 1))) nilA))))
  (seqS (ifS (tst (op2 gtI (nm 5) (nm 6)))
  (retS (ret .non)) (ret .nx))
  (appS 2 (tupA (consA (nm 5) (consA (nm 6) nilA))))))))
  (retS (fn1 tupF (consA (nm 2) nilA))))))
noncomputable def vp:List R->Option (R×List R):=fnD 7 2 yG
noncomputable def yB:M Fl:=
 (retS (fn1 anyF (consA (frz (compO 1 (itS (nm 0)) (tgN 0) (ret true) (andV (op2 (eqF true) (nm 0) (nm 2)) (fn1 (cvF uL) (consA (nm 0) (consA (nm 2) nilA)))))) nilA)))
noncomputable def vY:List R->Option (R×List R):=fnD 2 2 yB
noncomputable def x0:M Fl:=
 (seqS (dropS (fn1 (cvF rL) (consA (nm 0) nilA)))
  (seqS (setV 1 (frz (fn1 setF (consA (nm 0) nilA))))
  (retO (compO 1 (itS (nm 1)) (tgN 0) (notT (tst (fn1 (cvF vY) (consA (nm 2) (consA (nm 0) nilA))))) (nm 0)))))
noncomputable def tJ:List R->Option (R×List R):=fnD 2 1 x0
noncomputable def wG:M Fl:=
 (seqS (setO 2 (lstA nilA))
  (seqS (forS (fn1 enumI (consA (nm 1) nilA)) (tgTup 2 (tgCons (tgN 3) (tgCons (tgN 4) tgNil)))
  (forS (itS (nm 0)) (tgN 5)
  (seqS (ifS (tst (op2 ltI (op2 ixF (nm 4) (ret (.int 0))) (op2 ixF (op2 ixF (nm 5) (nm 3)) (ret (.int 0)))))
  (appS 2 (tupA (consA (nm 3) (consA (op2 subI (op2 ixF (op2 ixF (nm 5) (nm 3)) (ret (.int 0))) (ret (.int 1))) nilA)))) (ret .nx))
  (ifS (tst (op2 ltI (op2 ixF (op2 ixF (nm 5) (nm 3)) (ret (.int 1))) (op2 ixF (nm 4) (ret (.int 1)))))
  (appS 2 (tupA (consA (nm 3) (consA (op2 ixF (op2 ixF (nm 5) (nm 3)) (ret (.int 1))) nilA)))) (ret .nx)))))
  (retS (fn1 minlF (consA (nm 2) nilA)))))
noncomputable def v5:List R->Option (R×List R):=fnD 6 2 wG
noncomputable def yV:M Fl:=
 (seqS (setV 3 (sl3 slF (nm 0) (ret none) (prt (nm 1))))
  (seqS (setV 4 (sl3 slF (nm 0) (prt (op2 addF (nm 1) (ret (.int 1)))) (ret none)))
  (seqS (setV 5 (op2 ixF (op2 ixF (nm 0) (nm 1)) (ret (.int 0))))
  (seqS (setV 6 (op2 ixF (op2 ixF (nm 0) (nm 1)) (ret (.int 1))))
  (retS (tupA (consA (op2 addF (op2 addF (nm 3) (tupA (consA (tupA (consA (nm 5) (consA (nm 2) nilA))) nilA))) (nm 4)) (consA (op2 addF (op2 addF (nm 3) (tupA (consA (tupA (consA (op2 addF (nm 2) (ret (.int 1))) (consA (nm 6) nilA))) nilA))) (nm 4)) nilA))))))))
noncomputable def wt:List R->Option (R×List R):=fnD 7 3 yV
noncomputable def wy(g:List R->Option (R×List R)):M Fl:=
 (seqS (setV 3 (frz (compO 1 (itS (nm 1)) (tgN 0) (tst (op2 (isNF true) (fn1 (cvF vp) (consA (op2 ixF (nm 1) (nm 0)) (consA (nm 3) nilA))) (ret .non))) (nm 0))))
  (seqS (ifS (tst (op2 (eqF false) (fn1 lenF (consA (nm 3) nilA)) (ret (.int 0))))
  (retS (tupA (consA (ret (.str "out")) (consA (fn1 tupF (consA (frz (compO 1 (itS (nm 2)) (tgN 0) (ret true) (op2 ixF (nm 0) (ret (.int 0))))) nilA)) nilA)))) (ret .nx))
  (seqS (forS (itS (nm 3)) (tgN 4)
  (ifS (tst (fn1 (cvF uL) (consA (op2 ixF (nm 0) (nm 4)) (consA (nm 2) nilA))))
  (retS (tupA (consA (ret (.str "in")) (consA (tupA (consA (ret (.str "by")) (consA (nm 4) nilA))) nilA)))) (ret .nx)))
  (seqS (setV 5 (fn1 (cvF v5) (consA (frz (compO 1 (itS (nm 3)) (tgN 0) (ret true) (op2 ixF (nm 1) (nm 0)))) (consA (nm 2) nilA))))
  (seqS (setV 6 (fn1 (cvF wt) (consA (nm 2) (consA (op2 ixF (nm 5) (ret (.int 0))) (consA (op2 ixF (nm 5) (ret (.int 1))) nilA)))))
  (seqS (setV 7 (fn1 (cvF g) (consA (nm 0) (consA (nm 3) (consA (op2 ixF (nm 6) (ret (.int 0))) nilA)))))
  (seqS (ifS (tst (op2 (eqF false) (op2 ixF (nm 7) (ret (.int 0))) (ret (.str "out"))))
  (retS (nm 7)) (ret .nx))
  (seqS (setV 8 (fn1 (cvF g) (consA (nm 0) (consA (nm 3) (consA (op2 ixF (nm 6) (ret (.int 1))) nilA)))))
  (seqS (ifS (tst (op2 (eqF false) (op2 ixF (nm 8) (ret (.int 0))) (ret (.str "out"))))
  (retS (nm 8)) (ret .nx))
  (retS (tupA (consA (ret (.str "in")) (consA (tupA (consA (ret (.str "cut")) (consA (op2 ixF (nm 5) (ret (.int 0))) (consA (op2 ixF (nm 5) (ret (.int 1))) (consA (op2 ixF (nm 7) (ret (.int 1))) (consA (op2 ixF (nm 8) (ret (.int 1))) nilA)))))) nilA)))))))))))))
noncomputable def sL:Nat->List R->Option (R×List R)
 | 0=>λ_=>none
 | k+1=>fnD 9 3 (wy (sL k))
noncomputable def yW:M Fl:=
 (seqS (dropS (fn1 (cvF rL) (consA (frz (op2 catF (frz (lstA (consA (nm 1) nilA))) (nm 0))) nilA)))
  (retS (fn1 (cvF (sL 40)) (consA (nm 0) (consA (frz (fn1 rngI1 (consA (fn1 lenF (consA (nm 0) nilA)) nilA))) (consA (nm 1) nilA))))))
noncomputable def uz:List R->Option (R×List R):=fnD 2 2 yW
noncomputable def vF:M Fl:=
 (seqS (setY 1 (fn1 (coF tJ) (consA (nm 0) nilA)))
  (seqS (cpS 2 1)
  (seqS (forS (itS (nm 1)) (tgN 3)
  (seqS (setY 4 (compO 1 (itS (nm 2)) (tgN 0) (tst (op2 (eqF true) (nm 0) (nm 4))) (nm 0)))
  (ifS (tst (op2 (eqF false) (op2 ixF (fn1 (cvF uz) (consA (nm 4) (consA (nm 3) nilA))) (ret (.int 0))) (ret (.str "in"))))
  (cpS 2 4) (ret .nx))))
  (retY 2))))
noncomputable def vx:List R->Option (R×List R):=fnD 5 1 vF
noncomputable def wE:M Fl:=
 (ifS (notT (tst (chn leI ltI (ret (.int 0)) (nm 1) (op2 ixF (nm 0) (ret (.int 0))))))
  (λ_=>none) (ret .nx))
noncomputable def uU:List R->Option (R×List R):=fnD 2 2 wE
noncomputable def yA:M Fl:=
 (seqS (dropS (fn1 (cvF uU) (consA (nm 0) (consA (nm 1) nilA))))
  (retO (fn1 sortF (consA (frz (compO 1 (itS (op2 ixF (nm 0) (ret (.int 1)))) (tgN 0) (tst (op2 (inF false) (nm 2) (nm 0))) (ifV (tst (op2 (eqF false) (op2 ixF (nm 0) (ret (.int 0))) (nm 2))) (op2 ixF (nm 0) (ret (.int 1))) (op2 ixF (nm 0) (ret (.int 0)))))) nilA))))
noncomputable def uQ:List R->Option (R×List R):=fnD 2 2 yA
noncomputable def xf:M Fl:=
 (seqS (ifS (tst (op2 (eqF false) (nm 0) (ret (.str "spare"))))
  (retO (fn1 (coF vx) (consA (nm 1) nilA))) (ret .nx))
  (retO (fn1 (coF tJ) (consA (nm 1) nilA))))
noncomputable def vJ:List R->Option (R×List R):=fnD 2 2 xf
noncomputable def yw:M Fl:=
 (retO (compO 1 (itS (nm 0)) (tgN 0) (ret true) (op2 ixF (nm 0) (ret (.int 1)))))
noncomputable def ua:List R->Option (R×List R):=fnD 1 1 yw
noncomputable def vh(g:List R->Option (R×List R)):M Fl:=
 (seqS (setO 5 (fn1 (coF ua) (consA (frz (compO 1 (itS (nm 1)) (tgN 0) (tst (op2 (eqF false) (op2 ixF (nm 0) (ret (.int 0))) (nm 5))) (nm 0))) nilA)))
  (seqS (forS (itS (frz (fn1 (coF uQ) (consA (nm 0) (consA (nm 4) nilA))))) (tgN 6)
  (ifS (tst (op2 (eqF true) (nm 6) (nm 3)))
  (extS 5 (frz (fn1 (coF g) (consA (nm 0) (consA (nm 1) (consA (nm 2) (consA (nm 4) (consA (nm 6) nilA)))))))) (ret .nx)))
  (retO (fn1 (coF vJ) (consA (nm 2) (consA (nm 5) nilA))))))
noncomputable def tq:Nat->List R->Option (R×List R)
 | 0=>λ_=>none
 | k+1=>fnD 7 5 (vh (tq k))
noncomputable def xX:M Fl:=
 (retO (compO 1 (itS (frz (fn1 (coF (tq 20)) (consA (nm 0) (consA (nm 1) (consA (nm 2) (consA (nm 3) (consA (nm 4) nilA)))))))) (tgN 0) (tst (fn1 (cvF tm) (consA (nm 0) (consA (nm 6) nilA)))) (nm 0)))
noncomputable def vK:List R->Option (R×List R):=fnD 6 6 xX
noncomputable def vz(g:List R->Option (R×List R)):M Fl:=
 (seqS (setO 6 (lstA nilA))
  (seqS (forS (itS (frz (fn1 (coF uQ) (consA (nm 0) (consA (nm 4) nilA))))) (tgN 7)
  (ifS (andT (tst (op2 (eqF true) (nm 7) (nm 3))) (tst (op2 gtI (fn1 lenF (consA (frz (fn1 (coF vK) (consA (nm 0) (consA (nm 1) (consA (nm 2) (consA (nm 4) (consA (nm 7) (consA (nm 5) nilA)))))))) nilA)) (ret (.int 0)))))
  (seqS (appS 6 (tupA (consA (nm 4) (consA (nm 7) nilA))))
  (extS 6 (fn1 (cvF g) (consA (nm 0) (consA (nm 1) (consA (nm 2) (consA (nm 4) (consA (nm 7) (consA (nm 5) nilA))))))))) (ret .nx)))
  (retS (nm 6))))
noncomputable def sK:Nat->List R->Option (R×List R)
 | 0=>λ_=>none
 | k+1=>fnD 8 6 (vz (sK k))
noncomputable def yO:M Fl:=
 (seqS (dropS (fn1 (cvF rL) (consA (frz (op2 catF (frz (lstA (consA (nm 4) nilA))) (frz (fn1 (coF ua) (consA (nm 1) nilA))))) nilA)))
  (seqS (dropS (fn1 (cvF uU) (consA (nm 0) (consA (nm 3) nilA))))
  (seqS (setY 5 (fn1 sortF (consA (fn1 (cvF (sK 20)) (consA (nm 0) (consA (nm 1) (consA (nm 2) (consA (ret .non) (consA (nm 3) (consA (nm 4) nilA))))))) nilA)))
  (seqS (setV 6 (frz (op2 catF (frz (lstA (consA (nm 3) nilA))) (frz (compO 1 (itS (nm 5)) (tgN 0) (ret true) (op2 ixF (nm 0) (ret (.int 1))))))))
  (seqS (setO 7 (compO 2 (fn1 enumI (consA (nm 1) nilA)) (tgTup 2 (tgCons (tgN 0) (tgCons (tgN 1) tgNil))) (andT (tst (op2 (inF false) (op2 ixF (nm 1) (ret (.int 0))) (nm 8))) (tst (fn1 (cvF tm) (consA (op2 ixF (nm 1) (ret (.int 1))) (consA (nm 6) nilA))))) (nm 0)))
  (retFO 5 7))))))
noncomputable def uf:List R->Option (R×List R):=fnD 8 5 yO
noncomputable def wY:M Fl:=
 (seqS (ifS (tst (op2 geI (nm 0) (op2 powI (ret (.int 10)) (ret (.int 18)))))
  (retS (nm 0)) (ret .nx))
  (seqS (setV 2 (op2 modI (op2 addF (op2 addF (op2 mulI (op2 modI (nm 0) (ret (.int 998244353))) (ret (.int 40692))) (op2 mulI (nm 1) (ret (.int 69621)))) (ret (.int 1009))) (ret (.int 2147483399))))
  (seqS (setV 3 (op2 modI (op2 addF (op2 addF (op2 mulI (nm 2) (nm 2)) (op2 mulI (nm 1) (ret (.int 48271)))) (op2 modI (nm 0) (ret (.int 131071)))) (ret (.int 2147483647))))
  (seqS (setV 4 (op2 modI (op2 addF (op2 addF (op2 mulI (nm 3) (nm 3)) (op2 mulI (nm 2) (ret (.int 17)))) (ret (.int 3))) (ret (.int 2147483629))))
  (retS (op2 addF (op2 mulI (op2 addF (op2 mulI (nm 2) (ret (.int 2147483647))) (nm 3)) (ret (.int 2147483629))) (nm 4)))))))
noncomputable def uw:List R->Option (R×List R):=fnD 5 2 wY
noncomputable def xM:M Fl:=
 (seqS (setO 1 (fn1 lstF (consA (sl3 slF (nm 0) (ret none) (prt (ret (.int 12)))) nilA)))
  (seqS (forS (fn1 enumI (consA (sl3 slF (nm 0) (prt (ret (.int 12))) (prt (ret (.int 63)))) nilA)) (tgTup 2 (tgCons (tgN 2) (tgCons (tgN 3) tgNil)))
  (stS 1 (op2 modI (nm 2) (ret (.int 12))) (op2 addF (atN 1 (op2 modI (nm 2) (ret (.int 12)))) (nm 3))))
  (retO (lstA (consA (nm 1) (consA (ret (.int 0)) (consA (ret (.int 0)) nilA)))))))
noncomputable def uM:List R->Option (R×List R):=fnD 4 1 xM
noncomputable def wU:M Fl:=
 (seqS (ifS (tst (op2 ltI (atN 0 (ret (.int 2))) (nm 1)))
  (seqS (setV 2 (atN 0 (ret (.int 1))))
  (seqS (setV 3 (op2 mulI (ret (.int 11)) (nm 2)))
  (seqS (ifS (tst (op2 ltI (nm 2) (fn1 lenF (consA (atN 0 (ret (.int 0))) nilA))))
  (setV 3 (op2 ixF (atN 0 (ret (.int 0))) (nm 2))) (ifS (tst (op2 (eqF true) (atN 0 (ret (.int 0))) (frz (lstA nilA))))
  (setV 3 (op2 modI (op2 ixF (atN 0 (ret (.int 0))) (op2 modI (op2 addF (op2 mulI (nm 2) (ret (.int 7))) (ret (.int 1))) (fn1 lenF (consA (atN 0 (ret (.int 0))) nilA)))) (op2 addF (op2 powI (ret (.int 10)) (ret (.int 17))) (op2 mulI (ret (.int 3)) (nm 2))))) (ret .nx)))
  (seqS (stS 0 (ret (.int 1)) (op2 addF (nm 2) (ret (.int 1))))
  (stS 0 (ret (.int 2)) (fn1 (cvF uw) (consA (nm 3) (consA (nm 2) nilA)))))))) (ret .nx))
  (seqS (setV 4 (op2 modI (atN 0 (ret (.int 2))) (nm 1)))
  (seqS (stS 0 (ret (.int 2)) (op2 divI (atN 0 (ret (.int 2))) (nm 1)))
  (retS (nm 4)))))
noncomputable def rf:List R->Option (R×List R):=fnD 5 2 wU
noncomputable def sZ(g:List R->Option (R×List R)):M Fl:=
 (seqS (ifS (orT (tst (op2 (isNF false) (nm 1) (ret .non))) (tst (op2 (isNF false) (nm 0) (ret .non))))
  (retS (andV (op2 (isNF false) (nm 1) (ret .non)) (op2 (isNF false) (nm 0) (ret .non)))) (ret .nx))
  (seqS (ifS (orT (tst (un1 (isiF .bT) (nm 1))) (tst (un1 (isiF .bT) (nm 0))))
  (retS (andV (un1 (isiF .bT) (nm 1)) (andV (un1 (isiF .bT) (nm 0)) (op2 (eqF false) (nm 0) (nm 1))))) (ret .nx))
  (seqS (ifS (orT (tst (un1 (isiF .iT) (nm 1))) (tst (un1 (isiF .sT) (nm 1))))
  (retS (andV (op2 (eqF false) (un1 (isiF .iT) (nm 0)) (un1 (isiF .iT) (nm 1))) (op2 (eqF false) (nm 0) (nm 1)))) (ret .nx))
  (seqS (ifS (orT (tst (op2 (eqF true) (un1 (isiF .tT) (nm 1)) (un1 (isiF .tT) (nm 0)))) (tst (op2 (eqF true) (un1 (isiF .lT) (nm 1)) (un1 (isiF .lT) (nm 0)))))
  (retS (ret (.bl false))) (ret .nx))
  (seqS (ifS (tst (op2 (eqF true) (fn1 lenF (consA (nm 0) nilA)) (fn1 lenF (consA (nm 1) nilA))))
  (retS (ret (.bl false))) (ret .nx))
  (retS (op2 (inF true) (ret (.bl false)) (frz (compO 2 (fn1 zipI (consA (nm 0) (consA (nm 1) nilA))) (tgTup 2 (tgCons (tgN 0) (tgCons (tgN 1) tgNil))) (ret true) (fn1 (cvF g) (consA (nm 0) (consA (nm 1) nilA))))))))))))
noncomputable def sf:Nat->List R->Option (R×List R)
 | 0=>λ_=>none
 | k+1=>fnD 2 2 (sZ (sf k))
noncomputable def y4:M Fl:=
 (seqS (setO 4 (lstA nilA))
  (seqS (forS (fn1 rngI1 (consA (nm 1) nilA)) (tgN 5)
  (seqS (setV 6 (op2 addF (nm 2) (cbV 0 rf (consA (nm 3) nilA))))
  (seqS (setV 7 (op2 addF (nm 2) (cbV 0 rf (consA (nm 3) nilA))))
  (appS 4 (tupA (consA (fn1 minF (consA (nm 6) (consA (nm 7) nilA))) (consA (fn1 maxF (consA (nm 6) (consA (nm 7) nilA))) nilA)))))))
  (retS (fn1 tupF (consA (nm 4) nilA)))))
noncomputable def we:List R->Option (R×List R):=fnD 8 4 y4
noncomputable def yy:M Fl:=
 (seqS (setV 2 (cbV 0 rf (consA (fn1 lenF (consA (nm 1) nilA)) nilA)))
  (seqS (asgS (op2 ixF (nm 1) (nm 2)) (tgTup 2 (tgCons (tgN 3) (tgCons (tgN 4) tgNil))))
  (seqS (setV 5 (frz (lstA (consA (tupA (consA (fn1 maxF (consA (ret (.int 0)) (consA (op2 subI (nm 3) (ret (.int 1))) nilA))) (consA (nm 4) nilA))) (consA (tupA (consA (nm 3) (consA (fn1 minF (consA (ret (.int 9)) (consA (op2 addF (nm 4) (ret (.int 1))) nilA))) nilA))) (consA (tupA (consA (fn1 minF (consA (op2 addF (nm 3) (ret (.int 1))) (consA (nm 4) nilA))) (consA (nm 4) nilA))) (consA (tupA (consA (nm 3) (consA (fn1 maxF (consA (nm 3) (consA (op2 subI (nm 4) (ret (.int 1))) nilA))) nilA))) nilA)))))))
  (retS (op2 addF (op2 addF (sl3 slF (nm 1) (ret none) (prt (nm 2))) (tupA (consA (op2 ixF (nm 5) (cbV 0 rf (consA (ret (.int 4)) nilA))) nilA))) (sl3 slF (nm 1) (prt (op2 addF (nm 2) (ret (.int 1)))) (ret none)))))))
noncomputable def vD:List R->Option (R×List R):=fnD 6 2 yy
noncomputable def wK:M Fl:=
 (seqS (setV 3 (fn1 minF (consA (op2 ixF (frz (lstA (consA (ret (.int 2)) (consA (ret (.int 3)) (consA (ret (.int 4)) (consA (ret (.int 10)) nilA)))))) (cbV 0 rf (consA (ret (.int 4)) nilA))) (consA (op2 ixF (frz (lstA (consA (ret (.int 10)) (consA (ret (.int 10)) (consA (ret (.int 5)) (consA (ret (.int 4)) nilA)))))) (nm 1)) nilA))))
  (seqS (setV 4 (cbV 0 rf (consA (op2 subI (ret (.int 11)) (nm 3)) nilA)))
  (seqS (setO 5 (lstA nilA))
  (seqS (forS (fn1 rngI1 (consA (cbV 0 rf (consA (op2 addF (nm 2) (ret (.int 1))) nilA)) nilA)) (tgN 6)
  (seqS (setV 7 (cbV 0 rf (consA (ret (.int 6)) nilA)))
  (seqS (setV 8 (cbV 0 we (consA (nm 1) (consA (nm 4) (consA (nm 3) nilA)))))
  (seqS (ifS (andT (tst (op2 (eqF false) (nm 7) (ret (.int 0)))) (tst (cmpN true 5 (frz (lstA nilA)))))
  (setV 8 (atN 5 (cbV 0 rf (consA (lenN 5) nilA)))) (ret .nx))
  (seqS (ifS (andT (tst (op2 (eqF false) (nm 7) (ret (.int 1)))) (tst (cmpN true 5 (frz (lstA nilA)))))
  (setV 8 (cbV 0 vD (consA (atN 5 (cbV 0 rf (consA (lenN 5) nilA))) nilA))) (ret .nx))
  (appS 5 (nm 8)))))))
  (retS (nm 5))))))
noncomputable def vS:List R->Option (R×List R):=fnD 9 3 wK
noncomputable def w8:M Fl:=
 (retS (op2 (eqF false) (frz (compO 2 (fn1 zipI (consA (nm 1) (consA (nm 0) nilA))) (tgTup 2 (tgCons (tgN 0) (tgCons (tgN 1) tgNil))) (orT (tst (op2 ltI (nm 0) (op2 ixF (nm 1) (ret (.int 0))))) (tst (op2 gtI (nm 0) (op2 ixF (nm 1) (ret (.int 1)))))) (ret (.int 1)))) (frz (lstA nilA))))
noncomputable def tz:List R->Option (R×List R):=fnD 2 2 w8
noncomputable def wH:M Fl:=
 (seqS (setV 2 (op2 addF (ret (.int 1)) (cbV 0 rf (consA (nm 1) nilA))))
  (seqS (setV 3 (cbV 0 rf (consA (ret (.int 4)) nilA)))
  (seqS (setO 4 (fn1 rngI1 (consA (nm 2) nilA)))
  (seqS (setV 5 (frz (compO 1 (fn1 rngI1 (consA (nm 2) nilA)) (tgN 0) (ret true) (popAt 5 (consA (cbV 1 rf (consA (lenN 5) nilA)) nilA)))))
  (seqS (setO 6 (lstA nilA))
  (seqS (forS (fn1 rngI2 (consA (ret (.int 1)) (consA (nm 2) nilA))) (tgN 7)
  (seqS (setV 8 (op2 ixF (frz (lstA (consA (op2 subI (nm 7) (ret (.int 1))) (consA (ret (.int 0)) (consA (cbV 0 rf (consA (nm 7) nilA)) (consA (cbV 0 rf (consA (nm 7) nilA)) nilA)))))) (nm 3)))
  (seqS (setV 9 (tupA (consA (fn1 minF (consA (op2 ixF (nm 5) (nm 7)) (consA (op2 ixF (nm 5) (nm 8)) nilA))) (consA (fn1 maxF (consA (op2 ixF (nm 5) (nm 7)) (consA (op2 ixF (nm 5) (nm 8)) nilA))) nilA))))
  (ifS (orT (tst (op2 ltI (nm 3) (ret (.int 3)))) (tst (op2 gtI (cbV 0 rf (consA (ret (.int 4)) nilA)) (ret (.int 0)))))
  (appS 6 (nm 9)) (ret .nx)))))
  (retS (tupA (consA (nm 2) (consA (fn1 tupF (consA (frz (fn1 sortF (consA (nm 6) nilA))) nilA)) nilA))))))))))
noncomputable def wq:List R->Option (R×List R):=fnD 10 2 wH
noncomputable def xh:M Fl:=
 (seqS (setO 2 (lstA nilA))
  (seqS (forS (itS (op2 ixF (nm 0) (ret (.int 1)))) (tgTup 2 (tgCons (tgN 3) (tgCons (tgN 4) tgNil)))
  (seqS (ifS (tst (op2 (eqF false) (nm 3) (nm 1)))
  (appS 2 (nm 4)) (ret .nx))
  (ifS (tst (op2 (eqF false) (nm 4) (nm 1)))
  (appS 2 (nm 3)) (ret .nx))))
  (retO (fn1 sortF (consA (nm 2) nilA)))))
noncomputable def uy:List R->Option (R×List R):=fnD 5 2 xh
noncomputable def yX:M Fl:=
 (seqS (setO 3 (lstA (consA (nm 2) nilA)))
  (seqS (setO 4 (lstA (consA (nm 2) nilA)))
  (seqS (whlS 100 (tst (cmpN true 4 (frz (lstA nilA))))
  (seqS (setV 5 (popV 4))
  (forS (itS (frz (fn1 (coF uy) (consA (nm 0) (consA (nm 5) nilA))))) (tgN 6)
  (ifS (andT (tst (op2 (eqF true) (nm 6) (nm 1))) (tst (inN true 3 (nm 6))))
  (seqS (appS 3 (nm 6))
  (appS 4 (nm 6))) (ret .nx)))))
  (retO (fn1 sortF (consA (nm 3) nilA))))))
noncomputable def uT:List R->Option (R×List R):=fnD 7 3 yX
noncomputable def xa:M Fl:=
 (seqS (setV 4 (cbV 0 vS (consA (nm 2) (consA (nm 3) nilA))))
  (retO (compO 1 (itS (nm 4)) (tgN 0) (ret true) (tupA (consA (cbV 1 rf (consA (op2 ixF (nm 2) (ret (.int 0))) nilA)) (consA (nm 0) nilA))))))
noncomputable def va:List R->Option (R×List R):=fnD 5 4 xa
noncomputable def xi:M Fl:=
 (seqS (setV 4 (frz (compO 2 (itS (nm 1)) (tgTup 2 (tgCons (tgN 0) (tgCons (tgN 1) tgNil))) (tst (fn1 (cvF tz) (consA (nm 1) (consA (nm 5) nilA)))) (nm 0))))
  (seqS (setO 5 (lstA nilA))
  (seqS (setO 6 (lstA (consA (nm 2) nilA)))
  (seqS (setO 7 (lstA (consA (tupA (consA (nm 2) (consA (un1 negI (ret (.int 1))) nilA))) nilA)))
  (seqS (whlS 100 (tst (cmpN true 7 (frz (lstA nilA))))
  (seqS (asgS (popV 7) (tgTup 2 (tgCons (tgN 8) (tgCons (tgN 9) tgNil))))
  (forS (itS (frz (fn1 (coF uy) (consA (nm 0) (consA (nm 8) nilA))))) (tgN 10)
  (seqS (setV 11 (frz (fn1 (coF uT) (consA (nm 0) (consA (nm 8) (consA (nm 10) nilA))))))
  (ifS (andT (tst (op2 (eqF true) (nm 10) (nm 9))) (tst (op2 (eqF true) (frz (compO 1 (itS (nm 4)) (tgN 0) (tst (op2 (inF false) (nm 0) (nm 12))) (nm 0))) (frz (lstA nilA)))))
  (seqS (appS 5 (tupA (consA (nm 8) (consA (nm 10) nilA))))
  (seqS (appS 6 (nm 10))
  (appS 7 (tupA (consA (nm 10) (consA (nm 8) nilA)))))) (ret .nx))))))
  (seqS (setV 12 (frz (compO 1 (fn1 rngI1 (consA (fn1 lenF (consA (nm 1) nilA)) nilA)) (tgN 0) (andT (tst (inN false 7 (op2 ixF (op2 ixF (nm 2) (nm 0)) (ret (.int 0))))) (tst (fn1 (cvF tz) (consA (op2 ixF (op2 ixF (nm 2) (nm 0)) (ret (.int 1))) (consA (nm 4) nilA))))) (nm 0))))
  (retS (tupA (consA (frz (fn1 sortF (consA (nm 5) nilA))) (consA (nm 12) nilA))))))))))
noncomputable def v6:List R->Option (R×List R):=fnD 13 4 xi
noncomputable def wC:M Fl:=
 (seqS (setO 1 (fn1 (coF uM) (consA (nm 0) nilA)))
  (seqS (forS (fn1 rngI1 (consA (ret (.int 3)) nilA)) (tgN 2)
  (seqS (setV 3 (op2 addF (ret (.int 1)) (cbV 1 rf (consA (ret (.int 3)) nilA))))
  (seqS (setV 4 (cbV 1 wq (consA (ret (.int 7)) nilA)))
  (seqS (setV 5 (frz (cbO 1 va (consA (nm 4) (consA (nm 3) (consA (ret (.int 8)) nilA))))))
  (seqS (setO 6 (lstA (consA (fn1 tupF (consA (frz (compO 1 (fn1 rngI1 (consA (nm 3) nilA)) (tgN 0) (ret true) (cbV 2 rf (consA (ret (.int 10)) nilA)))) nilA)) nilA)))
  (seqS (forS (itS (sl3 slF (nm 5) (ret none) (prt (ret (.int 2))))) (tgTup 2 (tgCons (tgN 7) (tgCons (tgN 8) tgNil)))
  (appS 6 (fn1 tupF (consA (frz (compO 1 (itS (nm 8)) (tgN 0) (ret true) (op2 ixF (nm 0) (cbV 2 rf (consA (ret (.int 2)) nilA))))) nilA))))
  (forS (itS (frz (lstA (consA (atN 6 (ret (.int 0))) (consA (atN 6 (un1 negI (ret (.int 1)))) nilA))))) (tgN 9)
  (forS (fn1 rngI1 (consA (op2 ixF (nm 4) (ret (.int 0))) nilA)) (tgN 10)
  (seqS (setV 11 (fn1 (cvF v6) (consA (nm 4) (consA (nm 5) (consA (nm 10) (consA (nm 9) nilA))))))
  (forS (itS (frz (lstA (consA (ret (.str "roof")) (consA (ret (.str "spare")) nilA))))) (tgN 12)
  (seqS (setV 13 (frz (fn1 lstF (consA (nm 5) nilA))))
  (tellS uf 14 (consA (nm 4) (consA (nm 13) (consA (nm 12) (consA (nm 10) (consA (nm 9) nilA)))))
  (tstP 14 (orT (notT (tst (fn1 (cvF (sf 8)) (consA (nm 14) (consA (nm 11) nilA))))) (tst (op2 (eqF true) (nm 13) (nm 5))))
  (appP 14 0 (tupA (consA (ret (.int 0)) (consA (ret (.int 0)) nilA)))
  (tstP 14 (tst (op2 (eqF true) (op2 ixF (nm 14) (ret (.int 1))) (op2 ixF (nm 11) (ret (.int 1)))))
  (clrP 14 1 (ret .nx)))))))))))))))))
  (retS (ret (.bl true)))))
noncomputable def sV:List R->Option (R×List R):=fnD 15 1 wC
theorem nk(h:decide N.Nodup=true:=by kernel_rfl):N.Nodup:=of_decide_eq_true h
theorem en(i:Nat){B:BB}(hN:X.N[i]?=some x:=by rfl)(hv:visB X.env.scope x=true:=by rfl)(hd:(x == ("__debug__":Str))=false:=by decide)(cn:(x == ("__classdict__":Str))=false:=by decide):ED X B (.Name x pos) (nm i):=ID (pv i hN hv hd cn)
noncomputable def top(i:Nat):NO:=PySem.Challenge.pw_roofpost_k29_where_a_letter_goes.main.body.getD i (.Pass ⟨0,0,0,0⟩)
noncomputable abbrev za:NO:=top 5
noncomputable abbrev yi:NO:=top 6
noncomputable abbrev yL:NO:=top 7
noncomputable abbrev y9:NO:=top 8
noncomputable abbrev yT:NO:=top 9
noncomputable abbrev wJ:NO:=top 10
noncomputable abbrev xl:NO:=top 12
noncomputable abbrev vN:NO:=top 13
noncomputable abbrev xH:NO:=top 14
noncomputable abbrev xg:NO:=top 15
noncomputable abbrev yt:NO:=top 16
noncomputable abbrev xQ:NO:=top 18
noncomputable abbrev yu:NO:=top 19
noncomputable abbrev yk:NO:=top 21
noncomputable abbrev wW:NO:=top 22
noncomputable abbrev v7:NO:=top 23
noncomputable abbrev xw:NO:=top 24
noncomputable abbrev vv:NO:=top 25
noncomputable abbrev wR:NO:=top 26
noncomputable abbrev wO:NO:=top 28
noncomputable abbrev xV:NO:=top 29
noncomputable abbrev xG:NO:=top 30
noncomputable abbrev vy:NO:=top 31
noncomputable abbrev y0:NO:=top 32
noncomputable abbrev xE:NO:=top 33
noncomputable abbrev wI:NO:=top 34
noncomputable abbrev xR:NO:=top 35
noncomputable abbrev yY:NO:=top 36
noncomputable abbrev xZ:NO:=top 37
noncomputable abbrev xu:NO:=top 38
noncomputable abbrev wF:NO:=top 39
noncomputable abbrev yb:NO:=top 40
noncomputable abbrev yz:NO:=top 41
structure Cd(P:A_)(w:I_)(K:PySem.W.Frag)(mg:Str->Option b_)(base:J_)(k:Nat)(f:k_)(fd:O1)(ps:List Str)(g:List R->Option (R×List R))(x:Str):Prop where
 G:FnOk P w K mg base CX0 k f fd ps (spD K g)
 b:Binds K fd ps []
 p:O2 K (.ref f)=true
 m:mg x=some (.ref f)
abbrev tR(P w K mg base f fd):=Cd P w K mg base 2 f fd ["things"] rL "must_be_kin"
abbrev Ae(P w K mg base f fd):=Cd P w K mg base 3 f fd ["wish", "letter"] tm "has_letter"
abbrev xU(P w K mg base f fd):=Cd P w K mg base 3 f fd ["one", "other"] uL "covers"
abbrev zQ(P w K mg base f fd):=Cd P w K mg base 3 f fd ["one", "other"] vp "in_common"
abbrev zz(P w K mg base f fd):=Cd P w K mg base 5 f fd ["wishes"] tJ "roof_of"
abbrev F4(P w K mg base f fd):=Cd P w K mg base 4 f fd ["wishes", "wish"] vY "is_under_another"
abbrev K0(P w K mg base f fd):=Cd P w K mg base 46 f fd ["wishes", "wish"] uz "covered"
abbrev Fo(P w K mg base f fd):=Cd P w K mg base 45 f fd ["wishes", "numbers", "part"] (sL 40) "looked_through"
abbrev zR(P w K mg base f fd):=Cd P w K mg base 2 f fd ["wishes", "part"] v5 "first_border"
abbrev Be(P w K mg base f fd):=Cd P w K mg base 2 f fd ["part", "field", "at"] wt "halves_of"
abbrev Ke(P w K mg base f fd):=Cd P w K mg base 47 f fd ["wishes"] vx "spare_of"
abbrev BK(P w K mg base f fd):=Cd P w K mg base 2 f fd ["web", "house"] uU "must_be_house"
abbrev wa(P w K mg base f fd):=Cd P w K mg base 3 f fd ["web", "house"] uQ "neighbours_of"
abbrev A0(P w K mg base f fd):=Cd P w K mg base 48 f fd ["how", "wishes"] vJ "short_of"
abbrev xA(P w K mg base f fd):=Cd P w K mg base 2 f fd ["holds"] ua "wishes_of"
abbrev Kj(P w K mg base f fd):=Cd P w K mg base 70 f fd ["web", "holds", "how", "house", "neighbour"] (tq 20) "heard_of"
abbrev F1(P w K mg base f fd):=Cd P w K mg base 94 f fd ["web", "holds", "how", "house", "letter"] uf "led_by"
abbrev IG(P w K mg base f fd):=Cd P w K mg base 93 f fd ["web", "holds", "how", "came", "house", "letter"] (sK 20) "roads_on"
abbrev AN(P w K mg base f fd):=Cd P w K mg base 71 f fd ["web", "holds", "how", "house", "neighbour", "letter"] vK "leading"
abbrev Jg(P w K mg base f fd):=Cd P w K mg base 2 f fd ["cell", "at"] uw "_law_blend"
abbrev EA(P w K mg base f fd):=Cd P w K mg base 2 f fd ["script"] uM "_law_pot"
abbrev tY(P w K mg base f fd):=Cd P w K mg base 3 f fd ["pot", "upto"] rf "_law_pick"
abbrev GY(P w K mg base f fd):=Cd P w K mg base 11 f fd ["found", "due"] (sf 8) "_law_same"
abbrev Il(P w K mg base f fd):=Cd P w K mg base 4 f fd ["pot", "fields", "low", "top"] we "_law_wish"
abbrev JR(P w K mg base f fd):=Cd P w K mg base 5 f fd ["pot", "fields", "most"] vS "_law_wishes"
abbrev GU(P w K mg base f fd):=Cd P w K mg base 4 f fd ["pot", "wish"] vD "_law_nudged"
abbrev DM(P w K mg base f fd):=Cd P w K mg base 2 f fd ["wish", "letter"] tz "_law_has"
abbrev FF(P w K mg base f fd):=Cd P w K mg base 4 f fd ["pot", "most"] wq "_law_web"
abbrev AO(P w K mg base f fd):=Cd P w K mg base 2 f fd ["web", "house"] uy "_law_beside"
abbrev HP(P w K mg base f fd):=Cd P w K mg base 3 f fd ["web", "house", "neighbour"] uT "_law_behind"
abbrev Fk(P w K mg base f fd):=Cd P w K mg base 6 f fd ["pot", "web", "fields", "most"] va "_law_holds"
abbrev Kl(P w K mg base f fd):=Cd P w K mg base 4 f fd ["web", "holds", "house", "letter"] v6 "_law_due"
section
variable{P:A_}{w:I_}{K:PySem.W.Frag}
theorem EC:FnScope ["things", "thing"] ["things"] (defScope za):=⟨rfl,rfl,rfl,by decide +kernel,rfl,by decide +kernel,by decide +kernel⟩
theorem Ec(F:Fun K "must_be_kin" "must_be_kin" za f fd)(ao:mg "len"=none):FnOk P w K mg base CX0 2 f fd ["things"] (spD K rL):=
 qO (k:=1) (N:=["things", "thing"]) F EC xW (λaF A outer s H E B hr=>qP
  (qF (rj Pe rfl (qZ (en 0)) (gd_n (i:=1) (m:=100) nk)
  (qF (qV (rK hr (rQ rfl ao (f' (en 1) gx rfl)) (rQ rfl ao (f' (qG (en 0) gV) gx rfl)))
  (qF (pV zo)) qU)))))
theorem Ey:FnScope ["wish", "letter"] ["wish", "letter"] (defScope yi):=⟨rfl,rfl,rfl,by decide +kernel,rfl,by decide +kernel,by decide +kernel⟩
theorem GR(F:Fun K "has_letter" "has_letter" yi f fd){aN' aM'}(bg:tR P w K mg base aN' aM')(aQ:mg "zip"=none)(cB:mg "all"=none):FnOk P w K mg base CX0 3 f fd ["wish", "letter"] (spD K tm):=
 qO (k:=2) (N:=["wish", "letter"]) F Ey xj (λaF A outer s H E B hr=>qP
  (kB (pV (sF (qX bg.G (hr.mono (by decide)) rfl bg.m bg.p bg.b (f' (qI (qM (f' (en 0) (f' (en 1) gx rfl) rfl))) gx rfl))))
  (qF (pV (qS (BP rfl rfl cB (f' (qI (rq (N':=["pair", "number", "-wish", "-letter"]) (m:=2) (CompScope.of (by kernel_rfl)) rfl (uZ rfl aQ (f' (en 0) (f' (en 1) gx rfl) rfl)) (λ_ _ _ _=>(rG (m:=2) rfl (rb (gd_n (i:=0) (m:=2) nk) (rb (gd_n (i:=1) (m:=2) nk) rH)))) (λ_ _ _ _=>rN) (λ_ _ _ _=>(DO (qG (en 0) gV) (en 1) (qG (en 0) gV))))) gx rfl)))))))
theorem Ej:FnScope ["one", "other"] ["one", "other"] (defScope yL):=⟨rfl,rfl,rfl,by decide +kernel,rfl,by decide +kernel,by decide +kernel⟩
theorem Hh(F:Fun K "covers" "covers" yL f fd){aN' aM'}(bg:tR P w K mg base aN' aM')(aQ:mg "zip"=none)(cB:mg "all"=none):FnOk P w K mg base CX0 3 f fd ["one", "other"] (spD K uL):=
 qO (k:=2) (N:=["one", "other"]) F Ej xI (λaF A outer s H E B hr=>qP
  (kB (pV (sF (qX bg.G (hr.mono (by decide)) rfl bg.m bg.p bg.b (f' (qI (qM (f' (en 0) (f' (en 1) gx rfl) rfl))) gx rfl))))
  (qF (pV (qS (BP rfl rfl cB (f' (qI (rq (N':=["wide", "pair", "-one", "-other"]) (m:=2) (CompScope.of (by kernel_rfl)) rfl (uZ rfl aQ (f' (en 0) (f' (en 1) gx rfl) rfl)) (λ_ _ _ _=>(rG (m:=2) rfl (rb (gd_n (i:=0) (m:=2) nk) (rb (gd_n (i:=1) (m:=2) nk) rH)))) (λ_ _ _ _=>rN) (λ_ _ _ _=>(tv (Bh (qG (en 0) gV) (qG (en 1) gV)) (uD (Bh (qG (en 1) gV) (qG (en 0) gV))))))) gx rfl)))))))
theorem FX:FnScope ["one", "other", "shared", "pair", "twin", "low", "high"] ["one", "other"] (defScope y9):=⟨rfl,rfl,rfl,by decide +kernel,rfl,by decide +kernel,by decide +kernel⟩
theorem J6(F:Fun K "in_common" "in_common" y9 f fd){aN' aM'}(bg:tR P w K mg base aN' aM')(aQ:mg "zip"=none)(bq:mg "max"=none)(aP:mg "min"=none)(ay:mg "tuple"=none):FnOk P w K mg base CX0 3 f fd ["one", "other"] (spD K vp):=
 qO (k:=2) (N:=["one", "other", "shared", "pair", "twin", "low", "high"]) F FX yG (λaF A outer s H E B hr=>qP
  (kB (pV (sF (qX bg.G (hr.mono (by decide)) rfl bg.m bg.p bg.b (f' (qI (qM (f' (en 0) (f' (en 1) gx rfl) rfl))) gx rfl))))
  (kB (pV (rz (i:=2) nk (qM gx)))
  (kB (rj Pe rfl (uZ rfl aQ (f' (en 0) (f' (en 1) gx rfl) rfl)) (rG (m:=100) rfl (rb (gd_n (i:=3) (m:=100) nk) (rb (gd_n (i:=4) (m:=100) nk) rH)))
  (kB (qK (i:=5) nk (uH rfl rfl bq (f' (qG (en 3) gV) (f' (qG (en 4) gV) gx rfl) rfl)))
  (kB (qK (i:=6) nk (tu rfl rfl aP (f' (qG (en 3) gV) (f' (qG (en 4) gV) gx rfl) rfl)))
  (kB (qV (vm (en 5) (en 6))
  (qF (pV (qS sB))) qU)
  (qF (pV (rA (pv 2) (qT (f' (en 5) (f' (en 6) gx rfl) rfl)))))))))
  (qF (pV (qS (ug rfl ay (f' (en 2) gx rfl)))))))))
theorem IE:FnScope ["wishes", "unlike"] ["wishes"] (defScope yT):=⟨rfl,rfl,rfl,by decide +kernel,rfl,by decide +kernel,by decide +kernel⟩
theorem F5(F:Fun K "roof_of" "roof_of" yT f fd){aN' aM'}(bg:tR P w K mg base aN' aM'){f9' ft'}(ik:F4 P w K mg base f9' ft')(az:mg "sorted"=none)(eJ:mg "set"=none):FnOk P w K mg base CX0 5 f fd ["wishes"] (spD K tJ):=
 qO (k:=4) (N:=["wishes", "unlike"]) F IE x0 (λaF A outer s H E B hr=>qP
  (kB (pV (sF (qX bg.G (hr.mono (by decide)) rfl bg.m bg.p bg.b (f' (en 0) gx rfl))))
  (kB (qK (i:=1) nk (qI (FQ hr rfl az rfl eJ (f' (en 0) gx rfl))))
  (qF (pV (rX (rq (N':=["wish", "-wishes", "unlike"]) (m:=1) (CompScope.of (by kernel_rfl)) rfl (qZ (en 1)) (λ_ _ _ _=>(gd_n (i:=0) (m:=1) nk)) (λ_ _ _ _=>(rY (y8 (rO (qX ik.G (hr.mono (by decide)) rfl ik.m ik.p ik.b (f' (en 2) (f' (en 0) gx rfl) rfl)))))) (λ_ _ _ _=>(en 0)))))))))
theorem Du:FnScope ["wishes", "wish"] ["wishes", "wish"] (defScope wJ):=⟨rfl,rfl,rfl,by decide +kernel,rfl,by decide +kernel,by decide +kernel⟩
theorem Ij(F:Fun K "is_under_another" "is_under_another" wJ f fd){d8' da'}(cH:xU P w K mg base d8' da')(eK:mg "any"=none):FnOk P w K mg base CX0 4 f fd ["wishes", "wish"] (spD K vY):=
 qO (k:=3) (N:=["wishes", "wish"]) F Du yB (λaF A outer s H E B hr=>qP
  (qF (pV (qS (IK rfl rfl eK (f' (qI (rq (N':=["one", "-wishes", "wish"]) (m:=1) (CompScope.of (by kernel_rfl)) rfl (qZ (en 0)) (λ_ _ _ _=>(gd_n (i:=0) (m:=1) nk)) (λ_ _ _ _=>rN) (λ_ _ _ _=>(tv (Jj hr (en 0) (en 2)) (uD (qX cH.G (hr.mono (by decide)) rfl cH.m cH.p cH.b (f' (en 0) (f' (en 2) gx rfl) rfl))))))) gx rfl))))))
theorem Jr:FnScope ["wishes", "wish"] ["wishes", "wish"] (defScope xl):=⟨rfl,rfl,rfl,by decide +kernel,rfl,by decide +kernel,by decide +kernel⟩
theorem Kx(F:Fun K "covered" "covered" xl f fd){aN' aM'}(bg:tR P w K mg base aN' aM'){g3' gs'}(il:Fo P w K mg base g3' gs')(ao:mg "len"=none)(aI:mg "list"=none)(aA:mg "range"=none):FnOk P w K mg base CX0 46 f fd ["wishes", "wish"] (spD K uz):=
 qO (k:=45) (N:=["wishes", "wish"]) F Jr yW (λaF A outer s H E B hr=>qP
  (kB (pV (sF (qX bg.G (hr.mono (by decide)) rfl bg.m bg.p bg.b (f' (qI (wS (qI (qM (f' (en 1) gx rfl))) (en 0))) gx rfl))))
  (qF (pV (qS (qX il.G (hr.mono (by decide)) rfl il.m il.p il.b (f' (en 0) (f' (qI (By rfl rfl aI rfl aA (f' (rQ rfl ao (f' (en 0) gx rfl)) gx rfl))) (f' (en 1) gx rfl) rfl) rfl)))))))
theorem ES:FnScope ["wishes", "numbers", "part", "near", "k", "place", "halves", "one", "other"] ["wishes", "numbers", "part"] (defScope vN):=⟨rfl,rfl,rfl,by decide +kernel,rfl,by decide +kernel,by decide +kernel⟩
theorem Gy{g:List R->Option (R×List R)}(hk:4<=kk)(F:Fun K "looked_through" "looked_through" vN f fd)(G:FnOk P w K mg base CX0 kk f fd ["wishes", "numbers", "part"] (spD K g)){eI' d9'}(eL:zQ P w K mg base eI' d9'){d8' da'}(cH:xU P w K mg base d8' da'){cS' cD'}(eM:zR P w K mg base cS' cD'){eJ' ea'}(eN:Be P w K mg base eJ' ea')(ao:mg "len"=none)(ay:mg "tuple"=none)(gB:Binds K fd ["wishes", "numbers", "part"] [])(gC:O2 K (.ref f)=true)(gD:mg "looked_through"=some (.ref f)):FnOk P w K mg base CX0 (kk+1) f fd ["wishes", "numbers", "part"] (spD K (fnD 9 3 (wy g))):=
 qO (N:=["wishes", "numbers", "part", "near", "k", "place", "halves", "one", "other"]) F ES (wy g) (λaF A outer s H E B hr=>qP
  (kB (pV (vo (i:=3) (N':=["k", "wishes", "-numbers", "part", "-near", "-k", "-place", "-halves", "-one", "-other"]) (m:=1) (CompScope.of (by kernel_rfl)) rfl nk (qZ (en 1)) (λ_ _ _ _=>(gd_n (i:=0) (m:=1) nk)) (λ_ _ _ _=>(rY (FJ (qX eL.G (hr.mono (z_ (by decide) hk)) rfl eL.m eL.p eL.b (f' (qG (en 1) (en 0)) (f' (en 3) gx rfl) rfl)) sB))) (λ_ _ _ _=>(en 0))))
  (kB (qV (rT hr (rQ rfl ao (f' (en 3) gx rfl)) gV)
  (qF (pV (qS (qT (f' rM (f' (ug rfl ay (f' (qI (rq (N':=["pair", "-wishes", "-numbers", "-part", "-near", "-k", "-place", "-halves", "-one", "-other"]) (m:=1) (CompScope.of (by kernel_rfl)) rfl (qZ (en 2)) (λ_ _ _ _=>(gd_n (i:=0) (m:=1) nk)) (λ_ _ _ _=>rN) (λ_ _ _ _=>(qG (en 0) gV)))) gx rfl)) gx rfl) rfl))))) qU)
  (kB (rj Pe rfl (qZ (en 3)) (gd_n (i:=4) (m:=100) nk)
  (qF (qV (rO (qX cH.G (hr.mono (z_ (by decide) hk)) rfl cH.m cH.p cH.b (f' (qG (en 0) (en 4)) (f' (en 2) gx rfl) rfl)))
  (qF (pV (qS (qT (f' rM (f' (qT (f' rM (f' (en 4) gx rfl) rfl)) gx rfl) rfl))))) qU)))
  (kB (qK (i:=5) nk (qX eM.G (hr.mono (z_ (by decide) hk)) rfl eM.m eM.p eM.b (f' (qI (rq (N':=["k", "wishes", "-numbers", "-part", "-near", "-k", "-place", "-halves", "-one", "-other"]) (m:=1) (CompScope.of (by kernel_rfl)) rfl (qZ (en 3)) (λ_ _ _ _=>(gd_n (i:=0) (m:=1) nk)) (λ_ _ _ _=>rN) (λ_ _ _ _=>(qG (en 1) (en 0))))) (f' (en 2) gx rfl) rfl)))
  (kB (qK (i:=6) nk (qX eN.G (hr.mono (z_ (by decide) hk)) rfl eN.m eN.p eN.b (f' (en 2) (f' (qG (en 5) gV) (f' (qG (en 5) gV) gx rfl) rfl) rfl)))
  (kB (qK (i:=7) nk (qX G hr rfl gD gC gB (f' (en 0) (f' (en 3) (f' (qG (en 6) gV) gx rfl) rfl) rfl)))
  (kB (qV (rT hr (qG (en 7) gV) rM)
  (qF (pV (qS (en 7)))) qU)
  (kB (qK (i:=8) nk (qX G hr rfl gD gC gB (f' (en 0) (f' (en 3) (f' (qG (en 6) gV) gx rfl) rfl) rfl)))
  (kB (qV (rT hr (qG (en 8) gV) rM)
  (qF (pV (qS (en 8)))) qU)
  (qF (pV (qS (qT (f' rM (f' (qT (sd rM (qG (en 5) gV) (qG (en 5) gV) (qG (en 7) gV) (f' (qG (en 8) gV) gx rfl) rfl rfl rfl rfl)) gx rfl) rfl)))))))))))))))
theorem Bj{f:k_}{fd:O1}(F:Fun K "looked_through" "looked_through" vN f fd){eI' d9'}(eL:zQ P w K mg base eI' d9'){d8' da'}(cH:xU P w K mg base d8' da'){cS' cD'}(eM:zR P w K mg base cS' cD'){eJ' ea'}(eN:Be P w K mg base eJ' ea')(ao:mg "len"=none)(ay:mg "tuple"=none)(gB:Binds K fd ["wishes", "numbers", "part"] [])(gC:O2 K (.ref f)=true)(gD:mg "looked_through"=some (.ref f)):∀n:Nat,FnOk P w K mg base CX0 (5+n) f fd ["wishes", "numbers", "part"] (spD K (sL n))
 | 0=>u9
 | n+1=>Gy (z_ (by decide) (OO _ n)) F (Bj F eL cH eM eN ao ay gB gC gD n) eL cH eM eN ao ay gB gC gD
theorem Jw:FnScope ["wishes", "part", "places", "field", "pair", "wish"] ["wishes", "part"] (defScope xH):=⟨rfl,rfl,rfl,by decide +kernel,rfl,by decide +kernel,by decide +kernel⟩
theorem Gr(F:Fun K "first_border" "first_border" xH f fd)(aJ:mg "enumerate"=none)(aP:mg "min"=none):FnOk P w K mg base CX0 2 f fd ["wishes", "part"] (spD K v5):=
 qO (k:=1) (N:=["wishes", "part", "places", "field", "pair", "wish"]) F Jw wG (λaF A outer s H E B hr=>qP
  (kB (pV (rz (i:=2) nk (qM gx)))
  (kB (rj Pe rfl (wQ rfl aJ (f' (en 1) gx rfl)) (rG (m:=100) rfl (rb (gd_n (i:=3) (m:=100) nk) (rb (gd_n (i:=4) (m:=100) nk) rH)))
  (qF (rj Pe rfl (qZ (en 0)) (gd_n (i:=5) (m:=100) nk)
  (kB (qV (tW (qG (en 4) gV) (qG (qG (en 5) (en 3)) gV))
  (qF (pV (rA (pv 2) (qT (f' (en 3) (f' (u5 (qG (qG (en 5) (en 3)) gV) gV) gx rfl) rfl))))) qU)
  (qF (qV (tW (qG (qG (en 5) (en 3)) gV) (qG (en 4) gV))
  (qF (pV (rA (pv 2) (qT (f' (en 3) (f' (qG (qG (en 5) (en 3)) gV) gx rfl) rfl))))) qU))))))
  (qF (pV (qS (EU rfl hr rfl aP (f' (en 2) gx rfl))))))))
theorem II:FnScope ["part", "field", "at", "ahead", "behind", "low", "high"] ["part", "field", "at"] (defScope xg):=⟨rfl,rfl,rfl,by decide +kernel,rfl,by decide +kernel,by decide +kernel⟩
theorem G6(F:Fun K "halves_of" "halves_of" xg f fd) :FnOk P w K mg base CX0 2 f fd ["part", "field", "at"] (spD K wt):=
 qO (k:=1) (N:=["part", "field", "at", "ahead", "behind", "low", "high"]) F II yV (λaF A outer s H E B hr=>qP
  (kB (qK (i:=3) nk (sX (en 0) tN (sx (en 1))))
  (kB (qK (i:=4) nk (sX (en 0) (sx (qY (en 1) gV)) tN))
  (kB (qK (i:=5) nk (qG (qG (en 0) (en 1)) gV))
  (kB (qK (i:=6) nk (qG (qG (en 0) (en 1)) gV))
  (qF (pV (qS (qT (f' (qY (qY (en 3) (qT (f' (qT (f' (en 5) (f' (en 2) gx rfl) rfl)) gx rfl))) (en 4)) (f' (qY (qY (en 3) (qT (f' (qT (f' (qY (en 2) gV) (f' (en 6) gx rfl) rfl)) gx rfl))) (en 4)) gx rfl) rfl))))))))))
theorem HF:FnScope ["wishes", "roof", "stay", "wish", "others"] ["wishes"] (defScope yt):=⟨rfl,rfl,rfl,by decide +kernel,rfl,by decide +kernel,by decide +kernel⟩
theorem Hc(F:Fun K "spare_of" "spare_of" yt f fd){ga' fl'}(dC:zz P w K mg base ga' fl'){oS' mZ'}(im:K0 P w K mg base oS' mZ'):FnOk P w K mg base CX0 47 f fd ["wishes"] (spD K vx):=
 qO (k:=46) (N:=["wishes", "roof", "stay", "wish", "others"]) F HF vF (λaF A outer s H E B hr=>qP
  (kB (pV (Dk (i:=1) nk (rB dC.G (hr.mono (by decide)) rfl dC.m dC.p dC.b (f' (en 0) gx rfl))))
  (kB (pV (zt (i:=2) (j:=1) nk (pv 1)))
  (kB (rj Pe rfl (qZ (en 1)) (gd_n (i:=3) (m:=100) nk)
  (kB (pV (Jx (i:=4) (N':=["one", "-wishes", "-roof", "-stay", "wish", "-others"]) (m:=1) (CompScope.of (by kernel_rfl)) rfl nk (qZ (en 2)) (λ_ _ _ _=>(gd_n (i:=0) (m:=1) nk)) (λ_ _ _ _=>(rY (rK hr (en 0) (en 4)))) (λ_ _ _ _=>(en 0))))
  (qF (qV (rT hr (qG (qX im.G (hr.mono (by decide)) rfl im.m im.p im.b (f' (en 4) (f' (en 3) gx rfl) rfl)) gV) rM)
  (qF (pV (zt (i:=2) (j:=4) nk (pv 4)))) qU))))
  (qF (pV (EN (pv 2))))))))
theorem Gz:FnScope ["web", "house"] ["web", "house"] (defScope xQ):=⟨rfl,rfl,rfl,by decide +kernel,rfl,by decide +kernel,by decide +kernel⟩
theorem Js(F:Fun K "must_be_house" "must_be_house" xQ f fd) :FnOk P w K mg base CX0 2 f fd ["web", "house"] (spD K uU):=
 qO (k:=1) (N:=["web", "house"]) F Gz wE (λaF A outer s H E B hr=>qP
  (qF (qV (y8 (Fp gV (en 1) (qG (en 0) gV)))
  (qF (pV zo)) qU)))
theorem Fs:FnScope ["web", "house"] ["web", "house"] (defScope yu):=⟨rfl,rfl,rfl,by decide +kernel,rfl,by decide +kernel,by decide +kernel⟩
theorem Jm(F:Fun K "neighbours_of" "neighbours_of" yu f fd){cE' ck'}(dD:BK P w K mg base cE' ck')(az:mg "sorted"=none):FnOk P w K mg base CX0 3 f fd ["web", "house"] (spD K uQ):=
 qO (k:=2) (N:=["web", "house"]) F Fs yA (λaF A outer s H E B hr=>qP
  (kB (pV (sF (qX dD.G (hr.mono (by decide)) rfl dD.m dD.p dD.b (f' (en 0) (f' (en 1) gx rfl) rfl))))
  (qF (pV (rX (ue hr rfl az (f' (qI (rq (N':=["road", "-web", "house"]) (m:=1) (CompScope.of (by kernel_rfl)) rfl (qZ (qG (en 0) gV)) (λ_ _ _ _=>(gd_n (i:=0) (m:=1) nk)) (λ_ _ _ _=>(rY (yh hr (en 2) (en 0)))) (λ_ _ _ _=>(Dx (rT hr (qG (en 0) gV) (en 2)) (qG (en 0) gV) (qG (en 0) gV))))) gx rfl)))))))
theorem Dz:FnScope ["how", "wishes"] ["how", "wishes"] (defScope yk):=⟨rfl,rfl,rfl,by decide +kernel,rfl,by decide +kernel,by decide +kernel⟩
theorem HC(F:Fun K "short_of" "short_of" yk f fd){m0' k4'}(io:Ke P w K mg base m0' k4'){ga' fl'}(dC:zz P w K mg base ga' fl'):FnOk P w K mg base CX0 48 f fd ["how", "wishes"] (spD K vJ):=
 qO (k:=47) (N:=["how", "wishes"]) F Dz xf (λaF A outer s H E B hr=>qP
  (kB (qV (rT hr (en 0) rM)
  (qF (pV (rX (rB io.G (hr.mono (by decide)) rfl io.m io.p io.b (f' (en 1) gx rfl))))) qU)
  (qF (pV (rX (rB dC.G (hr.mono (by decide)) rfl dC.m dC.p dC.b (f' (en 1) gx rfl)))))))
theorem Et:FnScope ["holds"] ["holds"] (defScope wW):=⟨rfl,rfl,rfl,by decide +kernel,rfl,by decide +kernel,by decide +kernel⟩
theorem Dt(F:Fun K "wishes_of" "wishes_of" wW f fd) :FnOk P w K mg base CX0 2 f fd ["holds"] (spD K ua):=
 qO (k:=1) (N:=["holds"]) F Et yw (λaF A outer s H E B hr=>qP
  (qF (pV (rX (rq (N':=["hold", "-holds"]) (m:=1) (CompScope.of (by kernel_rfl)) rfl (qZ (en 0)) (λ_ _ _ _=>(gd_n (i:=0) (m:=1) nk)) (λ_ _ _ _=>rN) (λ_ _ _ _=>(qG (en 0) gV)))))))
theorem Jo:FnScope ["web", "holds", "how", "house", "neighbour", "wishes", "other"] ["web", "holds", "how", "house", "neighbour"] (defScope v7):=⟨rfl,rfl,rfl,by decide +kernel,rfl,by decide +kernel,by decide +kernel⟩
theorem J8{g:List R->Option (R×List R)}(hk:49<=kk)(F:Fun K "heard_of" "heard_of" v7 f fd)(G:FnOk P w K mg base CX0 kk f fd ["web", "holds", "how", "house", "neighbour"] (spD K g)){cg' bZ'}(cJ:xA P w K mg base cg' bZ'){a0' aV'}(bY:wa P w K mg base a0' aV'){fm' eK'}(eO:A0 P w K mg base fm' eK')(ir:Binds K fd ["web", "holds", "how", "house", "neighbour"] [])(iw:O2 K (.ref f)=true)(iy:mg "heard_of"=some (.ref f)):FnOk P w K mg base CX0 (kk+1) f fd ["web", "holds", "how", "house", "neighbour"] (spD K (fnD 7 5 (vh g))):=
 qO (N:=["web", "holds", "how", "house", "neighbour", "wishes", "other"]) F Jo (vh g) (λaF A outer s H E B hr=>qP
  (kB (pV (rz (i:=5) nk (rB cJ.G (hr.mono (z_ (by decide) hk)) rfl cJ.m cJ.p cJ.b (f' (qI (rq (N':=["hold", "-web", "-holds", "-how", "-house", "neighbour", "-wishes", "-other"]) (m:=1) (CompScope.of (by kernel_rfl)) rfl (qZ (en 1)) (λ_ _ _ _=>(gd_n (i:=0) (m:=1) nk)) (λ_ _ _ _=>(rY (rT hr (qG (en 0) gV) (en 5)))) (λ_ _ _ _=>(en 0)))) gx rfl))))
  (kB (rj Pe rfl (qZ (qI (rB bY.G (hr.mono (z_ (by decide) hk)) rfl bY.m bY.p bY.b (f' (en 0) (f' (en 4) gx rfl) rfl)))) (gd_n (i:=6) (m:=100) nk)
  (qF (qV (rK hr (en 6) (en 3))
  (qF (pV (z6 (pv 5) (qI (rB G hr rfl iy iw ir (sd (en 0) (en 1) (en 2) (en 4) (f' (en 6) gx rfl) rfl rfl rfl rfl)))))) qU)))
  (qF (pV (rX (rB eO.G (hr.mono (z_ (by decide) hk)) rfl eO.m eO.p eO.b (f' (en 2) (f' (en 5) gx rfl) rfl))))))))
theorem CQ{f:k_}{fd:O1}(F:Fun K "heard_of" "heard_of" v7 f fd){cg' bZ'}(cJ:xA P w K mg base cg' bZ'){a0' aV'}(bY:wa P w K mg base a0' aV'){fm' eK'}(eO:A0 P w K mg base fm' eK')(ir:Binds K fd ["web", "holds", "how", "house", "neighbour"] [])(iw:O2 K (.ref f)=true)(iy:mg "heard_of"=some (.ref f)):∀n:Nat,FnOk P w K mg base CX0 (50+n) f fd ["web", "holds", "how", "house", "neighbour"] (spD K (tq n))
 | 0=>u9
 | n+1=>J8 (z_ (by decide) (OO _ n)) F (CQ F cJ bY eO ir iw iy n) cJ bY eO ir iw iy
theorem G2:FnScope ["web", "holds", "how", "house", "letter", "roads", "reached", "given"] ["web", "holds", "how", "house", "letter"] (defScope xw):=⟨rfl,rfl,rfl,by decide +kernel,rfl,by decide +kernel,by decide +kernel⟩
theorem Ju(F:Fun K "led_by" "led_by" xw f fd){aN' aM'}(bg:tR P w K mg base aN' aM'){cg' bZ'}(cJ:xA P w K mg base cg' bZ'){cE' ck'}(dD:BK P w K mg base cE' ck'){m1' k5'}(iz:IG P w K mg base m1' k5'){eb' dd'}(dE:Ae P w K mg base eb' dd')(az:mg "sorted"=none)(aJ:mg "enumerate"=none):FnOk P w K mg base CX0 94 f fd ["web", "holds", "how", "house", "letter"] (spD K uf):=
 qO (k:=93) (N:=["web", "holds", "how", "house", "letter", "roads", "reached", "given"]) F G2 yO (λaF A outer s H E B hr=>qP
  (kB (pV (sF (qX bg.G (hr.mono (by decide)) rfl bg.m bg.p bg.b (f' (qI (wS (qI (qM (f' (en 4) gx rfl))) (qI (rB cJ.G (hr.mono (by decide)) rfl cJ.m cJ.p cJ.b (f' (en 1) gx rfl))))) gx rfl))))
  (kB (pV (sF (qX dD.G (hr.mono (by decide)) rfl dD.m dD.p dD.b (f' (en 0) (f' (en 3) gx rfl) rfl))))
  (kB (pV (Dk (i:=5) nk (ue hr rfl az (f' (qX iz.G (hr.mono (by decide)) rfl iz.m iz.p iz.b (sd (en 0) (en 1) (en 2) sB (f' (en 3) (f' (en 4) gx rfl) rfl) rfl rfl rfl rfl)) gx rfl))))
  (kB (qK (i:=6) nk (qI (wS (qI (qM (f' (en 3) gx rfl))) (qI (rq (N':=["road", "-web", "-holds", "-how", "-house", "-letter", "-roads", "-reached", "-given"]) (m:=1) (CompScope.of (by kernel_rfl)) rfl (qZ (en 5)) (λ_ _ _ _=>(gd_n (i:=0) (m:=1) nk)) (λ_ _ _ _=>rN) (λ_ _ _ _=>(qG (en 0) gV)))))))
  (kB (pV (IL (i:=7) (N':=["k", "hold", "-web", "-holds", "-how", "-house", "letter", "-roads", "reached", "-given"]) (m:=2) (CompScope.of (by kernel_rfl)) rfl nk (wQ rfl aJ (f' (en 1) gx rfl)) (λ_ _ _ _=>(rG (m:=2) rfl (rb (gd_n (i:=0) (m:=2) nk) (rb (gd_n (i:=1) (m:=2) nk) rH)))) (λ_ _ _ _=>(rY (TW.td (sR (yh hr (qG (en 1) gV) (en 8)) (sP (rO (qX dE.G (hr.mono (by decide)) rfl dE.m dE.p dE.b (f' (qG (en 1) gV) (f' (en 6) gx rfl) rfl)))))))) (λ_ _ _ _=>(en 0))))
  (qF (pV (IF (pv 5) (pv 7))))))))))
theorem FH:FnScope ["web", "holds", "how", "came", "house", "letter", "roads", "neighbour"] ["web", "holds", "how", "came", "house", "letter"] (defScope vv):=⟨rfl,rfl,rfl,by decide +kernel,rfl,by decide +kernel,by decide +kernel⟩
theorem ET{g:List R->Option (R×List R)}(hk:72<=kk)(F:Fun K "roads_on" "roads_on" vv f fd)(G:FnOk P w K mg base CX0 kk f fd ["web", "holds", "how", "came", "house", "letter"] (spD K g)){a0' aV'}(bY:wa P w K mg base a0' aV'){gb' fn'}(eP:AN P w K mg base gb' fn')(ao:mg "len"=none)(iA:Binds K fd ["web", "holds", "how", "came", "house", "letter"] [])(iB:O2 K (.ref f)=true)(iC:mg "roads_on"=some (.ref f)):FnOk P w K mg base CX0 (kk+1) f fd ["web", "holds", "how", "came", "house", "letter"] (spD K (fnD 8 6 (vz g))):=
 qO (N:=["web", "holds", "how", "came", "house", "letter", "roads", "neighbour"]) F FH (vz g) (λaF A outer s H E B hr=>qP
  (kB (pV (rz (i:=6) nk (qM gx)))
  (kB (rj Pe rfl (qZ (qI (rB bY.G (hr.mono (z_ (by decide) hk)) rfl bY.m bY.p bY.b (f' (en 0) (f' (en 4) gx rfl) rfl)))) (gd_n (i:=7) (m:=100) nk)
  (qF (qV (TW.td (sR (rK hr (en 7) (en 3)) (sP (vm (rQ rfl ao (f' (qI (rB eP.G (hr.mono (z_ (by decide) hk)) rfl eP.m eP.p eP.b (sd (en 0) (en 1) (en 2) (en 4) (f' (en 7) (f' (en 5) gx rfl) rfl) rfl rfl rfl rfl))) gx rfl)) gV))))
  (kB (pV (rA (pv 6) (qT (f' (en 4) (f' (en 7) gx rfl) rfl))))
  (qF (pV (z6 (pv 6) (qX G hr rfl iC iB iA (sd (en 0) (en 1) (en 2) (en 4) (f' (en 7) (f' (en 5) gx rfl) rfl) rfl rfl rfl rfl)))))) qU)))
  (qF (pV (qS (en 6)))))))
theorem CA{f:k_}{fd:O1}(F:Fun K "roads_on" "roads_on" vv f fd){a0' aV'}(bY:wa P w K mg base a0' aV'){gb' fn'}(eP:AN P w K mg base gb' fn')(ao:mg "len"=none)(iA:Binds K fd ["web", "holds", "how", "came", "house", "letter"] [])(iB:O2 K (.ref f)=true)(iC:mg "roads_on"=some (.ref f)):∀n:Nat,FnOk P w K mg base CX0 (73+n) f fd ["web", "holds", "how", "came", "house", "letter"] (spD K (sK n))
 | 0=>u9
 | n+1=>ET (z_ (by decide) (OO _ n)) F (CA F bY eP ao iA iB iC n) bY eP ao iA iB iC
theorem DU:FnScope ["web", "holds", "how", "house", "neighbour", "letter"] ["web", "holds", "how", "house", "neighbour", "letter"] (defScope wR):=⟨rfl,rfl,rfl,by decide +kernel,rfl,by decide +kernel,by decide +kernel⟩
theorem J5(F:Fun K "leading" "leading" wR f fd){m2' k6'}(iD:Kj P w K mg base m2' k6'){eb' dd'}(dE:Ae P w K mg base eb' dd'):FnOk P w K mg base CX0 71 f fd ["web", "holds", "how", "house", "neighbour", "letter"] (spD K vK):=
 qO (k:=70) (N:=["web", "holds", "how", "house", "neighbour", "letter"]) F DU xX (λaF A outer s H E B hr=>qP
  (qF (pV (rX (rq (N':=["wish", "-web", "-holds", "-how", "-house", "-neighbour", "letter"]) (m:=1) (CompScope.of (by kernel_rfl)) rfl (qZ (qI (rB iD.G (hr.mono (by decide)) rfl iD.m iD.p iD.b (sd (en 0) (en 1) (en 2) (en 3) (f' (en 4) gx rfl) rfl rfl rfl rfl)))) (λ_ _ _ _=>(gd_n (i:=0) (m:=1) nk)) (λ_ _ _ _=>(rY (rO (qX dE.G (hr.mono (by decide)) rfl dE.m dE.p dE.b (f' (en 0) (f' (en 6) gx rfl) rfl))))) (λ_ _ _ _=>(en 0)))))))
theorem HH:FnScope ["cell", "at", "one", "two", "three"] ["cell", "at"] (defScope wO):=⟨rfl,rfl,rfl,by decide +kernel,rfl,by decide +kernel,by decide +kernel⟩
theorem Fi(F:Fun K "_law_blend" "_law_blend" wO f fd) :FnOk P w K mg base CX0 2 f fd ["cell", "at"] (spD K uw):=
 qO (k:=1) (N:=["cell", "at", "one", "two", "three"]) F HH wY (λaF A outer s H E B hr=>qP
  (kB (qV (Fg (en 0) (xY gV gV))
  (qF (pV (qS (en 0)))) qU)
  (kB (qK (i:=2) nk (sg (qY (qY (rZ (sg (en 0) gV) gV) (rZ (en 1) gV)) gV) gV))
  (kB (qK (i:=3) nk (sg (qY (qY (rZ (en 2) (en 2)) (rZ (en 1) gV)) (sg (en 0) gV)) gV))
  (kB (qK (i:=4) nk (sg (qY (qY (rZ (en 3) (en 3)) (rZ (en 2) gV)) gV) gV))
  (qF (pV (qS (qY (rZ (qY (rZ (en 2) gV) (en 3)) gV) (en 4))))))))))
theorem Ic:FnScope ["script", "cells", "k", "cell"] ["script"] (defScope xV):=⟨rfl,rfl,rfl,by decide +kernel,rfl,by decide +kernel,by decide +kernel⟩
theorem K5(F:Fun K "_law_pot" "_law_pot" xV f fd)(aI:mg "list"=none)(aJ:mg "enumerate"=none):FnOk P w K mg base CX0 2 f fd ["script"] (spD K uM):=
 qO (k:=1) (N:=["script", "cells", "k", "cell"]) F Ic xM (λaF A outer s H E B hr=>qP
  (kB (pV (rz (i:=1) nk (Dh rfl aI (f' (sX (en 0) tN (sx gV)) gx rfl))))
  (kB (rj Pe rfl (wQ rfl aJ (f' (sX (en 0) (sx gV) (sx gV)) gx rfl)) (rG (m:=100) rfl (rb (gd_n (i:=2) (m:=100) nk) (rb (gd_n (i:=3) (m:=100) nk) rH)))
  (qF (pV (vA (pv 1) (sg (en 2) gV) (qY (rD (pv 1) (sg (en 2) gV)) (en 3))))))
  (qF (pV (rX (qM (f' (en 1) (f' gV (f' gV gx rfl) rfl) rfl))))))))
theorem Ig:FnScope ["pot", "upto", "at", "cell", "found"] ["pot", "upto"] (defScope xG):=⟨rfl,rfl,rfl,by decide +kernel,rfl,by decide +kernel,by decide +kernel⟩
theorem Er(F:Fun K "_law_pick" "_law_pick" xG f fd){k7' kB'}(iE:Jg P w K mg base k7' kB')(ao:mg "len"=none):FnOk P w K mg base CX0 3 f fd ["pot", "upto"] (spD K rf):=
 qO (k:=2) (N:=["pot", "upto", "at", "cell", "found"]) F Ig wU (λaF A outer s H E B hr=>qP
  (kB (qV (tW (rD (pv 0) gV) (en 1))
  (kB (qK (i:=2) nk (rD (pv 0) gV))
  (kB (qK (i:=3) nk (rZ gV (en 2)))
  (kB (qV (tW (en 2) (rQ rfl ao (f' (rD (pv 0) gV) gx rfl)))
  (qF (qK (i:=3) nk (qG (rD (pv 0) gV) (en 2)))) (qF (qV (rK hr (rD (pv 0) gV) (qI (qM gx)))
  (qF (qK (i:=3) nk (sg (qG (rD (pv 0) gV) (sg (qY (rZ (en 2) gV) gV) (rQ rfl ao (f' (rD (pv 0) gV) gx rfl)))) (qY (xY gV gV) (rZ gV (en 2)))))) qU)))
  (kB (pV (vA (pv 0) gV (qY (en 2) gV)))
  (qF (pV (vA (pv 0) gV (qX iE.G (hr.mono (by decide)) rfl iE.m iE.p iE.b (f' (en 3) (f' (en 2) gx rfl) rfl))))))))) qU)
  (kB (qK (i:=4) nk (sg (rD (pv 0) gV) (en 1)))
  (kB (pV (vA (pv 0) gV (HV (rD (pv 0) gV) (en 1))))
  (qF (pV (qS (en 4))))))))
theorem DT:FnScope ["found", "due"] ["found", "due"] (defScope vy):=⟨rfl,rfl,rfl,by decide +kernel,rfl,by decide +kernel,by decide +kernel⟩
theorem E9{g:List R->Option (R×List R)}(hk:2<=kk)(F:Fun K "_law_same" "_law_same" vy f fd)(G:FnOk P w K mg base CX0 kk f fd ["found", "due"] (spD K g))(ak:mg "isinstance"=none)(bA:mg "bool"=none)(cC:mg "str"=none)(bR:mg "int"=none)(aI:mg "list"=none)(ay:mg "tuple"=none)(ao:mg "len"=none)(aQ:mg "zip"=none)(iF:Binds K fd ["found", "due"] [])(iG:O2 K (.ref f)=true)(iI:mg "_law_same"=some (.ref f)):FnOk P w K mg base CX0 (kk+1) f fd ["found", "due"] (spD K (fnD 2 2 (sZ g))):=
 qO (N:=["found", "due"]) F DT (sZ g) (λaF A outer s H E B hr=>qP
  (kB (qV (TW.td (tf (CN (en 1) sB) (sN (CN (en 0) sB))))
  (qF (pV (qS (tv (An (en 1) sB) (uD (An (en 0) sB)))))) qU)
  (kB (qV (TW.td (tf (rO (vG rfl ak rfl bA (en 1))) (sN (rO (vG rfl ak rfl bA (en 0))))))
  (qF (pV (qS (tv (vG rfl ak rfl bA (en 1)) (tv (vG rfl ak rfl bA (en 0)) (uD (wu hr (en 0) (en 1)))))))) qU)
  (kB (qV (TW.td (tf (rO (xP rfl ak rfl bR (en 1))) (sN (rO (DE rfl ak rfl cC (en 1))))))
  (qF (pV (qS (tv (wu hr (xP rfl ak rfl bR (en 0)) (xP rfl ak rfl bR (en 1))) (uD (wu hr (en 0) (en 1))))))) qU)
  (kB (qV (TW.td (tf (rK hr (A8 rfl ak rfl ay (en 1)) (A8 rfl ak rfl ay (en 0))) (sN (rK hr (CU rfl ak rfl aI (en 1)) (CU rfl ak rfl aI (en 0))))))
  (qF (pV (qS uJ))) qU)
  (kB (qV (rK hr (rQ rfl ao (f' (en 0) gx rfl)) (rQ rfl ao (f' (en 1) gx rfl)))
  (qF (pV (qS uJ))) qU)
  (qF (pV (qS (FU hr uJ (qI (rq (N':=["one", "other", "-found", "-due"]) (m:=2) (CompScope.of (by kernel_rfl)) rfl (uZ rfl aQ (f' (en 0) (f' (en 1) gx rfl) rfl)) (λ_ _ _ _=>(rG (m:=2) rfl (rb (gd_n (i:=0) (m:=2) nk) (rb (gd_n (i:=1) (m:=2) nk) rH)))) (λ_ _ _ _=>rN) (λ_ _ _ _=>(qX G hr rfl iI iG iF (f' (en 0) (f' (en 1) gx rfl) rfl)))))))))))))))
theorem Bo{f:k_}{fd:O1}(F:Fun K "_law_same" "_law_same" vy f fd)(ak:mg "isinstance"=none)(bA:mg "bool"=none)(cC:mg "str"=none)(bR:mg "int"=none)(aI:mg "list"=none)(ay:mg "tuple"=none)(ao:mg "len"=none)(aQ:mg "zip"=none)(iF:Binds K fd ["found", "due"] [])(iG:O2 K (.ref f)=true)(iI:mg "_law_same"=some (.ref f)):∀n:Nat,FnOk P w K mg base CX0 (3+n) f fd ["found", "due"] (spD K (sf n))
 | 0=>u9
 | n+1=>E9 (z_ (by decide) (OO _ n)) F (Bo F ak bA cC bR aI ay ao aQ iF iG iI n) ak bA cC bR aI ay ao aQ iF iG iI
theorem KY:FnScope ["pot", "fields", "low", "top", "pairs", "k", "one", "other"] ["pot", "fields", "low", "top"] (defScope y0):=⟨rfl,rfl,rfl,by decide +kernel,rfl,by decide +kernel,by decide +kernel⟩
theorem IH(F:Fun K "_law_wish" "_law_wish" y0 f fd){a3' aT'}(ax:tY P w K mg base a3' aT')(aA:mg "range"=none)(aP:mg "min"=none)(bq:mg "max"=none)(ay:mg "tuple"=none):FnOk P w K mg base CX0 4 f fd ["pot", "fields", "low", "top"] (spD K we):=
 qO (k:=3) (N:=["pot", "fields", "low", "top", "pairs", "k", "one", "other"]) F KY y4 (λaF A outer s H E B hr=>qP
  (kB (pV (rz (i:=4) nk (qM gx)))
  (kB (rj Pe rfl (sM rfl aA (f' (en 1) gx rfl)) (gd_n (i:=5) (m:=100) nk)
  (kB (qK (i:=6) nk (qY (en 2) (rc ax.G (hr.mono (by decide)) rfl ax.m ax.p ax.b (pv 0) (f' (en 3) gx rfl))))
  (kB (qK (i:=7) nk (qY (en 2) (rc ax.G (hr.mono (by decide)) rfl ax.m ax.p ax.b (pv 0) (f' (en 3) gx rfl))))
  (qF (pV (rA (pv 4) (qT (f' (tu rfl rfl aP (f' (en 6) (f' (en 7) gx rfl) rfl)) (f' (uH rfl rfl bq (f' (en 6) (f' (en 7) gx rfl) rfl)) gx rfl) rfl))))))))
  (qF (pV (qS (ug rfl ay (f' (en 4) gx rfl))))))))
theorem Fu:FnScope ["pot", "fields", "most", "top", "low", "found", "k", "way", "wish"] ["pot", "fields", "most"] (defScope xE):=⟨rfl,rfl,rfl,by decide +kernel,rfl,by decide +kernel,by decide +kernel⟩
theorem Fb(F:Fun K "_law_wishes" "_law_wishes" xE f fd){a3' aT'}(ax:tY P w K mg base a3' aT'){m3' k8'}(iJ:Il P w K mg base m3' k8'){kC' jd'}(iK:GU P w K mg base kC' jd')(aP:mg "min"=none)(aA:mg "range"=none)(ao:mg "len"=none):FnOk P w K mg base CX0 5 f fd ["pot", "fields", "most"] (spD K vS):=
 qO (k:=4) (N:=["pot", "fields", "most", "top", "low", "found", "k", "way", "wish"]) F Fu wK (λaF A outer s H E B hr=>qP
  (kB (qK (i:=3) nk (tu rfl rfl aP (f' (qG (qI (qM (ad_k (by kernel_rfl)))) (rc ax.G (hr.mono (by decide)) rfl ax.m ax.p ax.b (pv 0) (f' gV gx rfl))) (f' (qG (qI (qM (ad_k (by kernel_rfl)))) (en 1)) gx rfl) rfl)))
  (kB (qK (i:=4) nk (rc ax.G (hr.mono (by decide)) rfl ax.m ax.p ax.b (pv 0) (f' (u5 gV (en 3)) gx rfl)))
  (kB (pV (rz (i:=5) nk (qM gx)))
  (kB (rj Pe rfl (sM rfl aA (f' (rc ax.G (hr.mono (by decide)) rfl ax.m ax.p ax.b (pv 0) (f' (qY (en 2) gV) gx rfl)) gx rfl)) (gd_n (i:=6) (m:=100) nk)
  (kB (qK (i:=7) nk (rc ax.G (hr.mono (by decide)) rfl ax.m ax.p ax.b (pv 0) (f' gV gx rfl)))
  (kB (qK (i:=8) nk (rc iJ.G (hr.mono (by decide)) rfl iJ.m iJ.p iJ.b (pv 0) (f' (en 1) (f' (en 4) (f' (en 3) gx rfl) rfl) rfl)))
  (kB (qV (TW.td (sR (rT hr (en 7) gV) (sP (wm hr (pv 5) (qI (qM gx))))))
  (qF (qK (i:=8) nk (rD (pv 5) (rc ax.G (hr.mono (by decide)) rfl ax.m ax.p ax.b (pv 0) (f' (xF rfl ao (pv 5)) gx rfl))))) qU)
  (kB (qV (TW.td (sR (rT hr (en 7) gV) (sP (wm hr (pv 5) (qI (qM gx))))))
  (qF (qK (i:=8) nk (rc iK.G (hr.mono (by decide)) rfl iK.m iK.p iK.b (pv 0) (f' (rD (pv 5) (rc ax.G (hr.mono (by decide)) rfl ax.m ax.p ax.b (pv 0) (f' (xF rfl ao (pv 5)) gx rfl))) gx rfl)))) qU)
  (qF (pV (rA (pv 5) (en 8)))))))))
  (qF (pV (qS (en 5)))))))))
theorem EZ:FnScope ["pot", "wish", "at", "low", "high", "pair"] ["pot", "wish"] (defScope wI):=⟨rfl,rfl,rfl,by decide +kernel,rfl,by decide +kernel,by decide +kernel⟩
theorem J2(F:Fun K "_law_nudged" "_law_nudged" wI f fd){a3' aT'}(ax:tY P w K mg base a3' aT')(ao:mg "len"=none)(bq:mg "max"=none)(aP:mg "min"=none):FnOk P w K mg base CX0 4 f fd ["pot", "wish"] (spD K vD):=
 qO (k:=3) (N:=["pot", "wish", "at", "low", "high", "pair"]) F EZ yy (λaF A outer s H E B hr=>qP
  (kB (qK (i:=2) nk (rc ax.G (hr.mono (by decide)) rfl ax.m ax.p ax.b (pv 0) (f' (rQ rfl ao (f' (en 1) gx rfl)) gx rfl)))
  (kB (pV (Br (qG (en 1) (en 2)) (rG (m:=100) rfl (rb (gd_n (i:=3) (m:=100) nk) (rb (gd_n (i:=4) (m:=100) nk) rH)))))
  (kB (qK (i:=5) nk (qI (qM (sd (qT (f' (uH rfl rfl bq (f' gV (f' (u5 (en 3) gV) gx rfl) rfl)) (f' (en 4) gx rfl) rfl)) (qT (f' (en 3) (f' (tu rfl rfl aP (f' gV (f' (qY (en 4) gV) gx rfl) rfl)) gx rfl) rfl)) (qT (f' (tu rfl rfl aP (f' (qY (en 3) gV) (f' (en 4) gx rfl) rfl)) (f' (en 4) gx rfl) rfl)) (qT (f' (en 3) (f' (uH rfl rfl bq (f' (en 3) (f' (u5 (en 4) gV) gx rfl) rfl)) gx rfl) rfl)) gx rfl rfl rfl rfl))))
  (qF (pV (qS (qY (qY (sX (en 1) tN (sx (en 2))) (qT (f' (qG (en 5) (rc ax.G (hr.mono (by decide)) rfl ax.m ax.p ax.b (pv 0) (f' gV gx rfl))) gx rfl))) (sX (en 1) (sx (qY (en 2) gV)) tN)))))))))
theorem Gc:FnScope ["wish", "letter"] ["wish", "letter"] (defScope xR):=⟨rfl,rfl,rfl,by decide +kernel,rfl,by decide +kernel,by decide +kernel⟩
theorem IR(F:Fun K "_law_has" "_law_has" xR f fd)(aQ:mg "zip"=none):FnOk P w K mg base CX0 2 f fd ["wish", "letter"] (spD K tz):=
 qO (k:=1) (N:=["wish", "letter"]) F Gc w8 (λaF A outer s H E B hr=>qP
  (qF (pV (qS (wu hr (qI (rq (N':=["number", "pair", "-wish", "-letter"]) (m:=2) (CompScope.of (by kernel_rfl)) rfl (uZ rfl aQ (f' (en 1) (f' (en 0) gx rfl) rfl)) (λ_ _ _ _=>(rG (m:=2) rfl (rb (gd_n (i:=0) (m:=2) nk) (rb (gd_n (i:=1) (m:=2) nk) rH)))) (λ_ _ _ _=>(rY (TW.td (tf (tW (en 0) (qG (en 1) gV)) (sN (vm (en 0) (qG (en 1) gV))))))) (λ_ _ _ _=>gV))) (qI (qM gx)))))))
theorem HK:FnScope ["pot", "most", "many", "way", "order", "names", "roads", "k", "ahead", "pair"] ["pot", "most"] (defScope yY):=⟨rfl,rfl,rfl,by decide +kernel,rfl,by decide +kernel,by decide +kernel⟩
theorem Hg(F:Fun K "_law_web" "_law_web" yY f fd){a3' aT'}(ax:tY P w K mg base a3' aT')(aI:mg "list"=none)(aA:mg "range"=none)(ao:mg "len"=none)(aP:mg "min"=none)(bq:mg "max"=none)(az:mg "sorted"=none)(ay:mg "tuple"=none):FnOk P w K mg base CX0 4 f fd ["pot", "most"] (spD K wq):=
 qO (k:=3) (N:=["pot", "most", "many", "way", "order", "names", "roads", "k", "ahead", "pair"]) F HK wH (λaF A outer s H E B hr=>qP
  (kB (qK (i:=2) nk (qY gV (rc ax.G (hr.mono (by decide)) rfl ax.m ax.p ax.b (pv 0) (f' (en 1) gx rfl))))
  (kB (qK (i:=3) nk (rc ax.G (hr.mono (by decide)) rfl ax.m ax.p ax.b (pv 0) (f' gV gx rfl)))
  (kB (pV (rz (i:=4) nk (By rfl rfl aI rfl aA (f' (en 2) gx rfl))))
  (kB (pV (vo (i:=5) (N':=["k", "pot", "-most", "-many", "-way", "order", "-names", "-roads", "-k", "-ahead", "-pair"]) (m:=1) (CompScope.of (by kernel_rfl)) rfl nk (sM rfl aA (f' (en 2) gx rfl)) (λ_ _ _ _=>(gd_n (i:=0) (m:=1) nk)) (λ_ _ _ _=>rN) (λ_ _ _ _=>(Gi (pv 5) (f' (rc ax.G (hr.mono (by decide)) rfl ax.m ax.p ax.b (pv 1) (f' (xF rfl ao (pv 5)) gx rfl)) gx rfl)))))
  (kB (pV (rz (i:=6) nk (qM gx)))
  (kB (rj Pe rfl (GP rfl aA (f' gV (f' (en 2) gx rfl) rfl)) (gd_n (i:=7) (m:=100) nk)
  (kB (qK (i:=8) nk (qG (qI (qM (sd (u5 (en 7) gV) gV (rc ax.G (hr.mono (by decide)) rfl ax.m ax.p ax.b (pv 0) (f' (en 7) gx rfl)) (rc ax.G (hr.mono (by decide)) rfl ax.m ax.p ax.b (pv 0) (f' (en 7) gx rfl)) gx rfl rfl rfl rfl))) (en 3)))
  (kB (qK (i:=9) nk (qT (f' (tu rfl rfl aP (f' (qG (en 5) (en 7)) (f' (qG (en 5) (en 8)) gx rfl) rfl)) (f' (uH rfl rfl bq (f' (qG (en 5) (en 7)) (f' (qG (en 5) (en 8)) gx rfl) rfl)) gx rfl) rfl)))
  (qF (qV (TW.td (tf (tW (en 3) gV) (sN (vm (rc ax.G (hr.mono (by decide)) rfl ax.m ax.p ax.b (pv 0) (f' gV gx rfl)) gV))))
  (qF (pV (rA (pv 6) (en 9)))) qU)))))
  (qF (pV (qS (qT (f' (en 2) (f' (ug rfl ay (f' (qI (ue hr rfl az (f' (en 6) gx rfl))) gx rfl)) gx rfl) rfl))))))))))))
theorem Io:FnScope ["web", "house", "found", "one", "other"] ["web", "house"] (defScope xZ):=⟨rfl,rfl,rfl,by decide +kernel,rfl,by decide +kernel,by decide +kernel⟩
theorem Fy(F:Fun K "_law_beside" "_law_beside" xZ f fd)(az:mg "sorted"=none):FnOk P w K mg base CX0 2 f fd ["web", "house"] (spD K uy):=
 qO (k:=1) (N:=["web", "house", "found", "one", "other"]) F Io xh (λaF A outer s H E B hr=>qP
  (kB (pV (rz (i:=2) nk (qM gx)))
  (kB (rj Pe rfl (qZ (qG (en 0) gV)) (rG (m:=100) rfl (rb (gd_n (i:=3) (m:=100) nk) (rb (gd_n (i:=4) (m:=100) nk) rH)))
  (kB (qV (rT hr (en 3) (en 1))
  (qF (pV (rA (pv 2) (en 4)))) qU)
  (qF (qV (rT hr (en 4) (en 1))
  (qF (pV (rA (pv 2) (en 3)))) qU))))
  (qF (pV (rX (ue hr rfl az (f' (en 2) gx rfl))))))))
theorem Iq:FnScope ["web", "house", "neighbour", "found", "fresh", "here", "there"] ["web", "house", "neighbour"] (defScope xu):=⟨rfl,rfl,rfl,by decide +kernel,rfl,by decide +kernel,by decide +kernel⟩
theorem DF(F:Fun K "_law_behind" "_law_behind" xu f fd){ec' de'}(dF:AO P w K mg base ec' de')(az:mg "sorted"=none):FnOk P w K mg base CX0 3 f fd ["web", "house", "neighbour"] (spD K uT):=
 qO (k:=2) (N:=["web", "house", "neighbour", "found", "fresh", "here", "there"]) F Iq yX (λaF A outer s H E B hr=>qP
  (kB (pV (rz (i:=3) nk (qM (f' (en 2) gx rfl))))
  (kB (pV (rz (i:=4) nk (qM (f' (en 2) gx rfl))))
  (kB (BY Pe (wm hr (pv 4) (qI (qM gx)))
  (kB (qK (i:=5) nk (zP (pv 4)))
  (qF (rj Pe rfl (qZ (qI (rB dF.G (hr.mono (by decide)) rfl dF.m dF.p dF.b (f' (en 0) (f' (en 5) gx rfl) rfl)))) (gd_n (i:=6) (m:=100) nk)
  (qF (qV (TW.td (sR (rK hr (en 6) (en 1)) (sP (Es hr (en 6) (pv 3)))))
  (kB (pV (rA (pv 3) (en 6)))
  (qF (pV (rA (pv 4) (en 6))))) qU))))))
  (qF (pV (rX (ue hr rfl az (f' (en 3) gx rfl)))))))))
theorem GI:FnScope ["pot", "web", "fields", "most", "some"] ["pot", "web", "fields", "most"] (defScope wF):=⟨rfl,rfl,rfl,by decide +kernel,rfl,by decide +kernel,by decide +kernel⟩
theorem HG(F:Fun K "_law_holds" "_law_holds" wF f fd){kD' je'}(iL:JR P w K mg base kD' je'){a3' aT'}(ax:tY P w K mg base a3' aT'):FnOk P w K mg base CX0 6 f fd ["pot", "web", "fields", "most"] (spD K va):=
 qO (k:=5) (N:=["pot", "web", "fields", "most", "some"]) F GI xa (λaF A outer s H E B hr=>qP
  (kB (qK (i:=4) nk (rc iL.G (hr.mono (by decide)) rfl iL.m iL.p iL.b (pv 0) (f' (en 2) (f' (en 3) gx rfl) rfl)))
  (qF (pV (rX (rq (N':=["wish", "pot", "web", "-fields", "-most", "-some"]) (m:=1) (CompScope.of (by kernel_rfl)) rfl (qZ (en 4)) (λ_ _ _ _=>(gd_n (i:=0) (m:=1) nk)) (λ_ _ _ _=>rN) (λ_ _ _ _=>(qT (f' (rc ax.G (hr.mono (by decide)) rfl ax.m ax.p ax.b (pv 1) (f' (qG (en 2) gV) gx rfl)) (f' (en 0) gx rfl) rfl)))))))))
theorem Fz:FnScope ["web", "holds", "house", "letter", "wished", "roads", "come", "going", "here", "ahead", "other", "there", "given"] ["web", "holds", "house", "letter"] (defScope yb):=⟨rfl,rfl,rfl,by decide +kernel,rfl,by decide +kernel,by decide +kernel⟩
theorem Hl(F:Fun K "_law_due" "_law_due" yb f fd){oT' m4'}(ef:DM P w K mg base oT' m4'){ec' de'}(dF:AO P w K mg base ec' de'){kE' jf'}(iM:HP P w K mg base kE' jf')(ao:mg "len"=none)(aA:mg "range"=none)(az:mg "sorted"=none):FnOk P w K mg base CX0 4 f fd ["web", "holds", "house", "letter"] (spD K v6):=
 qO (k:=3) (N:=["web", "holds", "house", "letter", "wished", "roads", "come", "going", "here", "ahead", "other", "there", "given"]) F Fz xi (λaF A outer s H E B hr=>qP
  (kB (pV (vo (i:=4) (N':=["at", "wish", "-web", "-holds", "-house", "letter", "-wished", "-roads", "-come", "-going", "-here", "-ahead", "-other", "-there", "-given"]) (m:=2) (CompScope.of (by kernel_rfl)) rfl nk (qZ (en 1)) (λ_ _ _ _=>(rG (m:=2) rfl (rb (gd_n (i:=0) (m:=2) nk) (rb (gd_n (i:=1) (m:=2) nk) rH)))) (λ_ _ _ _=>(rY (rO (qX ef.G (hr.mono (by decide)) rfl ef.m ef.p ef.b (f' (en 1) (f' (en 5) gx rfl) rfl))))) (λ_ _ _ _=>(en 0))))
  (kB (pV (rz (i:=5) nk (qM gx)))
  (kB (pV (rz (i:=6) nk (qM (f' (en 2) gx rfl))))
  (kB (pV (rz (i:=7) nk (qM (f' (qT (f' (en 2) (f' (yE gV) gx rfl) rfl)) gx rfl))))
  (kB (BY Pe (wm hr (pv 7) (qI (qM gx)))
  (kB (pV (Br (zP (pv 7)) (rG (m:=100) rfl (rb (gd_n (i:=8) (m:=100) nk) (rb (gd_n (i:=9) (m:=100) nk) rH)))))
  (qF (rj Pe rfl (qZ (qI (rB dF.G (hr.mono (by decide)) rfl dF.m dF.p dF.b (f' (en 0) (f' (en 8) gx rfl) rfl)))) (gd_n (i:=10) (m:=100) nk)
  (kB (qK (i:=11) nk (qI (rB iM.G (hr.mono (by decide)) rfl iM.m iM.p iM.b (f' (en 0) (f' (en 8) (f' (en 10) gx rfl) rfl) rfl))))
  (qF (qV (TW.td (sR (rK hr (en 10) (en 9)) (sP (rK hr (qI (rq (N':=["at", "-web", "-holds", "-house", "-letter", "-wished", "-roads", "-come", "-going", "-here", "-ahead", "-other", "there", "-given"]) (m:=1) (CompScope.of (by kernel_rfl)) rfl (qZ (en 4)) (λ_ _ _ _=>(gd_n (i:=0) (m:=1) nk)) (λ_ _ _ _=>(rY (yh hr (en 0) (en 12)))) (λ_ _ _ _=>(en 0)))) (qI (qM gx))))))
  (kB (pV (rA (pv 5) (qT (f' (en 8) (f' (en 10) gx rfl) rfl))))
  (kB (pV (rA (pv 6) (en 10)))
  (qF (pV (rA (pv 7) (qT (f' (en 10) (f' (en 8) gx rfl) rfl))))))) qU)))))))
  (kB (pV (vo (i:=12) (N':=["k", "-web", "holds", "-house", "letter", "-wished", "-roads", "come", "-going", "-here", "-ahead", "-other", "-there", "-given"]) (m:=1) (CompScope.of (by kernel_rfl)) rfl nk (sM rfl aA (f' (rQ rfl ao (f' (en 1) gx rfl)) gx rfl)) (λ_ _ _ _=>(gd_n (i:=0) (m:=1) nk)) (λ_ _ _ _=>(rY (TW.td (sR (Iu hr (qG (qG (en 2) (en 0)) gV) (pv 7)) (sP (rO (qX ef.G (hr.mono (by decide)) rfl ef.m ef.p ef.b (f' (qG (qG (en 2) (en 0)) gV) (f' (en 4) gx rfl) rfl)))))))) (λ_ _ _ _=>(en 0))))
  (qF (pV (qS (qT (f' (qI (ue hr rfl az (f' (en 5) gx rfl))) (f' (en 12) gx rfl) rfl))))))))))))
theorem E2:FnScope ["script", "pot", "turn", "fields", "web", "holds", "letters", "at", "wish", "letter", "house", "due", "how", "handed", "found"] ["script"] (defScope yz):=⟨rfl,rfl,rfl,by decide +kernel,rfl,by decide +kernel,by decide +kernel⟩
theorem KJ(F:Fun K "law" "law" yz f fd){oU' m5'}(iN:EA P w K mg base oU' m5'){a3' aT'}(ax:tY P w K mg base a3' aT'){oV' m6'}(iO:FF P w K mg base oV' m6'){k9' kF'}(iP:Fk P w K mg base k9' kF'){oW' m7'}(iQ:Kl P w K mg base oW' m7'){p3' oX'}(iR:F1 P w K mg base p3' oX'){m8' la'}(iS:GY P w K mg base m8' la')(aA:mg "range"=none)(ay:mg "tuple"=none)(aI:mg "list"=none):FnOk P w K mg base CX0 95 f fd ["script"] (spD K sV):=
 qO (k:=94) (N:=["script", "pot", "turn", "fields", "web", "holds", "letters", "at", "wish", "letter", "house", "due", "how", "handed", "found"]) F E2 wC (λaF A outer s H E B hr=>qP
  (kB (pV (rz (i:=1) nk (rB iN.G (hr.mono (by decide)) rfl iN.m iN.p iN.b (f' (en 0) gx rfl))))
  (kB (rj Pe rfl (sM rfl aA (f' gV gx rfl)) (gd_n (i:=2) (m:=100) nk)
  (kB (qK (i:=3) nk (qY gV (rc ax.G (hr.mono (by decide)) rfl ax.m ax.p ax.b (pv 1) (f' gV gx rfl))))
  (kB (qK (i:=4) nk (rc iO.G (hr.mono (by decide)) rfl iO.m iO.p iO.b (pv 1) (f' gV gx rfl)))
  (kB (qK (i:=5) nk (qI (FM iP.G (hr.mono (by decide)) rfl iP.m iP.p iP.b (pv 1) (f' (en 4) (f' (en 3) (f' gV gx rfl) rfl) rfl))))
  (kB (pV (rz (i:=6) nk (qM (f' (ug rfl ay (f' (qI (rq (N':=["k", "-script", "pot", "-turn", "-fields", "-web", "-holds", "-letters", "-at", "-wish", "-letter", "-house", "-due", "-how", "-handed", "-found"]) (m:=1) (CompScope.of (by kernel_rfl)) rfl (sM rfl aA (f' (en 3) gx rfl)) (λ_ _ _ _=>(gd_n (i:=0) (m:=1) nk)) (λ_ _ _ _=>rN) (λ_ _ _ _=>(rc ax.G (hr.mono (by decide)) rfl ax.m ax.p ax.b (pv 2) (f' gV gx rfl))))) gx rfl)) gx rfl))))
  (kB (rj Pe rfl (qZ (sX (en 5) tN (sx gV))) (rG (m:=100) rfl (rb (gd_n (i:=7) (m:=100) nk) (rb (gd_n (i:=8) (m:=100) nk) rH)))
  (qF (pV (rA (pv 6) (ug rfl ay (f' (qI (rq (N':=["pair", "-script", "pot", "-turn", "-fields", "-web", "-holds", "-letters", "-at", "-wish", "-letter", "-house", "-due", "-how", "-handed", "-found"]) (m:=1) (CompScope.of (by kernel_rfl)) rfl (qZ (en 8)) (λ_ _ _ _=>(gd_n (i:=0) (m:=1) nk)) (λ_ _ _ _=>rN) (λ_ _ _ _=>(qG (en 0) (rc ax.G (hr.mono (by decide)) rfl ax.m ax.p ax.b (pv 2) (f' gV gx rfl)))))) gx rfl))))))
  (qF (rj Pe rfl (qZ (qI (qM (f' (rD (pv 6) gV) (f' (rD (pv 6) (yE gV)) gx rfl) rfl)))) (gd_n (i:=9) (m:=100) nk)
  (qF (rj Pe rfl (sM rfl aA (f' (qG (en 4) gV) gx rfl)) (gd_n (i:=10) (m:=100) nk)
  (kB (qK (i:=11) nk (qX iQ.G (hr.mono (by decide)) rfl iQ.m iQ.p iQ.b (sd (en 4) (en 5) (en 10) (en 9) gx rfl rfl rfl rfl)))
  (qF (rj Pe rfl (qZ (qI (qM (f' rM (f' rM gx rfl) rfl)))) (gd_n (i:=12) (m:=100) nk)
  (kB (qK (i:=13) nk (qI (Dh rfl aI (f' (en 5) gx rfl))))
  (DZ (i:=14) nk iR.G (hr.mono (by decide)) rfl iR.m iR.p iR.b (sd (en 4) (en 13) (en 12) (en 10) (f' (en 9) gx rfl) rfl rfl rfl rfl)
  (z7 (TW.td (tf (y8 (rO (qX iS.G (hr.mono (by decide)) rfl iS.m iS.p iS.b (f' (en 14) (f' (en 11) gx rfl) rfl)))) (sN (rK hr (en 13) (en 5)))))
  (DB (n:=0) (pv 14) (qT (f' gV (f' gV gx rfl) rfl))
  (z7 (rK hr (qG (en 14) gV) (qG (en 11) gV))
  (EK (n:=1) (pv 14) qU)))))))))))))))))))
  (qF (pV (qS uJ))))))
end
structure Dn(K:PySem.W.Frag)(mg:Str->Option b_)(x:Str)(st:NO)(f:k_)(fd:O1):Prop where
 F:Fun K x x st f fd
 m:mg x=some (.ref f)
 a:nsIn K Od x=some (some (.ref f))
theorem dn{K:PySem.W.Frag}{h:J_}{st:NO}{sl:Array (Option b_)}{kV dc:b_}(X:K.In h)(G:h.Ns Od mg)(a:nsIn K Od x=some (some (.ref f)))(l:K.lookup f=some ⟨oc,od,.func (Rf x x (defArgs st) (defBody st) (defScope st) .none kV dc pm an cd ct),sl⟩)(c:codeIn K cd x=true)(k:O2 K (.ref f)=true):Dn K mg x st f (Rf x x (defArgs st) (defBody st) (defScope st) .none kV dc pm an cd ct):=⟨Fh l c k,PySem.W.mg_of X G a,a⟩
section
variable{P:A_}{w:I_}{K:PySem.W.Frag}{st:NO}{g:List R->Option (R×List R)}
theorem lenOf1{α:Type}{us:List α}(h:us.length=1):∃a,us=[a]:=by
 obtain⟨a,us,rfl⟩:=M_ h;exact⟨a,by rw[N_.mp (O9 h)]⟩
theorem lenOf2{α:Type}{us:List α}(h:us.length=2):∃a b,us=[a,b]:=by
 obtain⟨a,us,rfl⟩:=M_ h;obtain⟨b,rfl⟩:=lenOf1 (O9 h);exact⟨a,b,rfl⟩
theorem lenOf3{α:Type}{us:List α}(h:us.length=3):∃a b c,us=[a,b,c]:=by
 obtain⟨a,us,rfl⟩:=M_ h;obtain⟨b,c,rfl⟩:=lenOf2 (O9 h);exact⟨a,b,c,rfl⟩
theorem lenOf4{α:Type}{us:List α}(h:us.length=4):∃a b c d,us=[a,b,c,d]:=by
 obtain⟨a,us,rfl⟩:=M_ h;obtain⟨b,c,d,rfl⟩:=lenOf3 (O9 h);exact⟨a,b,c,d,rfl⟩
theorem lenOf5{α:Type}{us:List α}(h:us.length=5):∃a b c d e,us=[a,b,c,d,e]:=by
 obtain⟨a,us,rfl⟩:=M_ h;obtain⟨b,c,d,e,rfl⟩:=lenOf4 (O9 h);exact⟨a,b,c,d,e,rfl⟩
theorem lenOf6{α:Type}{us:List α}(h:us.length=6):∃a b c d e f,us=[a,b,c,d,e,f]:=by
 obtain⟨a,us,rfl⟩:=M_ h;obtain⟨b,c,d,e,f,rfl⟩:=lenOf5 (O9 h);exact⟨a,b,c,d,e,f,rfl⟩
theorem Dn.b1{p:Str}(D:Dn K mg x st f fd)(h:∀(kV dc pm:b_) (an:Option k_) (cd ct a:b_),OG (Rf x x (defArgs st) (defBody st) (defScope st) .none kV dc pm an cd ct) ⟨[a],[]⟩=pure [(p,a)]:=by intros;rfl):Binds K fd [p] []:=D.F.binds λ_ _ _ _ _ _ us hl=>by obtain⟨a,rfl⟩:=lenOf1 hl;exact h _ _ _ _ _ _ a
theorem Dn.c1{p:Str}(D:Dn K mg x st f fd)(G:FnOk P w K mg base CX0 k f fd [p] (spD K g))(h:∀(kV dc pm:b_) (an:Option k_) (cd ct a:b_),OG (Rf x x (defArgs st) (defBody st) (defScope st) .none kV dc pm an cd ct) ⟨[a],[]⟩=pure [(p,a)]:=by intros;rfl):Cd P w K mg base k f fd [p] g x:=⟨G,D.b1 h,D.F.kp,D.m⟩
theorem Dn.b2{p:Str}(D:Dn K mg x st f fd)(h:∀(kV dc pm:b_) (an:Option k_) (cd ct a b:b_),OG (Rf x x (defArgs st) (defBody st) (defScope st) .none kV dc pm an cd ct) ⟨[a,b],[]⟩=pure [(p,a),(q,b)]:=by intros;rfl):Binds K fd [p,q] []:=D.F.binds λ_ _ _ _ _ _ us hl=>by obtain⟨a,b,rfl⟩:=lenOf2 hl;exact h _ _ _ _ _ _ a b
theorem Dn.c2{p:Str}(D:Dn K mg x st f fd)(G:FnOk P w K mg base CX0 k f fd [p,q] (spD K g))(h:∀(kV dc pm:b_) (an:Option k_) (cd ct a b:b_),OG (Rf x x (defArgs st) (defBody st) (defScope st) .none kV dc pm an cd ct) ⟨[a,b],[]⟩=pure [(p,a),(q,b)]:=by intros;rfl):Cd P w K mg base k f fd [p,q] g x:=⟨G,D.b2 h,D.F.kp,D.m⟩
theorem Dn.b3{p r:Str}(D:Dn K mg x st f fd)(h:∀(kV dc pm:b_) (an:Option k_) (cd ct a b c:b_),OG (Rf x x (defArgs st) (defBody st) (defScope st) .none kV dc pm an cd ct) ⟨[a,b,c],[]⟩=pure [(p,a),(q,b),(r,c)]:=by intros;rfl):Binds K fd [p,q,r] []:=D.F.binds λ_ _ _ _ _ _ us hl=>by obtain⟨a,b,c,rfl⟩:=lenOf3 hl;exact h _ _ _ _ _ _ a b c
theorem Dn.c3{p r:Str}(D:Dn K mg x st f fd)(G:FnOk P w K mg base CX0 k f fd [p,q,r] (spD K g))(h:∀(kV dc pm:b_) (an:Option k_) (cd ct a b c:b_),OG (Rf x x (defArgs st) (defBody st) (defScope st) .none kV dc pm an cd ct) ⟨[a,b,c],[]⟩=pure [(p,a),(q,b),(r,c)]:=by intros;rfl):Cd P w K mg base k f fd [p,q,r] g x:=⟨G,D.b3 h,D.F.kp,D.m⟩
theorem Dn.b4{p r s:Str}(D:Dn K mg x st f fd)(h:∀(kV dc pm:b_) (an:Option k_) (cd ct a b c d:b_),OG (Rf x x (defArgs st) (defBody st) (defScope st) .none kV dc pm an cd ct) ⟨[a,b,c,d],[]⟩=pure [(p,a),(q,b),(r,c),(s,d)]:=by intros;rfl):Binds K fd [p,q,r,s] []:=D.F.binds λ_ _ _ _ _ _ us hl=>by obtain⟨a,b,c,d,rfl⟩:=lenOf4 hl;exact h _ _ _ _ _ _ a b c d
theorem Dn.c4{p r s:Str}(D:Dn K mg x st f fd)(G:FnOk P w K mg base CX0 k f fd [p,q,r,s] (spD K g))(h:∀(kV dc pm:b_) (an:Option k_) (cd ct a b c d:b_),OG (Rf x x (defArgs st) (defBody st) (defScope st) .none kV dc pm an cd ct) ⟨[a,b,c,d],[]⟩=pure [(p,a),(q,b),(r,c),(s,d)]:=by intros;rfl):Cd P w K mg base k f fd [p,q,r,s] g x:=⟨G,D.b4 h,D.F.kp,D.m⟩
theorem Dn.b5{p r s t:Str}(D:Dn K mg x st f fd)(h:∀(kV dc pm:b_) (an:Option k_) (cd ct a b c d e:b_),OG (Rf x x (defArgs st) (defBody st) (defScope st) .none kV dc pm an cd ct) ⟨[a,b,c,d,e],[]⟩=pure [(p,a),(q,b),(r,c),(s,d),(t,e)]:=by intros;rfl):Binds K fd [p,q,r,s,t] []:=D.F.binds λ_ _ _ _ _ _ us hl=>by obtain⟨a,b,c,d,e,rfl⟩:=lenOf5 hl;exact h _ _ _ _ _ _ a b c d e
theorem Dn.c5{p r s t:Str}(D:Dn K mg x st f fd)(G:FnOk P w K mg base CX0 k f fd [p,q,r,s,t] (spD K g))(h:∀(kV dc pm:b_) (an:Option k_) (cd ct a b c d e:b_),OG (Rf x x (defArgs st) (defBody st) (defScope st) .none kV dc pm an cd ct) ⟨[a,b,c,d,e],[]⟩=pure [(p,a),(q,b),(r,c),(s,d),(t,e)]:=by intros;rfl):Cd P w K mg base k f fd [p,q,r,s,t] g x:=⟨G,D.b5 h,D.F.kp,D.m⟩
theorem Dn.b6{p r s t u:Str}(D:Dn K mg x st f fd)(h:∀(kV dc pm:b_) (an:Option k_) (cd ct a b c d e f:b_),OG (Rf x x (defArgs st) (defBody st) (defScope st) .none kV dc pm an cd ct) ⟨[a,b,c,d,e,f],[]⟩=pure [(p,a),(q,b),(r,c),(s,d),(t,e),(u,f)]:=by intros;rfl):Binds K fd [p,q,r,s,t,u] []:=D.F.binds λ_ _ _ _ _ _ us hl=>by obtain⟨a,b,c,d,e,f,rfl⟩:=lenOf6 hl;exact h _ _ _ _ _ _ a b c d e f
theorem Dn.c6{p r s t u:Str}(D:Dn K mg x st f fd)(G:FnOk P w K mg base CX0 k f fd [p,q,r,s,t,u] (spD K g))(h:∀(kV dc pm:b_) (an:Option k_) (cd ct a b c d e f:b_),OG (Rf x x (defArgs st) (defBody st) (defScope st) .none kV dc pm an cd ct) ⟨[a,b,c,d,e,f],[]⟩=pure [(p,a),(q,b),(r,c),(s,d),(t,e),(u,f)]:=by intros;rfl):Cd P w K mg base k f fd [p,q,r,s,t,u] g x:=⟨G,D.b6 h,D.F.kp,D.m⟩
end
theorem all_mk{P:A_}{w:I_}{K:PySem.W.Frag}(oH:mg "law"=some (.ref fa)){f0 d0}(D0:Dn K mg "must_be_kin" za f0 d0){f1 d1}(D1:Dn K mg "has_letter" yi f1 d1){f2 d2}(D2:Dn K mg "covers" yL f2 d2){f3 d3}(D3:Dn K mg "in_common" y9 f3 d3){f4 d4}(D4:Dn K mg "roof_of" yT f4 d4){f5 d5}(D5:Dn K mg "is_under_another" wJ f5 d5){f6 d6}(D6:Dn K mg "covered" xl f6 d6){f7 d7}(D7:Dn K mg "looked_through" vN f7 d7){f8 d8}(D8:Dn K mg "first_border" xH f8 d8){f9 d9}(D9:Dn K mg "halves_of" xg f9 d9){f10 d10}(lY:Dn K mg "spare_of" yt f10 d10){f11 d11}(lZ:Dn K mg "must_be_house" xQ f11 d11){f12 d12}(l7:Dn K mg "neighbours_of" yu f12 d12){f13 d13}(ma:Dn K mg "short_of" yk f13 d13){f14 d14}(md:Dn K mg "wishes_of" wW f14 d14){f15 d15}(gE:Dn K mg "heard_of" v7 f15 d15){f16 d16}(mf:Dn K mg "led_by" xw f16 d16){f17 d17}(gF:Dn K mg "roads_on" vv f17 d17){f18 d18}(mh:Dn K mg "leading" wR f18 d18){f19 d19}(mn:Dn K mg "_law_blend" wO f19 d19){f20 d20}(mq:Dn K mg "_law_pot" xV f20 d20){f21 d21}(mr:Dn K mg "_law_pick" xG f21 d21){f22 d22}(gG:Dn K mg "_law_same" vy f22 d22){f23 d23}(mw:Dn K mg "_law_wish" y0 f23 d23){f24 d24}(my:Dn K mg "_law_wishes" xE f24 d24){f25 d25}(mz:Dn K mg "_law_nudged" wI f25 d25){f26 d26}(mB:Dn K mg "_law_has" xR f26 d26){f27 d27}(mC:Dn K mg "_law_web" yY f27 d27){f28 d28}(mD:Dn K mg "_law_beside" xZ f28 d28){f29 d29}(mE:Dn K mg "_law_behind" xu f29 d29){f30 d30}(mF:Dn K mg "_law_holds" wF f30 d30){f31 d31}(mG:Dn K mg "_law_due" yb f31 d31){f32 d32}(kc:Dn K mg "law" yz f32 d32)(cB:mg "all"=none)(eK:mg "any"=none)(bA:mg "bool"=none)(aJ:mg "enumerate"=none)(bR:mg "int"=none)(ak:mg "isinstance"=none)(ao:mg "len"=none)(aI:mg "list"=none)(bq:mg "max"=none)(aP:mg "min"=none)(aA:mg "range"=none)(eJ:mg "set"=none)(az:mg "sorted"=none)(cC:mg "str"=none)(ay:mg "tuple"=none)(aQ:mg "zip"=none):
  ∃fd:O1,(∀(s:c_) (v:b_),R9 s fd ⟨[v],[]⟩ [("script", v)])/\∀base:J_,K.In base->base.Ns Od mg->FnOk P w K mg base CX0 95 fa fd ["script"] (spD K sV):=by
 cases oH.symm.trans kc.m;refine⟨d32,λs v=>?_,λbase _ _=>?_⟩
 ·obtain⟨_,_,_,_,_,_,_,_,_,rfl,_,_⟩:=kc.F.ex;exact .of_eq rfl
 have oI:=mq.c1 (K5 (P:=P) (w:=w) (base:=base) mq.F aI aJ);have oJ:=mn.c2 (Fi (P:=P) (w:=w) (base:=base) mn.F );have fy:=mr.c2 (Er mr.F oJ ao);have oK:=mC.c2 (Hg mC.F fy aI aA ao aP bq az ay);have oM:=mw.c4 (IH mw.F fy aA aP bq ay);have oN:=mz.c2 (J2 mz.F fy ao bq aP);have oO:=my.c3 (Fb my.F fy oM oN aP aA ao);have oP:=mF.c4 (HG mF.F oO fy);have oQ:=mB.c2 (IR (P:=P) (w:=w) (base:=base) mB.F aQ);have mH:=mD.c2 (Fy (P:=P) (w:=w) (base:=base) mD.F az);have oR:=mE.c3 (DF mE.F mH az);have oT:=mG.c4 (Hl mG.F oQ mH oR ao aA az);have C0:=D0.c1 (Ec (P:=P) (w:=w) (base:=base) D0.F ao);have mI:=md.c1 (Dt (P:=P) (w:=w) (base:=base) md.F );have mJ:=lZ.c2 (Js (P:=P) (w:=w) (base:=base) lZ.F );have mK:=l7.c2 (Jm l7.F mJ az);have C2:=D2.c2 (Hh D2.F C0 aQ cB);have C5:=D5.c2 (Ij D5.F C2 eK);have C4:=D4.c1 (F5 D4.F C0 C5 az eJ);have C3:=D3.c2 (J6 D3.F C0 aQ bq aP ay);have C8:=D8.c2 (Gr (P:=P) (w:=w) (base:=base) D8.F aJ aP);have C9:=D9.c3 (G6 (P:=P) (w:=w) (base:=base) D9.F );have C7:=D7.c3 (Bj D7.F C3 C2 C8 C9 ao ay D7.b3 D7.F.kp D7.m 40);have C6:=D6.c2 (Kx D6.F C0 C7 ao aI aA);have oU:=lY.c1 (Hc lY.F C4 C6);have oV:=ma.c2 (HC ma.F oU C4);have oW:=gE.c5 (CQ gE.F mI mK oV gE.b5 gE.F.kp gE.m 20);have C1:=D1.c2 (GR D1.F C0 aQ cB);have oX:=mh.c6 (J5 mh.F oW C1);have oY:=gF.c6 (CA gF.F mK oX ao gF.b6 gF.F.kp gF.m 20);have oZ:=mf.c5 (Ju mf.F C0 mI mJ oY C1 az aJ);have o0:=gG.c2 (Bo (P:=P) (w:=w) (base:=base) gG.F ak bA cC bR aI ay ao aQ gG.b2 gG.F.kp gG.m 8);exact KJ kc.F oI fy oK oP oT oZ o0 aA ay aI
theorem walk{l:PySem.W.OpenLaw}{q:A_}{XP:(Str->Option b_)->J_->Prop}{YP:I_->J_->Prop}{d:DefRec}{K:Params->PySem.W.Frag}(mL:∀ns:List Int,ns.length<=63->∃rs,sV [.val (.lst (ns.map D.int))]=some (.val (.bl true),rs))(hn:l.most=some 63)(fM:d.params.defaults=[])(hY:∀(w:I_) (h:J_),YP w h->(K w.params).In h)(F:∀(w:I_) (mg:Str->Option b_) (fa:k_) (h:J_),(K w.params).In h->h.Ns Od mg->mg d.name=some (.ref fa) →
   ∃fd:O1,(∀(s:c_) (u:b_),R9 s fd ⟨[u],[]⟩ [("script", u)])/\∀base:J_,(K w.params).In base->base.Ns Od mg->FnOk l.prog w (K w.params) mg base CX0 95 fa fd ["script"] (spD (K w.params) sV)):
  PySem.W.WalkO q cp XP YP l.row.toRowW d [] (λf vs=>PySem.call f vs):=
 IX (n:=63) (k:=95) (x:= "script") (CX:=λ_=>CX0) (sp:=λw=>spD (K w.params) sV) hn (by decide) fM ⟨rfl,by decide,by decide,rfl⟩ hY F (λ_ H a ns hl _ hS=>Hn hS (mL ns hl)) λ_ _ _ _ _ z=>z
end Own
namespace Own
open DL L2
def PotOk(c:List D):Prop:=∃(ns:List Int) (eQ ah:Int),c=[.lst (ns.map .int),.int eQ,.int ah]/\0<=eQ
theorem Ff(a b:Int):∃z,cvF uw [.int a,.int b]=some (.int z):=by
 have:wpF uw [.val (.int a),.val (.int b)] λr _=>∃z,r=.val (.int z):=by
  refine so rfl λKE hE _=>?_
  rw[wY];refine pE ?_;rintro K hK hR;simp;split
  ·exact hR _ _ (hE _ _ ⟨_,rfl,_,rfl⟩)
  ·refine hK _ ?_;refine pE ?_;rintro K hK -;simp;refine hK _ ?_;have l1:=QF (a % 998244353*40692+b*69621+1009) (show(2147483399:Int)≠0 by decide);have u1:=Px (a % 998244353*40692+b*69621+1009) (show(0:Int) < 2147483399 by decide);generalize (a % 998244353*40692+b*69621+1009) % 2147483399=x at *;refine pE ?_;rintro K hK -;simp;refine⟨by omega,hK _ ?_⟩;have l2:=QF (x*x+b*48271+a % 131071) (show(2147483647:Int)≠0 by decide);have u2:=Px (x*x+b*48271+a % 131071) (show(0:Int) < 2147483647 by decide);generalize (x*x+b*48271+a % 131071) % 2147483647=y at *;refine pE ?_;rintro K hK -;simp;refine⟨by omega,hK _ ?_⟩;generalize (y*y+x*17+3) % 2147483629=z at *;simp;exact hE _ _ ⟨_,rfl,_,rfl⟩
 obtain⟨r,aW,e,z,rfl⟩:=this;exact⟨z,by unfold cvF;simp only[map];rw[e]⟩
theorem rh{c:List D}{u:Int}{Q:R->List D->Prop}(hc:PotOk c)(h1:1<=u)(h2:u < 2 ^ 200)(k:∀n c',0<=n->n < u->PotOk c'->Q (.val (.int n)) c'):wpB rf c [.int u] Q:=by
 obtain⟨ns,eQ,ah,rfl,h0⟩:=hc;refine tV rfl λKE hE _=>?_
 rw[wU];refine tQ (λac=>∃kf jk x y z,0<=kf/\ac=[some (.bor [.lst (ns.map .int),.int kf,.int jk]),some (.val (.int u)),x,y,z]) (λK hK _=>?_) ?_
 ·simp[isMut,R.mut];split
  ·refine pE λK1 dG _=>?_
   simp[isMut,R.mut];refine dG _ ?_;refine pE λK1 dG _=>?_
   simp[isMut,R.mut];refine dG _ ?_;refine tQ (λac=>∃m,ac=[some (.bor [.lst (ns.map .int),.int eQ,.int ah]),some (.val (.int u)),some (.val (.int eQ)),some (.val (.int m)),none]) (λK1 dG _=>?_) ?_
   ·simp[isMut,R.mut];split
    ·rename_i h;obtain⟨a,e,m⟩:=yq (ds:=ns.map D.int) h0 (by simpa using h);obtain⟨b,_,rfl⟩:=w_.mp m;rw[wD e];simp;exact dG _ ⟨_,rfl⟩
    ·rename_i h;split
     ·exact dG _ ⟨_,rfl⟩
     ·rename_i h';have hl:0 < ns.length:=by cases ns with | nil=>simp at h' | cons=>simp
      refine⟨by omega,?_⟩;obtain⟨a,e,m⟩:=yq (ds:=ns.map D.int) (i:=(eQ*7+1) % (ns.length:Int)) (QF _ (by omega)) (by simpa using Px _ (by omega));obtain⟨b,_,rfl⟩:=w_.mp m;rw[wD e];simp;exact⟨by omega,dG _ ⟨_,rfl⟩⟩
   ·rintro ac ⟨m,rfl⟩;refine pE λK1 dG _=>?_
    simp[isMut,R.mut];refine dG _ ?_;obtain⟨z,e⟩:=Ff m eQ;simp[isMut,R.mut,e];exact hK _ ⟨_,_,_,_,_,by omega,rfl⟩
  ·exact hK _ ⟨_,_,_,_,_,h0,rfl⟩
 ·rintro ac ⟨kf,jk,x,y,z,h3,rfl⟩;refine pE ?_;rintro K hK -;simp[isMut,R.mut];refine⟨by omega,hK _ ?_⟩;refine pE ?_;rintro K hK -;simp[isMut,R.mut];refine⟨⟨by omega,by simpa using h2⟩,hK _ ?_⟩;simp;exact hE _ _ _ ⟨_,rfl⟩ (k _ _ (QF _ (by omega)) (Px _ (by omega)) ⟨_,_,_,rfl,h3⟩)
theorem uB{xs:List D}(h:(numD m xs)[i]?=some d):∃x,xs[i]?=some x/\d=.tup [.int ((m+i:Nat):Int),x]:=by
 induction xs generalizing m i with
 | nil=>simp[numD] at h
 | cons a xs ih =>
  cases i with
  | zero=>simp[numD] at h;exact⟨a,rfl,h.symm⟩
  | succ i =>
   simp only[numD,List.getElem?_cons_succ] at h;obtain⟨x,e1,e2⟩:=ih h;exact⟨x,by simpa using e1,by rw[e2,show m+1+i=m+(i+1) from by omega]⟩
theorem Cr{α:Type}{f:α->D}{xs:List α}{lo:Option Int}:∃ys:List α,cutD (xs.map f) lo hi=ys.map f/\(∀y∈ys,y∈xs)/\ys.length=min (HT.sIx xs.length xs.length hi - HT.sIx xs.length 0 lo) (xs.length - HT.sIx xs.length 0 lo):=by
 refine⟨(xs.drop (HT.sIx xs.length 0 lo)).take (HT.sIx xs.length xs.length hi - HT.sIx xs.length 0 lo),?_,?_,?_⟩
 ·unfold cutD;simp[map_drop,Sq]
 ·intro y h;exact Qb (Ot h)
 ·simp
theorem HL(ns:List Int):∃d,coF uM [.lst (ns.map .int)]=some d/\PotOk d:=by
 refine GC ?_;unfold uM;refine zd rfl ?_;rw[xM];refine pE λK hK _=>?_
 simp;refine hK _ ?_;obtain⟨cs,e,-,hl⟩:=Cr (f:=D.int) (xs:=ns) (lo:=none) (hi:=some 12);rw[e]
 have dr:cs.length=min 12 ns.length:=by
  rw[hl];simp[HT.sIx]
 refine tQ (λac=>∃cs,∃x y z,ac=[x,some (.own (map D.int cs)),y,z]) (λK hK _=>?_) ?_
 ·simp;obtain⟨ms,e,-,hm⟩:=Cr (f:=D.int) (xs:=ns) (lo:=some 12) (hi:=some 63);rw[e];refine Bq (J:=λi Y=>∃cs:List Int,∃y z,cs.length=min 12 ns.length/\Y=[some (.val (.lst (ns.map .int))),some (.own (cs.map .int)),y,z]) ⟨cs,_,_,dr,rfl⟩ ?_ ?_
  ·rintro i d Y hd ⟨cs,y,z,hc,rfl⟩;obtain⟨x,e1,rfl⟩:=uB hd;rw[y_,NA] at e1;obtain⟨n,e1,rfl⟩:=e1;have hi:i < ms.length:=(p_.mp e1).1
   have qj:12 < ns.length:=by
    simp[HT.sIx] at hm;omega
   simp[isMut,R.mut];have jo:cs.length=12:=by omega
   have o3:((i:Int) % 12)=((i % 12:Nat):Int):=by omega
   rw[o3];have bH:i % 12 < cs.length:=by omega
   rw[wD (a:=D.int cs[i % 12]) (by rw[rV];simp[bH])];simp;refine⟨(cs.set (i % 12) (cs[i % 12]+n)).map .int,?_,?_⟩
   ·unfold stF L2.ixN;rw[if_pos (by omega),if_pos (by simp;omega),show((i:Int) % 12).toNat=i % 12 from by omega];simp
   ·exact⟨cs.set (i % 12) (cs[i % 12]+n),by simpa using hc,by simp⟩
  ·rintro Y ⟨cs,y,z,hc,rfl⟩;exact hK _ ⟨cs,_,_,_,rfl⟩
 ·rintro ac ⟨cs,x,y,z,rfl⟩;simp[flR,fin];exact⟨cs,0,0,rfl,by omega⟩
noncomputable def pairD(p:Int×Int):D:=.tup [.int p.1,.int p.2]
noncomputable def wishD(w:List (Int×Int)):D:=.tup (w.map pairD)
noncomputable def letD(l:List Int):D:=.tup (l.map .int)
structure PairOk(p:Int×Int):Prop where
 lo:0<=p.1
 le:p.1<=p.2
 hi:p.2<=9
structure Wf(n:Nat)(w:List (Int×Int)):Prop where
 len:w.length=n
 all:∀p∈w,PairOk p
theorem uS{lo:Int}(h:(rngD lo n)[i]?=some d):d=.int (lo+i)/\i < n:=by
 unfold rngD at h;rw[y_,NA] at h;obtain⟨k,h1,rfl⟩:=h;obtain⟨h2,h3⟩:=p_.mp h1;rw[QP] at h3;subst h3;exact⟨rfl,by simpa using h2⟩
@[simp] theorem yl{lo:Int}:(rngD lo n).length=n:=by simp[rngD]
theorem Wf.app{w:List (Int×Int)}(h:Wf n w){p:Int×Int}(hp:PairOk p):Wf (n+1) (w++[p]):=by
 refine⟨by simp[h.len],λq hq=>?_⟩
 rcases L_.mp hq with h1 | h1
 ·exact h.all q h1
 ·rw[r_.mp h1];exact hp
theorem IN{c:List D}{f:Nat}{top:Int}{Q:R->List D->Prop}(hc:PotOk c)(hf:f<=100)(h1:0<=low)(h2:1<=top)(h3:low+top<=10)(k:∀w c',Wf f w->PotOk c'->Q (.val (wishD w)) c'):wpB we c [.int f,.int low,.int top] Q:=by
 refine tV rfl λKE hE _=>?_
 rw[y4];refine pE ?_;rintro K hK -;refine⟨_,_,rfl,hK _ ?_⟩;show wp _ [some (.bor c),some (.val (.int f)),some (.val (.int low)),some (.val (.int top)),some (.own []),none,none,none] _;refine pE ?_;rintro K hK -;simp;refine⟨by omega,?_⟩;refine rn (J:=λi Y=>∃c w x y z,PotOk c/\Wf i w/\Y=[some (.bor c),some (.val (.int f)),some (.val (.int low)),some (.val (.int top)),some (.own (w.map pairD)),x,y,z]) ⟨c,[],_,_,_,hc,⟨rfl,by simp⟩,rfl⟩ ?_ ?_
 ·rintro i d Y hd ⟨c,w,x,y,z,hc,hw,rfl⟩ KL aD - - -;obtain⟨rfl,hi⟩:=uS hd;simp;refine pE ?_;rintro K hK -;simp[isMut,R.mut];refine rh hc h2 (by omega) λn c' eS dX aN=>?_
  simp;refine hK _ ?_;refine pE ?_;rintro K hK -;simp[isMut,R.mut];refine rh aN h2 (by omega) λm mM dz bN gI=>?_
  simp;refine hK _ ?_;simp[isMut,R.mut];refine⟨by have:=hw.len;omega,aD _ ?_⟩;exact⟨_,w++[(low+min n m,low+max n m)],_,_,_,gI,hw.app ⟨by simp;omega,by simp;omega,by simp;omega⟩,by rw[O5];rfl⟩
 ·rintro Y ⟨c,w,x,y,z,hc,hw,rfl⟩;refine hK _ ?_;rw[yl] at hw;simp;exact hE _ _ _ ⟨_,rfl⟩ (k w c hw hc)
theorem HW{c:List D}{f:Nat}{w:List (Int×Int)}{Q:R->List D->Prop}(hc:PotOk c)(hw:Wf f w)(h0:1<=f)(hf:f<=100)(k:∀w c',Wf f w->PotOk c'->Q (.val (wishD w)) c'):wpB vD c [wishD w] Q:=by
 refine tV rfl λKE hE _=>?_
 rw[yy];refine pE ?_;rintro K hK -;simp[isMut,R.mut,wishD];refine rh hc (by rw[hw.len];omega) (by rw[hw.len];omega) λn c' eS dX aN=>?_
 simp;refine hK _ ?_;obtain⟨n,rfl⟩:=Oh eS;have hn:n < w.length:=by omega
 obtain⟨p,hp⟩:∃p,w[n]?=some p:=⟨_,g_ hn⟩;have kh:PairOk p:=hw.all p (B_ hp);have e1:atI (w.map pairD) (n:Int)=some (pairD p):=by rw[DL.rV];simp[hp]
 refine pE ?_;rintro K hK -;simp[e1];simp[pairD];refine hK _ ?_;refine pE ?_;rintro K hK -;refine⟨_,_,rfl,hK _ ?_⟩;show wp _ [some (R.bor c'),some (R.val (D.tup (w.map pairD))),some (.val (.int n)),some (.val (.int p.1)),some (.val (.int p.2)),some (.val (.lst [D.tup [.int (if p.1 - 1 > 0 then p.1 - 1 else 0),.int p.2],.tup [.int p.1,.int (if p.2+1 < 9 then p.2+1 else 9)],.tup [.int (if p.2 < p.1+1 then p.2 else p.1+1),.int p.2],.tup [.int p.1,.int (if p.2 - 1 > p.1 then p.2 - 1 else p.1)]]))] _
 have aU:∀m:Int,0<=m->m < 4->∃q,PairOk q/\atI [D.tup [.int (if p.1 - 1 > 0 then p.1 - 1 else 0),.int p.2],.tup [.int p.1,.int (if p.2+1 < 9 then p.2+1 else 9)],.tup [.int (if p.2 < p.1+1 then p.2 else p.1+1),.int p.2],.tup [.int p.1,.int (if p.2 - 1 > p.1 then p.2 - 1 else p.1)]] m=some (pairD q):=λm dz bN=>by
  have:=kh.lo;have:=kh.le;have:=kh.hi;have:m=0\/m=1\/m=2\/m=3:=by omega
  rcases this with rfl | rfl | rfl | rfl
  ·exact⟨(if p.1 - 1 > 0 then p.1 - 1 else 0,p.2),⟨by dsimp only;split<;>omega,by dsimp only;split<;>omega,by dsimp only;omega⟩,rfl⟩
  ·exact⟨(p.1,if p.2+1 < 9 then p.2+1 else 9),⟨by dsimp only;omega,by dsimp only;split<;>omega,by dsimp only;split<;>omega⟩,rfl⟩
  ·exact⟨(if p.2 < p.1+1 then p.2 else p.1+1,p.2),⟨by dsimp only;split<;>omega,by dsimp only;split<;>omega,by dsimp only;omega⟩,rfl⟩
  ·exact⟨(p.1,if p.2 - 1 > p.1 then p.2 - 1 else p.1),⟨by dsimp only;omega,by dsimp only;split<;>omega,by dsimp only;split<;>omega⟩,rfl⟩
 generalize [D.tup [.int (if p.1 - 1 > 0 then p.1 - 1 else 0),.int p.2],.tup [.int p.1,.int (if p.2+1 < 9 then p.2+1 else 9)],.tup [.int (if p.2 < p.1+1 then p.2 else p.1+1),.int p.2],.tup [.int p.1,.int (if p.2 - 1 > p.1 then p.2 - 1 else p.1)]]=ps at aU ⊢;have e2:slF (.tup (w.map pairD)) none (some (n:Int))=some (.tup ((w.map pairD).take n)):=zO (by simpa using hn);have e3:slF (.tup (w.map pairD)) (some ((n:Int)+1)) none=some (.tup ((w.map pairD).drop (n+1))):=zA (n:=n+1) (by simp;omega) (by omega);simp[isMut,R.mut,e2];refine rh aN (by omega) (by omega) λm mM dz bN gI=>?_
 obtain⟨q,hq,eq⟩:=aU m dz bN;simp[eq,e3];refine⟨by have:=hw.len;omega,by have:=hw.len;omega,hE _ _ _ ⟨_,rfl⟩ ?_⟩;have:=k (w.take n++[q]++w.drop (n+1)) mM ⟨by have:=hw.len;simp;omega,λr hr=>?_⟩ gI
 ·simpa[wishD,Sq,map_drop] using this
 ·simp at hr
  rcases hr with h | h | h
  ·exact hw.all r (Ot h)
  ·rw[h];exact hq
  ·exact hw.all r (Qb h)
theorem y6{α:Type}{f:α->D}{xs:List α}{i:Int}(h0:0<=i)(h1:i < xs.length):∃x,x∈xs/\atI (xs.map f) i=some (f x):=by
 obtain⟨a,e,m⟩:=yq (ds:=xs.map f) h0 (by simpa using h1);obtain⟨b,hb,rfl⟩:=w_.mp m;exact⟨b,hb,e⟩
theorem sO(h:∀d∈ds,dep d<=n):depA ds<=n:=by
 induction ds with
 | nil=>simp[depA]
 | cons d ds ih =>
  rw[depA];have h1:=h d m_;have h2:=ih λd hd=>h d (j_ _ hd)
  omega
theorem wf{w:List (Int×Int)}:dep (wishD w)<=2:=by
 unfold wishD;rw[dep]
 have:depA (w.map pairD)<=1:=sO λd hd=>by
  obtain⟨p,_,rfl⟩:=w_.mp hd;unfold pairD;simp[dep,depA]
 omega
theorem Kg{c:List D}{f:Nat}{Q:R->List D->Prop}(hc:PotOk c)(h0:1<=f)(hf:f<=3)(h1:0<=most)(h2:most<=100)(k:∀(ws:List (List (Int×Int))) c',(∀w∈ws,Wf f w)->(ws.length:Int)<=most->PotOk c'->Q (.val (.lst (ws.map wishD))) c'):wpB vS c [.int f,.int most] Q:=by
 refine tV rfl λKE hE _=>?_
 rw[wK];refine pE ?_;rintro K hK -;simp[isMut,R.mut];refine rh hc (by omega) (by omega) λn c' eS dX aN=>?_
 simp
 have e1:∃t:Int,1<=t/\t<=10/\atI [D.int 2,D.int 3,D.int 4,D.int 10] n=some (.int t):=by
  have:n=0\/n=1\/n=2\/n=3:=by omega
  rcases this with rfl | rfl | rfl | rfl
  ·exact⟨2,by omega,by omega,rfl⟩
  ·exact⟨3,by omega,by omega,rfl⟩
  ·exact⟨4,by omega,by omega,rfl⟩
  ·exact⟨10,by omega,by omega,rfl⟩
 obtain⟨t,qk,ql,e1⟩:=e1
 have e2:∃t:Int,1<=t/\t<=10/\atI [D.int 10,D.int 10,D.int 5,D.int 4] (f:Int)=some (.int t):=by
  have:f=1\/f=2\/f=3:=by omega
  rcases this with rfl | rfl | rfl
  ·exact⟨10,by omega,by omega,rfl⟩
  ·exact⟨5,by omega,by omega,rfl⟩
  ·exact⟨4,by omega,by omega,rfl⟩
 obtain⟨t',pK,pL,e2⟩:=e2;simp[e1,e2];refine hK _ ?_;refine pE ?_;rintro K hK -;simp[isMut,R.mut];refine rh aN (by omega) (by omega) λlow c' cT dr aN=>?_
 simp;refine hK _ ?_;refine pE ?_;rintro K hK -;simp;refine hK _ ?_;refine pE ?_;rintro K hK -;simp[isMut,R.mut];refine rh aN (by omega) (by omega) λpM c' dz bN aN=>?_
 simp;refine⟨by omega,?_⟩;refine rn (J:=λi Y=>∃(c:List D) (ws:List (List (Int×Int))) (x y z:Option R),PotOk c/\(∀w∈ws,Wf f w)/\ws.length=i/\Y=[some (.bor c),some (.val (.int f)),some (.val (.int most)),some (.val (.int (min t t'))),some (.val (.int low)),some (.own (ws.map wishD)),x,y,z]) ⟨c',[],_,_,_,aN,by simp,rfl,rfl⟩ ?_ ?_
 ·rintro i d Y hd ⟨c,ws,x,y,z,hc,aM,hi,rfl⟩ KL aD - - -;obtain⟨rfl,cg⟩:=uS hd;simp;refine pE ?_;rintro K hK -;simp[isMut,R.mut];refine rh hc (by omega) (by omega) λway c' o4 o5 aN=>?_
  simp;refine hK _ ?_;refine pE ?_;rintro K hK -;simp[isMut,R.mut];refine IN aN (by omega) cT (by omega) (by omega) λw c' hw aN=>?_
  simp;refine hK _ ?_;refine tQ (λY=>∃(c:List D) (w:List (Int×Int)) (x:Option R),PotOk c/\Wf f w/\Y=[some (.bor c),some (.val (.int f)),some (.val (.int most)),some (.val (.int (min t t'))),some (.val (.int low)),some (.own (ws.map wishD)),x,some (.val (.int way)),some (.val (wishD w))]) ?_ ?_
  ·rintro K hK -;simp[isMut,R.mut];split
   ·split
    ·exact hK _ ⟨_,_,_,aN,hw,rfl⟩
    ·rename_i dA;have mN:0 < ws.length:=Qt.mpr dA;refine rh aN (by omega) (by omega) λn c' eS dX aN=>?_
     obtain⟨w',eT,e⟩:=y6 (f:=wishD) eS dX;simp[e];exact hK _ ⟨_,_,_,aN,aM _ eT,rfl⟩
   ·exact hK _ ⟨_,_,_,aN,hw,rfl⟩
  ·rintro Y ⟨c,w,x,hc,hw,rfl⟩;refine tQ (λY=>∃(c:List D) (w:List (Int×Int)) (x y:Option R),PotOk c/\Wf f w/\Y=[some (.bor c),some (.val (.int f)),some (.val (.int most)),some (.val (.int (min t t'))),some (.val (.int low)),some (.own (ws.map wishD)),x,y,some (.val (wishD w))]) ?_ ?_
   ·rintro K hK -;simp[isMut,R.mut];split
    ·split
     ·exact hK _ ⟨_,_,_,_,hc,hw,rfl⟩
     ·rename_i dA;have mN:0 < ws.length:=Qt.mpr dA;refine rh hc (by omega) (by omega) λn c' eS dX aN=>?_
      obtain⟨w',eT,e⟩:=y6 (f:=wishD) eS dX;simp[e];refine HW aN (aM _ eT) h0 (by omega) λw c' hw aN=>?_
      simp;exact hK _ ⟨_,_,_,_,aN,hw,rfl⟩
    ·exact hK _ ⟨_,_,_,_,hc,hw,rfl⟩
   ·rintro Y ⟨c,w,x,y,hc,hw,rfl⟩;simp[isMut,R.mut];refine⟨by omega,aD _ ⟨_,ws++[w],_,_,_,hc,λv hv=>?_,by simp;omega,by rw[O5];rfl⟩⟩
    rcases L_.mp hv with h | h
    ·exact aM v h
    ·rw[r_.mp h];exact hw
 ·rintro Y ⟨c,ws,x,y,z,hc,aM,hi,rfl⟩;refine hK _ ?_;rw[yl] at hi;simp;exact hE _ _ _ ⟨_,rfl⟩ (k ws c aM (by omega) hc)
noncomputable def hasB(w:List (Int×Int))(l:List Int):Bool:=(w.zip l).all λq=>decide (q.1.1<=q.2)&&decide (q.2<=q.1.2)
noncomputable def covB(a b:List (Int×Int)):Bool:=(a.zip b).all λq=>decide (q.1.1<=q.2.1)&&decide (q.2.2<=q.1.2)
@[simp] theorem Lr{α:Type}{xs:List α}:filter (λ_=>true) xs=xs:=by
 induction xs with
 | nil=>rfl
 | cons x xs ih=>simp
@[simp] theorem M8{p:Int×Int}:ixF (pairD p) (.int 0)=some (.int p.1):=rfl
@[simp] theorem LR{p:Int×Int}:ixF (pairD p) (.int 1)=some (.int p.2):=rfl
def SzK:Nat->D->Prop
 | 0,_=>False
 | k+1,.tup ds=>ds.length<=1000000/\∀d∈ds,SzK k d
 | k+1,.lst ds=>ds.length<=1000000/\∀d∈ds,SzK k d
 | _+1,_=>True
@[simp ↓] theorem LK{α:Type}{F:D->Option α}{g:M D}{Q:α->Gm->Prop}:wp (un1 F g) Y Q↔wp g Y λd ac=>wp (lft (F d)) ac Q:=by simp[un1]
@[simp] theorem L6{k:Ki}:isiF k d=some (.bl (isiB k d)):=rfl
@[simp] theorem MH{i:Int}:negI (.int i)=some (.int (-i)):=rfl
@[simp] theorem My{b:Bool}:isNF b d .non=some (.bl (if b then !isN d else isN d)):=rfl
@[simp ↓] theorem Ly{a:D}{QD:D->Gm->Prop}:wp (lft (inF neg a (.lst ds))) Y QD↔dep a<=99/\QD (.bl (if neg then !ds.any (λd=>deq d a) else ds.any λd=>deq d a)) Y:=by
 simp only[inF,EJ,sh]
@[simp] theorem LZ:isiB .iT .non=false:=rfl
@[simp] theorem Ln{x:Bool}:isiB .iT (.bl x)=true:=rfl
@[simp] theorem L5{x:Int}:isiB .iT (.int x)=true:=rfl
@[simp] theorem Mq:isiB .iT (.str x)=false:=rfl
@[simp] theorem Lx{x:List D}:isiB .iT (.tup x)=false:=rfl
@[simp] theorem Np{x:List D}:isiB .iT (.lst x)=false:=rfl
@[simp] theorem Mr:isiB .sT .non=false:=rfl
@[simp] theorem MW{x:Bool}:isiB .sT (.bl x)=false:=rfl
@[simp] theorem Le{x:Int}:isiB .sT (.int x)=false:=rfl
@[simp] theorem LW:isiB .sT (.str x)=true:=rfl
@[simp] theorem Md{x:List D}:isiB .sT (.tup x)=false:=rfl
@[simp] theorem M7{x:List D}:isiB .sT (.lst x)=false:=rfl
@[simp] theorem Mk:isiB .bT .non=false:=rfl
@[simp] theorem L9{x:Bool}:isiB .bT (.bl x)=true:=rfl
@[simp] theorem Mf{x:Int}:isiB .bT (.int x)=false:=rfl
@[simp] theorem LV:isiB .bT (.str x)=false:=rfl
@[simp] theorem K9{x:List D}:isiB .bT (.tup x)=false:=rfl
@[simp] theorem Ni{x:List D}:isiB .bT (.lst x)=false:=rfl
@[simp] theorem L3:isiB .tT .non=false:=rfl
@[simp] theorem MI{x:Bool}:isiB .tT (.bl x)=false:=rfl
@[simp] theorem LC{x:Int}:isiB .tT (.int x)=false:=rfl
@[simp] theorem MT:isiB .tT (.str x)=false:=rfl
@[simp] theorem MF{x:List D}:isiB .tT (.tup x)=true:=rfl
@[simp] theorem LD{x:List D}:isiB .tT (.lst x)=false:=rfl
@[simp] theorem LI:isiB .lT .non=false:=rfl
@[simp] theorem LU{x:Bool}:isiB .lT (.bl x)=false:=rfl
@[simp] theorem MN{x:Int}:isiB .lT (.int x)=false:=rfl
@[simp] theorem Nb:isiB .lT (.str x)=false:=rfl
@[simp] theorem MD{x:List D}:isiB .lT (.tup x)=false:=rfl
@[simp] theorem MO{x:List D}:isiB .lT (.lst x)=true:=rfl
theorem ze{xs:List D}:pairsD xs xs=xs.map λx=>.tup [x,x]:=by
 unfold pairsD
 induction xs with
 | nil=>rfl
 | cons x xs ih=>simp only[Om,H_,ih]
theorem ya:∀{k:Nat}{d:D},SzK k d->cvF (sf k) [d,d]=some (.bl true)
 | 0,_,h=>h.elim
 | k+1,d,h=>by
  rw[sf];cases d with
  | non=>rfl
  | bl b=>cases b<;>rfl
  | int i =>
   have e:cvF (fnD 2 2 (sZ (sf k))) [.int i,.int i]=some (.bl (i == i)):=rfl;rw[e,beq_self_eq_true]
  | str i =>
   have e:cvF (fnD 2 2 (sZ (sf k))) [.str i,.str i]=some (.bl (i == i)):=rfl;rw[e,beq_self_eq_true]
  | tup ds =>
   obtain⟨h1,h2⟩:=h;refine rE rfl λKE k1 _=>?_
   rw[sZ];refine pE ?_;rintro K hK -;refine⟨_,_,rfl,hK _ ?_⟩;refine pE ?_;rintro K hK -;refine⟨_,_,rfl,hK _ ?_⟩;refine pE ?_;rintro K hK -;refine⟨_,_,rfl,hK _ ?_⟩;refine pE ?_;rintro K hK -;refine⟨_,_,rfl,hK _ ?_⟩;refine pE ?_;rintro K hK -;simp;refine hK _ ?_;simp;refine sU ds (λx=>.tup [x,x]) (λ_=>true) (λ_=>.bl true) ?_;simp[ze];refine⟨h1,λx hx=>?_,?_⟩
   ·simp[ya (h2 x hx)]
   ·have e:ds.any ((λd=>deq d (D.bl false))∘λx=>D.bl true)=false:=by simp[RI]
    rw[e];exact k1 _ ⟨_,rfl⟩
  | lst ds =>
   obtain⟨h1,h2⟩:=h;refine rE rfl λKE k1 _=>?_
   rw[sZ];refine pE ?_;rintro K hK -;refine⟨_,_,rfl,hK _ ?_⟩;refine pE ?_;rintro K hK -;refine⟨_,_,rfl,hK _ ?_⟩;refine pE ?_;rintro K hK -;refine⟨_,_,rfl,hK _ ?_⟩;refine pE ?_;rintro K hK -;refine⟨_,_,rfl,hK _ ?_⟩;refine pE ?_;rintro K hK -;simp;refine hK _ ?_;simp;refine sU ds (λx=>.tup [x,x]) (λ_=>true) (λ_=>.bl true) ?_;simp[ze];refine⟨h1,λx hx=>?_,?_⟩
   ·simp[ya (h2 x hx)]
   ·have e:ds.any ((λd=>deq d (D.bl false))∘λx=>D.bl true)=false:=by simp[RI]
    rw[e];exact k1 _ ⟨_,rfl⟩
theorem wv(h:∀d∈ds,∃xs:List D,d=.tup xs/\xs.length=n):cvF rL [.lst ds]=some .non:=by
 refine rE rfl λK _ k2=>?_
 rw[xW];simp;refine rn (J:=λi Y=>∃x,Y=[some (.val (.lst ds)),x]) ⟨_,rfl⟩ ?_ ?_
 ·rintro i d Y hd ⟨x,rfl⟩ KL aD - - -;obtain⟨xs,rfl,hx⟩:=h d (B_ hd);cases ds with
  | nil=>simp at hd
  | cons d0 ds =>
   obtain⟨ys,rfl,hy⟩:=h d0 m_;simp[hx,hy];exact aD _ ⟨_,rfl⟩
 ·rintro Y ⟨x,rfl⟩;exact k2 _ rfl ⟨_,rfl⟩
theorem xB{a b:List D}(h:a.length=b.length):cvF rL [.lst [.tup a,.tup b]]=some .non:=
 wv (n:=a.length) (by simp[h])
theorem CB{a b:List (Int×Int)}(h:a.length=b.length)(hl:a.length<=1000):cvF uL [wishD a,wishD b]=some (.bl (covB a b)):=by
 refine rE rfl λK k1 _=>?_
 rw[xI];refine pE ?_;rintro K hK -;simp[wishD,xB,h];refine hK _ ?_;simp;refine sU (a.zip b) (λq=>.tup [pairD q.1,pairD q.2]) (λ_=>true) (λq=>.bl (decide (q.1.1<=q.2.1)&&decide (q.2.2<=q.1.2))) ?_;simp[wb];refine⟨by omega,?_,?_⟩
 ·rintro a b n m hm;split<;>omega
 ·rw[Bx];simp;exact k1 _ ⟨_,rfl⟩
theorem A9{w:List (Int×Int)}(h:w.length=l.length)(hl:w.length<=1000):cvF tm [wishD w,letD l]=some (.bl (hasB w l)):=by
 refine rE rfl λK k1 _=>?_
 rw[xj];refine pE ?_;rintro K hK -;simp[wishD,letD,xB,h];refine hK _ ?_;simp;refine sU (w.zip l) (λq=>.tup [pairD q.1,.int q.2]) (λ_=>true) (λq=>.bl (decide (q.1.1<=q.2)&&decide (q.2<=q.1.2))) ?_;simp[wb];refine⟨by omega,?_,?_⟩
 ·rintro a b n hm;split<;>omega
 ·rw[Bx];simp;exact k1 _ ⟨_,rfl⟩
theorem Gb{w:List (Int×Int)}:(filter (λq:Int×(Int×Int)=>decide (q.1 < q.2.1)||decide (q.2.2 < q.1)) (l.zip w)).isEmpty=hasB w l:=by
 unfold hasB
 induction l generalizing w with
 | nil=>simp
 | cons n l ih =>
  cases w with
  | nil=>simp
  | cons p w =>
   rw[Om,Om,P6,Oy];by_cases h:p.1<=n/\n<=p.2
   ·rw[if_neg (by simp;omega),ih];simp[h]
   ·rw[if_pos (by simp;omega)];simp;omega
theorem FW{w:List (Int×Int)}(h:w.length=l.length)(hl:w.length<=1000):cvF tz [wishD w,letD l]=some (.bl (hasB w l)):=by
 refine rE rfl λK k1 _=>?_
 rw[w8];simp[wishD,letD];refine sU (l.zip w) (λq=>.tup [.int q.1,pairD q.2]) (λq=>decide (q.1 < q.2.1)||decide (q.2.2 < q.1)) (λq=>.int 1) ?_;simp[wb];refine⟨by omega,?_,?_⟩
 ·rintro n a b hm;split<;>omega
 ·rw[Gb];exact k1 _ ⟨_,rfl⟩
theorem Fm{xs:List Nat}(h:∀x∈xs,x<=m):xs.sum<=xs.length*m:=by
 induction xs with
 | nil=>simp
 | cons x xs ih =>
  have h1:=h x m_;have h2:=ih λx hx=>h x (j_ _ hx)
  rw[sum_cons,NG,Nat.succ_mul];omega
noncomputable def rngL(lo hi:Int):List Int:=(NY (hi+1 - lo).toNat).map λk:Nat=>lo+(k:Int)
theorem tU{lo hi:Int}(h:hi < lo):rngL lo hi=[]:=by
 unfold rngL;rw[show(hi+1 - lo).toNat=0 by omega];rfl
theorem uC{lo hi:Int}(h:lo<=hi):rngL lo hi=lo::rngL (lo+1) hi:=by
 unfold rngL;rw[show(hi+1 - lo).toNat=(hi+1 - (lo+1)).toNat+1 by omega,OZ];simp;intro a _;omega
theorem Dp{lo hi n:Int}:n∈rngL lo hi↔lo<=n/\n<=hi:=by
 unfold rngL;simp;constructor
 ·rintro⟨k,h1,rfl⟩;omega
 ·rintro⟨h1,h2⟩;exact⟨(n - lo).toNat,by omega,by omega⟩
theorem Jt{a b c d:Int}:(rngL a b).filter (λn=>decide (c<=n)&&decide (n<=d))=rngL (max a c) (min b d):=by
 obtain⟨m,hm⟩:∃m:Nat,(b+1 - a).toNat=m:=⟨_,rfl⟩
 induction m generalizing a with
 | zero=>rw[tU (by omega),tU (by omega)];rfl
 | succ m ih =>
  rw[uC (by omega),P6,ih (a:=a+1) (by omega)];by_cases h1:c<=a
  ·by_cases h2:a<=d
   ·rw[if_pos (by simp[h1,h2]),uC (lo:=max a c) (by omega),show max a c=a by omega,show max (a+1) c=a+1 by omega]
   ·rw[if_neg (by simp[h2]),tU (by omega),tU (by omega)]
  ·rw[if_neg (by simp[h1]),show max (a+1) c=max a c by omega]
noncomputable def lettersR:List (Int×Int)->List (List Int)
 | []=>[[]]
 | p::w=>(rngL p.1 p.2).flatMap λn=>(lettersR w).map (n::·)
theorem yj{w:List (Int×Int)}:l∈lettersR w↔l.length=w.length/\hasB w l=true:=by
 induction w generalizing l with
 | nil=>simp[lettersR,hasB]
 | cons p w ih =>
  cases l with
  | nil=>simp[lettersR]
  | cons n l =>
   simp[lettersR,Dp,hasB] at ih ⊢;constructor
   ·rintro⟨h1,h2⟩;obtain⟨h3,h4⟩:=ih.mp h2;exact⟨h3,h1,h4⟩
   ·rintro⟨h1,h2,h3⟩;exact⟨h2,ih.mpr ⟨h1,h3⟩⟩
noncomputable def mixB(a b:List (Int×Int)):List (Int×Int):=(a.zip b).map λq=>(max q.1.1 q.2.1,min q.1.2 q.2.2)
noncomputable def okB(w:List (Int×Int)):Bool:=w.all λp=>decide (p.1<=p.2)
theorem Fa{a b:List (Int×Int)}(h:a.length=b.length):(lettersR a).filter (hasB b)=if okB (mixB a b)=true then lettersR (mixB a b) else[]:=by
 induction a generalizing b with
 | nil =>
  cases b with
  | nil=>simp[lettersR,mixB,okB,hasB]
  | cons q b=>simp at h
 | cons p a ih =>
  cases b with
  | nil=>simp at h
  | cons q b =>
   have ih:=ih (b:=b) (by simpa using h)
   have e1:((lettersR (p::a)).filter (hasB (q::b)))=((rngL p.1 p.2).filter λn=>decide (q.1<=n)&&decide (n<=q.2)).flatMap λn=>((lettersR a).filter (hasB b)).map (n::·):=by
    rw[lettersR,List.filter_flatMap];generalize rngL p.1 p.2=ns
    induction ns with
    | nil=>rfl
    | cons n ns ihn =>
     rw[Nq,ihn,P6];by_cases hq:q.1<=n/\n<=q.2
     ·rw[if_pos (by simp[hq]),Nq]
      congr 1
      rw[List.filter_map]
      congr 2
      funext l
      simp[hasB,hq]
     ·rw[if_neg (by simpa using hq)]
      have:(filter (hasB (q::b)) ((lettersR a).map (n::·)))=[]:=by
       rw[OQ];intro l hl;simp at hl;obtain⟨l',_,rfl⟩:=hl;simp[hasB];intro h1 h2;omega
      rw[this,List.nil_append]
   rw[e1,Jt,ih];have e2:mixB (p::a) (q::b)=(max p.1 q.1,min p.2 q.2)::mixB a b:=by simp[mixB]
   rw[e2];have e3:okB ((max p.1 q.1,min p.2 q.2)::mixB a b)=(decide (max p.1 q.1<=min p.2 q.2)&&okB (mixB a b)):=by simp only[okB,Oy]
   rw[e3];by_cases h1:okB (mixB a b)=true
   ·rw[if_pos h1];by_cases h2:max p.1 q.1<=min p.2 q.2
    ·rw[if_pos (by rw[h1];simpa using h2),lettersR]
    ·rw[if_neg (by rw[h1];simpa using h2),tU (by omega)];rfl
   ·rw[if_neg h1,if_neg (by simp[h1])];simp
theorem JO{a b:List (Int×Int)}(h:a.length=b.length)(hl:a.length<=1000):cvF vp [wishD a,wishD b]=some (if okB (mixB a b)=true then wishD (mixB a b) else .non):=by
 refine rE rfl λKE k1 _=>?_
 rw[yG];refine pE ?_;rintro K hK -;simp[wishD,xB,h];refine hK _ ?_;refine pE ?_;rintro K hK -;simp;refine hK _ ?_;refine pE ?_;rintro K hK hR;simp[wb];refine rn (J:=λi Y=>∃x3 x4 x5 x6,okB ((mixB a b).take i)=true/\Y=[some (.val (wishD a)),some (.val (wishD b)),some (.own (((mixB a b).take i).map pairD)),x3,x4,x5,x6]) ⟨_,_,_,_,rfl,rfl⟩ ?_ ?_
 ·rintro i d Y hd ⟨x3,x4,x5,x6,ho,rfl⟩ KL aD - - ki;rw[y_,NA] at hd;obtain⟨q,hq,rfl⟩:=hd;obtain⟨hi,cF⟩:=p_.mp hq;have hm:(mixB a b)[i]?=some (max q.1.1 q.2.1,min q.1.2 q.2.2):=by unfold mixB;rw[y_,hq];rfl
  simp;refine pE ?_;rintro K hK -;simp;refine hK _ ?_;refine pE ?_;rintro K hK -;simp;refine hK _ ?_;refine pE ?_;rintro K hK gJ;simp;split
  ·rename_i qm
   have:okB (mixB a b)=false:=by
    rw[←Bool.not_eq_true];intro fL;have:=q_.mp fL _ (B_ hm);simp only[decide_eq_true_eq] at this;omega
   rw[this] at k1;exact gJ _ _ (ki _ _ (hR _ _ (k1 _ ⟨_,rfl⟩)))
  ·rename_i qo;refine hK _ ?_;simp[isMut,R.mut];have aR:(mixB a b).length=min a.length b.length:=by simp[mixB]
   have fz:(mixB a b).take (i+1)=(mixB a b).take i++[(max q.1.1 q.2.1,min q.1.2 q.2.2)]:=by rw[OU,hm];rfl
   refine⟨by omega,aD _ ⟨some (.val (pairD q.1)),some (.val (pairD q.2)),some (.val (.int (max q.1.1 q.2.1))),some (.val (.int (min q.1.2 q.2.2))),?_,?_⟩⟩
   ·rw[fz];unfold okB at ho ⊢;rw[List.all_append,ho];simp only[Oy,List.all_nil,Bool.and_true,Bool.true_and,decide_eq_true_eq];omega
   ·rw[fz,O5];simp[pairD,wishD]
 ·rintro Y ⟨x3,x4,x5,x6,ho,rfl⟩;refine hK _ ?_;have aR:(mixB a b).length=(a.zip b).length:=by simp[mixB]
  rw[u_,←aR,On] at ho ⊢;simp;rw[if_pos ho] at k1;exact k1 _ ⟨_,rfl⟩
theorem Bp(p:Int×Int):ltP p p=false:=by simp[ltP]
theorem BA{p q:Int×Int}:ltP p q=true↔p.1 < q.1\/(p.1=q.1/\p.2 < q.2):=by
 unfold ltP;by_cases a:p.1=q.1
 ·simp[a]
 ·rw[if_neg (by simpa using a)];simp[a]
theorem JA{p q r:Int×Int}(h1:ltP p q=true)(h2:ltP q r=true):ltP p r=true:=by
 rw[BA] at *;omega
theorem AV(ps:List (Int×Int)):∀k i,i<=k->btP ps i (PySem.argBest (btP ps) k)=false
 | 0,i,h=>by
  obtain rfl:i=0:=by omega
  exact Bp _
 | k+1,i,h=>by
  have ih:=AV ps k;rw[PySem.argBest];split
  ·rename_i lt
   rcases Qu k i with g | g
   ·obtain rfl:i=k+1:=by omega
    exact Bp _
   ·have:=ih i g;by_cases z:btP ps i (k+1)=true
    ·rw[show btP ps i _=true from JA z lt] at this;cases this
    ·simpa using z
  ·rename_i ly
   rcases Qu k i with g | g
   ·obtain rfl:i=k+1:=by omega
    simpa using ly
   ·exact ih i g
theorem KQ{ps:List (Int×Int)}(h:ps≠[]):minP ps∈ps/\∀q∈ps,ltP q (minP ps)=false:=by
 have pos:0 < ps.length:=Qt.mpr h;have low:=B6 (btP ps) (ps.length - 1);constructor
 ·unfold minP;rw[h_,g_ (by omega)];exact NS _
 ·intro q hq;obtain⟨i,hi,rfl⟩:=Pw hq;have:=AV ps (ps.length - 1) i (by omega);unfold btP at this;rw[h_,g_ hi] at this;exact this
noncomputable def leftB(ws:List (List (Int×Int)))(l:List Int):Bool:=ws.all λw=>!hasB w l
noncomputable def firstL(ws:List (List (Int×Int)))(p:List (Int×Int)):Option (List Int):=(lettersR p).find? (leftB ws)
theorem uv(a b:List (Int×Int)):lettersR (a++b)=(lettersR a).flatMap λl=>(lettersR b).map (l++·):=by
 induction a with
 | nil=>simp[lettersR]
 | cons p a ih =>
  rw[RJ,lettersR,ih,lettersR,R6]
  congr 1
  funext n
  simp[List.map_flatMap,List.flatMap_map,RI]
theorem zE{w:List (Int×Int)}(h:okB w=true):∃t,lettersR w=w.map (·.1)::t:=by
 induction w with
 | nil=>exact⟨[],rfl⟩
 | cons p w ih =>
  simp only[okB,Oy,Nx,decide_eq_true_eq] at h;obtain⟨t,e⟩:=ih (by simpa[okB] using h.2);rw[lettersR,uC h.1,Nq,e];simp
theorem EM{lo a hi:Int}(h1:lo<=a)(h2:a<=hi):rngL lo hi=rngL lo a++rngL (a+1) hi:=by
 obtain⟨m,hm⟩:∃m:Nat,(a+1 - lo).toNat=m:=⟨_,rfl⟩
 induction m generalizing lo with
 | zero=>omega
 | succ m ih =>
  rw[uC (by omega:lo<=hi),uC h1];by_cases z:lo=a
  ·subst z;rw[tU (by omega:lo < lo+1)];rfl
  ·rw[ih (lo:=lo+1) (by omega) (by omega)];rfl
theorem AZ{lo a hi:Int}{q:List (Int×Int)}(h1:lo<=a)(h2:a<=hi):lettersR ((lo,hi)::q)=lettersR ((lo,a)::q)++lettersR ((a+1,hi)::q):=by
 simp only[lettersR];rw[EM h1 h2,NW]
theorem Jp{pre q:List (Int×Int)}{P P':List Int->Bool}(ok:okB pre=true)(h:∀a∈lettersR pre,∀x∈lettersR q,P (a++x)=P' x):(lettersR (pre++q)).find? P=((lettersR q).find? P').map (pre.map (·.1)++·):=by
 obtain⟨t,e⟩:=zE ok;rw[uv];cases f:(lettersR q).find? P' with
 | none =>
  rw[QW] at f;simp only[Option.map_none,QW];intro y hy;rw[N6] at hy;obtain⟨a,ha,hy⟩:=hy;rw[w_] at hy;obtain⟨x,hx,rfl⟩:=hy;rw[h a ha x hx];exact f x hx
 | some x =>
  rw[e,Nq,Sr,List.find?_map]
  have:(lettersR q).find? (P∘(pre.map (·.1)++·))=(lettersR q).find? P':=by
   have hx:∀x∈lettersR q,P (pre.map (·.1)++x)=P' x:=λx hx=>h _ (by rw[e];exact m_) x hx
   generalize lettersR q=Q at hx
   induction Q with
   | nil=>rfl
   | cons y Q ih =>
    rw[List.find?_cons,List.find?_cons,ih λx fS=>hx x (j_ _ fS)];rw[show(P∘(pre.map (·.1)++·)) y=P' y from hx y m_]
  rw[this,f];rfl
theorem Jc{a b:List (Int×Int)}{x y:List Int}(h:a.length=x.length):hasB (a++b) (x++y)=(hasB a x&&hasB b y):=by
 unfold hasB;rw[List.zip_append h,List.all_append]
theorem HX(a b:List (Int×Int)):mixB a b=mixB b a:=by
 unfold mixB
 induction a generalizing b with
 | nil=>simp
 | cons p a ih =>
  cases b with
  | nil=>simp
  | cons q b =>
   simp only[Om,H_];rw[ih b,Int.max_comm,Int.min_comm]
theorem Ih{w:List (Int×Int)}(h:w.length=p.length)(no:okB (mixB w p)=false):∀l∈lettersR p,hasB w l=false:=by
 have:=Fa h.symm;rw[HX,no] at this;simp only[Pd,if_false] at this;intro l hl;have:=OQ.mp this l hl;simpa using this
theorem Ak{w:List (Int×Int)}(h:w.length=p.length)(c:covB w p=true):∀l∈lettersR p,hasB w l=true:=by
 intro l hl;obtain⟨h1,h2⟩:=yj.mp hl;clear hl
 induction w generalizing p l with
 | nil=>simp[hasB]
 | cons a w ih =>
  cases p with
  | nil=>simp at h
  | cons b p =>
   cases l with
   | nil=>simp at h1
   | cons n l =>
    simp only[covB,hasB,Om,Oy,Nx,decide_eq_true_eq] at c h2 ⊢;exact⟨by omega,ih (by simpa using h) c.2 l (by simpa using h1) h2.2⟩
noncomputable def hv1(p:List (Int×Int))(f:Nat)(a:Int):List (Int×Int):=p.take f++[((p.getD f (0,0)).1,a)]++p.drop (f+1)
noncomputable def hv2(p:List (Int×Int))(f:Nat)(a:Int):List (Int×Int):=p.take f++[(a+1,(p.getD f (0,0)).2)]++p.drop (f+1)
theorem vf{f:Nat}(hf:f < p.length):p=p.take f++p.getD f (0,0)::p.drop (f+1):=by
 conv=>lhs;rw[←O_ f p,NM hf]
 rw[h_,g_ hf];rfl
theorem Je{f:Nat}{a:Int}(ok:okB p=true)(hf:f < p.length)(len:∀w∈ws,w.length=p.length)(h1:(p.getD f (0,0)).1<=a)(h2:a<=(p.getD f (0,0)).2)(aV:∀w∈ws,(∀l∈lettersR p,hasB w l=false)\/covB (w.take f) (p.take f)=true):firstL ws p=(firstL ws (hv1 p f a)).or (firstL ws (hv2 p f a)):=by
 have o6:okB (p.take f)=true:=q_.mpr λx hx=>q_.mp ok x (Ot hx)
 obtain⟨bs,hb⟩:∃bs:List (List (Int×Int)),bs=ws.filter λw=>covB (w.take f) (p.take f):=⟨_,rfl⟩
 have aU:∀x∈lettersR (p.take f),∀y:List Int,x++y∈lettersR p->leftB ws (x++y)=leftB (bs.map (·.drop f)) y:=by
  intro x hx y hy;obtain⟨lx,_⟩:=yj.mp hx;unfold leftB;rw[hb];clear hb bs
  induction ws with
  | nil=>rfl
  | cons w ws ih =>
   have ih:=ih (λw hw=>len w (j_ _ hw)) λw hw=>aV w (j_ _ hw)
   rw[Oy,ih,P6];have lw:=len w m_;have lt:(w.take f).length=(p.take f).length:=by simp[lw]
   by_cases c:covB (w.take f) (p.take f)=true
   ·rw[if_pos c,H_,Oy]
    congr 2
    conv=>lhs;rw[←O_ f w]
    rw[Jc (by rw[lx,lt]),Ak lt c x hx];rfl
   ·rw[if_neg c]
    rcases aV w m_ with n | n
    ·rw[n _ hy];rfl
    ·exact absurd n c
 have sub:∀q:List (Int×Int),(∀y∈lettersR q,y∈lettersR (p.getD f (0,0)::p.drop (f+1)))->firstL ws (p.take f++q)=((lettersR q).find? (leftB (bs.map (·.drop f)))).map ((p.take f).map (·.1)++·):=by
  intro q hq;refine Jp o6 λx hx y hy=>aU x hx y ?_
  rw[vf hf,uv,N6];exact⟨x,hx,w_.mpr ⟨y,hq y hy,rfl⟩⟩
 have cut:=AZ (q:=p.drop (f+1)) h1 h2;rw[show firstL ws p=firstL ws (p.take f++p.getD f (0,0)::p.drop (f+1)) by rw[←vf hf],sub _ λy h=>h];unfold hv1 hv2
 rw[Oc,Oc,OX,OX,sub _ λy h=>by rw[show p.getD f (0,0)=((p.getD f (0,0)).1,(p.getD f (0,0)).2) from rfl,cut];exact NI _ h,
  sub _ λy h=>by rw[show p.getD f (0,0)=((p.getD f (0,0)).1,(p.getD f (0,0)).2) from rfl,cut];exact F_ _ h]
 rw[show p.getD f (0,0)=((p.getD f (0,0)).1,(p.getD f (0,0)).2) from rfl,cut,Sr]
 cases(lettersR (((p.getD f (0,0)).1,a)::p.drop (f+1))).find? (leftB (bs.map (·.drop f)))<;>rfl
theorem Fw{f:Nat}{a:Int}(hf:f < p.length)(hl:p.length<=1000):cvF wt [wishD p,.int f,.int a]=some (.tup [wishD (hv1 p f a),wishD (hv2 p f a)]):=by
 obtain⟨pr,hp⟩:∃pr,p[f]?=some pr:=⟨_,g_ hf⟩;have e0:p.getD f (0,0)=pr:=by rw[h_,hp];rfl
 have e1:atI (p.map pairD) (f:Int)=some (pairD pr):=by rw[DL.rV];simp[hp]
 have e2:slF (.tup (p.map pairD)) none (some (f:Int))=some (.tup ((p.map pairD).take f)):=zO (by simpa using hf);have e3:slF (.tup (p.map pairD)) (some ((f:Int)+1)) none=some (.tup ((p.map pairD).drop (f+1))):=zA (n:=f+1) (by simp;omega) (by omega);refine rE rfl λKE k1 _=>?_
 rw[yV];refine pE ?_;rintro K hK -;simp[wishD,e2];refine hK _ ?_;refine pE ?_;rintro K hK -;simp[e3];refine hK _ ?_;refine pE ?_;rintro K hK -;simp[e1];refine hK _ ?_;refine pE ?_;rintro K hK -;simp[e1];refine hK _ ?_;simp;refine⟨by omega,by omega,by omega,by omega,?_⟩;have k3:=k1 [some (.val (wishD p)),some (.val (.int f)),some (.val (.int a)),some (.val (.tup (List.take f (map pairD p)))),some (.val (.tup (List.drop (f+1) (map pairD p)))),some (.val (.int pr.1)),some (.val (.int pr.2))] ⟨_,rfl⟩;simpa[wishD,hv1,hv2,e0,pairD,hp,Sq,map_drop] using k3
noncomputable def bdL(g:Nat)(pr wr:Int×Int):List (Int×Int):=(if pr.1 < wr.1 then[((g:Int),wr.1 - 1)] else[])++if wr.2 < pr.2 then[((g:Int),wr.2)] else[]
noncomputable def bdsL(ws:List (List (Int×Int)))(p:List (Int×Int))(g:Nat):List (Int×Int):=ws.flatMap λw=>bdL g (p.getD g (0,0)) (w.getD g (0,0))
noncomputable def bordersL(ws:List (List (Int×Int)))(p:List (Int×Int)):List (Int×Int):=(NY p.length).flatMap (bdsL ws p)
theorem xL{α Z:Type}{f:α->List Z}{xs:List α}(h:∀x∈xs,(f x).length<=m):(xs.flatMap f).length<=xs.length*m:=by
 induction xs with
 | nil=>simp
 | cons x xs ih =>
  have h1:=h x m_;have h2:=ih λx hx=>h x (j_ _ hx)
  rw[Nq,o_,NG,Nat.succ_mul];omega
theorem Av{g:Nat}{wr:Int×Int}:(bdL g pr wr).length<=2:=by
 unfold bdL;split<;>split<;>simp
theorem Ht:prsD (L.map pairD)=some L:=by
 induction L with
 | nil=>rfl
 | cons x L ih=>simp only[H_,pairD,prsD] at ih ⊢;rw[ih]
theorem IW(h:L≠[]):minlF [.lst (L.map pairD)]=some (pairD (minP L)):=by
 cases L with
 | nil=>exact absurd rfl h
 | cons x L=>unfold minlF;simp only;rw[Ht];rfl
theorem Ir{w:List (Int×Int)}{g:Nat}(h:g < w.length):atI (w.map pairD) (g:Int)=some (pairD (w.getD g (0,0))):=by
 rw[DL.rV,h_];simp[h]
theorem DH(hw:∀w∈ws,w.length=p.length)(hp:p.length<=100)(hl:ws.length<=100)(ne:bordersL ws p≠[]):cvF v5 [.lst (ws.map wishD),wishD p]=some (pairD (minP (bordersL ws p))):=by
 refine rE rfl λKE k1 _=>?_
 rw[wG];refine pE ?_;rintro K hK -;simp;refine hK _ ?_;refine pE ?_;rintro K hK -;simp[wishD]
 have cW:∀i,i<=100->((NY i).flatMap (bdsL ws p)).length<=20000:=λi hi=>by
  refine z_ (xL (m:=200) λg _=>z_ (xL (m:=2) λw _=>Av) (by omega)) ?_;simp;omega
 refine rn (J:=λi Y=>∃x3 x4 x5,Y=[some (.val (.lst (ws.map wishD))),some (.val (wishD p)),some (.own (((NY i).flatMap (bdsL ws p)).map pairD)),x3,x4,x5]) ⟨_,_,_,rfl⟩ ?_ ?_
 ·rintro i d Y hd ⟨x3,x4,x5,rfl⟩ KL aD - - -;obtain⟨x,e1,rfl⟩:=uB hd;rw[y_,NA] at e1;obtain⟨pr,e1,rfl⟩:=e1;have hi:i < p.length:=(p_.mp e1).1;have o7:p.getD i (0,0)=pr:=by rw[h_,e1];rfl
  simp;refine rn (J:=λj Y=>∃x5,Y=[some (.val (.lst (ws.map wishD))),some (.val (wishD p)),some (.own (((NY i).flatMap (bdsL ws p)++(ws.take j).flatMap λw=>bdL i pr (w.getD i (0,0))).map pairD)),some (.val (.int i)),some (.val (pairD pr)),x5]) ⟨x5,by simp⟩ ?_ ?_
  ·rintro j d Y hd ⟨x5,rfl⟩ KL aD - - -;rw[y_,NA] at hd;obtain⟨w,mO,rfl⟩:=hd;have iU:=hw w (B_ mO);have fz:ws.take (j+1)=ws.take j++[w]:=by rw[OU,mO];rfl
   have aw:=Ir (w:=w) (g:=i) (by omega);obtain⟨wr,mP⟩:∃wr,w.getD i (0,0)=wr:=⟨_,rfl⟩;rw[mP] at aw
   have gK:(((NY i).flatMap (bdsL ws p))++(ws.take j).flatMap λw=>bdL i pr (w.getD i (0,0))).length<=30000:=by
    have b1:=cW i (by omega);have b2:((ws.take j).flatMap λw=>bdL i pr (w.getD i (0,0))).length<=200:=z_ (xL (m:=2) λw _=>Av) (by simp;omega);rw[o_];omega
   rw[fz,NW] at aD;simp only[Nq,RK,N3,mP] at aD;generalize ((NY i).flatMap (bdsL ws p))=A at aD gK ⊢;generalize ((ws.take j).flatMap λw=>bdL i pr (w.getD i (0,0)))=C at aD gK ⊢;have pN:A.length+C.length<=30000:=by simpa using gK
   simp;refine tQ (λY=>Y=[some (.val (.lst (ws.map wishD))),some (.val (wishD p)),some (.own ((A++C++if pr.1 < wr.1 then[((i:Int),wr.1 - 1)] else[]).map pairD)),some (.val (.int i)),some (.val (pairD pr)),some (.val (wishD w))]) ?_ ?_
   ·rintro K hK -;simp[isMut,R.mut,wishD,aw];split
    ·rename_i h;refine⟨by omega,hK _ ?_⟩;simp[wishD,pairD,h]
    ·rename_i h;refine hK _ ?_;rw[if_neg h];simp[wishD]
   ·rintro Y rfl;simp[isMut,R.mut,wishD,aw];split
    ·rename_i h;refine⟨by split<;>simp<;>omega,aD _ ⟨some (.val (wishD w)),?_⟩⟩;unfold bdL;rw[if_pos h];simp[wishD,pairD]
    ·rename_i h;refine aD _ ⟨some (.val (wishD w)),?_⟩;unfold bdL;rw[if_neg h];simp[wishD]
  ·rintro Y ⟨x5,rfl⟩;refine aD _ ⟨some (.val (.int i)),some (.val (pairD pr)),x5,?_⟩;rw[u_,On,List.range_succ,NW];simp[bdsL,o7,e1]
 ·rintro Y ⟨x3,x4,x5,rfl⟩;refine hK _ ?_
  have hn:∀ds:List D,(numD 0 ds).length=ds.length:=by
   have:∀(ds:List D) m,(numD m ds).length=ds.length:=λds=>by
    induction ds with
    | nil=>intro m;rfl
    | cons d ds ih=>intro m;simp[numD,ih]
   exact λds=>this ds 0
  rw[hn,u_];have:=IW ne;unfold bordersL at this k1;simp[this];exact k1 _ ⟨_,rfl⟩
theorem sr{g:Nat}{wr x:Int×Int}:x∈bdL g pr wr↔(pr.1 < wr.1/\x=((g:Int),wr.1 - 1))\/(wr.2 < pr.2/\x=((g:Int),wr.2)):=by
 unfold bdL;rw[L_];constructor
 ·rintro(h | h)
  ·split at h
   ·exact .inl ⟨‹_›,by simpa using h⟩
   ·simp at h
  ·split at h
   ·exact .inr ⟨‹_›,by simpa using h⟩
   ·simp at h
 ·rintro(⟨h,rfl⟩ | ⟨h,rfl⟩)
  ·exact .inl (by rw[if_pos h];simp)
  ·exact .inr (by rw[if_pos h];simp)
theorem xb{x:Int×Int}:x∈bordersL ws p↔∃g,g < p.length/\∃w∈ws,x∈bdL g (p.getD g (0,0)) (w.getD g (0,0)):=by
 unfold bordersL bdsL;simp only[N6,OE]
theorem xo{g:Nat}(h:g < p.length):p[g]?=some (p.getD g (0,0)):=by
 rw[h_,g_ h];rfl
theorem JV{w:List (Int×Int)}(h:w.length=p.length)(ok:okB (mixB w p)=true){g:Nat}(hg:g < p.length):max (w.getD g (0,0)).1 (p.getD g (0,0)).1<=min (w.getD g (0,0)).2 (p.getD g (0,0)).2:=by
 have e:(mixB w p)[g]?=some (max (w.getD g (0,0)).1 (p.getD g (0,0)).1,min (w.getD g (0,0)).2 (p.getD g (0,0)).2):=by
  unfold mixB;rw[y_,Pa (z:=(w.getD g (0,0),p.getD g (0,0))) |>.mpr ⟨xo (by omega),xo hg⟩];rfl
 have:=q_.mp ok _ (B_ e);simpa using this
theorem zT{w:List (Int×Int)}(h:w.length=p.length)(k:∀g,g < p.length->(w.getD g (0,0)).1<=(p.getD g (0,0)).1/\(p.getD g (0,0)).2<=(w.getD g (0,0)).2):covB w p=true:=by
 unfold covB;rw[q_];intro q hq;obtain⟨i,hi,rfl⟩:=Pw hq;rw[SU] at hi;have:=k i (by omega);rw[List.getElem_zip];rw[h_,h_,g_ (by omega),g_ (by omega)] at this;simpa using this
theorem JH(len:∀w∈ws,w.length=p.length)(ne:ws≠[])(o8:∀w∈ws,okB (mixB w p)=true)(no:∀w∈ws,covB w p=false):
  bordersL ws p≠[]/\∃(f:Nat) (a:Int),minP (bordersL ws p)=((f:Int),a)/\f < p.length/\(p.getD f (0,0)).1<=a/\a < (p.getD f (0,0)).2/\∀w∈ws,covB (w.take f) (p.take f)=true:=by
 have one:bordersL ws p≠[]:=by
  obtain⟨w,hw⟩:=List.exists_mem_of_ne_nil ws ne;intro o9
  have c:=zT (len w hw) λg hg=>by
   have h0:=λx hx=>(xb (ws:=ws) (p:=p) (x:=x)).mpr ⟨g,hg,w,hw,hx⟩
   rw[o9] at h0;refine⟨not_lt.mp λlt=>?_,not_lt.mp λlt=>?_⟩
   ·exact absurd (h0 _ (sr.mpr (.inl ⟨lt,rfl⟩))) P3
   ·exact absurd (h0 _ (sr.mpr (.inr ⟨lt,rfl⟩))) P3
  rw[no w hw] at c;cases c
 refine⟨one,?_⟩;obtain⟨m1,m2⟩:=KQ one;generalize minP (bordersL ws p)=m at m1 m2;obtain⟨f,hf,w,hw,hm⟩:=xb.mp m1;have mx:=JV (len w hw) (o8 w hw) hf;refine⟨f,m.2,?_,hf,?_⟩
 ·rcases sr.mp hm with⟨_,rfl⟩ | ⟨_,rfl⟩<;>rfl
 ·have qp:m.1=f:=by rcases sr.mp hm with⟨_,rfl⟩ | ⟨_,rfl⟩<;>rfl
  refine⟨?_,?_,λv hv=>?_⟩
  ·rcases sr.mp hm with⟨h,rfl⟩ | ⟨h,rfl⟩<;>(dsimp only;omega)
  ·rcases sr.mp hm with⟨h,rfl⟩ | ⟨h,rfl⟩<;>(dsimp only;omega)
  ·refine zT (by simp[len v hv]) λg hg=>?_
   rw[Pl] at hg
   have e:∀u:List (Int×Int),(u.take f).getD g (0,0)=u.getD g (0,0):=λu=>by
    rw[h_,h_,QM (by omega)]
   rw[e,e]
   have eD:∀x,x∈bdL g (p.getD g (0,0)) (v.getD g (0,0))->False:=λx hx=>by
    have:=m2 x (xb.mpr ⟨g,by omega,v,hv,hx⟩);have x1:x.1=g:=by rcases sr.mp hx with⟨_,rfl⟩ | ⟨_,rfl⟩<;>rfl
    have:¬ltP x m=true:=by rw[this];simp
    rw[BA] at this;omega
   exact⟨not_lt.mp λlt=>eD _ (sr.mpr (.inl ⟨lt,rfl⟩)),not_lt.mp λlt=>eD _ (sr.mpr (.inr ⟨lt,rfl⟩))⟩
inductive Tr where
 | byK (k:Nat)
 | cut (f:Nat) (a:Int) (l r:Tr)
noncomputable def trD:Tr->D
 | .byK k=>.tup [.str "by", .int k]
 | .cut f a l r=>.tup [.str "cut", .int f,.int a,trD l,trD r]
noncomputable def Tr.deep:Tr->Nat
 | .byK _=>0
 | .cut _ _ l r=>max l.deep r.deep+1
def GoodT(ws:List (List (Int×Int))):Tr->List (Int×Int)->Prop
 | .byK k,p=>∃w,ws[k]?=some w/\covB w p=true
 | .cut f a l r,p=>f < p.length/\(p.getD f (0,0)).1<=a/\a < (p.getD f (0,0)).2/\GoodT ws l (hv1 p f a)/\GoodT ws r (hv2 p f a)
def RightD(ws:List (List (Int×Int)))(p:List (Int×Int))(m:Nat)(d:D):Prop:=(∃l,firstL ws p=some l/\d=.tup [.str "out", letD l])\/∃t,firstL ws p=none/\GoodT ws t p/\t.deep<=m/\d=.tup [.str "in", trD t]
noncomputable def sizeP(p:List (Int×Int)):Nat:=(p.map λq=>(q.2 - q.1).toNat).sum
theorem F0{f:Nat}{a:Int}(hf:f < p.length)(h1:(p.getD f (0,0)).1<=a)(h2:a < (p.getD f (0,0)).2):sizeP (hv1 p f a) < sizeP p/\sizeP (hv2 p f a) < sizeP p:=by
 have e:=vf hf;generalize p.getD f (0,0)=pr at *
 have s:sizeP p=sizeP (p.take f)+((pr.2 - pr.1).toNat+sizeP (p.drop (f+1))):=by
  conv=>lhs;rw[e]
  simp[sizeP]
 unfold hv1 hv2;rw[s]
 have e1:p.getD f (0,0)=pr:=by
  conv=>lhs;rw[e]
  rw[h_,N7 (by simp;omega)];simp[Nat.min_eq_left (PY hf)]
 rw[e1];simp[sizeP];omega
theorem Wf.cut{f:Nat}{a:Int}(hp:Wf n p)(hf:f < p.length)(h1:(p.getD f (0,0)).1<=a)(h2:a < (p.getD f (0,0)).2):Wf n (hv1 p f a)/\Wf n (hv2 p f a):=by
 have pr:PairOk (p.getD f (0,0)):=hp.all _ (B_ (xo hf));have:=pr.lo;have:=pr.hi;have:=hp.len;constructor
 ·refine⟨by simp[hv1];omega,λq hq=>?_⟩;unfold hv1 at hq;rw[L_,L_,r_] at hq
  rcases hq with(h | rfl) | h
  ·exact hp.all q (Ot h)
  ·exact⟨pr.lo,h1,by dsimp only;omega⟩
  ·exact hp.all q (Qb h)
 ·refine⟨by simp[hv2];omega,λq hq=>?_⟩;unfold hv2 at hq;rw[L_,L_,r_] at hq
  rcases hq with(h | rfl) | h
  ·exact hp.all q (Ot h)
  ·exact⟨by dsimp only;omega,by dsimp only;omega,pr.hi⟩
  ·exact hp.all q (Qb h)
theorem Wf.ok(hp:Wf n p):okB p=true:=q_.mpr λq hq=>by simpa using(hp.all q hq).le
theorem KM{f:Nat}{a:Int}(hf:f < p.length)(h1:(p.getD f (0,0)).1<=a)(h2:a < (p.getD f (0,0)).2):∀l,l∈lettersR (hv1 p f a)\/l∈lettersR (hv2 p f a)->l∈lettersR p:=by
 intro l hl;have cut:=AZ (q:=p.drop (f+1)) h1 (Se h2);rw[show lettersR p=lettersR (p.take f++p.getD f (0,0)::p.drop (f+1)) by rw[←vf hf],uv,N6];rw[show p.getD f (0,0)=((p.getD f (0,0)).1,(p.getD f (0,0)).2) from rfl,cut]
 rcases hl with hl | hl
 ·unfold hv1 at hl;rw[Oc,OX,uv,N6] at hl;obtain⟨x,hx,hl⟩:=hl;obtain⟨y,hy,rfl⟩:=w_.mp hl;exact⟨x,hx,w_.mpr ⟨y,NI _ hy,rfl⟩⟩
 ·unfold hv2 at hl;rw[Oc,OX,uv,N6] at hl;obtain⟨x,hx,hl⟩:=hl;obtain⟨y,hy,rfl⟩:=w_.mp hl;exact⟨x,hx,w_.mpr ⟨y,F_ _ hy,rfl⟩⟩
noncomputable def wAt(ws:List (List (Int×Int)))(k:Nat):List (Int×Int):=ws.getD k []
theorem uP(h:k < ws.length):wAt ws k=ws[k]:=by
 unfold wAt;rw[h_,g_ h];rfl
theorem xS(h:k < ws.length):atI (ws.map wishD) (k:Int)=some (wishD (wAt ws k)):=by
 rw[DL.rV,uP h];simp[h]
theorem Az(h:k < ws.length):wAt ws k∈ws:=by
 rw[uP h];exact NS _
theorem A'{n:Nat}{ws:List (List (Int×Int))}(hw:∀w∈ws,Wf n w)(hl:ws.length<=100)(hn:n<=100):∀(m:Nat) (ks:List Nat) (p:List (Int×Int)),Wf n p->sizeP p < m->(∀k∈ks,k < ws.length)->ks.length<=100 →
  (∀k,k < ws.length->k∉ks->∀l∈lettersR p,hasB (wAt ws k) l=false)->∃d,cvF (sL m) [.lst (ws.map wishD),.lst (ks.map λk:Nat=>.int k),wishD p]=some d/\RightD ws p (sizeP p) d
 | 0,ks,p,hp,hs,_,_,_=>absurd hs (RF _)
 | m+1,ks,p,hp,hs,hk,hkl,eD=>by
  have ih:=A' hw hl hn m;have cE:∀k,k < ws.length->(wAt ws k).length=p.length:=λk h=>by rw[(hw _ (Az h)).len,hp.len]
  have mQ:p.length<=100:=by rw[hp.len];exact hn
  have aU:wpF (sL (m+1)) [.val (.lst (ws.map wishD)),.val (.lst (ks.map λk:Nat=>.int k)),.val (wishD p)] λr _=>∃d,r=.val d/\RightD ws p (sizeP p) d:=by
   rw[sL];refine so rfl λKE hE _=>?_
   rw[wy];refine pE ?_;rintro K hK -;simp;refine rJ ks (λk:Nat=>.int k) (λk=>okB (mixB (wAt ws k) p)) (λk:Nat=>.int k) ?_;simp;refine⟨by omega,λk gL=>?_,hK _ ?_⟩
   ·have e1:=xS (hk k gL);have e2:=JO (cE k (hk k gL)) (by rw[cE k (hk k gL)];omega);simp[e1,e2];split<;>simp[isN,wishD, *]
   ·clear hK;obtain⟨aV,dH⟩:∃aV,aV=ks.filter λk=>okB (mixB (wAt ws k) p):=⟨_,rfl⟩
    rw[←dH];have bZ:∀k,k∈aV↔k∈ks/\okB (mixB (wAt ws k) p)=true:=λk=>by rw[dH,K_]
    have eU:aV.length<=100:=by rw[dH];exact z_ (Oa _ _) hkl
    have fg:∀k,k < ws.length->k∉aV->∀l∈lettersR p,hasB (wAt ws k) l=false:=λk h1 h2=>by
     by_cases h3:k∈ks
     ·refine Ih (cE k h1) ?_;rw[bZ] at h2;simpa[h3] using h2
     ·exact eD k h1 h3
    clear dH;refine pE ?_;rintro K hK hR;simp;split
    ·-- nothing is aV
     rename_i h0;have h0:aV=[]:=by simpa using h0
     simp[wishD];refine rJ p pairD (λ_=>true) (λq=>.int q.1) ?_;simp;refine⟨by omega,hR _ _ (hE _ _ ⟨_,rfl,_,rfl,.inl ⟨p.map (·.1),?_,?_⟩⟩)⟩
     ·obtain⟨t,e⟩:=zE hp.ok;unfold firstL;rw[e,List.find?_cons_of_pos];unfold leftB;rw[q_];intro w iU;obtain⟨k,h1,rfl⟩:=Pw iU;have:=fg k h1 (by rw[h0];simp) (p.map (·.1)) (by rw[e];exact m_);rw[uP h1] at this;simpa using this
     ·simp[letD,RI]
    ·rename_i h0;refine hK _ ?_;have h0:aV≠[]:=by simpa using h0
     refine pE ?_;rintro K hK hR;simp;refine rn (J:=λi Y=>∃x4,(∀k∈aV.take i,covB (wAt ws k) p=false)/\Y=[some (.val (.lst (ws.map wishD))),some (.val (.lst (ks.map λk:Nat=>.int k))),some (.val (wishD p)),some (.val (.lst (aV.map λk:Nat=>.int k))),x4,none,none,none,none]) ⟨none,by simp,rfl⟩ ?_ ?_
     ·rintro i d Y hd ⟨x4,hc,rfl⟩ KL aD - - ki;rw[y_,NA] at hd;obtain⟨k,mR,rfl⟩:=hd;have iV:=(bZ k).mp (B_ mR);have c9:=hk k iV.1;have e1:=xS c9;have e2:=CB (cE k c9) (by rw[cE k c9];omega);have fz:aV.take (i+1)=aV.take i++[k]:=by rw[OU,mR];rfl
      simp[e1,e2];split
      ·rename_i db;have db:covB (wAt ws k) p=true:=by simpa using db
       refine ki _ _ (hR _ _ (hE _ _ ⟨_,rfl,_,rfl,.inr ⟨.byK k,?_,⟨wAt ws k,?_,db⟩,NK _,?_⟩⟩))
       ·unfold firstL;rw[QW];intro l pd;unfold leftB;intro all;have:=q_.mp all _ (Az c9);rw[Ak (cE k c9) db l pd] at this;cases this
       ·rw[uP c9,g_ c9]
       ·rw[trD]
      ·rename_i db;refine aD _ ⟨_,λk' bF=>?_,rfl⟩;rw[fz] at bF
       rcases L_.mp bF with h | h
       ·exact hc k' h
       ·rw[r_.mp h];simpa using db
     ·rintro Y ⟨x4,hc,rfl⟩;refine hK _ ?_;rw[u_,On] at hc;obtain⟨fA,eh⟩:∃fA,fA=aV.map λk=>wAt ws k:=⟨_,rfl⟩
      have iW:∀w∈fA,∃k,k∈aV/\k < ws.length/\w=wAt ws k:=λw h=>by
       rw[eh,w_] at h;obtain⟨k,h1,rfl⟩:=h;exact⟨k,h1,hk k ((bZ k).mp h1).1,rfl⟩
      obtain⟨bne,f,a,em,hf,h1,h2,pe⟩:=JH (ws:=fA) (p:=p) (λw h=>by obtain⟨k,_,bF,rfl⟩:=iW w h;exact cE k bF) (by rw[eh];simpa using h0)
       (λw h=>by obtain⟨k,bF,_,rfl⟩:=iW w h;exact((bZ k).mp bF).2) (λw h=>by obtain⟨k,bF,_,rfl⟩:=iW w h;exact hc k bF)
      have bo:=DH (ws:=fA) (p:=p) (λw h=>by obtain⟨k,_,bF,rfl⟩:=iW w h;exact cE k bF) mQ (by rw[eh];simpa using eU) bne;rw[em] at bo;have ha:=Fw (p:=p) (a:=a) hf (by omega);obtain⟨w1,w2⟩:=hp.cut hf h1 h2;obtain⟨z1,z2⟩:=F0 hf h1 h2;have sub:=KM hf h1 h2
      have first:firstL ws p=(firstL ws (hv1 p f a)).or (firstL ws (hv2 p f a)):=Je hp.ok hf (λw h=>by rw[(hw w h).len,hp.len]) h1 (Se h2) λw h=>by
       obtain⟨k,c9,rfl⟩:=Pw h;have eg:wAt ws k=ws[k]:=uP c9;by_cases iV:k∈aV
       ·exact .inr (pe _ (by rw[eh,w_];exact⟨k,iV,eg⟩))
       ·have:=fg k c9 iV;rw[eg] at this;exact .inl this
      obtain⟨d1,e1,r1⟩:=ih aV (hv1 p f a) w1 (by omega) (λk h=>hk k ((bZ k).mp h).1) eU λk h1 h2 l hl=>fg k h1 h2 l (sub l (.inl hl))
      obtain⟨d2,e2,r2⟩:=ih aV (hv2 p f a) w2 (by omega) (λk h=>hk k ((bZ k).mp h).1) eU λk h1 h2 l hl=>fg k h1 h2 l (sub l (.inr hl))
      refine pE ?_;rintro K hK -;simp;refine rJ aV (λk:Nat=>.int k) (λ_=>true) (λk:Nat=>wishD (wAt ws k)) ?_;simp;refine⟨by omega,λk gL=>?_,?_⟩
      ·have e1:=xS (hk k ((bZ k).mp gL).1);simp[e1]
      ·have ew:(aV.map λk=>wishD (wAt ws k))=fA.map wishD:=by rw[eh];simp
       rw[ew];simp[bo];refine hK _ ?_;refine pE ?_;rintro K hK -;simp[ha];refine hK _ ?_;refine pE ?_;rintro K hK -;simp[e1];refine hK _ ?_
       rcases r1 with⟨l1,f1,rfl⟩ | ⟨t1,f1,g1,qq,rfl⟩
       ·refine pE ?_;rintro K hK gJ;simp;exact gJ _ _ (hE _ _ ⟨_,rfl,_,rfl,.inl ⟨l1,by rw[first,f1];rfl,rfl⟩⟩)
       ·refine pE ?_;rintro K hK -;simp;refine hK _ ?_;refine pE ?_;rintro K hK -;simp[e2];refine hK _ ?_
        rcases r2 with⟨l2,f2,rfl⟩ | ⟨t2,f2,g2,qt,rfl⟩
        ·refine pE ?_;rintro K hK gJ;simp;exact gJ _ _ (hE _ _ ⟨_,rfl,_,rfl,.inl ⟨l2,by rw[first,f1,f2];rfl,rfl⟩⟩)
        ·refine pE ?_;rintro K hK -;simp;refine hK _ ?_;simp;refine hE _ _ ⟨_,rfl,_,rfl,.inr ⟨.cut f a t1 t2,by rw[first,f1,f2];rfl,⟨hf,h1,h2,g1,g2⟩,?_,by rw[trD]⟩⟩;rw[Tr.deep];omega
  obtain⟨r,aW,e,d,rfl,hR⟩:=aU;exact⟨d,by unfold cvF;simp only[map];rw[e],hR⟩
theorem F7(hw:∀w∈ws,Wf n w)(hl:ws.length<=100)(hn:n<=3)(hp:Wf n p):∃d,cvF uz [.lst (ws.map wishD),wishD p]=some d/\RightD ws p 27 d:=by
 have sz:sizeP p<=27:=by
  unfold sizeP;refine z_ (Fm (m:=9) λx hx=>?_) ?_
  ·obtain⟨q,hq,rfl⟩:=w_.mp hx;have:=(hp.all q hq).lo;have:=(hp.all q hq).hi;omega
  ·rw[u_,hp.len];omega
 obtain⟨d,e,r⟩:=A' hw hl (by omega) 40 (NY ws.length) p hp (by omega) (λk h=>OE.mp h) (by simpa using hl) λk h1 h2=>absurd (OE.mpr h1) h2
 refine⟨d,?_,?_⟩
 ·refine rE rfl λKE k1 _=>?_
  rw[yW];refine pE ?_;rintro K hK -
  have kin:cvF rL [.lst (wishD p::ws.map wishD)]=some .non:=wv (n:=n) λd hd=>by
   rcases D_.mp hd with rfl | h
   ·exact⟨p.map pairD,rfl,by simp[hp.len]⟩
   ·obtain⟨w,iU,rfl⟩:=w_.mp h;exact⟨w.map pairD,rfl,by simp[(hw w iU).len]⟩
  simp[kin];refine⟨by omega,hK _ ?_⟩;have er:rngD 0 ws.length=(NY ws.length).map λk:Nat=>D.int k:=by simp[rngD]
  simp[er,e];exact⟨by omega,k1 _ ⟨_,rfl⟩⟩
 ·rcases r with r | ⟨t,r1,r2,r3,r4⟩
  ·exact .inl r
  ·exact .inr ⟨t,r1,r2,by omega,r4⟩
theorem HU:dep (.lst (ws.map wishD))<=3:=by
 rw[dep]
 have:depA (ws.map wishD)<=2:=sO λd hd=>by
  obtain⟨w,_,rfl⟩:=w_.mp hd;exact wf
 omega
theorem z8:∀(a b:List (Int×Int)),deqA (a.map pairD) (b.map pairD)=decide (a=b)
 | [],[]=>by simp[deqA]
 | [],q::b=>by simp[deqA]
 | p::a,[]=>by simp[deqA]
 | p::a,q::b=>by
  rw[H_,H_,deqA,z8 a b];simp[pairD,deq,deqA,Prod.ext_iff];by_cases h1:p.1=q.1<;>by_cases h2:p.2=q.2<;>by_cases h3:a=b<;>simp[h1,h2,h3]
theorem wn(a b:List (Int×Int)):deq (wishD a) (wishD b)=decide (a=b):=by
 unfold wishD;rw[deq];exact z8 a b
theorem BZ{a b:List (Int×Int)}(h:wishD a=wishD b):a=b:=by
 have:=wn a b;rw[h,DL.uN] at this;simpa using this.symm
theorem Bm:∀(a b:List (Int×Int)),cmA (a.map pairD) (b.map pairD)=true
 | [],[]=>by simp[cmA]
 | [],q::b=>by simp[cmA]
 | p::a,[]=>by simp[cmA]
 | p::a,q::b=>by
  rw[H_,H_,cmA,Bm a b];simp[pairD,cmB,cmA]
theorem Ah(a b:List (Int×Int)):cmB (wishD a) (wishD b)=true:=by
 unfold wishD;rw[cmB];exact Bm a b
theorem DG(ws:List (List (Int×Int))):cmAll (ws.map wishD)=true:=by
 unfold cmAll;rw[q_];intro a ha;rw[q_];intro b hb;obtain⟨x,_,rfl⟩:=w_.mp ha;obtain⟨y,_,rfl⟩:=w_.mp hb;exact Ah x y
theorem BV:∀a:List (Int×Int),kyA (a.map pairD)=true
 | []=>by simp[kyA]
 | p::a=>by
  rw[H_,kyA,BV a];simp[pairD,kyB,kyA]
theorem wP{f:D->Bool}(h:∀w∈ws,f (wishD w)=true):(ws.map wishD).all f=true:=by
 rw[q_];intro d hd;obtain⟨w,hw,rfl⟩:=w_.mp hd;exact h w hw
theorem Kq{w:List (Int×Int)}(hw:Wf n w)(h:1<=n):fstT (wishD w)=true:=by
 have:=hw.len;cases w with
 | nil=>simp at this;omega
 | cons p w=>rfl
theorem KI(ws:List (List (Int×Int))):depA (ws.map wishD)<=2:=sO λd hd=>by
 obtain⟨w,_,rfl⟩:=w_.mp hd;exact wf
theorem pull{ws:List (List (Int×Int))}:∀(l:List D),(∀d∈l,∃w∈ws,d=wishD w)->∃us:List (List (Int×Int)),l=us.map wishD/\∀u∈us,u∈ws
 | [],_=>⟨[],rfl,λu hu=>by cases hu⟩
 | d::l,h=>by
  obtain⟨us,e,m⟩:=pull l λd hd=>h d (j_ _ hd)
  obtain⟨w,hw,rfl⟩:=h d m_;refine⟨w::us,by rw[e];rfl,λu hu=>?_⟩
  rcases D_.mp hu with rfl | hu
  ·exact hw
  ·exact m u hu
theorem ym{us:List (List (Int×Int))}{w:List (Int×Int)}:wishD w∈us.map wishD↔w∈us:=by
 rw[w_];constructor
 ·rintro⟨u,hu,e⟩;rw[←BZ e];exact hu
 ·exact λh=>⟨w,h,rfl⟩
theorem JC{us:List (List (Int×Int))}(h:(us.map wishD).Nodup):us.Nodup:=by
 induction us with
 | nil=>exact RN
 | cons u us ih =>
  rw[H_,N9] at h;rw[N9];exact⟨λm=>h.1 (ym.mpr m),ih h.2⟩
theorem zM(ws:List (List (Int×Int))):∃us:List (List (Int×Int)),sortD (dd (ws.map wishD))=us.map wishD/\(∀u,u∈us↔u∈ws)/\us.Nodup/\us.length<=ws.length:=by
 have p:=tG (dd (ws.map wishD))
 obtain⟨us,e,m⟩:=pull (ws:=ws) (sortD (dd (ws.map wishD))) λd hd=>by
  obtain⟨w,hw,rfl⟩:=w_.mp (u4 (p.mem_iff.mp hd));exact⟨w,hw,rfl⟩
 refine⟨us,e,λu=>⟨m u,λhu=>?_⟩,JC ?_,?_⟩
 ·have h1:=Ku (ws.map wishD) (wishD u) (ym.mpr hu);obtain⟨d,hd,q⟩:=N5.mp h1;obtain⟨w,hw,rfl⟩:=w_.mp (u4 hd);rw[wn] at q;simp at q;subst q;have:=p.mem_iff.mpr hd;rw[e] at this;exact ym.mp this
 ·rw[←e];exact p.nodup_iff.mpr (Ch _)
 ·have h1:=p.length_eq;have h2:=Bl (ws.map wishD);rw[e] at h1;simp at h1 h2;omega
theorem Hm(aM:∀w∈ws,Wf n w)(h:(dd (ws.map wishD)).length<=18):SetOk (ws.map wishD):=by
 refine⟨DG ws,wP λw _=>?_,wP λw _=>rfl,z_ (KI ws) (by omega),h⟩;unfold wishD;rw[kyB];exact BV w
theorem KH(aM:∀w∈ws,Wf n w)(hn:1<=n)(h:(dd (ws.map wishD)).length<=18):setF [.lst (ws.map wishD)]=some (sortD (dd (ws.map wishD))):=
 IP (Hm aM h) (.inr (wP λw hw=>Kq (aM w hw) hn))
theorem Ev{bs:List (List (Int×Int))}(h1:(as.map wishD).Pairwise λa b=>leD a b=true)(h2:(bs.map wishD).Pairwise λa b=>leD a b=true)(n1:as.Nodup)(n2:bs.Nodup)(m:∀w,w∈as↔w∈bs):as=bs:=by
 have len:bs.length<=as.length:=by
  have:=wx bs as n2 (λw hw=>(m w).mpr hw);exact this
 have p:as.Perm bs:=xy as bs n1 (λw hw=>(m w).mp hw) len
 have e:as.map wishD=bs.map wishD:=uO _ _ (p.map _) h1 h2 λa ha b hb l1 l2=>by
  obtain⟨x,_,rfl⟩:=w_.mp ha;obtain⟨y,_,rfl⟩:=w_.mp hb;have c:=Ah x y;refine um _ _ c ?_;rw[sY _ _ c];unfold leD at l1 l2;rw[l1,l2];rfl
 have:∀(as bs:List (List (Int×Int))),as.map wishD=bs.map wishD->as=bs:=by
  intro as
  induction as with
  | nil=>intro bs e;cases bs with
   | nil=>rfl
   | cons b bs=>simp at e
  | cons a as ih =>
   intro bs e;cases bs with
   | nil=>simp at e
   | cons b bs =>
    rw[H_,H_] at e;injection e with e1 e2
    rw[BZ e1,ih bs e2]
 exact this as bs e
noncomputable def undB(us:List (List (Int×Int)))(w:List (Int×Int)):Bool:=us.any λone=>!decide (one=w)&&covB one w
theorem J3{us:List (List (Int×Int))}{w:List (Int×Int)}(dk:∀u∈us,Wf n u)(hw:Wf n w)(hn:n<=3)(hl:us.length<=1000000):cvF vY [.lst (us.map wishD),wishD w]=some (.bl (undB us w)):=by
 refine rE rfl λK k1 _=>?_
 rw[yB];simp;refine rJ us wishD (λ_=>true) (λone=>.bl (!decide (one=w)&&covB one w)) ?_;simp[wn];refine⟨hl,λone ho=>⟨.inl (by have:=wf (w:=one);omega),?_⟩,?_⟩
 ·have:=CB (a:=one) (b:=w) (by rw[(dk one ho).len,hw.len]) (by rw[(dk one ho).len];omega);simp[this];split<;>simp_all
 ·rw[Dw];simp;exact k1 _ ⟨_,rfl⟩
theorem KZ{us:List (List (Int×Int))}(aM:∀u∈ws,Wf n u)(h1:1<=n)(hn:n<=3)(hl:ws.length<=1000000)(kj:(dd (ws.map wishD)).length<=18)(e:sortD (dd (ws.map wishD))=us.map wishD)(m:∀u,u∈us↔u∈ws)(ul:us.length<=ws.length):
  coF tJ [.lst (ws.map wishD)]=some ((us.filter λw=>!undB us w).map wishD):=by
 refine sW rfl λKE k1=>?_
 rw[x0];refine pE ?_;rintro K hK -
 have kin:cvF rL [.lst (ws.map wishD)]=some .non:=wv (n:=n) λd hd=>by
  obtain⟨w,hw,rfl⟩:=w_.mp hd;exact⟨w.map pairD,rfl,by rw[u_,(aM w hw).len]⟩
 simp[kin];refine hK _ ?_;refine pE ?_;rintro K hK -;simp[KH aM h1 kj,e];refine hK _ ?_;simp;refine rJ us wishD (λw=>!undB us w) wishD ?_;simp;refine⟨by omega,λw hw=>?_,k1 _ ⟨_,rfl⟩⟩;have dk:∀u∈us,Wf n u:=λu hu=>aM u ((m u).mp hu)
 simp[J3 dk (dk w hw) hn (by omega)]
theorem w4{us:List (List (Int×Int))}(m:∀u,u∈us↔u∈ws)(w:List (Int×Int)):undB us w=undB ws w:=by
 unfold undB;rw[Rr,N5,N5];exact⟨λ⟨u,h,q⟩=>⟨u,(m u).mp h,q⟩,λ⟨u,h,q⟩=>⟨u,(m u).mpr h,q⟩⟩
theorem vO{p q:Int×Int}{a b:List (Int×Int)}:covB (p::a) (q::b)=true↔(p.1<=q.1/\q.2<=p.2)/\covB a b=true:=by
 unfold covB;rw[Om,Oy];simp
theorem B9:∀a:List (Int×Int),covB a a=true
 | []=>rfl
 | p::a=>vO.mpr ⟨⟨Int.le_refl _,Int.le_refl _⟩,B9 a⟩
theorem B5:∀{a b c:List (Int×Int)},a.length=b.length->b.length=c.length->covB a b=true->covB b c=true->covB a c=true
 | [],[],[],_,_,_,_=>rfl
 | p::a,q::b,r::c,h1,h2,x,y=>by
  rw[vO] at x y ⊢;exact⟨⟨So x.1.1 y.1.1,So y.1.2 x.1.2⟩,B5 (by simpa using h1) (by simpa using h2) x.2 y.2⟩
noncomputable def wd(w:List (Int×Int)):Nat:=(w.map λp=>(p.2 - p.1).toNat).sum
theorem AA:∀{a b:List (Int×Int)},a.length=b.length->(∀p∈b,p.1<=p.2)->covB a b=true->wd b<=wd a/\(wd b=wd a->a=b)
 | [],[],_,_,_=>⟨v_ _,λ_=>rfl⟩
 | p::a,q::b,h,ok,x=>by
  rw[vO] at x;obtain⟨h1,h2⟩:=AA (by simpa using h) (λp hp=>ok p (j_ _ hp)) x.2;have:=ok q m_;unfold wd at *;simp only[H_,sum_cons];refine⟨by omega,λe=>?_⟩;rw[h2 (by omega)];have e1:p.1=q.1:=by omega
  have e2:p.2=q.2:=by omega
  rw[Prod.ext e1 e2]
theorem E3:∀{n:Nat}{w:List (Int×Int)},Wf n w->wd w<=9*n
 | n,w,h=>by
  have:=h.len
  have aU:∀w:List (Int×Int),(∀p∈w,PairOk p)->wd w<=9*w.length:=by
   intro w
   induction w with
   | nil=>exact λ_=>v_ _
   | cons p w ih =>
    intro h;have h1:=ih λq hq=>h q (j_ _ hq)
    have h2:=h p m_;have:=h2.lo;have:=h2.hi;unfold wd at *;simp only[H_,sum_cons,NG];omega
  have:=aU w h.all;omega
theorem Wf.le2{w:List (Int×Int)}(h:Wf n w):∀p∈w,p.1<=p.2:=λp hp=>(h.all p hp).le
theorem yd{w:List (Int×Int)}:undB ws w=true↔∃u∈ws,u≠w/\covB u w=true:=by
 unfold undB;rw[N5];simp
theorem zm{n:Nat}{ws:List (List (Int×Int))}(aM:∀u∈ws,Wf n u):∀(k:Nat) (w:List (Int×Int)),w∈ws->9*n - wd w<=k->∃u∈ws,undB ws u=false/\covB u w=true
 | k,w,hw,hk=>by
  by_cases c:undB ws w=false
  ·exact⟨w,hw,c,B9 w⟩
  ·have c:undB ws w=true:=by simpa using c
   obtain⟨u,hu,ne,cv⟩:=yd.mp c;have lu:=(aM u hu).len;have lw:=(aM w hw).len;obtain⟨d1,d2⟩:=AA (by rw[lu,lw]) (aM w hw).le2 cv
   have lt:wd w < wd u:=by
    rcases Qu (wd w) (wd u) with z | z
    ·exact z
    ·exact absurd (d2 (Nat.le_antisymm d1 z)) ne
   have:=E3 (aM u hu)
   match k with
   | 0=>omega
   | k+1 =>
    obtain⟨m,hm,h1,h2⟩:=zm aM k u hu (by omega);have lm:=(aM m hm).len;exact⟨m,hm,h1,B5 (by rw[lm,lu]) (by rw[lu,lw]) h2 cv⟩
structure IsRoof(ws R:List (List (Int×Int))):Prop where
 up:(R.map wishD).Pairwise λa b=>leD a b=true
 nd:R.Nodup
 mem:∀w,w∈R↔w∈ws/\undB ws w=false
theorem IsRoof.alone{R S:List (List (Int×Int))}(a:IsRoof ws R)(b:IsRoof ws S):R=S:=Ev a.up b.up a.nd b.nd λw=>(a.mem w).trans (b.mem w).symm
theorem IsRoof.congr{vs R:List (List (Int×Int))}(a:IsRoof ws R)(m:∀u,u∈vs↔u∈ws):IsRoof vs R:=⟨a.up,a.nd,λw=>by rw[a.mem,m,w4 m]⟩
theorem yS(ws:List (List (Int×Int))):∃R,IsRoof ws R/\R.length<=ws.length:=by
 obtain⟨us,eu,mu,nu,ul⟩:=zM ws;have gM:=ut (dd (ws.map wishD));rw[eu] at gM;refine⟨us.filter λw=>!undB us w,⟨gM.sublist (Qw.map _),nu.filter _,λw=>?_⟩,z_ (Oa _ _) ul⟩;rw[K_,mu,w4 mu];simp
theorem A1{R:List (List (Int×Int))}(aM:∀u∈ws,Wf n u)(h1:1<=n)(hn:n<=3)(hl:ws.length<=18)(a:IsRoof ws R):coF tJ [.lst (ws.map wishD)]=some (R.map wishD):=by
 obtain⟨us,eu,mu,nu,ul⟩:=zM ws;have gM:=ut (dd (ws.map wishD));rw[eu] at gM
 have kj:(dd (ws.map wishD)).length<=18:=by
  have:=Bl (ws.map wishD);simp at this;omega
 rw[KZ aM h1 hn (by omega) kj eu mu ul]
 have:IsRoof ws (us.filter λw=>!undB us w):=⟨gM.sublist (Qw.map _),nu.filter _,λw=>by
  rw[K_,mu,w4 mu]
  simp⟩
 rw[this.alone a]
theorem IsRoof.over{R:List (List (Int×Int))}(a:IsRoof ws R)(aM:∀u∈ws,Wf n u){w:List (Int×Int)}(hw:w∈ws):∃u∈R,covB u w=true:=by
 obtain⟨u,h1,h2,h3⟩:=zm aM _ w hw (v_ _);exact⟨u,(a.mem u).mpr ⟨h1,h2⟩,h3⟩
theorem IsRoof.sub{R:List (List (Int×Int))}(a:IsRoof ws R){w:List (Int×Int)}(h:w∈R):w∈ws:=((a.mem w).mp h).1
theorem A3:∀{a b:List (Int×Int)}{l:List Int},a.length=b.length->covB a b=true->hasB b l=true->hasB a l=true
 | [],[],l,_,_,h=>by simpa[hasB] using h
 | p::a,q::b,[],_,_,h=>by simp[hasB]
 | p::a,q::b,n::l,e,c,h=>by
  rw[vO] at c;unfold hasB at h ⊢;rw[Om,Oy,Nx] at h ⊢;have h1:=A3 (l:=l) (by simpa using e) c.2 (by unfold hasB;exact h.2);unfold hasB at h1;refine⟨?_,h1⟩;have h2:=h.1;simp at h2 ⊢;omega
theorem B0:leftB ws l=true↔∀w∈ws,hasB w l=false:=by
 unfold leftB;rw[q_];simp
def AllIn(ws:List (List (Int×Int)))(p:List (Int×Int)):Prop:=∀l∈lettersR p,∃w∈ws,hasB w l=true
theorem Ky:firstL ws p=none↔AllIn ws p:=by
 unfold firstL AllIn;rw[QW];constructor
 ·intro h l hl;have:=h l hl;rw[B0] at this;simp at this;obtain⟨w,h1,h2⟩:=this;exact⟨w,h1,h2⟩
 ·rintro h l hl z;obtain⟨w,h1,h2⟩:=h l hl;rw[B0] at z;rw[z w h1] at h2;cases h2
noncomputable def inB1(ws:List (List (Int×Int)))(p:List (Int×Int)):Bool:=(firstL ws p).isNone
theorem K6:inB1 ws p=true↔AllIn ws p:=by
 unfold inB1;rw[Option.isNone_iff_eq_none,Ky]
theorem AllIn.mono{vs:List (List (Int×Int))}(h:AllIn ws p)(s:∀w∈ws,w∈vs):AllIn vs p:=λl hl=>by
 obtain⟨w,h1,h2⟩:=h l hl;exact⟨w,s w h1,h2⟩
noncomputable def butW(stay:List (List (Int×Int)))(w:List (Int×Int)):List (List (Int×Int)):=stay.filter λu=>!decide (u=w)
theorem CP{stay:List (List (Int×Int))}{w u:List (Int×Int)}:u∈butW stay w↔u∈stay/\u≠w:=by
 unfold butW;rw[K_];simp
noncomputable def spStep(stay:List (List (Int×Int)))(w:List (Int×Int)):List (List (Int×Int)):=if inB1 (butW stay w) w=true then butW stay w else stay
noncomputable def spareL(R:List (List (Int×Int))):List (List (Int×Int)):=R.foldl spStep R
theorem J7(stay:List (List (Int×Int)))(w:List (Int×Int)):(spStep stay w).Sublist stay:=by
 unfold spStep butW;split
 ·exact Qw
 ·exact PB _
theorem wA:∀(ps stay:List (List (Int×Int))),(ps.foldl spStep stay).Sublist stay
 | [],stay=>PB _
 | p::ps,stay=>(wA ps _).trans (J7 stay p)
theorem G8{stay:List (List (Int×Int))}{w:List (Int×Int)}(hw:Wf n w)(hl:l.length=n)(h:∃u∈stay,hasB u l=true):∃u∈spStep stay w,hasB u l=true:=by
 unfold spStep;split
 ·rename_i c;obtain⟨u,h1,h2⟩:=h;by_cases e:u=w
  ·subst e;exact K6.mp c l (yj.mpr ⟨by rw[hl,hw.len],h2⟩)
  ·exact⟨u,CP.mpr ⟨h1,e⟩,h2⟩
 ·exact h
theorem A4{n:Nat}{l:List Int}(hl:l.length=n):∀(ps stay:List (List (Int×Int))),(∀p∈ps,Wf n p)->(∃u∈stay,hasB u l=true)->∃u∈ps.foldl spStep stay,hasB u l=true
 | [],stay,_,h=>h
 | p::ps,stay,hp,h=>A4 hl ps _ (λq hq=>hp q (j_ _ hq)) (G8 (hp p m_) hl h)
theorem IsRoof.part{R K:List (List (Int×Int))}(a:IsRoof ws R)(s:K.Sublist R):IsRoof K K:=⟨a.up.sublist (s.map _),a.nd.sublist s,λw=>by
 constructor
 ·intro h;refine⟨h,?_⟩;rw[Sl];intro z;obtain⟨u,h1,h2,h3⟩:=yd.mp z;have:=((a.mem w).mp (s.subset h)).2;rw[yd.mpr ⟨u,a.sub (s.subset h1),h2,h3⟩] at this;cases this
 ·exact λh=>h.1⟩
theorem IsRoof.one(w:List (Int×Int)):IsRoof [w] [w]:=⟨List.pairwise_singleton _ _,by simp,λu=>by
 rw[r_];constructor
 ·rintro rfl;refine⟨rfl,?_⟩;simp[undB]
 ·exact λh=>h.1⟩
theorem FY{l:D}{x:D}:ixF (.tup [x,l]) (.int 0)=some x:=rfl
theorem Kw(hw:∀w∈ws,Wf n w)(hl:ws.length<=100)(hn:n<=3)(hp:Wf n p):∃x,cvF uz [.lst (ws.map wishD),wishD p]=some (.tup [.str (if inB1 ws p=true then "in" else "out"),x]):=by
 obtain⟨d,e,r⟩:=F7 hw hl hn hp
 rcases r with⟨l,h1,rfl⟩ | ⟨t,h1,_,_,rfl⟩
 ·refine⟨letD l,?_⟩;rw[if_neg (by unfold inB1;rw[h1];simp)];exact e
 ·refine⟨trD t,?_⟩;rw[if_pos (by unfold inB1;rw[h1];rfl)];exact e
theorem Ef:noLA (ws.map wishD)=true:=by
 have pr:∀w:List (Int×Int),noLA (w.map pairD)=true:=λw=>by
  induction w with
  | nil=>simp[noLA]
  | cons p w ih =>
   rw[H_,noLA,ih];simp[pairD,noL,noLA]
 induction ws with
 | nil=>simp[noLA]
 | cons w ws ih =>
  rw[H_,noLA,ih];simp[wishD,noL,pr]
theorem EH(aM:∀u∈ws,Wf n u)(h1:1<=n)(hn:n<=3)(hl:ws.length<=18)(a:IsRoof ws T)(lT:T.length<=ws.length){KE:Fl->Gm->Prop}(k1:∀af,(∃l,fin (map R.val [.lst (ws.map wishD)]) af=some l)->KE (.rt (.fro ((spareL T).map wishD))) af):wp vF [some (.val (.lst (ws.map wishD))),none,none,none,none] KE:=by
 have e1:=A1 aM h1 hn hl a;rw[vF];refine pE ?_;rintro K hK -;simp[e1];refine hK _ ?_;refine pE ?_;rintro K hK -;refine⟨_,_,rfl,hK _ ?_⟩;show wp _ [some (.val (.lst (ws.map wishD))),some (.fro (T.map wishD)),some (.fro (T.map wishD)),none,none] _;refine pE ?_;rintro K hK -;simp;refine rn (J:=λi Y=>∃x3 x4,Y=[some (.val (.lst (ws.map wishD))),some (.fro (T.map wishD)),some (.fro (((T.take i).foldl spStep T).map wishD)),x3,x4]) ⟨_,_,rfl⟩ ?_ ?_
 ·rintro i d Y hd ⟨x3,x4,rfl⟩ KL aD - - -;rw[y_,NA] at hd;obtain⟨w,hw,rfl⟩:=hd;have pf:=aM w (a.sub (B_ hw));have tk:T.take (i+1)=T.take i++[w]:=by rw[OU,hw];rfl
  rw[tk,QI] at aD;simp only[S0,List.foldl_nil] at aD;have sb:=wA (T.take i) T;generalize (T.take i).foldl spStep T=stay at *;have sl:=sb.length_le;have fG:∀u∈stay,Wf n u:=λu hu=>aM u (a.sub (sb.subset hu))
  have bl:(butW stay w).length<=100:=z_ (Oa _ _) (by omega);obtain⟨x,e2⟩:=Kw (ws:=butW stay w) (λu hu=>fG u (CP.mp hu).1) bl hn pf;simp;refine pE ?_;rintro K hK -;simp;refine rJ stay wishD (λu=>!decide (u=w)) wishD ?_;simp[wn];refine⟨by omega,λu hu=>.inl (by have:=wf (w:=u);omega),hK _ ?_⟩
  change wp _ [_,_,_,_,some (.fro ((butW stay w).map wishD))] _
  simp[e2,FY];by_cases c:inB1 (butW stay w) w=true
  ·rw[show spStep stay w=butW stay w from if_pos c] at aD;simp[c,deq,dep];exact aD _ ⟨_,_,rfl⟩
  ·rw[show spStep stay w=stay from if_neg c] at aD;simp[c,deq,dep];exact aD _ ⟨_,_,rfl⟩
 ·rintro Y ⟨x3,x4,rfl⟩;refine hK _ ?_;rw[u_,On];simp;exact k1 _ ⟨_,rfl⟩
theorem Ka(aM:∀u∈ws,Wf n u)(h1:1<=n)(hn:n<=3)(hl:ws.length<=18)(a:IsRoof ws T)(lT:T.length<=ws.length):coF vx [.lst (ws.map wishD)]=some ((spareL T).map wishD):=
 Ks rfl Ef λKE k1=>EH aM h1 hn hl a lT k1
def Adj(rs:List (Int×Int))(a b:Int):Prop:=(a,b)∈rs\/(b,a)∈rs
theorem Adj.symm{a b:Int}(h:Adj rs a b):Adj rs b a:=h.elim .inr .inl
structure Web(n:Nat)(rs:List (Int×Int))(rk:Int->Nat):Prop where
 n1:1<=n
 n8:n<=8
 lt:∀r∈rs,0<=r.1/\r.1 < r.2/\r.2 < n
 nd:rs.Nodup
 ne:∀a b,Adj rs a b->rk a≠rk b
 rk8:∀a b,Adj rs a b->rk a < 8
 one:∀v a b,Adj rs v a->Adj rs v b->rk a < rk v->rk b < rk v->a=b
def Par(rs:List (Int×Int))(rk:Int->Nat)(v p:Int):Prop:=Adj rs v p/\rk p < rk v
inductive Desc(rs:List (Int×Int))(rk:Int->Nat)(x:Int):Int->Prop where
 | refl:Desc rs rk x x
 | up {v p:Int} (a:Par rs rk v p) (d:Desc rs rk x p):Desc rs rk x v
noncomputable def Wl(N:Int->List Int):Nat->Option Int->Int->List Int
 | 0,_,h=>[h]
 | k+1,c,h=>h::((N h).filter λu=>decide (some u≠c)).flatMap (Wl N k (some h))
theorem vb{N:Int->List Int}:h∈Wl N k c h:=by
 cases k<;>exact m_
theorem sJ{N:Int->List Int}{v:Int}:v∈Wl N (k+1) c h↔v=h\/∃u,u∈N h/\some u≠c/\v∈Wl N k (some h) u:=by
 rw[Wl,D_,N6];simp only[K_,decide_eq_true_eq,and_assoc]
section
variable{rk:Int->Nat}{N:Int->List Int}
theorem Desc.rk_le{x v:Int}(h:Desc rs rk x v):rk x<=rk v:=by
 induction h with
 | refl=>exact v_ _
 | up a _ ih=>exact z_ ih (PY a.2)
theorem Desc.trans{x y v:Int}(h1:Desc rs rk x y)(h2:Desc rs rk y v):Desc rs rk x v:=by
 induction h2 with
 | refl=>exact h1
 | up a _ ih=>exact .up a ih
theorem Web.chain(W:Web n rs rk){a b v:Int}(h1:Desc rs rk a v)(h2:Desc rs rk b v):Desc rs rk a b\/Desc rs rk b a:=by
 induction h1 with
 | refl=>exact .inr h2
 | @up v p q d ih =>
  cases h2 with
  | refl=>exact .inl (.up q d)
  | @up _ p' q' d' =>
   have:=W.one v p p' q.1 q'.1 q.2 q'.2;subst this;exact ih d'
theorem Web.sib0(W:Web n rs rk){a b:Int}(pa:Par rs rk a h)(pb:Par rs rk b h)(d:Desc rs rk a b):a=b:=by
 cases d with
 | refl=>rfl
 | @up _ p q d' =>
  have:=W.one b p h q.1 pb.1 q.2 pb.2;subst this;have:=d'.rk_le;have:=pa.2;omega
theorem Web.sib(W:Web n rs rk){a b v:Int}(pa:Par rs rk a h)(pb:Par rs rk b h)(h1:Desc rs rk a v)(h2:Desc rs rk b v):a=b:=by
 rcases W.chain h1 h2 with d | d
 ·exact W.sib0 pa pb d
 ·exact(W.sib0 pb pa d).symm
def Side(rs:List (Int×Int))(rk:Int->Nat)(c h v:Int):Prop:=(rk c < rk h/\Desc rs rk h v)\/(rk h < rk c/\¬Desc rs rk c v)
theorem Web.side(W:Web n rs rk)(hN:∀v u,u∈N v↔Adj rs v u):∀(k:Nat) (c h:Int),Adj rs c h->∀v∈Wl N k (some c) h,Side rs rk c h v:=by
 have base:∀c h,Adj rs c h->Side rs rk c h h:=λc h a=>by
  have:=W.ne c h a;by_cases l:rk c < rk h
  ·exact .inl ⟨l,.refl⟩
  ·exact .inr ⟨by omega,λd=>by have:=d.rk_le;omega⟩
 intro k
 induction k with
 | zero=>intro c h a v hv;rw[Wl,r_] at hv;subst hv;exact base c v a
 | succ k ih =>
  intro c h a v hv
  rcases sJ.mp hv with rfl | ⟨u,hu,hc,hv⟩
  ·exact base c v a
  ·have au:=(hN h u).mp hu;have hc:u≠c:=λz=>hc (by rw[z])
   have s:=ih h u au v hv;have n1:=W.ne c h a;have n2:=W.ne h u au;by_cases l:rk c < rk h
   ·rcases s with⟨s1,s2⟩ | ⟨s1,_⟩
    ·exact .inl ⟨l,.trans (.up ⟨au.symm,s1⟩ .refl) s2⟩
    ·exact absurd (W.one h u c au a.symm s1 l) hc
   ·have l:rk h < rk c:=by omega
    have pc:Par rs rk c h:=⟨a,l⟩;refine .inr ⟨l,λd=>?_⟩
    rcases s with⟨s1,s2⟩ | ⟨s1,s2⟩
    ·exact hc (W.sib (h:=h) ⟨au.symm,s1⟩ pc s2 d)
    ·exact s2 (.trans (.up pc .refl) d)
theorem Web.back(W:Web n rs rk)(hN:∀v u,u∈N v↔Adj rs v u){c:Int}(a:Adj rs c h):c∉Wl N k (some c) h:=λm=>by
 rcases W.side hN k c h a c m with⟨s1,s2⟩ | ⟨_,s2⟩
 ·have:=s2.rk_le;omega
 ·exact s2 .refl
theorem Web.apart(W:Web n rs rk)(hN:∀v u,u∈N v↔Adj rs v u){a b v:Int}(ha:Adj rs h a)(hb:Adj rs h b)(h1:v∈Wl N k (some h) a)(h2:v∈Wl N k (some h) b):a=b:=by
 rcases W.side hN k h a ha v h1 with⟨s1,s2⟩ | ⟨s1,s2⟩<;>rcases W.side hN k h b hb v h2 with⟨t1,t2⟩ | ⟨t1,t2⟩
 ·exact W.sib (h:=h) ⟨ha.symm,s1⟩ ⟨hb.symm,t1⟩ s2 t2
 ·exact absurd (.trans (.up ⟨ha.symm,s1⟩ .refl) s2) t2
 ·exact absurd (.trans (.up ⟨hb.symm,t1⟩ .refl) t2) s2
 ·exact W.one h a b ha hb s1 t1
theorem BI{α Z:Type}{f:α->List Z}:∀{l:List α},l.Nodup->(∀x∈l,(f x).Nodup)->(∀x∈l,∀y∈l,∀v,v∈f x->v∈f y->x=y)->(l.flatMap f).Nodup
 | [],_,_,_=>RN
 | x::l,hn,h1,h2=>by
  rw[Nq,Rn];rw[N9] at hn;refine⟨h1 x m_,BI hn.2 (λy hy=>h1 y (j_ _ hy)) (λy hy z hz=>h2 y (j_ _ hy) z (j_ _ hz)),λv hv u hu e=>?_⟩;subst e;obtain⟨y,hy,cj⟩:=N6.mp hu;have:=h2 x m_ y (j_ _ hy) v hv cj;subst this;exact hn.1 hy
theorem Web.nodup(W:Web n rs rk)(hN:∀v u,u∈N v↔Adj rs v u)(hn:∀v,(N v).Nodup):∀(k:Nat) (c:Option Int) (h:Int),(Wl N k c h).Nodup:=by
 intro k
 induction k with
 | zero=>intro c h;rw[Wl];exact N9.mpr ⟨by simp,RN⟩
 | succ k ih =>
  intro c h;rw[Wl,N9];refine⟨λm=>?_,BI ((hn h).filter _) (λu hu=>ih _ _) λu hu v hv x h1 h2=>?_⟩
  ·obtain⟨u,hu,m⟩:=N6.mp m;exact W.back hN ((hN h u).mp (K_.mp hu).1) m
  ·exact W.apart hN ((hN h u).mp (K_.mp hu).1) ((hN h v).mp (K_.mp hv).1) h1 h2
noncomputable def mu(rk:Int->Nat):Option Int->Int->Nat
 | none,_=>18
 | some c,h=>if rk c < rk h then 8 - rk h else 9+rk h
theorem Web.mu_lt(W:Web n rs rk){u:Int}(hc:∀x,c=some x->Adj rs x h)(hu:Adj rs h u)(ne:some u≠c):mu rk (some h) u < mu rk c h:=by
 have n2:=W.ne h u hu;have r1:=W.rk8 h u hu;have r2:=W.rk8 u h hu.symm;cases c with
 | none=>simp only[mu];split<;>omega
 | some c =>
  have a:=hc c rfl;have n1:=W.ne c h a;simp only[mu];by_cases l:rk c < rk h
  ·rw[if_pos l];by_cases m:rk h < rk u
   ·rw[if_pos m];omega
   ·exact absurd (W.one h u c hu a.symm (by omega) l) (λz=>ne (by rw[z]))
  ·rw[if_neg l];split<;>omega
theorem Web.closed(W:Web n rs rk)(hN:∀v u,u∈N v↔Adj rs v u):∀(k:Nat) (c:Option Int) (h:Int),(∀x,c=some x->Adj rs x h)->mu rk c h < k->∀v u,v∈Wl N k c h->u∈N v->some u≠c->u∈Wl N k c h:=by
 intro k
 induction k with
 | zero=>intro c h _ hm;omega
 | succ k ih =>
  intro c h hc hm v u hv hu ne;rw[sJ]
  rcases sJ.mp hv with rfl | ⟨w,hw,mS,hv⟩
  ·exact .inr ⟨u,hu,ne,vb⟩
  ·by_cases e:u=h
   ·exact .inl e
   ·have aw:=(hN h w).mp hw;have:=W.mu_lt hc aw mS;exact .inr ⟨w,hw,mS,ih (some h) w (λx z=>by cases z;exact aw) (by omega) v u hv hu λz=>e (by cases z;rfl)⟩
theorem y3(S:Int->Prop)(c:Option Int)(hS:∀v u,S v->u∈N v->some u≠c->S u):∀(k:Nat) (c':Option Int) (h:Int),S h->(∀v∈Wl N k c' h,some v≠c)->∀v∈Wl N k c' h,S v:=by
 intro k
 induction k with
 | zero=>intro c' h hh _ v hv;rw[Wl,r_] at hv;subst hv;exact hh
 | succ k ih =>
  intro c' h hh hc v hv
  rcases sJ.mp hv with rfl | ⟨u,hu,mT,hv⟩
  ·exact hh
  ·refine ih (some h) u (hS h u hh hu (hc u (sJ.mpr (.inr ⟨u,hu,mT,vb⟩)))) (λw hw=>hc w (sJ.mpr (.inr ⟨u,hu,mT,hw⟩))) v hv
theorem Web.just(W:Web n rs rk)(hN:∀v u,u∈N v↔Adj rs v u)(hc:∀x,c=some x->Adj rs x h)(hm:mu rk c h < k){S:Int->Prop}(h0:S h)(hS:∀v u,S v->u∈N v->some u≠c->S u)(hW:∀v,S v->v∈Wl N k c h)(v:Int):S v↔v∈Wl N k c h:=by
 refine⟨hW v,λm=>y3 S c hS k c h h0 (λw hw z=>?_) v m⟩;subst z;exact W.back hN (hc w rfl) hw
end
noncomputable def webD(n:Nat)(rs:List (Int×Int)):D:=.tup [.int n,.tup (rs.map pairD)]
@[simp] theorem ML:ixF (webD n rs) (.int 0)=some (.int n):=rfl
@[simp] theorem Lg:ixF (webD n rs) (.int 1)=some (.tup (rs.map pairD)):=rfl
noncomputable def sortI(xs:List Int):List Int:=xs.mergeSort λa b=>decide (a<=b)
theorem uu(xs:List Int):(sortI xs).Perm xs:=O3 _ _
theorem Ja(xs:List Int):sortD (xs.map D.int)=(sortI xs).map D.int:=by
 unfold sortD sortI;refine(R7 λa _ b _=>?_).symm;unfold leD;rw[sw];by_cases h:a<=b
 ·rw[decide_eq_true h,decide_eq_false (by omega)];rfl
 ·rw[decide_eq_false h,decide_eq_true (by omega)];rfl
theorem KU{xs:List Int}:depA (xs.map D.int)<=0:=sO λd hd=>by
 obtain⟨n,_,rfl⟩:=w_.mp hd;simp[dep]
theorem yQ{xs:List Int}(h:xs.length < 64):sortF [.lst (xs.map D.int)]=some ((sortI xs).map D.int):=by
 rw[zJ,Ja];refine⟨by simpa using h,?_,by have:=KU (xs:=xs);omega,.inl ?_⟩
 ·unfold cmAll;rw[q_];intro a ha;rw[q_];intro b hb;obtain⟨i,_,rfl⟩:=w_.mp ha;obtain⟨j,_,rfl⟩:=w_.mp hb;rfl
 ·rw[q_];intro a ha;obtain⟨i,_,rfl⟩:=w_.mp ha;rfl
theorem wo{α Z:Type}{f:α->Z}:∀{l:List α},l.Nodup->(∀x∈l,∀y∈l,f x=f y->x=y)->(l.map f).Nodup
 | [],_,_=>RN
 | x::l,hn,h=>by
  rw[N9] at hn;rw[H_,N9];refine⟨λm=>?_,wo hn.2 λy hy z hz=>h y (j_ _ hy) z (j_ _ hz)⟩;obtain⟨y,hy,e⟩:=w_.mp m;have:=h y (j_ _ hy) x m_ e;subst this;exact hn.1 hy
noncomputable def nbL(rs:List (Int×Int))(h:Int):List Int:=(rs.filter λr=>decide (h=r.1)||decide (h=r.2)).map λr=>if r.1=h then r.2 else r.1
noncomputable def nbs(rs:List (Int×Int))(h:Int):List Int:=sortI (nbL rs h)
section
variable{rk:Int->Nat}
theorem Web.nb0(W:Web n rs rk)(h u:Int):u∈nbL rs h↔Adj rs h u:=by
 unfold nbL Adj;rw[w_];constructor
 ·rintro⟨⟨a,b⟩,hr,e⟩;rw[K_] at hr;obtain⟨hr,c⟩:=hr;simp only[Bool.or_eq_true,decide_eq_true_eq] at c;simp only at e;by_cases q:a=h
  ·rw[if_pos q] at e;subst q;subst e;exact .inl hr
  ·rw[if_neg q] at e;subst e
   rcases c with c | c
   ·exact absurd c.symm q
   ·subst c;exact .inr hr
 ·rintro(m | m)
  ·exact⟨(h,u),K_.mpr ⟨m,by simp⟩,if_pos rfl⟩
  ·have:=W.lt _ m;exact⟨(u,h),K_.mpr ⟨m,by simp⟩,if_neg (show ¬u=h by have:=this.2.1;simp only at this;omega)⟩
theorem Web.nb0_nodup(W:Web n rs rk)(h:Int):(nbL rs h).Nodup:=by
 unfold nbL;refine wo (QN.filter _ W.nd) λx hx y hy e=>?_
 obtain⟨a,b⟩:=x;obtain⟨c,d⟩:=y;rw[K_] at hx hy;have l1:=W.lt _ hx.1;have l2:=W.lt _ hy.1;have h1:=hx.2;have h2:=hy.2;simp only[Bool.or_eq_true,decide_eq_true_eq] at h1 h2;simp only at e l1 l2;rw[RV];split at e<;>split at e<;>omega
theorem Web.nb(W:Web n rs rk)(h u:Int):u∈nbs rs h↔Adj rs h u:=by
 unfold nbs;rw[(uu _).mem_iff];exact W.nb0 h u
theorem Web.nb_nodup(W:Web n rs rk)(h:Int):(nbs rs h).Nodup:=by
 unfold nbs;exact(uu _).symm.nodup (W.nb0_nodup h)
theorem Web.in_n(W:Web n rs rk){a b:Int}(h:Adj rs a b):0<=a/\a < n/\0<=b/\b < n:=by
 rcases h with h | h
 ·have:=W.lt _ h;simp only at this;omega
 ·have:=W.lt _ h;simp only at this;omega
theorem u3(hn:l.Nodup)(h:∀x∈l,0<=x/\x < m):l.length<=m:=by
 have:=wx l ((NY m).map λk:Nat=>(k:Int)) hn λx hx=>by
  obtain⟨h1,h2⟩:=h x hx;exact w_.mpr ⟨x.toNat,OE.mpr (by omega),by omega⟩
 simpa using this
theorem Web.nb_len(W:Web n rs rk)(h:Int):(nbL rs h).length<=n:=u3 (W.nb0_nodup h) λx hx=>by
 have:=W.in_n ((W.nb0 h x).mp hx);omega
theorem Web.rs_len(W:Web n rs rk):rs.length<=64:=by
 have:=wx rs ((NY 64).map λk:Nat=>(((k / 8:Nat):Int),((k % 8:Nat):Int))) W.nd λr hr=>by
  have:=W.lt r hr;have:=W.n8;refine w_.mpr ⟨r.1.toNat*8+r.2.toNat,OE.mpr (by omega),?_⟩;obtain⟨a,b⟩:=r;simp only at *;rw[RV];omega
 simpa using this
end
theorem zH(h0:0<=h)(h1:h < n):cvF uU [webD n rs,.int h]=some .non:=by
 refine rE rfl λKE _ k2=>?_
 rw[wE];simp[h0,h1];exact k2 _ rfl ⟨_,rfl⟩
theorem rp{a b:Int}:deq (.int a) (.int b)=decide (a=b):=by
 rw[deq];by_cases h:a=b<;>simp[h]
theorem Dc{a b:Int}:(a == b)=decide (a=b):=by
 by_cases h:a=b<;>simp[h]
theorem DI{a b:Int}:(a == b)=decide (b=a):=by
 by_cases h:b=a
 ·simp[h]
 ·have:¬a=b:=λz=>h z.symm
  simp[h,this]
theorem Jy{r:Int×Int}:inF false (.int h) (pairD r)=some (.bl (decide (h=r.1)||decide (h=r.2))):=by
 unfold inF;simp[pairD,seqI,deq,dep,depA,DI]
theorem BW{rk:Int->Nat}(W:Web n rs rk)(h0:0<=h)(h1:h < n):coF uQ [webD n rs,.int h]=some ((nbs rs h).map D.int):=by
 have e1:=zH (rs:=rs) h0 h1;have l1:=W.rs_len;have l2:=W.nb_len h;have l3:=W.n8;have e2:sortF [.lst ((nbL rs h).map D.int)]=some ((nbs rs h).map D.int):=yQ (by omega);refine sW rfl λKE k1=>?_
 rw[yA];refine pE ?_;rintro K hK -;simp[e1];refine hK _ ?_;simp;refine rJ rs pairD (λr=>decide (h=r.1)||decide (h=r.2)) (λr=>.int (if r.1=h then r.2 else r.1)) ?_;simp[Jy,dep,rp];refine⟨by omega,λa b _ _=>by split<;>intro z<;>first | exact absurd (by assumption) z | exact absurd z (by assumption),?_⟩
 have e3:map (λr=>D.int (if r.1=h then r.2 else r.1)) (filter (λr=>decide (h=r.1)||decide (h=r.2)) rs)=(nbL rs h).map D.int:=by
  unfold nbL;rw[Ro];rfl
 rw[e3,e2];simp;exact k1 _ ⟨_,rfl⟩
noncomputable def cameD:Option Int->D
 | none=>.non
 | some c=>.int c
theorem yD{u:Int}:deq (.int u) (cameD c)=decide (some u=c):=by
 cases c with
 | none=>simp[cameD,deq]
 | some c =>
  simp only[cameD,rp];by_cases h:u=c<;>simp[h]
theorem Web.wl_len{rk:Int->Nat}(W:Web n rs rk)(k:Nat)(c:Option Int)(h:Int)(h0:0<=h)(h1:h < n):(Wl (nbs rs) k c h).length<=n:=u3 (W.nodup W.nb W.nb_nodup k c h) λx hx=>by
 refine y3 (N:=nbs rs) (λv=>0<=v/\v < n) none (λv u _ hu _=>?_) k c h ⟨h0,h1⟩ (λv _ z=>by cases z) x hx;have:=W.in_n ((W.nb v u).mp hu);omega
theorem uR{rk:Int->Nat}(W:Web n rs rk){c:Int}(a:Adj rs c h):mu rk (some c) h < 20:=by
 have:=W.rk8 h c a.symm;simp only[mu];split<;>omega
noncomputable def mkR(a b:Int):Int×Int:=(if b < a then b else a,if b > a then b else a)
theorem v4{a b:Int}(h:a≠b):(mkR a b=(a,b)/\a < b)\/(mkR a b=(b,a)/\b < a):=by
 unfold mkR;by_cases l:b < a
 ·exact .inr ⟨by rw[if_pos l,if_neg (by omega)],l⟩
 ·exact .inl ⟨by rw[if_neg l,if_pos (by omega)],by omega⟩
structure LOk(m:Nat)(L:List (Nat×Nat)):Prop where
 inc:L.Pairwise λp q=>p.1 < q.1
 ok:∀q∈L,1<=q.1/\q.1 < m/\q.2 < q.1
theorem CG{L:List (Nat×Nat)}(h:L.Pairwise λp q=>p.1 < q.1){p q:Nat×Nat}(hp:p∈L)(hq:q∈L)(e:p.1=q.1):p=q:=by
 induction L with
 | nil=>cases hp
 | cons x L ih =>
  rw[PR] at h
  rcases D_.mp hp with gN | gN<;>rcases D_.mp hq with cF | cF
  ·rw[gN,cF]
  ·have:=h.1 q cF;rw[←gN] at this;omega
  ·have:=h.1 p gN;rw[←cF] at this;omega
  ·exact ih h.2 gN cF
noncomputable def atO(os:List Int)(k:Nat):Int:=os.getD k 0
noncomputable def roadsO(os:List Int)(L:List (Nat×Nat)):List (Int×Int):=L.map λq=>mkR (atO os q.1) (atO os q.2)
section
variable{os:List Int}{L:List (Nat×Nat)}
theorem wV(h:k < os.length):atO os k=os[k]:=by
 unfold atO;rw[h_,g_ h];rfl
theorem sj(nd:os.Nodup)(h:k < os.length):os.idxOf (atO os k)=k:=by
 rw[wV h];exact nd.idxOf_getElem k h
theorem sn(nd:os.Nodup)(hj:j < os.length)(hk:k < os.length)(e:atO os j=atO os k):j=k:=by
 have h1:=sj nd hj;rw[e,sj nd hk] at h1;exact h1.symm
theorem vC(hl:os.length=m)(nd:os.Nodup)(ok:LOk m L)(hp:rs.Perm (roadsO os L)){x y:Int}(h:Adj rs x y):∃q∈L,(x=atO os q.1/\y=atO os q.2)\/(x=atO os q.2/\y=atO os q.1):=by
 have go:∀a b,(a,b)∈rs->∃q∈L,(a=atO os q.1/\b=atO os q.2)\/(a=atO os q.2/\b=atO os q.1):=λa b h=>by
  rw[hp.mem_iff] at h;obtain⟨q,hq,e⟩:=w_.mp h;have o:=ok.ok q hq;have ne:atO os q.1≠atO os q.2:=λz=>by have:=sn nd (by omega) (by omega) z;omega
  refine⟨q,hq,?_⟩
  rcases v4 ne with⟨e1,_⟩ | ⟨e1,_⟩<;>rw[e1] at e<;>cases e
  ·exact .inl ⟨rfl,rfl⟩
  ·exact .inr ⟨rfl,rfl⟩
 rcases h with h | h
 ·exact go x y h
 ·obtain⟨q,hq,z⟩:=go y x h;exact⟨q,hq,z.elim (λz=>.inr ⟨z.2,z.1⟩) λz=>.inl ⟨z.2,z.1⟩⟩
theorem FB(hl:os.length=m)(nd:os.Nodup)(rng:∀x∈os,0<=x/\x < m)(ok:LOk m L)(m1:1<=m)(m8:m<=8)(hp:rs.Perm (roadsO os L)):Web m rs λv=>os.idxOf v:=by
 have gO:∀k,k < m->0<=atO os k/\atO os k < m:=λk hk=>by
  rw[wV (by omega)];exact rng _ (NS _)
 have nq:∀q∈L,atO os q.1≠atO os q.2:=λq hq z=>by
  have o:=ok.ok q hq;have:=sn nd (by omega) (by omega) z;omega
 refine⟨m1,m8,λr hr=>?_,hp.symm.nodup (wo (ok.inc.imp λh e=>by rw[e] at h;exact absurd h (Oq _)) λp kl q km e=>?_),λa b h=>?_,λa b h=>?_,λv a b ha hb la lb=>?_⟩
 ·rw[hp.mem_iff] at hr;obtain⟨q,hq,rfl⟩:=w_.mp hr;have o:=ok.ok q hq;have i1:=gO q.1 (by omega);have i2:=gO q.2 (by omega)
  rcases v4 (nq q hq) with⟨e,l⟩ | ⟨e,l⟩<;>rw[e]<;>simp only<;>omega
 ·have o:=ok.ok p kl;have o':=ok.ok q km;refine CG ok.inc kl km ?_
  rcases v4 (nq p kl) with⟨e1,_⟩ | ⟨e1,_⟩<;>rcases v4 (nq q km) with⟨e2,_⟩ | ⟨e2,_⟩<;>rw[e1,e2,RV] at e
  ·exact sn nd (by omega) (by omega) e.1
  ·have h1:=sn nd (by omega) (by omega) e.1;have h2:=sn nd (by omega) (by omega) e.2;omega
  ·have h1:=sn nd (by omega) (by omega) e.1;have h2:=sn nd (by omega) (by omega) e.2;omega
  ·exact sn nd (by omega) (by omega) e.2
 ·obtain⟨q,hq,z⟩:=vC hl nd ok hp h;have o:=ok.ok q hq
  rcases z with⟨rfl,rfl⟩ | ⟨rfl,rfl⟩<;>rw[sj nd (by omega),sj nd (by omega)]<;>omega
 ·obtain⟨q,hq,z⟩:=vC hl nd ok hp h;have o:=ok.ok q hq
  rcases z with⟨rfl,rfl⟩ | ⟨rfl,rfl⟩<;>rw[sj nd (by omega)]<;>omega
 ·obtain⟨q,hq,z⟩:=vC hl nd ok hp ha;obtain⟨q',cF,z'⟩:=vC hl nd ok hp hb;have o:=ok.ok q hq;have o':=ok.ok q' cF
  have e1:v=atO os q.1/\a=atO os q.2:=by
   rcases z with z | ⟨rfl,rfl⟩
   ·exact z
   ·rw[sj nd (by omega),sj nd (by omega)] at la;omega
  have e2:v=atO os q'.1/\b=atO os q'.2:=by
   rcases z' with z' | ⟨rfl,rfl⟩
   ·exact z'
   ·rw[sj nd (by omega),sj nd (by omega)] at lb;omega
  have:=CG ok.inc hq cF (sn nd (by omega) (by omega) (e1.1.symm.trans e2.1));subst this;rw[e1.2,e2.2]
end
theorem JB{p:Int×Int}:dep (pairD p)<=1:=by
 unfold pairD;simp[dep,depA]
noncomputable def sortP(ps:List (Int×Int)):List (Int×Int):=ps.mergeSort λp q=>leD (pairD p) (pairD q)
theorem yC{ps:List (Int×Int)}(h:ps.length < 64):∃rs:List (Int×Int),sortF [.lst (ps.map pairD)]=some (rs.map pairD)/\rs.Perm ps/\rs=sortP ps:=by
 refine⟨ps.mergeSort λp q=>leD (pairD p) (pairD q),?_,O3 _ _,rfl⟩;rw[zJ]
 ·unfold sortD;exact congrArg some (R7 (s:=leD) (f:=pairD) λa _ b _=>rfl).symm
 ·refine⟨by simpa using h,?_,?_,.inr (.inl ?_)⟩
  ·unfold cmAll;rw[q_];intro a ha;rw[q_];intro b hb;obtain⟨i,_,rfl⟩:=w_.mp ha;obtain⟨j,_,rfl⟩:=w_.mp hb;simp[pairD,cmB,cmA]
  ·refine z_ (sO (n:=1) λd hd=>?_) (by omega);obtain⟨p,_,rfl⟩:=w_.mp hd;exact JB
  ·rw[q_];intro a ha;obtain⟨i,_,rfl⟩:=w_.mp ha;rfl
abbrev WS:=List (List (Int×Int))
noncomputable def roofL(ws:WS):WS:=(yS ws).choose
theorem sS(ws:WS):IsRoof ws (roofL ws):=(yS ws).choose_spec.1
theorem Ar(ws:WS):(roofL ws).length<=ws.length:=(yS ws).choose_spec.2
noncomputable def shortL(sp:Bool)(ws:WS):WS:=if sp then spareL (roofL ws) else roofL ws
noncomputable def howD(sp:Bool):D:=.str (if sp then "spare" else "roof")
theorem Cn{ws:WS}{w:List (Int×Int)}(h:w∈shortL sp ws):w∈ws:=by
 unfold shortL at h;split at h
 ·exact(sS ws).sub ((wA _ _).subset h)
 ·exact(sS ws).sub h
theorem Hw{ws:WS}:(shortL sp ws).length<=ws.length:=by
 have:=Ar ws;unfold shortL;split
 ·exact z_ (wA _ _).length_le this
 ·exact this
theorem zD:deq (howD sp) (.str "spare")=sp/\deq (howD sp) (.str "roof")=!sp:=by
 cases sp<;>exact⟨by decide,by decide⟩
theorem Jz{ws:WS}(aM:∀u∈ws,Wf n u)(h1:1<=n)(hn:n<=3)(hl:ws.length<=18):coF vJ [howD sp,.lst (ws.map wishD)]=some ((shortL sp ws).map wishD):=by
 have e1:=A1 aM h1 hn hl (sS ws);have e2:=Ka aM h1 hn hl (sS ws) (Ar ws);refine sW rfl λKE k1=>?_
 rw[xf];refine pE ?_;rintro K hK hR;simp only[CD];cases sp with
 | true =>
  have q:=zD (sp:=true);simp[q.1,dep,e2];exact hR _ _ (k1 _ ⟨_,rfl⟩)
 | false =>
  have q:=zD (sp:=false);simp[q.1,dep];refine hK _ ?_;simp[e1];exact k1 _ ⟨_,rfl⟩
theorem Co{c:M Bool}{a b:M Fl}{Q:Fl->Gm->Prop}:wp (ifS c a b) Y Q↔wp c Y λk ac=>if k=true then wp a ac Q else wp b ac Q:=CD
theorem Au{rk:Int->Nat}(W:Web n rs rk)(h:Int):coF uy [webD n rs,.int h]=some ((nbs rs h).map D.int):=by
 have l1:=W.nb_len h;have l8:=W.n8;have e1:=yQ (xs:=nbL rs h) (by omega);refine sW rfl λKE k1=>?_
 rw[xh];refine pE ?_;rintro K hK -;refine⟨_,_,rfl,hK _ ?_⟩;show wp _ [some (.val (webD n rs)),some (.val (.int h)),some (.own []),none,none] _;refine pE ?_;rintro K hK -;simp;refine rn (J:=λi Y=>∃x3 x4,Y=[some (.val (webD n rs)),some (.val (.int h)),some (.own ((nbL (rs.take i) h).map D.int)),x3,x4]) ⟨none,none,rfl⟩ ?_ ?_
 ·rintro i d Y hd ⟨x3,x4,rfl⟩ KL aD - - -;rw[y_,NA] at hd;obtain⟨⟨a,b⟩,hr,rfl⟩:=hd;have tk:rs.take (i+1)=rs.take i++[(a,b)]:=by rw[OU,hr];rfl
  have lt:=W.lt _ (B_ hr);have ab:a < b:=lt.2.1
  have ln:(nbL (rs.take i) h).length<=64:=by
   unfold nbL;rw[u_];refine z_ (Oa _ _) ?_;rw[Pl];have:=W.rs_len;omega
  have ap:nbL (rs.take (i+1)) h=nbL (rs.take i) h++(if a=h then[b] else if b=h then[a] else[]):=by
   rw[tk];unfold nbL;rw[OV,O5]
   congr 1
   by_cases p:a=h
   ·subst p;simp
   ·by_cases q:b=h
    ·subst q;have:¬b=a:=λz=>p z.symm
     simp[p,this]
    ·have p':¬h=a:=λz=>p z.symm
     have q':¬h=b:=λz=>q z.symm
     simp[p,q,p',q']
  rw[ap] at aD;generalize nbL (rs.take i) h=ah at aD ln;simp[pairD];refine pE ?_;rintro K2 bn -;by_cases p:a=h
  ·have q:¬b=h:=by omega
   simp[dep,rp,p,isMut,R.mut];refine⟨by omega,bn _ ?_⟩;clear bn;simp[dep,rp,q];exact aD _ ⟨_,_,by simp[p];exact⟨rfl,rfl⟩⟩
  ·by_cases q:b=h
   ·simp[dep,rp,p];refine bn _ ?_;clear bn;simp[dep,rp,q,isMut,R.mut];exact⟨by omega,aD _ ⟨_,_,by simp[p,q];exact⟨rfl,rfl⟩⟩⟩
   ·simp[dep,rp,p];refine bn _ ?_;clear bn;simp[dep,rp,q];exact aD _ ⟨_,_,by simp[p,q];exact⟨rfl,rfl⟩⟩
 ·rintro Y ⟨x3,x4,rfl⟩;refine hK _ ?_;rw[u_,On];simp[e1];exact k1 _ ⟨_,rfl⟩
abbrev HS:=List (Int×List (Int×Int))
noncomputable def holdD(p:Int×List (Int×Int)):D:=.tup [.int p.1,wishD p.2]
@[simp] theorem MQ{p:Int×List (Int×Int)}:ixF (holdD p) (.int 0)=some (.int p.1):=rfl
@[simp] theorem Lv{p:Int×List (Int×Int)}:ixF (holdD p) (.int 1)=some (wishD p.2):=rfl
noncomputable def ownW(hs:HS)(h:Int):WS:=(hs.filter λp=>decide (p.1=h)).map (·.2)
noncomputable def argW(sp:Bool)(N:Int->List Int)(hs:HS)(pg:Option Int->Int->WS)(c:Option Int)(h:Int):WS:=ownW hs h++((N h).filter λu=>decide (some u≠c)).flatMap (pg (some h))
noncomputable def tl(sp:Bool)(N:Int->List Int)(hs:HS):Nat->Option Int->Int->WS
 | 0,_,_=>[]
 | k+1,c,h=>shortL sp (argW sp N hs (tl sp N hs k) c h)
noncomputable def bW(N:Int->List Int)(hs:HS)(k:Nat)(c:Option Int)(h:Int):WS:=(Wl N k c h).flatMap (ownW hs)
theorem Df{N:Int->List Int}{hs:HS}:bW N hs (k+1) c h=ownW hs h++((N h).filter λu=>decide (some u≠c)).flatMap (bW N hs k (some h)):=by
 unfold bW;rw[Wl,Nq,R6]
theorem yc{α Z:Type}{f g:α->List Z}:∀{l:List α},(∀x∈l,(f x).length<=(g x).length)->(l.flatMap f).length<=(l.flatMap g).length
 | [],_=>v_ _
 | x::l,h=>by
  have h1:=h x m_;have h2:=yc λy hy=>h y (j_ _ hy)
  rw[Nq,Nq,o_,o_];omega
theorem Ct{hs:HS}:∀{L:List Int},L.Nodup->(L.flatMap (ownW hs)).length<=hs.length:=by
 induction hs with
 | nil =>
  intro L _;have:L.flatMap (ownW [])=[]:=List.flatMap_eq_nil_iff.mpr λ_ _=>rfl
  rw[this];exact v_ _
 | cons p hs ih =>
  intro L nd
  have aU:∀L:List Int,L.Nodup->(L.flatMap (ownW (p::hs))).length=(L.flatMap (ownW hs)).length+(if p.1∈L then 1 else 0):=by
   intro L
   induction L with
   | nil=>intro _;simp
   | cons x L ih2 =>
    intro nd;rw[N9] at nd;have i:=ih2 nd.2;rw[Nq,Nq,o_,o_,i]
    have e:(ownW (p::hs) x).length=(ownW hs x).length+(if p.1=x then 1 else 0):=by
     unfold ownW;by_cases q:p.1=x
     ·rw[Po (by simpa using q),if_pos q];simp
     ·rw[OL (by simpa using q),if_neg q];rfl
    rw[e];by_cases q:p.1=x
    ·have:p.1∉L:=by rw[q];exact nd.1
     simp[q,this,nd.1];omega
    ·have:¬x=p.1:=λz=>q z.symm
     by_cases r:p.1∈L<;>simp[q,r]<;>omega
  rw[aU L nd,NG];have:=ih nd;split<;>omega
section
variable{rk:Int->Nat}{f:Nat}{hs:HS}
theorem yo{N:Int->List Int}:∀(k:Nat) (c:Option Int) (h:Int),(tl sp N hs k c h).length<=(bW N hs k c h).length
 | 0,_,_=>NK _
 | k+1,c,h=>by
  rw[tl,Df];refine z_ Hw ?_;unfold argW;rw[o_,o_];have:=yc (l:=(N h).filter λu=>decide (some u≠c)) (f:=tl sp N hs k (some h)) (g:=bW N hs k (some h)) λu _=>yo k (some h) u
  omega
theorem Dj{w:List (Int×Int)}(m:w∈ownW hs h):∃p∈hs,p.1=h/\p.2=w:=by
 obtain⟨p,hp,rfl⟩:=w_.mp m;rw[K_,decide_eq_true_eq] at hp;exact⟨p,hp.1,hp.2,rfl⟩
theorem vW{N:Int->List Int}(hw:∀p∈hs,Wf f p.2):∀(k:Nat) (c:Option Int) (h:Int),(∀w∈tl sp N hs k c h,Wf f w)/\∀w∈argW sp N hs (tl sp N hs k) c h,Wf f w
 | 0,c,h=>⟨λw m=>(by cases m),λw m=>by
  unfold argW at m
  rcases L_.mp m with m | m
  ·obtain⟨p,hp,_,rfl⟩:=Dj m;exact hw p hp
  ·obtain⟨u,_,m⟩:=N6.mp m;cases m⟩
 | k+1,c,h=>by
  have t:∀c h,∀w∈tl sp N hs (k+1) c h,Wf f w:=λc h w m=>(vW hw k c h).2 w (Cn m)
  refine⟨t c h,λw m=>?_⟩;unfold argW at m
  rcases L_.mp m with m | m
  ·obtain⟨p,hp,_,rfl⟩:=Dj m;exact hw p hp
  ·obtain⟨u,_,m⟩:=N6.mp m;exact t _ _ w m
theorem GW(W:Web n rs rk)(k:Nat)(c:Option Int)(h:Int):(argW sp (nbs rs) hs (tl sp (nbs rs) hs k) c h).length<=hs.length:=by
 have e:(argW sp (nbs rs) hs (tl sp (nbs rs) hs k) c h).length<=(bW (nbs rs) hs (k+1) c h).length:=by
  rw[Df];unfold argW;rw[o_,o_];have:=yc (l:=(nbs rs h).filter λu=>decide (some u≠c)) (f:=tl sp (nbs rs) hs k (some h)) (g:=bW (nbs rs) hs k (some h)) λu _=>yo k (some h) u
  omega
 exact z_ e (Ct (W.nodup W.nb W.nb_nodup _ _ _))
end
section
variable{rk:Int->Nat}{f:Nat}{hs:HS}
noncomputable def hsD(hs:HS):D:=.lst (hs.map holdD)
theorem BR{ps:HS}(l:ps.length<=1000):coF ua [.lst (ps.map holdD)]=some ((ps.map (·.2)).map wishD):=by
 refine sW rfl λKE k1=>?_
 rw[yw];simp;refine rJ ps holdD (λ_=>true) (λp=>wishD p.2) ?_;simp;refine⟨by omega,?_⟩;have:=k1 [some (.val (.lst (ps.map holdD)))] ⟨_,rfl⟩;rw[Ro] at this;exact this
theorem FA(W:Web n rs rk)(hw:∀p∈hs,Wf f p.2)(h1:1<=f)(hf:f<=3)(hl:hs.length<=18):∀(k:Nat) (c h:Int),Adj rs c h->mu rk (some c) h < k->coF (tq k) [webD n rs,hsD hs,howD sp,.int c,.int h]=some ((tl sp (nbs rs) hs k (some c) h).map wishD):=by
 intro k
 induction k with
 | zero=>intro c h _ hm;omega
 | succ k ih =>
  intro c h a hm;obtain⟨c0,c1,h0,iX⟩:=W.in_n a;have e1:=BW W h0 iX;have e2:=BR (ps:=hs.filter λp=>decide (p.1=h)) (z_ (Oa _ _) (by omega));have aw:=(vW (sp:=sp) (N:=nbs rs) hw k (some c) h).2;have al:=GW (sp:=sp) (hs:=hs) W k (some c) h;have e3:=Jz (sp:=sp) aw h1 hf (by omega);rw[tq];refine sW rfl λKE k1=>?_
  rw[vh];refine pE ?_;rintro K hK -;simp;refine rJ hs holdD (λp=>decide (p.1=h)) holdD ?_;simp[hsD,dep,rp];refine⟨by omega,λa b _=>Dc,?_⟩;simp[e2];refine hK _ ?_;refine pE ?_;rintro K hK -;simp[e1];refine rn (J:=λi Y=>∃x,Y=[some (.val (webD n rs)),some (.val (hsD hs)),some (.val (howD sp)),some (.val (.int c)),some (.val (.int h)),some (.own ((ownW hs h++(((nbs rs h).take i).filter λu=>decide (some u≠some c)).flatMap (tl sp (nbs rs) hs k (some h))).map wishD)),x]) ⟨none,?_⟩ ?_ ?_
  ·simp[hsD,ownW]
  ·rintro i d Y hd ⟨x,rfl⟩ KL aD - - -;rw[y_,NA] at hd;obtain⟨u,hu,rfl⟩:=hd;have tk:(nbs rs h).take (i+1)=(nbs rs h).take i++[u]:=by rw[OU,hu];rfl
   have au:=(W.nb h u).mp (B_ hu);rw[tk,OV,NW] at aD
   have cW:∀j,(ownW hs h++(((nbs rs h).take j).filter λu=>decide (some u≠some c)).flatMap (tl sp (nbs rs) hs k (some h))).length<=hs.length:=λj=>by
    refine z_ ?_ al;unfold argW;rw[o_,o_];have e:=NW (xs:=((nbs rs h).take j).filter λu=>decide (some u≠some c)) (ys:=((nbs rs h).drop j).filter λu=>decide (some u≠some c)) (f:=tl sp (nbs rs) hs k (some h));rw[←OV,O_] at e;rw[e,o_];omega
   have b1:=cW (i+1);rw[tk,OV,NW] at b1;rw[←Oc] at aD b1;generalize ownW hs h++(((nbs rs h).take i).filter λu=>decide (some u≠some c)).flatMap (tl sp (nbs rs) hs k (some h))=L at aD b1 ⊢;refine⟨_,_,rfl,?_⟩;show wp _ [some (.val (webD n rs)),some (.val (hsD hs)),some (.val (howD sp)),some (.val (.int c)),some (.val (.int h)),some (.own (L.map wishD)),some (.val (.int u))] _;refine Co.mpr ⟨decide (u≠c),[some (.val (webD n rs)),some (.val (hsD hs)),some (.val (howD sp)),some (.val (.int c)),some (.val (.int h)),some (.own (L.map wishD)),some (.val (.int u))],by simp[tst,op2,bnd,nm,lft,eqF,dep,rp,asB];exact Dc,?_⟩;dsimp only;by_cases uc:u=c
   ·rw[if_neg (by simp[uc])];exact⟨_,_,rfl,aD _ ⟨some (.val (.int u)),by simp[uc]⟩⟩
   ·have lt:=W.mu_lt (c:=some c) (λx z=>by cases z;exact a) au (λz=>uc (by cases z;rfl));have e4:=ih h u au (by omega);simp[uc] at b1;rw[if_pos (by simp[uc])];simp[isMut,R.mut,e4];exact⟨by omega,aD _ ⟨some (.val (.int u)),by simp[uc]⟩⟩
  ·rintro Y ⟨x,rfl⟩;refine hK _ ?_;rw[u_,On]
   change wp _ [some (.val (webD n rs)),some (.val (hsD hs)),some (.val (howD sp)),some (.val (.int c)),some (.val (.int h)),some (.own ((argW sp (nbs rs) hs (tl sp (nbs rs) hs k) (some c) h).map wishD)),x] _
   have tt:tl sp (nbs rs) hs (k+1) (some c) h=shortL sp (argW sp (nbs rs) hs (tl sp (nbs rs) hs k) (some c) h):=rfl;rw[tt] at k1;generalize argW sp (nbs rs) hs (tl sp (nbs rs) hs k) (some c) h=A at e3 k1 ⊢;simp[e3];exact k1 _ ⟨_,rfl⟩
end
@[simp] theorem Lf{l:List D}:lastF (.lst (l++[d]))=some d:=by simp[lastF]
@[simp ↓] theorem LL{Q:D->Gm->Prop}:wp (popV i) Y Q↔isMut Y i=true/\wp (look i) Y λl ac=>wp (lft (lastF l)) ac λd ag=>wp (wr i λds=>some ds.dropLast) ag λ_ aL=>Q d aL:=by
 simp only[popV,sC,ra,r9]
section
variable{rk:Int->Nat}{f:Nat}{hs:HS}
theorem wZ{xs:List D}:deq (.lst xs) (.lst [])=xs.isEmpty:=by
 cases xs<;>simp[deq,deqA]
theorem wT(W:Web n rs rk)(h0:0<=h)(h1:h < n){v:Int}(m:v∈Wl (nbs rs) k c h):0<=v/\v < n:=
 y3 (N:=nbs rs) (λv=>0<=v/\v < n) none (λv u _ hu _=>by have:=W.in_n ((W.nb v u).mp hu);omega) k c h ⟨h0,h1⟩ (λv _ z=>by cases z) v m
theorem Eh(W:Web n rs rk){c:Int}(a:Adj rs c h):∃l:List Int,coF uT [webD n rs,.int c,.int h]=some (l.map D.int)/\(∀v,v∈l↔v∈Wl (nbs rs) 20 (some c) h)/\l.length<=8:=by
 obtain⟨c0,c1,h0,h1⟩:=W.in_n a;have l8:=W.n8;have clo:=W.closed W.nb 20 (some c) h (λx z=>by cases z;exact a) (uR W a)
 have aU:wpF uT ([webD n rs,.int c,.int h].map .val) λr _=>∃l:List Int,r=.own (l.map D.int)/\(∀v,v∈l↔v∈Wl (nbs rs) 20 (some c) h)/\l.length<=8:=by
  refine so rfl λKE hE _=>?_
  rw[yX];refine pE ?_;rintro K hK -;refine⟨_,_,rfl,hK _ ?_⟩;refine pE ?_;rintro K hK -;refine⟨_,_,rfl,hK _ ?_⟩;show wp _ [some (.val (webD n rs)),some (.val (.int c)),some (.val (.int h)),some (.own [.int h]),some (.own [.int h]),none,none] _;refine pE ?_;rintro K hK -;obtain⟨J,hJ⟩:∃J:Nat->Gm->Prop,∀m Y,J m Y↔∃(F Q:List Int) (x5 x6:Option R),F.Nodup/\(∀v∈F,v∈Wl (nbs rs) 20 (some c) h)/\(∀v∈Q,v∈F)/\h∈F/\(∀v∈F,v∉Q->∀u∈nbs rs v,u≠c->u∈F)/\2*(8 - F.length)+Q.length<=m/\m<=15/\Y=[some (.val (webD n rs)),some (.val (.int c)),some (.val (.int h)),some (.own (F.map D.int)),some (.own (Q.map D.int)),x5,x6]:=⟨_,λ_ _=>Ss⟩;refine Cg J ?_ 100 15 _ (by omega) ((hJ _ _).mpr ⟨[h],[h],none,none,by simp,λv hv=>by rw[r_.mp hv];exact vb,λv hv=>hv,by simp,λv hv hn=>absurd hv hn,by simp,by omega,rfl⟩);intro m Y j;obtain⟨F,Q,x5,x6,nd,sub,qf,hF,cl,me,qu,rfl⟩:=(hJ _ _).mp j;clear j;have lF:F.length<=n:=u3 nd λv hv=>wT W h0 h1 (sub v hv)
  rcases PK Q with rfl | ⟨Q,q,rfl⟩
  ·simp[isMut,R.mut,wZ,dep];refine⟨by decide,hK _ ?_⟩;have e1:=yQ (xs:=F) (by omega);simp[e1];refine hE _ _ ⟨_,rfl,sortI F,rfl,λv=>?_,by rw[(uu _).length_eq];omega⟩;rw[(uu _).mem_iff];exact W.just W.nb (S:=λv=>v∈F) (λx z=>by cases z;exact a) (uR W a) hF (λv u hv hu uc=>cl v hv (by simp) u hu λz=>uc (by rw[z])) (λv hv=>sub v hv) v
  ·have hq:=qf q (by simp);have e1:=Au W q;rw[OY,o_,Oo] at me;obtain⟨m',rfl⟩:∃m',m=m'+1:=⟨m - 1,by omega⟩;simp[isMut,R.mut,dep];refine⟨.inr (by simp[depA]),λK1 nx _ _ _=>?_⟩;refine pE ?_;rintro K2 bn -;simp[isMut,R.mut];refine bn _ ?_;clear bn;simp[e1]
   refine rn (J:=λi Y=>∃(F2 Q2:List Int) (x6:Option R),Y=[some (.val (webD n rs)),some (.val (.int c)),some (.val (.int h)),some (.own (F2.map D.int)),some (.own (Q2.map D.int)),some (.val (.int q)),x6] ∧
    F2.Nodup/\(∀v∈F2,v∈Wl (nbs rs) 20 (some c) h)/\(∀v∈Q2,v∈F2)/\h∈F2/\q∈F2/\(∀v∈F2,v≠q->v∉Q2->∀u∈nbs rs v,u≠c->u∈F2)/\(∀u∈(nbs rs q).take i,u≠c->u∈F2)/\2*(8 - F2.length)+Q2.length<=m') ?_ ?_ ?_
   ·exact⟨F,Q,_,rfl,nd,sub,λv hv=>qf v (by simp[hv]),hF,hq,λv hv vq vQ=>cl v hv (by simp[vQ,vq]),by simp,by omega⟩
   ·rintro i d Y hd ⟨F2,Q2,x6,rfl,nd,sub,qf,hF,hq,cl,tk,me⟩ KL aD - - -;rw[y_,NA] at hd;obtain⟨u,hu,rfl⟩:=hd;have dY:(nbs rs q).take (i+1)=(nbs rs q).take i++[u]:=by rw[OU,hu];rfl
    have lF:F2.length<=n:=u3 nd λv hv=>wT W h0 h1 (sub v hv)
    have lQ:Q2.length<=17:=by omega
    refine⟨_,_,rfl,?_⟩;show wp _ [some (.val (webD n rs)),some (.val (.int c)),some (.val (.int h)),some (.own (F2.map D.int)),some (.own (Q2.map D.int)),some (.val (.int q)),some (.val (.int u))] _;by_cases uc:u=c
    ·simp[dep,rp,uc];refine aD _ ⟨F2,Q2,_,rfl,nd,sub,qf,hF,hq,cl,λx hx xc=>?_,me⟩;rw[dY] at hx
     rcases L_.mp hx with hx | hx
     ·exact tk x hx xc
     ·rw[r_.mp hx] at xc;exact absurd uc xc
    ·by_cases uF:u∈F2
     ·have an:¬ ∀x:Int,x∈F2->¬x=u:=λz=>z u uF rfl
      simp[dep,rp,uc];rw[if_neg an];refine aD _ ⟨F2,Q2,_,rfl,nd,sub,qf,hF,hq,cl,λx hx xc=>?_,me⟩;rw[dY] at hx
      rcases L_.mp hx with hx | hx
      ·exact tk x hx xc
      ·rw[r_.mp hx];exact uF
     ·have au:=(W.nb q u).mp (B_ hu);have uW:=clo q u (sub q hq) ((W.nb q u).mpr au) λz=>uc (by cases z;rfl)
      simp[dep,rp,uc];rw[if_pos (λ(x:Int) (hx:x∈F2) (e:x=u)=>uF (e▸hx))];refine pE ?_;rintro K3 mU -;simp[isMut,R.mut];refine⟨by omega,mU _ ?_⟩;clear mU;simp[isMut,R.mut];refine⟨by omega,aD _ ⟨F2++[u],Q2++[u],some (.val (.int u)),by simp,?_,?_,?_,by simp[hF],by simp[hq],?_,?_,?_⟩⟩
      ·rw[Rn];exact⟨nd,by simp,λx hx y hy e=>by rw[r_.mp hy] at e;exact uF (e▸hx)⟩
      ·intro v hv
       rcases L_.mp hv with hv | hv
       ·exact sub v hv
       ·rw[r_.mp hv];exact uW
      ·intro v hv
       rcases L_.mp hv with hv | hv
       ·exact NI _ (qf v hv)
       ·exact F_ _ hv
      ·intro v hv vq vQ x hx xc
       rcases L_.mp hv with hv | hv
       ·exact NI _ (cl v hv vq (λz=>vQ (NI _ z)) x hx xc)
       ·exact absurd (F_ _ hv) vQ
      ·intro x hx xc;rw[dY] at hx
       rcases L_.mp hx with hx | hx
       ·exact NI _ (tk x hx xc)
       ·exact F_ _ hx
      ·have l9:(F2++[u]).length<=n:=u3 (by
        rw[Rn];exact⟨nd,by simp,λx hx y hy e=>by rw[r_.mp hy] at e;exact uF (e▸hx)⟩) λv hv=>wT W h0 h1 (by
        rcases L_.mp hv with hv | hv
        ·exact sub v hv
        ·rw[r_.mp hv];exact uW)
       rw[o_,Oo] at l9;simp only[o_,Oo];omega
   ·rintro Y ⟨F2,Q2,x6,rfl,nd,sub,qf,hF,hq,cl,tk,me⟩;rw[u_,On] at tk;refine nx _ ((hJ _ _).mpr ⟨F2,Q2,_,_,nd,sub,qf,hF,λv hv vQ=>?_,me,by omega,rfl⟩);by_cases vq:v=q
    ·rw[vq];exact tk
    ·exact cl v hv vq vQ
 obtain⟨r,aW,e,l,rfl,h2,h3⟩:=aU;exact⟨l,by unfold coF;rw[e],h2,h3⟩
theorem Gv{x:Int}:((l.map D.int).any λd=>deq d (.int x))=decide (x∈l):=by
 by_cases h:x∈l
 ·rw[decide_eq_true h,N5];exact⟨.int x,w_.mpr ⟨x,h,rfl⟩,by simp[deq]⟩
 ·rw[decide_eq_false h,List.any_eq_false];intro d hd z;obtain⟨y,hy,rfl⟩:=w_.mp hd;rw[rp,decide_eq_true_eq] at z;subst z;exact h hy
theorem Jq:dep (hsD hs)<=5:=by
 have:depA (hs.map holdD)<=4:=sO λd hd=>by
  obtain⟨p,_,rfl⟩:=w_.mp hd;have:=HU (ws:=[p.2]);simp only[H_,List.map_nil,dep,depA] at this;simp only[holdD,dep,depA];omega
 unfold hsD;rw[dep];omega
end
theorem vH{QL:List D->Gm->Prop}(J:Nat->List D->Gm->Prop)(h:wp it Y λds ac=>ds.length<=lim/\J 0 [] ac/\(∀(i:Nat) d ah a ag,ds[i]?=some d->J i ah ag->wp (aE d) (a::ag) λ_ aL=>wp ts aL λb aS=>b=true/\wp el aS λx dQ=>∃a' fV,dQ=a'::fV/\J (i+1) (ah++[x]) fV)/\∀ah ag,J ds.length ah ag->QL ah ag):wp (compO 1 it aE ts el) Y QL:=by
 unfold compO;rw[ra];refine h.mono λds ac ⟨hl,h0,hs,hq⟩=>?_
 rw[if_pos hl]
 have aU:∀(es:List D) (i:Nat) (ah:List D) (a:Option R) (ag:Gm),ds.drop i=es->i<=ds.length->J i ah ag->∃r a' cG,compM aE ts el es (a::ag)=some (r,a'::cG)/\J ds.length (ah++r) cG:=by
  intro es
  induction es with
  | nil =>
   intro i ah a ag hd hi hj
   have:i=ds.length:=by
    have:=RC.mp hd;omega
   subst this;exact⟨[],a,ag,rfl,by simpa using hj⟩
  | cons d es ih =>
   intro i ah a ag hd hi hj
   have bH:i < ds.length:=by
    rcases Qu i ds.length with z | z
    ·exact z
    ·rw[Pu z] at hd;cases hd
   have e1:ds[i]?=some d:=by
    have:=NM bH;rw[hd] at this;cases this;exact g_ bH
   have e2:ds.drop (i+1)=es:=by
    have:=NM bH;rw[hd] at this;injection this with _ q
    exact q.symm
   obtain⟨_,aL,g1,b,aS,g2,rfl,x,dQ,g3,a',fV,rfl,bw⟩:=hs i d ah a ag e1 hj;obtain⟨r,ph,cG,g4,mV⟩:=ih (i+1) (ah++[x]) a' fV e2 bH bw;refine⟨x::r,ph,cG,?_,by simpa using mV⟩;rw[compM];unfold bnd;rw[g1];dsimp only;rw[g2];dsimp only;rw[if_pos rfl];rw[g3];dsimp only;rw[g4];rfl
 obtain⟨r,a',cG,e,hj⟩:=aU ds 0 [] none ac rfl (NK _) h0;refine⟨r,cG,?_,hq r cG (by simpa using hj)⟩;have e':compM aE ts el ds (NF 1 none++ac)=some (r,a'::cG):=e;unfold inC;rw[e'];rfl
@[simp ↓] theorem LB{Q:D->Gm->Prop}:wp (popAt i t) Y Q↔isMut Y i=true/\wp t Y λas aO=>wp (look i) aO λl ac=>wp (lft (pkF as l)) ac λd ag=>wp (wr i (ersF as)) ag λ_ aL=>Q d aL:=by
 simp only[popAt,sC,ra,r9]
theorem Kn{xs:List Int}{x:Nat}(h:x < xs.length)(l:xs.length < 1000):pkF [.int x] (.lst (xs.map D.int))=some (.int xs[x]):=by
 unfold pkF;dsimp only;rw[if_pos ⟨by omega,by omega⟩,Pc,y_,g_ h];rfl
theorem EB{xs:List Int}{x:Nat}:ersF [.int x] (xs.map D.int)=some ((xs.eraseIdx x).map D.int):=by
 unfold ersF;simp only[Pc]
 congr 1
 induction xs generalizing x with
 | nil=>rfl
 | cons y xs ih=>cases x with
  | zero=>rfl
  | succ x=>simp only[H_,OI,H_];rw[ih]
theorem JW{xs:List Int}{x:Nat}(h:x < xs.length):(xs[x]::xs.eraseIdx x).Perm xs:=by
 induction xs generalizing x with
 | nil=>cases h
 | cons y xs ih =>
  cases x with
  | zero=>exact Qk.refl _
  | succ x =>
   have:=ih (x:=x) (by simpa using h);simp only[Rm,OI];exact(swap y _ _).trans (this.cons y)
noncomputable def rngZ(n:Nat):List Int:=(NY n).map λk:Nat=>(k:Int)
theorem DJ(n:Nat):rngD 0 n=(rngZ n).map D.int:=by
 unfold rngD rngZ;rw[Ro];refine List.map_congr_left λk _=>?_
 simp
theorem IQ(n:Nat):(rngZ n).Nodup:=wo List.nodup_range λx _ y _ e=>by omega
theorem E1{a b:Int}:mkR a b=(min a b,max a b):=by
 unfold mkR;refine Prod.ext ?_ ?_
 ·simp only;split<;>omega
 ·simp only;split<;>omega
theorem He{c:List D}{Q:R->List D->Prop}(hc:PotOk c)(m1:1<=most)(m7:most<=7)(k:∀n rs rk c',Web n rs rk->PotOk c'->Q (.val (webD n rs)) c'):wpB wq c [.int most] Q:=by
 refine tV rfl λKE hE _=>?_
 rw[wH];refine pE ?_;rintro K hK -;simp[isMut,R.mut];refine rh hc (by omega) (by omega) λm0 c2 dz bN hc=>?_
 obtain⟨m,hm⟩:∃m:Nat,1+m0=m:=⟨(1+m0).toNat,by omega⟩;simp[hm];refine hK _ ?_;refine pE ?_;rintro K hK -;simp[isMut,R.mut];refine rh hc (by omega) (by omega) λway c3 o4 o5 hc=>?_
 simp;refine hK _ ?_;refine pE ?_;rintro K hK -;simp;refine⟨by omega,hK _ ?_⟩;rw[DJ];refine pE ?_;rintro K hK -;simp;obtain⟨J,hJ⟩:∃J:Nat->List D->Gm->Prop,∀i ah Y,J i ah Y↔∃(c:List D) (os aj:List Int),PotOk c/\ah=os.map D.int/\os.length=i/\(os++aj).Perm (rngZ m)/\Y=[some (.bor c),some (.val (.int most)),some (.val (.int m)),some (.val (.int way)),some (.own (aj.map D.int)),none,none,none,none,none]:=⟨_,λ_ _ _=>Ss⟩;have zl:(rngZ m).length=m:=by simp[rngZ]
 refine vH J ?_;simp;refine⟨by omega,by omega,(hJ _ _ _).mpr ⟨c3,[],rngZ m,hc,rfl,rfl,by simp,rfl⟩,?_,?_⟩
 ·intro i d ah ag hd j;obtain⟨c4,os,aj,hc,rfl,hi,pm,rfl⟩:=(hJ _ _ _).mp j
  have cg:i < m:=by
   have:=(p_.mp hd).1;simpa using this
  have ln:=pm.length_eq;rw[o_,zl] at ln;simp[isMut,R.mut];refine rh hc (by omega) (by omega) λx c5 kn mW hc=>?_
  obtain⟨x,rfl⟩:=Oh kn;have e1:=Kn (xs:=aj) (x:=x) (by omega) (by omega);have e2:=EB (xs:=aj) (x:=x);simp[e1,e2];refine⟨_,_,⟨rfl,rfl⟩,(hJ _ _ _).mpr ⟨c5,os++[aj[x]],aj.eraseIdx x,hc,by simp,by simp[hi],?_,rfl⟩⟩;rw[Oc];exact((JW (xs:=aj) (x:=x) (by omega)).append_left os).trans pm
 ·intro ah ag j;obtain⟨c4,os,aj,hc,rfl,hi,pm,rfl⟩:=(hJ _ _ _).mp j;have ln:=pm.length_eq;rw[o_,zl] at ln;have:aj=[]:=N_.mp (by omega);subst this;rw[N3] at pm;have nd:os.Nodup:=pm.symm.nodup (IQ m)
  have rg:∀x∈os,0<=x/\x < m:=λx hx=>by
   rw[pm.mem_iff] at hx;obtain⟨k,hk,rfl⟩:=w_.mp hx;have:=OE.mp hk;omega
  have hl:os.length=m:=by omega
  simp;refine hK _ ?_
  have mX:∀j,j < m->atI (os.map D.int) ((j:Nat):Int)=some (.int (atO os j)):=λj hj=>by
   rw[DL.rV,wV (by omega)];simp[hl,hj]
  refine pE ?_;rintro K hK -;refine⟨_,_,rfl,hK _ ?_⟩;show wp _ [some (.bor c4),some (.val (.int most)),some (.val (.int m)),some (.val (.int way)),some (.own []),some (.val (.lst (os.map D.int))),some (.own []),none,none,none] _;refine pE ?_;rintro K hK -;simp;refine⟨by omega,?_⟩;refine rn (J:=λi Y=>∃(c:List D) (L:List (Nat×Nat)) (x7 x8 x9:Option R),PotOk c/\LOk (i+1) L/\L.length<=i/\Y=[some (.bor c),some (.val (.int most)),some (.val (.int m)),some (.val (.int way)),some (.own []),some (.val (.lst (os.map D.int))),some (.own ((roadsO os L).map pairD)),x7,x8,x9]) ⟨c4,[],none,none,none,hc,⟨QN.nil,by simp⟩,v_ _,rfl⟩ ?_ ?_
  ·rintro i d Y hd ⟨c,L,x7,x8,x9,hc,ok,ll,rfl⟩ KL aD - - -;obtain⟨rfl,hi⟩:=uS hd;have up:LOk (i+1+1) L:=⟨ok.inc,λq hq=>by have:=ok.ok q hq;omega⟩;obtain⟨kk,ko⟩:∃kk:Nat,(1:Int)+i=kk:=⟨1+i,by omega⟩;rw[ko];have ln:(roadsO os L).length=L.length:=by simp[roadsO]
   simp;refine pE ?_;rintro K2 bn -;simp[isMut,R.mut];refine rh hc (by omega) (by omega) λj1 c5 pi pO hc=>?_
   simp;refine rh hc (by omega) (by omega) λj2 c6 pj pP hc=>?_
   have ix:∃j:Nat,j < kk/\atI [D.int ((kk:Int) - 1),D.int 0,D.int j1,D.int j2] way=some (.int j):=by
    have:way=0\/way=1\/way=2\/way=3:=by omega
    rcases this with rfl | rfl | rfl | rfl
    ·exact⟨kk - 1,by omega,by rw[show((kk - 1:Nat):Int)=(kk:Int) - 1 by omega];rfl⟩
    ·exact⟨0,by omega,rfl⟩
    ·obtain⟨j1,rfl⟩:=Oh pi;exact⟨j1,by omega,rfl⟩
    ·obtain⟨j2,rfl⟩:=Oh pj;exact⟨j2,by omega,rfl⟩
   obtain⟨j,hj,ix⟩:=ix;simp[ix];refine bn _ ?_;clear bn;refine pE ?_;rintro K2 bn -;have a1:=mX kk (by omega);have a2:=mX j (by omega);simp[a1,a2];refine bn _ ?_;clear bn
   have put:∀c7,PotOk c7->wp (appS 6 (nm 9)) [some (.bor c7),some (.val (.int most)),some (.val (.int m)),some (.val (.int way)),some (.own []),some (.val (.lst (os.map D.int))),some (.own ((roadsO os L).map pairD)),some (.val (.int kk)),some (.val (.int j)),some (.val (.tup [.int (min (atO os kk) (atO os j)),.int (max (atO os kk) (atO os j))]))] KL:=λc7 hc=>by
    simp[isMut,R.mut];refine⟨by omega,aD _ ⟨c7,L++[(kk,j)],some (.val (.int kk)),some (.val (.int j)),some (.val (.tup [.int (min (atO os kk) (atO os j)),.int (max (atO os kk) (atO os j))])),hc,⟨?_,?_⟩,by simp;omega,?_⟩⟩
    ·rw[List.pairwise_append];refine⟨ok.inc,by simp,λp hp q hq=>?_⟩;rw[r_.mp hq];have:=ok.ok p hp;simp only;omega
    ·intro q hq
     rcases L_.mp hq with hq | hq
     ·exact up.ok q hq
     ·rw[r_.mp hq];simp only;omega
    ·simp[roadsO,E1,pairD]
   by_cases w3:way < 3
   ·simp[w3,isMut,R.mut];simpa[isMut,R.mut] using put _ hc
   ·simp[w3,isMut,R.mut];refine rh hc (by omega) (by omega) λz c7 pk po hc=>?_
    simp;split
    ·simpa[isMut,R.mut] using put _ hc
    ·exact aD _ ⟨c7,L,_,_,_,hc,up,by omega,rfl⟩
  ·rintro Y ⟨c,L,x7,x8,x9,hc,ok,ll,rfl⟩;refine hK _ ?_;rw[yl] at ok ll;have mm:m - 1+1=m:=by omega
   rw[mm] at ok;obtain⟨rs,e1,hp,hs⟩:=yC (ps:=roadsO os L) (by simp[roadsO];omega);simp[e1];exact hE _ _ _ ⟨_,rfl⟩ (k m rs _ c (FB hl nd rg ok (by omega) (by omega) hp) hc)
theorem DS{f:Nat}{ws:WS}(aM:∀u∈ws,Wf f u)(hl:l.length=f):(∃w∈shortL sp ws,hasB w l=true)↔∃w∈ws,hasB w l=true:=by
 constructor
 ·rintro⟨w,hw,h⟩;exact⟨w,Cn hw,h⟩
 ·rintro⟨w,hw,h⟩;obtain⟨u,hu,c⟩:=(sS ws).over aM hw;have lu:=(aM u ((sS ws).sub hu)).len;have lw:=(aM w hw).len;have mY:∃u∈roofL ws,hasB u l=true:=⟨u,hu,A3 (by rw[lu,lw]) c h⟩;unfold shortL;split
  ·exact A4 hl _ _ (λp hp=>aM p ((sS ws).sub hp)) mY
  ·exact mY
noncomputable def wants(hs:HS)(l:List Int)(v:Int):Bool:=hs.any λp=>decide (p.1=v)&&hasB p.2 l
theorem zZ{hs:HS}{v:Int}:(∃w∈ownW hs v,hasB w l=true)↔wants hs l v=true:=by
 unfold wants ownW;rw[N5];constructor
 ·rintro⟨w,hw,h⟩;obtain⟨p,hp,rfl⟩:=w_.mp hw;rw[K_] at hp;exact⟨p,hp.1,by rw[hp.2,h];rfl⟩
 ·rintro⟨p,hp,h⟩;rw[Nx] at h;exact⟨p.2,w_.mpr ⟨p,K_.mpr ⟨hp,h.1⟩,rfl⟩,h.2⟩
theorem Bs{α Z:Type}{f g:α->List Z}{l:List α}(h:∀x∈l,f x=g x):l.flatMap f=l.flatMap g:=by
 induction l with
 | nil=>rfl
 | cons x l ih=>rw[Nq,Nq,h x m_,ih λy hy=>h y (j_ _ hy)]
theorem Gf{α Z:Type}{f g:α->List Z}(h:∀x,(f x).Sublist (g x)){l m:List α}(s:l.Sublist m):(l.flatMap f).Sublist (m.flatMap g):=by
 induction s with
 | slnil=>exact PB _
 | cons a _ ih=>rw[Nq];exact ih.trans (List.sublist_append_right _ _)
 | cons_cons a _ ih=>rw[Nq,Nq];exact(h a).append ih
section
variable{rk:Int->Nat}{f:Nat}{hs:HS}
theorem De(W:Web n rs rk)(hw:∀p∈hs,Wf f p.2)(hl:l.length=f):∀(k:Nat) (c:Option Int) (h:Int),(∀x,c=some x->Adj rs x h)->mu rk c h < k->((∃w∈tl sp (nbs rs) hs k c h,hasB w l=true)↔∃v∈Wl (nbs rs) k c h,wants hs l v=true)
 | 0,_,_,_,hm=>by omega
 | k+1,c,h,hc,hm=>by
  rw[tl,DS (vW (sp:=sp) (N:=nbs rs) hw k c h).2 hl];unfold argW
  have go:∀u,u∈nbs rs h->some u≠c->((∃w∈tl sp (nbs rs) hs k (some h) u,hasB w l=true)↔∃v∈Wl (nbs rs) k (some h) u,wants hs l v=true):=λu hu uc=>by
   have au:=(W.nb h u).mp hu;have lt:=W.mu_lt hc au uc;exact De W hw hl k (some h) u (λx z=>by cases z;exact au) (by omega)
  constructor
  ·rintro⟨w,eT,hb⟩
   rcases L_.mp eT with m | m
   ·exact⟨h,vb,zZ.mp ⟨w,m,hb⟩⟩
   ·obtain⟨u,hu,m⟩:=N6.mp m;rw[K_,decide_eq_true_eq] at hu;obtain⟨v,hv,z⟩:=(go u hu.1 hu.2).mp ⟨w,m,hb⟩;exact⟨v,sJ.mpr (.inr ⟨u,hu.1,hu.2,hv⟩),z⟩
  ·rintro⟨v,hv,z⟩
   rcases sJ.mp hv with rfl | ⟨u,hu,uc,hv⟩
   ·obtain⟨w,m,hb⟩:=zZ.mpr z;exact⟨w,NI _ m,hb⟩
   ·obtain⟨w,m,hb⟩:=(go u hu uc).mpr ⟨v,hv,z⟩;exact⟨w,F_ _ (N6.mpr ⟨u,K_.mpr ⟨hu,by simpa using uc⟩,m⟩),hb⟩
noncomputable def ldB(rs:List (Int×Int))(hs:HS)(l:List Int)(c h:Int):Bool:=(Wl (nbs rs) 20 (some c) h).any (wants hs l)
theorem Fn(W:Web n rs rk)(hw:∀p∈hs,Wf f p.2)(hl:l.length=f){c:Int}(a:Adj rs c h):(!((tl sp (nbs rs) hs 20 (some c) h).filter λw=>hasB w l).isEmpty)=ldB rs hs l c h:=by
 have:=De (sp:=sp) W hw hl 20 (some c) h (λx z=>by cases z;exact a) (uR W a);rw[Rr];unfold ldB;rw[N5,←this,Pv,Pb];simp only[K_]
noncomputable def RO(rs:List (Int×Int))(hs:HS)(l:List Int):Nat->Option Int->Int->List (Int×Int)
 | 0,_,_=>[]
 | k+1,c,h=>((nbs rs h).filter λu=>decide (some u≠c)&&ldB rs hs l h u).flatMap λu=>(h,u)::RO rs hs l k (some h) u
theorem zu(W:Web n rs rk):∀(k k':Nat) (c:Option Int) (h:Int),(∀x,c=some x->Adj rs x h)->mu rk c h < k->mu rk c h < k'->RO rs hs l k c h=RO rs hs l k' c h
 | 0,_,_,_,_,h1,_=>by omega
 | k+1,0,_,_,_,_,h2=>by omega
 | k+1,k'+1,c,h,hc,h1,h2=>by
  rw[RO,RO];refine Bs λu hu=>?_
  rw[K_,Nx,decide_eq_true_eq] at hu;have au:=(W.nb h u).mp hu.1;have lt:=W.mu_lt hc au hu.2.1;rw[zu W k k' (some h) u (λx z=>by cases z;exact au) (by omega) (by omega)]
theorem B7:∀(k:Nat) (c:Option Int) (h:Int),(h::(RO rs hs l k c h).map (·.2)).Sublist (Wl (nbs rs) k c h)
 | 0,_,_=>PB _
 | k+1,c,h=>by
  rw[RO,Wl,List.map_flatMap];refine List.Sublist.cons_cons _ (Gf (λu=>?_) ?_)
  ·rw[H_];exact B7 k (some h) u
  ·have:(nbs rs h).filter (λu=>decide (some u≠c)&&ldB rs hs l h u)=((nbs rs h).filter λu=>decide (some u≠c)).filter λu=>ldB rs hs l h u:=by
    rw[List.filter_filter];exact List.filter_congr λu _=>Bool.and_comm _ _
   rw[this];exact Qw
theorem vX(W:Web n rs rk)(h0:0<=h)(h1:h < n):(RO rs hs l k c h).length+1<=8:=by
 have:=(B7 (rs:=rs) (hs:=hs) (l:=l) k c h).length_le;have:=W.wl_len k c h h0 h1;have:=W.n8;rw[NG,u_] at *;omega
end
section
variable{rk:Int->Nat}{f:Nat}{hs:HS}
theorem DV(W:Web n rs rk)(hw:∀p∈hs,Wf f p.2)(h1:1<=f)(hf:f<=3)(hl:hs.length<=18)(ll:l.length=f){c:Int}(a:Adj rs c h):coF vK [webD n rs,hsD hs,howD sp,.int c,.int h,letD l]=some (((tl sp (nbs rs) hs 20 (some c) h).filter λw=>hasB w l).map wishD):=by
 have e1:=FA (sp:=sp) W hw h1 hf hl 20 c h a (uR W a);have tw:=(vW (sp:=sp) (N:=nbs rs) hw 20 (some c) h).1;have pQ:(tl sp (nbs rs) hs 20 (some c) h).length<=hs.length:=z_ (yo 20 (some c) h) (Ct (W.nodup W.nb W.nb_nodup _ _ _));generalize tl sp (nbs rs) hs 20 (some c) h=T at *;have hT:∀w∈T,cvF tm [wishD w,letD l]=some (.bl (hasB w l)):=λw m=>A9 (by rw[(tw w m).len,ll]) (by rw[(tw w m).len];omega)
 refine sW rfl λKE k1=>?_
 rw[xX];simp;refine rJ T wishD (λw=>hasB w l) wishD ?_;simp[e1];refine⟨by omega,λw m=>?_,k1 _ ⟨_,rfl⟩⟩;simp[hT w m]
theorem IA(W:Web n rs rk)(hw:∀p∈hs,Wf f p.2)(h1:1<=f)(hf:f<=3)(hl:hs.length<=18)(ll:l.length=f):∀(k:Nat) (c:Option Int) (h:Int),0<=h->h < n->(∀x,c=some x->Adj rs x h)->mu rk c h < k->cvF (sK k) [webD n rs,hsD hs,howD sp,cameD c,.int h,letD l]=some (.lst ((RO rs hs l k c h).map pairD)):=by
 intro k
 induction k with
 | zero=>intro c h _ _ _ hm;omega
 | succ k ih =>
  intro c h h0 iX hc hm;have e1:=BW W h0 iX;have jl:=vX (hs:=hs) (l:=l) (k:=k+1) (c:=c) W h0 iX;rw[RO] at jl ⊢;rw[sK];refine rE rfl λKE k1 _=>?_
  rw[vz];refine pE ?_;rintro K hK -;refine⟨_,_,rfl,hK _ ?_⟩;show wp _ [some (.val (webD n rs)),some (.val (hsD hs)),some (.val (howD sp)),some (.val (cameD c)),some (.val (.int h)),some (.val (letD l)),some (.own []),none] _;refine pE ?_;rintro K hK -;simp[e1];refine rn (J:=λi Y=>∃x,Y=[some (.val (webD n rs)),some (.val (hsD hs)),some (.val (howD sp)),some (.val (cameD c)),some (.val (.int h)),some (.val (letD l)),some (.own (((((nbs rs h).take i).filter λu=>decide (some u≠c)&&ldB rs hs l h u).flatMap λu=>(h,u)::RO rs hs l k (some h) u).map pairD)),x]) ⟨none,by simp⟩ ?_ ?_
  ·rintro i d Y hd ⟨x,rfl⟩ KL aD - - -;rw[y_,NA] at hd;obtain⟨u,hu,rfl⟩:=hd;have tk:(nbs rs h).take (i+1)=(nbs rs h).take i++[u]:=by rw[OU,hu];rfl
   have au:=(W.nb h u).mp (B_ hu)
   have cW:∀j,((((nbs rs h).take j).filter λu=>decide (some u≠c)&&ldB rs hs l h u).flatMap λu=>(h,u)::RO rs hs l k (some h) u).length+1<=8:=λj=>by
    have e:=NW (xs:=((nbs rs h).take j).filter λu=>decide (some u≠c)&&ldB rs hs l h u) (ys:=((nbs rs h).drop j).filter λu=>decide (some u≠c)&&ldB rs hs l h u) (f:=λu=>(h,u)::RO rs hs l k (some h) u);rw[←OV,O_] at e;rw[e,o_] at jl;omega
   have b1:=cW (i+1);rw[tk,OV,NW] at aD b1;rw[o_] at b1;generalize (((nbs rs h).take i).filter λu=>decide (some u≠c)&&ldB rs hs l h u).flatMap (λu=>(h,u)::RO rs hs l k (some h) u)=L at aD b1 ⊢;have e2:=DV (sp:=sp) W hw h1 hf hl ll au;have e3:=Fn (sp:=sp) W hw ll au;generalize (tl sp (nbs rs) hs 20 (some h) u).filter (λw=>hasB w l)=T at e2 e3;refine⟨_,_,rfl,?_⟩;show wp _ [some (.val (webD n rs)),some (.val (hsD hs)),some (.val (howD sp)),some (.val (cameD c)),some (.val (.int h)),some (.val (letD l)),some (.own (L.map pairD)),some (.val (.int u))] _;have dc:dep (cameD c)<=100:=by cases c<;>simp[cameD,dep]
   refine Co.mpr ⟨decide (some u≠c)&&ldB rs hs l h u,[some (.val (webD n rs)),some (.val (hsD hs)),some (.val (howD sp)),some (.val (cameD c)),some (.val (.int h)),some (.val (letD l)),some (.own (L.map pairD)),some (.val (.int u))],?_,?_⟩
   ·by_cases uc:some u=c
    ·simp[andT,tst,op2,bnd,nm,lft,eqF,dep,dc,yD,asB,uc,ret]
    ·rw[←e3];cases T with
     | nil=>simp[andT,tst,op2,bnd,nm,lft,eqF,dep,dc,yD,asB,uc,ret,fn1,consA,nilA,frz,e2,lenF,seqI]
     | cons w T=>simp[andT,tst,op2,bnd,nm,lft,eqF,dep,dc,yD,asB,uc,ret,fn1,consA,nilA,frz,e2,lenF,seqI]
   ·dsimp only;by_cases cc:(decide (some u≠c)&&ldB rs hs l h u)=true
    ·rw[if_pos cc];rw[Po (by exact cc)] at aD b1;rw[Nx,decide_eq_true_eq] at cc;have lt:=W.mu_lt hc au cc.1;have iu:=W.in_n au;have e4:=ih (some h) u iu.2.2.1 iu.2.2.2 (λx z=>by cases z;exact au) (by omega);have e4:cvF (sK k) [webD n rs,hsD hs,howD sp,.int h,.int u,letD l]=some (.lst ((RO rs hs l k (some h) u).map pairD)):=e4;simp at b1;refine pE ?_;rintro K hK -;simp[isMut,R.mut];refine⟨by omega,hK _ ?_⟩;simp[isMut,R.mut,e4];exact⟨by omega,aD _ ⟨some (.val (.int u)),by simp[pairD]⟩⟩
    ·rw[if_neg cc];rw[OL (by exact cc)] at aD;exact⟨_,_,rfl,aD _ ⟨some (.val (.int u)),by simp⟩⟩
  ·rintro Y ⟨x,rfl⟩;refine hK _ ?_;rw[u_,On];generalize List.flatMap _ _=L at *;simp;exact k1 _ ⟨_,rfl⟩
end
theorem Jk{ps:List (Int×Int)}(h:ps.Perm qs):(sortP ps).map pairD=(sortP qs).map pairD:=by
 have up:∀ps:List (Int×Int),((sortP ps).map pairD).Pairwise λa b=>leD a b=true:=λps=>by
  rw[QG];exact Q7 (le:=λp q=>leD (pairD p) (pairD q)) (λa b c=>BC (pairD a) (pairD b) (pairD c)) (λa b=>AH (pairD a) (pairD b)) ps
 have pm:∀ps:List (Int×Int),(sortP ps).Perm ps:=λps=>O3 _ _
 refine uO _ _ ((((pm ps).trans h).trans (pm qs).symm).map _) (up ps) (up qs) λa ha b hb l1 l2=>?_
 obtain⟨x,_,rfl⟩:=w_.mp ha;obtain⟨y,_,rfl⟩:=w_.mp hb;have c:cmB (pairD x) (pairD y)=true:=by simp[pairD,cmB,cmA]
 refine um _ _ c ?_;rw[sY _ _ c];unfold leD at l1 l2;rw[l1,l2];rfl
theorem EV{ps:List (Int×Int)}{p:Int×Int}:p∈sortP ps↔p∈ps:=(O3 _ _).mem_iff
noncomputable def hAt(hs:HS)(k:Nat):Int×List (Int×Int):=hs.getD k (0,[])
theorem Bz{hs:HS}(h:k < hs.length):hs[k]?=some (hAt hs k):=by
 unfold hAt;rw[h_,g_ h];rfl
noncomputable def gvK(hs:HS)(P:Int×List (Int×Int)->Bool):List D:=((NY hs.length).filter λk=>P (hAt hs k)).map λk:Nat=>D.int k
theorem CT:∀(hs:HS) (n:Nat),numD n (hs.map holdD)=(hs.zipIdx n).map λq=>D.tup [.int q.2,holdD q.1]
 | [],n=>rfl
 | p::hs,n=>by
  rw[H_,numD,CT hs (n+1),Q6,H_]
theorem IY{hs:HS}:hs.zipIdx 0=(NY hs.length).map λk=>(hAt hs k,k):=by
 refine List.ext_getElem? λi=>?_
 rw[List.getElem?_zipIdx,y_];by_cases h:i < hs.length
 ·rw[Bz h,List.getElem?_range h];simp
 ·rw[O7 (by omega),O7 (by simpa using h)];rfl
theorem E8{hs:HS}{P:Int×List (Int×Int)->Bool}:((hs.zipIdx 0).filter λq=>P q.1).map (λq=>D.int q.2)=gvK hs P:=by
 rw[IY,List.filter_map,Ro];rfl
section
variable{rk:Int->Nat}{f:Nat}{hs:HS}
noncomputable def gvL(hs:HS)(l:List Int)(S:List Int):List D:=gvK hs λp=>decide (p.1∈S)&&hasB p.2 l
theorem JG{S T:List Int}(h:∀v,v∈S↔v∈T):gvL hs l S=gvL hs l T:=by
 unfold gvL
 congr 1
 funext p
 simp[h]
theorem GX(W:Web n rs rk)(hw:∀p∈hs,Wf f p.2)(h1:1<=f)(hf:f<=3)(hl:hs.length<=18)(ll:l.length=f)(h0:0<=h)(hn:h < n):ctF uf [webD n rs,hsD hs,howD sp,.int h,letD l]=some [.lst ((sortP (RO rs hs l 20 none h)).map pairD),.lst (gvL hs l (h::(sortP (RO rs hs l 20 none h)).map (·.2)))]:=by
 have e1:=BR (ps:=hs) (by omega)
 have e2:cvF rL [.lst (letD l::(hs.map (·.2)).map wishD)]=some .non:=wv (n:=f) λd hd=>by
  rcases D_.mp hd with rfl | hd
  ·exact⟨_,rfl,by rw[u_];exact ll⟩
  ·obtain⟨w,eT,rfl⟩:=w_.mp hd;obtain⟨p,hp,rfl⟩:=w_.mp eT;exact⟨_,rfl,by rw[u_];exact(hw p hp).len⟩
 have e3:=zH (rs:=rs) h0 hn;have e4:=IA (sp:=sp) W hw h1 hf hl ll 20 none h h0 hn (λx z=>by cases z) (by simp[mu]);have e4:cvF (sK 20) [webD n rs,hsD hs,howD sp,.non,.int h,letD l]=some (.lst ((RO rs hs l 20 none h).map pairD)):=e4;have l8:=vX (hs:=hs) (l:=l) (k:=20) (c:=none) W h0 hn;obtain⟨S,e5,pS,hS⟩:=yC (ps:=RO rs hs l 20 none h) (by omega);rw[←hS];have lS:=pS.length_eq
 have hT:∀q:(Int×List (Int×Int))×Nat,q∈hs.zipIdx 0->cvF tm [wishD q.1.2,letD l]=some (.bl (hasB q.1.2 l)):=λq m=>by
  have:=List.fst_mem_of_mem_zipIdx m;exact A9 (by rw[(hw _ this).len,ll]) (by rw[(hw _ this).len];omega)
 have aU:wpF uf ([webD n rs,hsD hs,howD sp,.int h,letD l].map .val) λr _=>r=.tfr [.lst (S.map pairD),.lst (gvL hs l (h::S.map (·.2)))]:=by
  refine so rfl λKE hE _=>?_
  rw[yO];refine pE ?_;rintro K hK -
  change coF ua [hsD hs]=_ at e1
  have lw:((hs.map (·.2)).map wishD).length=hs.length:=by simp
  generalize (hs.map (·.2)).map wishD=ws at e1 e2 lw;simp[e1,e2];refine⟨by omega,hK _ ?_⟩;refine pE ?_;rintro K hK -;simp[e3];refine hK _ ?_;refine pE ?_;rintro K hK -;simp[e4,e5];refine hK _ ?_;refine pE ?_;rintro K hK -;simp;refine rJ S pairD (λ_=>true) (λp=>.int p.2) ?_;simp;refine⟨by omega,by omega,hK _ ?_⟩;have eR:D.int h::S.map (λp=>D.int p.2)=(h::S.map (·.2)).map D.int:=by rw[H_,Ro];rfl
  rw[eR];generalize h::S.map (·.2)=Rc at hE ⊢;refine pE ?_;rintro K hK -;simp;refine sU (hs.zipIdx 0) (λq=>.tup [.int q.2,holdD q.1]) (λq=>decide (q.1.1∈Rc)&&hasB q.1.2 l) (λq=>.int q.2) ?_;simp[hsD,CT];refine⟨by omega,λa b q m=>?_,hK _ ?_⟩
  ·have hT:=hT _ m;by_cases c:a∈Rc
   ·simp[c,hT]
   ·simp[c]
  ·rw[E8 (P:=λp=>decide (p.1∈Rc)&&hasB p.2 l)];exact⟨_,_,rfl,hE _ _ ⟨_,rfl,rfl⟩⟩
 obtain⟨r,aW,e,rfl⟩:=aU;unfold ctF;rw[e]
end
noncomputable def cmO(a:Int):Option Int:=if a < 0 then none else some a
noncomputable def ROg(rs:List (Int×Int))(hs:HS)(l:List Int)(g:Int×Int):List (Int×Int):=RO rs hs l 20 (cmO g.2) g.1
theorem AE{α Z:Type}{a:α->Z}{b:α->List Z}:∀S:List α,(S.map a++S.flatMap b).Perm (S.flatMap λu=>a u::b u)
 | []=>Qk.refl _
 | u::S=>by
  rw[H_,Nq,Nq,RJ,RJ];refine Qk.cons _ ?_;exact(Qi _ _ _).trans ((AE S).append_left _)
section
variable{rk:Int->Nat}{f:Nat}{hs:HS}
def GoOk(n:Nat)(rs:List (Int×Int))(g:Int×Int):Prop:=0<=g.1/\g.1 < n/\∀x,cmO g.2=some x->Adj rs x g.1
theorem mu_c(W:Web n rs rk)(hc:∀x,c=some x->Adj rs x h):mu rk c h < 20:=by
 cases c with
 | none=>simp[mu]
 | some c=>exact uR W (hc c rfl)
noncomputable def onB(rs:List (Int×Int))(hs:HS)(l:List Int)(g:Int×Int)(u:Int):Bool:=decide (some u≠cmO g.2)&&ldB rs hs l g.1 u
theorem G9(W:Web n rs rk){g:Int×Int}(hg:GoOk n rs g):ROg rs hs l g=((nbs rs g.1).filter (onB rs hs l g)).flatMap λu=>(g.1,u)::ROg rs hs l (u,g.1):=by
 have m:=mu_c W hg.2.2;unfold ROg;rw[RO];refine Bs λu hu=>?_
 rw[K_,Nx,decide_eq_true_eq] at hu;have au:=(W.nb g.1 u).mp hu.1;have lt:=W.mu_lt hg.2.2 au hu.2.1;have:cmO g.1=some g.1:=if_neg (by have:=hg.1;omega);rw[this,zu W 19 20 (some g.1) u (λx z=>by cases z;exact au) (by omega) (by omega)]
theorem En(W:Web n rs rk){g:Int×Int}{u:Int}(hg:GoOk n rs g)(hu:u∈nbs rs g.1):GoOk n rs (u,g.1):=by
 have au:=(W.nb g.1 u).mp hu;have:=W.in_n au
 exact⟨this.2.2.1,this.2.2.2,λx z=>by
  have:cmO g.1=some g.1:=if_neg (by have:=hg.1;omega)
  rw[this] at z;cases z;exact au⟩
noncomputable def wishedL(hs:HS)(l:List Int):List Int:=(hs.filter λp=>hasB p.2 l).map (·.1)
theorem EG{c:Int}(m:∀v,v∈lb↔v∈Wl (nbs rs) 20 (some c) h):(!((wishedL hs l).filter λv=>decide (v∈lb)).isEmpty)=ldB rs hs l c h:=by
 rw[Rr];unfold ldB wants;rw[N5,Pv,Pb];constructor
 ·rintro⟨v,hv⟩;rw[K_,decide_eq_true_eq,m] at hv;obtain⟨p,hp,rfl⟩:=w_.mp hv.1;rw[K_] at hp;exact⟨p.1,hv.2,N5.mpr ⟨p,hp.1,by rw[hp.2];simp⟩⟩
 ·rintro⟨v,hv,z⟩;obtain⟨p,hp,z⟩:=N5.mp z;rw[Nx,decide_eq_true_eq] at z;exact⟨v,K_.mpr ⟨w_.mpr ⟨p,K_.mpr ⟨hp,z.2⟩,z.1⟩,by rw[decide_eq_true_eq,m];exact hv⟩⟩
theorem Ei(W:Web n rs rk)(hw:∀p∈hs,Wf f p.2)(hf:f<=3)(hl:hs.length<=18)(ll:l.length=f)(h0:0<=h)(hn:h < n):cvF v6 [webD n rs,hsD hs,.int h,letD l]=some (.tup [.lst ((sortP (RO rs hs l 20 none h)).map pairD),.lst (gvL hs l (h::(sortP (RO rs hs l 20 none h)).map (·.2)))]):=by
 have hT:∀p∈hs,cvF tz [wishD p.2,letD l]=some (.bl (hasB p.2 l)):=λp m=>FW (by rw[(hw _ m).len,ll]) (by rw[(hw _ m).len];omega)
 have l8:=vX (hs:=hs) (l:=l) (k:=20) (c:=none) W h0 hn;refine rE rfl λKE k1 _=>?_
 rw[xi];refine pE ?_;rintro K hK -;simp;refine sU hs holdD (λp=>hasB p.2 l) (λp=>.int p.1) ?_;simp[hsD,holdD];refine⟨by omega,λa b m=>by simp[hT _ m],hK _ ?_⟩;have e0:map (λp:Int×List (Int×Int)=>D.int p.1) (hs.filter λp=>hasB p.2 l)=(wishedL hs l).map D.int:=by unfold wishedL;rw[Ro];rfl
 rw[e0]
 have lw:(wishedL hs l).length<=18:=by
  unfold wishedL;rw[u_];exact z_ (Oa _ _) hl
 refine pE ?_;rintro K hK -;refine⟨_,_,rfl,hK _ ?_⟩;refine pE ?_;rintro K hK -;refine⟨_,_,rfl,hK _ ?_⟩;refine pE ?_;rintro K hK -;refine⟨_,_,rfl,hK _ ?_⟩;show wp _ [some (.val (webD n rs)),some (.val (hsD hs)),some (.val (.int h)),some (.val (letD l)),some (.val (.lst ((wishedL hs l).map D.int))),some (.own []),some (.own [.int h]),some (.own [pairD (h,-1)]),none,none,none,none,none] _;refine pE ?_;rintro K hK -;obtain⟨J,hJ⟩:∃J:Nat->Gm->Prop,∀m Y,J m Y↔∃(rd go:List (Int×Int)) (x8 x9 bp bc:Option R),(rd++go.flatMap (ROg rs hs l)).Perm (RO rs hs l 20 none h)/\(∀g∈go,GoOk n rs g)/\go.length+(go.flatMap (ROg rs hs l)).length<=m/\m<=8/\Y=[some (.val (webD n rs)),some (.val (hsD hs)),some (.val (.int h)),some (.val (letD l)),some (.val (.lst ((wishedL hs l).map D.int))),some (.own (rd.map pairD)),some (.own ((h::rd.map (·.2)).map D.int)),some (.own (go.map pairD)),x8,x9,bp,bc,none]:=⟨_,λ_ _=>Ss⟩;refine Cg J ?_ 100 8 _ (by omega) ((hJ _ _).mpr ⟨[],[(h,-1)],none,none,none,none,by simp[ROg,cmO],λg hg=>?_,by simp[ROg,cmO];omega,by omega,rfl⟩)
 case refine_2 =>
  rw[r_] at hg;subst hg;exact⟨h0,hn,λx z=>by simp[cmO] at z⟩
 intro m Y j;obtain⟨rd,go,x8,x9,bp,bc,pm,ok,me,m8,rfl⟩:=(hJ _ _).mp j;clear j;have lt:=pm.length_eq;rw[o_] at lt
 rcases PK go with rfl | ⟨go,g,rfl⟩
 ·rw[RK,N3] at pm;simp[isMut,R.mut,wZ,dep];refine⟨by decide,hK _ ?_⟩;obtain⟨S,e5,pS,hS⟩:=yC (ps:=rd) (by rw[pm.length_eq];omega);have same:=Jk pm;rw[←hS] at same;rw[←same] at k1
  have gs:gvL hs l (h::rd.map (·.2))=gvL hs l (h::(sortP (RO rs hs l 20 none h)).map (·.2)):=JG λv=>by
   rw[D_,D_,(pm.map _).mem_iff];simp only[w_,EV]
  rw[←gs] at k1;have eR:D.int h::map (D.int∘λx=>x.2) rd=(h::rd.map (·.2)).map D.int:=by rw[H_,Ro]
  rw[eR];generalize h::rd.map (·.2)=Rc at *;refine pE ?_;rintro K hK -;simp;refine rJ (NY hs.length) (λk:Nat=>.int k) (λk=>decide ((hAt hs k).1∈Rc)&&hasB (hAt hs k).2 l) (λk:Nat=>.int k) ?_;simp[hsD,rngD];refine⟨by omega,by omega,λk hk=>?_,?_⟩
  ·have e6:=Bz hk;have e7:atI (hs.map holdD) (k:Int)=some (holdD (hAt hs k)):=by rw[DL.rV,y_,e6];rfl
   have hT:=hT _ (B_ e6);simp[e7];by_cases c:(hAt hs k).1∈Rc
   ·simp[c,hT];exact λz=>absurd rfl (z _ c)
   ·simp[c];exact λa ha e=>absurd (e▸ha) c
  ·refine hK _ ?_;simp[isMut,R.mut,e5];exact k1 _ ⟨_,rfl⟩
 ·have hg:=ok g (by simp);have e1:=Au W g.1;rw[OY,NW,o_,o_,Nq,RK,N3,Oo] at me;obtain⟨m',rfl⟩:∃m',m=m'+1:=⟨m - 1,by omega⟩;simp[isMut,R.mut,dep];refine⟨.inr (by simp[depA]),λK1 nx _ _ _=>?_⟩;refine pE ?_;rintro K2 bn -;simp[isMut,R.mut];simp[pairD];refine bn _ ?_;clear bn;simp[e1];have eR:D.int h::map (D.int∘λx=>x.2) rd=(h::rd.map (·.2)).map D.int:=by rw[H_,Ro]
  rw[eR]
  have ln:(nbs rs g.1).length<=8:=by
   unfold nbs;rw[(uu _).length_eq];exact z_ (W.nb_len g.1) W.n8
  have lg:go.length<=8:=by omega
  have lr:rd.length<=8:=by omega
  refine rn (J:=λi Y=>∃bp bc,Y=[some (.val (webD n rs)),some (.val (hsD hs)),some (.val (.int h)),some (.val (letD l)),some (.val (.lst ((wishedL hs l).map D.int))),some (.own ((rd++(((nbs rs g.1).take i).filter (onB rs hs l g)).map λu=>(g.1,u)).map pairD)),some (.own ((h::(rd++(((nbs rs g.1).take i).filter (onB rs hs l g)).map λu=>(g.1,u)).map (·.2)).map D.int)),some (.own ((go++(((nbs rs g.1).take i).filter (onB rs hs l g)).map λu=>(u,g.1)).map pairD)),some (.val (.int g.1)),some (.val (.int g.2)),bp,bc,none]) ⟨bp,bc,by simp⟩ ?_ ?_
  ·rintro i d Y hd ⟨bp,bc,rfl⟩ KL aD - - -;rw[y_,NA] at hd;obtain⟨u,hu,rfl⟩:=hd;have tk:(nbs rs g.1).take (i+1)=(nbs rs g.1).take i++[u]:=by rw[OU,hu];rfl
   have au:=(W.nb g.1 u).mp (B_ hu);have iu:=W.in_n au;rw[tk,OV] at aD
   have lS:(((nbs rs g.1).take i).filter (onB rs hs l g)).length<=8:=by
    refine z_ (Oa _ _) ?_;rw[Pl];omega
   obtain⟨lb,e2,ml,qv⟩:=Eh W au;have e3:=EG (hs:=hs) (l:=l) ml;generalize ((nbs rs g.1).take i).filter (onB rs hs l g)=S at aD lS ⊢;have pp:∀T:List Int,(rd++(S++T).map λu=>(g.1,u))=(rd++S.map λu=>(g.1,u))++T.map λu=>(g.1,u):=λT=>by rw[O5,Oc]
   have pt:∀T:List Int,(go++(S++T).map λu=>(u,g.1))=(go++S.map λu=>(u,g.1))++T.map λu=>(u,g.1):=λT=>by rw[O5,Oc]
   rw[pp,pt] at aD;have lA:(rd++S.map λu=>(g.1,u)).length<=16:=by rw[o_,u_];omega
   have lG:(go++S.map λu=>(u,g.1)).length<=16:=by rw[o_,u_];omega
   generalize (rd++S.map λu=>(g.1,u))=A at aD lA ⊢;generalize (go++S.map λu=>(u,g.1))=Gg at aD lG ⊢;refine⟨_,_,rfl,?_⟩;show wp _ [some (.val (webD n rs)),some (.val (hsD hs)),some (.val (.int h)),some (.val (letD l)),some (.val (.lst ((wishedL hs l).map D.int))),some (.own (A.map pairD)),some (.own ((h::A.map (·.2)).map D.int)),some (.own (Gg.map pairD)),some (.val (.int g.1)),some (.val (.int g.2)),some (.val (.int u)),bc,none] _;have lC:(h::A.map (·.2)).length<=17:=by rw[NG,u_];omega
   have pw:∀T:List (Int×Int),h::(A++T).map (·.2)=(h::A.map (·.2))++T.map (·.2):=λT=>by rw[O5,←RJ]
   rw[pw] at aD;generalize h::A.map (·.2)=Cm at aD lC ⊢;refine pE ?_;rintro K2 bn -;simp[e2];refine bn _ ?_;clear bn;by_cases uc:u=g.2
   ·have ne:onB rs hs l g u=false:=by
     unfold onB cmO;rw[if_neg (by omega),uc];simp
    simp[dep,rp,uc];refine aD _ ⟨some (.val (.int g.2)),some (.val (.lst (lb.map D.int))),?_⟩;rw[OL (by rw[ne];decide)];simp
   ·have ne:onB rs hs l g u=ldB rs hs l g.1 u:=by
     unfold onB cmO;split<;>simp[uc]
    simp[dep,rp,uc];refine rJ (wishedL hs l) D.int (λv=>decide (v∈lb)) D.int ?_;simp;refine⟨by omega,λx _=>?_,.inr (by simp[depA]),?_⟩
    ·have:=Gv (l:=lb) (x:=x);rw[List.any_map] at this;exact this
    ·rw[←ne] at e3;by_cases c:∀a:Int,a∈wishedL hs l->¬a∈lb
     ·rw[if_pos c];have fe:(wishedL hs l).filter (λv=>decide (v∈lb))=[]:=OQ.mpr λa ha z=>c a ha (by simpa using z)
      rw[fe] at e3;refine aD _ ⟨some (.val (.int u)),some (.val (.lst (lb.map D.int))),?_⟩;rw[OL (by rw[←e3];decide)];simp
     ·rw[if_neg c]
      have fe:onB rs hs l g u=true:=by
       rw[←e3,Pv,List.isEmpty_eq_false_iff];exact λz=>c λa ha m=>OQ.mp z a ha (by simpa using m)
      rw[Po (by exact fe)] at aD;refine pE ?_;rintro K2 bn -;simp[isMut,R.mut];refine⟨by omega,bn _ ?_⟩;clear bn;refine pE ?_;rintro K2 bn -;simp[isMut,R.mut];refine⟨by omega,bn _ ?_⟩;clear bn;simp[isMut,R.mut];exact⟨by omega,aD _ ⟨some (.val (.int u)),some (.val (.lst (lb.map D.int))),by simp[pairD]⟩⟩
  ·rintro Y ⟨bp,bc,rfl⟩;rw[u_,On];have st:=G9 (hs:=hs) (l:=l) W hg;have gO:∀u∈(nbs rs g.1).filter (onB rs hs l g),u∈nbs rs g.1:=λu hu=>(K_.mp hu).1
   generalize (nbs rs g.1).filter (onB rs hs l g)=S at st gO ⊢;have sp:=AE (a:=λu=>(g.1,u)) (b:=λu=>ROg rs hs l (u,g.1)) S;rw[←st] at sp;have fm:(go++S.map λu=>(u,g.1)).flatMap (ROg rs hs l)=go.flatMap (ROg rs hs l)++S.flatMap λu=>ROg rs hs l (u,g.1):=by rw[NW,List.flatMap_map]
   have pz:=sp.length_eq;rw[o_,u_] at pz;refine nx _ ((hJ _ _).mpr ⟨_,_,_,_,bp,bc,?_,?_,?_,by omega,rfl⟩)
   ·rw[fm];refine Qk.trans ?_ pm;rw[OY,NW,Nq,RK,N3,Oc];exact((Qi _ _ _).trans (sp.append_left _)).append_left _
   ·intro q hq
    rcases L_.mp hq with hq | hq
    ·exact ok q (by simp[hq])
    ·obtain⟨u,hu,rfl⟩:=w_.mp hq;exact En W hg (gO u hu)
   ·rw[fm,o_,o_,u_];omega
end
theorem GS{c:List D}{f:Nat}{Q:R->List D->Prop}(n1:1<=n)(n8:n<=8)(hc:PotOk c)(h0:1<=f)(hf:f<=3)(k:∀(hs:HS) c',(∀p∈hs,Wf f p.2)->hs.length<=8->PotOk c'->Q (.own (hs.map holdD)) c'):wpB va c [webD n rs,.int f,.int 8] Q:=by
 refine tV rfl λKE hE _=>?_
 rw[xa];refine pE ?_;rintro K hK -;simp[isMut,R.mut];refine Kg hc h0 hf (by omega) (by omega) λws c aM gZ hc=>?_
 simp;refine hK _ ?_;simp;obtain⟨J,hJ⟩:∃J:Nat->List D->Gm->Prop,∀i ah Y,J i ah Y↔∃(c:List D) (hs:HS),PotOk c/\ah=hs.map holdD/\hs.map (·.2)=ws.take i/\Y=[some (.bor c),some (.val (webD n rs)),some (.val (.int f)),some (.val (.int 8)),some (.val (.lst (ws.map wishD)))]:=⟨_,λ_ _ _=>Ss⟩;refine vH J ?_;simp;refine⟨by omega,(hJ _ _ _).mpr ⟨c,[],hc,rfl,rfl,rfl⟩,?_,?_⟩
 ·intro i d ah ag w hw e j;subst e;obtain⟨c4,hs,hc,rfl,hi,rfl⟩:=(hJ _ _ _).mp j;simp[isMut,R.mut];refine rh hc (by omega) (by omega) λx c5 kn mW hc=>?_
  simp;refine⟨_,_,⟨rfl,rfl⟩,(hJ _ _ _).mpr ⟨c5,hs++[(x,w)],hc,by simp[holdD],?_,rfl⟩⟩;rw[O5,hi,OU,hw];rfl
 ·intro ah ag j;obtain⟨c4,hs,hc,rfl,hi,rfl⟩:=(hJ _ _ _).mp j;rw[On] at hi;have ln:hs.length=ws.length:=by rw[←hi,u_]
  refine hE _ _ _ ⟨_,rfl⟩ (k hs c4 (λp hp=>aM _ (by rw[←hi];exact w_.mpr ⟨p,hp,rfl⟩)) (by omega) hc)
theorem J4(h:[D.str "roof", D.str "spare"][i]?=some d):∃sp,d=howD sp:=by
 match i,h with
 | 0,h=>cases h;exact⟨false,rfl⟩
 | 1,h=>cases h;exact⟨true,rfl⟩
 | i+2,h=>simp at h
theorem fn1E{F:List D->Option D}(e1:t Y=some (ds,Y))(e2:F ds=some d):fn1 F t Y=some (d,Y):=by simp only[fn1,bnd,e1,lft,e2]
theorem orE{a b:M Bool}(e1:a Y=some (false,Y))(e2:b Y=some (false,Y)):orT a b Y=some (false,Y):=by simp[orT,bnd,e1,e2]
theorem neE{A C:M D}(e1:A Y=some (d,Y))(e2:C Y=some (d,Y))(h:dep d<=100):tst (op2 (eqF true) A C) Y=some (false,Y):=by
 have e3:eqF true d d=some (.bl false):=by
  unfold eqF;rw[if_pos (.inl h),DL.uN];rfl
 simp only[tst,op2,bnd,e1,e2,lft,e3,asB]
theorem notE{A:M D}(e:A Y=some (.bl true,Y)):notT (tst A) Y=some (false,Y):=by simp[notT,tst,bnd,e,lft,asB,ret]
theorem Gh{g:List R->Option (R×List R)}{os:List D}{Q:Fl->Gm->Prop}(e1:t Y=some (ds,Y))(e2:ctF g ds=some os)(hi:Nat.blt i Y.length=true)(k:wp (aj os) Y Q):wp (tellS g i t aj) Y Q:=by
 obtain⟨f,af,e3,q⟩:=k;have bj:i < Y.length:=Rv hi;exact⟨f,af,by simp only[tellS,bnd,e1,lft,e2,if_pos bj,e3],q⟩
theorem zL{c:M Bool}{Q:Fl->Gm->Prop}(e:c ((Y.map hidR).set i (some (.val (.tup ds))))=some (false,ag))(k:wp (aj ds) Y Q):wp (tstP i c aj ds) Y Q:=by
 obtain⟨f,af,e3,q⟩:=k;exact⟨f,af,by simp only[tstP,e,e3],q⟩
theorem Hq{h:M Fl}{es:List D}{Q:Fl->Gm->Prop}(e:ds[n]?=some (.lst es))(k:wp h (Y.set i none) Q):wp (clrP i n h ds) Y Q:=by
 obtain⟨f,af,e3,q⟩:=k;exact⟨f,af,by simp only[clrP,e,e3],q⟩
theorem A2{g:M D}{h:M Fl}{QS:Fl->Gm->Prop}(e:g Y=some (d,Y))(hi:Nat.blt i Y.length=true)(hh:wp h (Y.set i (some (.val d))) QS):wp (seqS (setV i g) h) Y QS:=
 pE λK hK hR=>⟨.nx,_,by have bj:i < Y.length:=Rv hi;simp[setV,bnd,e,putS,ret,bj],hK _ hh⟩
theorem Fc{g:M D}{es:List D}{Q:Fl->Gm->Prop}(e1:g ((Y.map hidR).set i (some (.val (.tup ds))))=some (d,ag))(e2:ds[n]?=some (.lst es))(h1:noL d=true)(h2:ds.all calmD=true)(h3:es.length < lim)(k:wp (aj (ds.set n (.lst (es++[d])))) Y Q):wp (appP i n g aj ds) Y Q:=by
 obtain⟨f,af,e3,q⟩:=k;exact⟨f,af,by simp only[appP,e1,e2,if_pos (Su h1 (Su h2 h3)),e3],q⟩
theorem BF(h:∀d∈ds,noL d=true):noLA ds=true:=by
 induction ds with
 | nil=>rfl
 | cons d ds ih=>rw[noLA,h d m_,ih λe he=>h e (j_ _ he)];rfl
section
variable{rk:Int->Nat}{f:Nat}{hs:HS}
theorem GZ{S:List Int}:(gvL hs l S).length<=hs.length:=by
 unfold gvL gvK;rw[u_];exact z_ (Oa _ _) (by simp)
theorem GJ{S:List Int}:∀d∈gvL hs l S,∃k:Nat,d=.int k:=λd hd=>by
 obtain⟨k,_,rfl⟩:=w_.mp hd;exact⟨k,rfl⟩
theorem F8(W:Web n rs rk)(hw:∀p∈hs,Wf f p.2)(h1:1<=f)(hf:f<=3)(hl:hs.length<=8)(ll:l.length=f)(h0:0<=h)(hn:h < n){a0 a2 a3 a6 a7 a8 bh bi:Option R}{c:List D}{K:Fl->Gm->Prop}(hK:∀bh bi,K .nx [a0,some (.own c),a2,a3,some (.val (webD n rs)),some (.val (hsD hs)),a6,a7,a8,some (.val (letD l)),some (.val (.int h)),some (.val (.tup [.lst ((sortP (RO rs hs l 20 none h)).map pairD),.lst (gvL hs l (h::(sortP (RO rs hs l 20 none h)).map (·.2)))])),some (.val (howD sp)),bh,bi]):
  wp (seqS (setV 13 (frz (fn1 lstF (consA (nm 5) nilA))))
  (tellS uf 14 (consA (nm 4) (consA (nm 13) (consA (nm 12) (consA (nm 10) (consA (nm 9) nilA)))))
  (tstP 14 (orT (notT (tst (fn1 (cvF (sf 8)) (consA (nm 14) (consA (nm 11) nilA))))) (tst (op2 (eqF true) (nm 13) (nm 5))))
  (appP 14 0 (tupA (consA (ret (.int 0)) (consA (ret (.int 0)) nilA)))
  (tstP 14 (tst (op2 (eqF true) (op2 ixF (nm 14) (ret (.int 1))) (op2 ixF (nm 11) (ret (.int 1)))))
  (clrP 14 1 (ret .nx))))))) [a0,some (.own c),a2,a3,some (.val (webD n rs)),some (.val (hsD hs)),a6,a7,a8,some (.val (letD l)),some (.val (.int h)),some (.val (.tup [.lst ((sortP (RO rs hs l 20 none h)).map pairD),.lst (gvL hs l (h::(sortP (RO rs hs l 20 none h)).map (·.2)))])),some (.val (howD sp)),bh,bi] K:=by
 have led:=GX (sp:=sp) W hw h1 hf (by omega) ll h0 hn;have l8:=vX (hs:=hs) (l:=l) (k:=20) (c:=none) W h0 hn
 have lS:(sortP (RO rs hs l 20 none h)).length<=8:=by
  have:(sortP (RO rs hs l 20 none h)).length=_:=(O3 (RO rs hs l 20 none h) _).length_eq;omega
 have gl:=GZ (hs:=hs) (l:=l) (S:=h::(sortP (RO rs hs l 20 none h)).map (·.2));have gi:=GJ (hs:=hs) (l:=l) (S:=h::(sortP (RO rs hs l 20 none h)).map (·.2));generalize gvL hs l (h::(sortP (RO rs hs l 20 none h)).map (·.2))=gv at *;generalize sortP (RO rs hs l 20 none h)=S at *
 have sm:cvF (sf 8) [.tup [.lst (S.map pairD),.lst gv],.tup [.lst (S.map pairD),.lst gv]]=some (.bl true):=ya (by
  refine⟨by simp,λd hd=>?_⟩;simp at hd
  rcases hd with rfl | rfl
  ·refine⟨by simp;omega,λd hd=>?_⟩;obtain⟨p,hp,rfl⟩:=w_.mp hd;refine⟨by simp,λd hd=>?_⟩;simp at hd
   rcases hd with rfl | rfl<;>simp[SzK]
  ·refine⟨by omega,λd hd=>?_⟩;obtain⟨k,rfl⟩:=gi d hd
   simp[SzK])
 have dh:=Jq (hs:=hs)
 have dg:dep (.lst gv)<=100:=by
  rw[dep]
  have:=sO (ds:=gv) (n:=0) λd hd=>by
   obtain⟨k,rfl⟩:=gi d hd;simp[dep]
  omega
 have ca:[D.lst (S.map pairD),.lst gv].all calmD=true:=by
  have e1:noLA (S.map pairD)=true:=BF λd hd=>by
   obtain⟨p,_,rfl⟩:=w_.mp hd;rfl
  have e2:noLA gv=true:=BF λd hd=>by
   obtain⟨k,rfl⟩:=gi d hd;rfl
  simp[calmD,e1,e2]
 refine A2 (d:=hsD hs) rfl rfl ?_;refine Gh rfl led rfl (zL (orE (notE (fn1E rfl sm)) (neE (d:=hsD hs) rfl rfl (by omega))) (Fc rfl rfl rfl ca (by simp[lim];omega) (zL (neE (d:=.lst gv) rfl rfl dg) (Hq rfl ⟨_,_,rfl,hK _ _⟩))))
end
theorem Kc{L:List (List Int)}(h:0 < L.length):∃u,u∈L/\atI (L.map letD) (-1)=some (letD u):=by
 rcases PK L with rfl | ⟨M,u,rfl⟩
 ·simp at h
 ·rw[OY];exact⟨u,by simp,by rw[O5];exact L2.Ho _ _⟩
theorem law_true(ns:List Int)(fR:ns.length<=63):∃rs,sV [.val (.lst (ns.map D.int))]=some (.val (.bl true),rs):=by
 have aU:wpF sV [.val (.lst (ns.map D.int))] λr _=>r=.val (.bl true):=by
  refine so rfl λKE hE _=>?_
  rw[wC];refine pE ?_;rintro K hK -;obtain⟨c,hc,hp⟩:=HL ns;simp[hc];refine hK _ ?_;refine pE ?_;rintro K hK hR;simp;refine rn (J:=λi Y=>∃c x2 x3 x4 x5 x6 x7 x8 x9 bp bc bB bh bi,PotOk c/\Y=[some (.val (.lst (ns.map .int))),some (.own c),x2,x3,x4,x5,x6,x7,x8,x9,bp,bc,bB,bh,bi]) ⟨c,_,_,_,_,_,_,_,_,_,_,_,_,_,hp,rfl⟩ ?_ ?_
  ·rintro i d Y - ⟨c,x2,x3,x4,x5,x6,x7,x8,x9,bp,bc,bB,bh,bi,hc,rfl⟩ KL aD - - -;clear hK hR hE hp;refine⟨_,_,rfl,?_⟩;show wp _ [some (.val (.lst (ns.map .int))),some (.own c),some (.val d),x3,x4,x5,x6,x7,x8,x9,bp,bc,bB,bh,bi] _;refine pE ?_;rintro K hK -;simp[isMut,R.mut];refine rh hc (by omega) (by omega) λf0 c qw qx hc=>?_
   obtain⟨f,hf⟩:∃f:Nat,1+f0=f:=⟨(1+f0).toNat,by omega⟩;simp[hf];refine hK _ ?_;refine pE ?_;rintro K hK -;simp[isMut,R.mut];refine He hc (by omega) (by omega) λn rs rk c W hc=>?_
   simp;refine hK _ ?_;refine pE ?_;rintro K hK -;simp[isMut,R.mut];refine GS W.n1 W.n8 hc (by omega) (by omega) λhs c hw hl hc=>?_
   simp;refine hK _ ?_
   change wp _ [some (.val (.lst (ns.map .int))),some (.own c),some (.val d),some (.val (.int f)),some (.val (webD n rs)),some (.val (hsD hs)),x6,x7,x8,x9,bp,bc,bB,bh,bi] _
   refine pE ?_;rintro K hK -;simp;obtain⟨J,hJ⟩:∃J:Nat->List D->Gm->Prop,∀i ah Y,J i ah Y↔∃(c:List D) (l:List Int),PotOk c/\ah=l.map D.int/\l.length=i/\Y=[some (.val (.lst (ns.map .int))),some (.own c),some (.val d),some (.val (.int f)),some (.val (webD n rs)),some (.val (hsD hs)),x6,x7,x8,x9,bp,bc,bB,bh,bi]:=⟨_,λ_ _ _=>Ss⟩;refine vH J ?_;simp;refine⟨by omega,by omega,(hJ _ _ _).mpr ⟨c,[],hc,rfl,rfl,rfl⟩,?_,?_⟩
   ·intro i d ah ag hd j;obtain⟨c4,l,hc,rfl,hi,rfl⟩:=(hJ _ _ _).mp j;obtain⟨rfl,cg⟩:=uS hd;obtain⟨kk,ko⟩:∃kk:Int,0+(i:Int)=kk:=⟨_,rfl⟩;rw[ko];simp[isMut,R.mut];refine rh hc (by omega) (by omega) λx c5 kn mW hc=>?_
    simp;exact⟨_,_,⟨rfl,rfl⟩,(hJ _ _ _).mpr ⟨c5,l++[x],hc,by simp,by simp[hi],rfl⟩⟩
   ·intro ah ag j;obtain⟨c4,l0,hc,rfl,hi,rfl⟩:=(hJ _ _ _).mp j;clear hJ j;simp;refine hK _ ?_
    change wp _ [some (.val (.lst (ns.map .int))),some (.own c4),some (.val d),some (.val (.int f)),some (.val (webD n rs)),some (.val (hsD hs)),some (.own ([l0].map letD)),x7,x8,x9,bp,bc,bB,bh,bi] _
    refine pE ?_;rintro K hK -;have ct:cutD (hs.map holdD) none (some 2)=(hs.take 2).map holdD:=by rw[Sq];exact BO (n:=2)
    simp[hsD,ct];rw[←Sq];refine rn (J:=λi Y=>∃c L x7 x8,PotOk c/\0 < L.length/\L.length<=1+i/\(∀l∈L,l.length=f)/\Y=[some (.val (.lst (ns.map .int))),some (.own c),some (.val d),some (.val (.int f)),some (.val (webD n rs)),some (.val (hsD hs)),some (.own (L.map letD)),x7,x8,x9,bp,bc,bB,bh,bi]) ⟨c4,[l0],x7,x8,hc,by simp,by simp,by simpa using hi,rfl⟩ ?_ ?_
    ·rintro i d2 Y hd ⟨c,L,x7,x8,hc,L0,L1,La,rfl⟩ pA gP - - -;rw[y_,NA] at hd;obtain⟨⟨a,w⟩,hp,rfl⟩:=hd
     have i2:i < 2:=by
      have:=(p_.mp hp).1;rw[Pl] at this;omega
     have ww:=hw _ (Ot (B_ hp));have wl:=ww.len;simp only at wl;refine⟨_,_,rfl,?_⟩;show wp _ [some (.val (.lst (ns.map .int))),some (.own c),some (.val d),some (.val (.int f)),some (.val (webD n rs)),some (.val (hsD hs)),some (.own (L.map letD)),some (.val (.int a)),some (.val (wishD w)),x9,bp,bc,bB,bh,bi] _;simp[isMut,R.mut];obtain⟨J,hJ⟩:∃J:Nat->List D->Gm->Prop,∀i ah Y,J i ah Y↔∃(c:List D) (l:List Int),PotOk c/\ah=l.map D.int/\l.length=i/\Y=[some (.val (.lst (ns.map .int))),some (.own c),some (.val d),some (.val (.int f)),some (.val (webD n rs)),some (.val (hsD hs)),some (.own (L.map letD)),some (.val (.int a)),some (.val (wishD w)),x9,bp,bc,bB,bh,bi]:=⟨_,λ_ _ _=>Ss⟩;refine vH J ?_;simp[wishD];refine⟨by omega,(hJ _ _ _).mpr ⟨c,[],hc,rfl,rfl,rfl⟩,?_,?_⟩
     ·intro i d3 ah ag x y hx e j;subst e;obtain⟨c4,l,hc,rfl,hi,rfl⟩:=(hJ _ _ _).mp j;simp[isMut,R.mut];refine rh hc (by omega) (by omega) λz c5 pk po hc=>?_
      have hz:z=0\/z=1:=by omega
      rcases hz with rfl | rfl
      ·simp[pairD];exact⟨_,_,⟨rfl,rfl⟩,(hJ _ _ _).mpr ⟨c5,l++[x],hc,by simp,by simp[hi],rfl⟩⟩
      ·simp[pairD];exact⟨_,_,⟨rfl,rfl⟩,(hJ _ _ _).mpr ⟨c5,l++[y],hc,by simp,by simp[hi],rfl⟩⟩
     ·intro ah ag j;obtain⟨c4,l,hc,rfl,hi,rfl⟩:=(hJ _ _ _).mp j;simp;refine⟨by omega,gP _ ⟨c4,L++[l],some (.val (.int a)),some (.val (wishD w)),hc,by simp,by simp;omega,λl' gQ=>?_,by simp[letD]⟩⟩
      rcases L_.mp gQ with gQ | gQ
      ·exact La l' gQ
      ·rw[r_.mp gQ,hi,wl]
    ·rintro Y ⟨c,L,x7,x8,hc,L0,L1,La,rfl⟩;refine hK _ ?_;obtain⟨u1,m1,e1⟩:=y6 (f:=letD) (xs:=L) (i:=0) (by omega) (by omega);obtain⟨u2,m2,e2⟩:=Kc L0;simp[isMut,R.mut,e1,e2];refine rn (J:=λi Y=>∃x9 bp bc bB bh bi,Y=[some (.val (.lst (ns.map .int))),some (.own c),some (.val d),some (.val (.int f)),some (.val (webD n rs)),some (.val (hsD hs)),some (.own (L.map letD)),x7,x8,x9,bp,bc,bB,bh,bi]) ⟨_,_,_,_,_,_,rfl⟩ ?_ ?_
     ·rintro i d2 Y hd ⟨x9,bp,bc,bB,bh,bi,rfl⟩ pA gP - - -
      obtain⟨l,ll,rfl⟩:∃l,l.length=f/\d2=letD l:=by
       have:=B_ hd;simp at this
       rcases this with rfl | rfl
       ·exact⟨u1,La _ m1,rfl⟩
       ·exact⟨u2,La _ m2,rfl⟩
      refine⟨_,_,rfl,?_⟩;show wp _ [some (.val (.lst (ns.map .int))),some (.own c),some (.val d),some (.val (.int f)),some (.val (webD n rs)),some (.val (hsD hs)),some (.own (L.map letD)),x7,x8,some (.val (letD l)),bp,bc,bB,bh,bi] _;simp;have n8:=W.n8;refine⟨by omega,?_⟩;refine rn (J:=λi Y=>∃bp bc bB bh bi,Y=[some (.val (.lst (ns.map .int))),some (.own c),some (.val d),some (.val (.int f)),some (.val (webD n rs)),some (.val (hsD hs)),some (.own (L.map letD)),x7,x8,some (.val (letD l)),bp,bc,bB,bh,bi]) ⟨_,_,_,_,_,rfl⟩ ?_ ?_
      ·rintro i d3 Y pB ⟨bp,bc,bB,bh,bi,rfl⟩ qy mZ - - -;obtain⟨rfl,qz⟩:=uS pB;obtain⟨h,hh⟩:∃h:Int,0+(i:Int)=h:=⟨_,rfl⟩;rw[hh];have h0:0<=h:=by omega
       have hn:h < n:=by omega
       have pC:=Ei W hw (by omega) (by omega) ll h0 hn;refine⟨_,_,rfl,?_⟩;show wp _ [some (.val (.lst (ns.map .int))),some (.own c),some (.val d),some (.val (.int f)),some (.val (webD n rs)),some (.val (hsD hs)),some (.own (L.map letD)),x7,x8,some (.val (letD l)),some (.val (.int h)),bc,bB,bh,bi] _;refine A2 (fn1E rfl pC) rfl ?_;refine JI.mpr ⟨[.str "roof", .str "spare"],_,rfl,?_⟩;refine rn (J:=λi Y=>∃bB bh bi,Y=[some (.val (.lst (ns.map .int))),some (.own c),some (.val d),some (.val (.int f)),some (.val (webD n rs)),some (.val (hsD hs)),some (.own (L.map letD)),x7,x8,some (.val (letD l)),some (.val (.int h)),some (.val (.tup [.lst ((sortP (RO rs hs l 20 none h)).map pairD),.lst (gvL hs l (h::(sortP (RO rs hs l 20 none h)).map (·.2)))])),bB,bh,bi]) ⟨_,_,_,rfl⟩ ?_ ?_
       ·rintro i d4 Y pD ⟨bB,bh,bi,rfl⟩ qA m9 - - -;obtain⟨sp,rfl⟩:=J4 pD;refine⟨_,_,rfl,?_⟩;exact F8 (sp:=sp) W hw (by omega) (by omega) hl ll h0 hn λbh bi=>m9 _ ⟨_,_,_,rfl⟩
       ·rintro Y ⟨bB,bh,bi,rfl⟩;exact mZ _ ⟨_,_,_,_,_,rfl⟩
      ·rintro Y ⟨bp,bc,bB,bh,bi,rfl⟩;exact gP _ ⟨_,_,_,_,_,_,rfl⟩
     ·rintro Y ⟨x9,bp,bc,bB,bh,bi,rfl⟩;exact aD _ ⟨_,_,_,_,_,_,_,_,_,_,_,_,_,_,hc,rfl⟩
  ·rintro Y ⟨c,x2,x3,x4,x5,x6,x7,x8,x9,bp,bc,bB,bh,bi,hc,rfl⟩;refine hK _ ?_;exact⟨_,_,rfl,hE _ _ ⟨_,rfl,rfl⟩⟩
 obtain⟨r,aW,e,rfl⟩:=aU;exact⟨aW,e⟩
end Own
namespace PySem.W.Fast
theorem tw4535332765295185411:True:=⟨⟩
theorem tw1011805368589545402:True:=⟨⟩
theorem tw11304042726263338977:True:=⟨⟩
theorem tw15685775198843945309:True:=⟨⟩
theorem tw772142113532154367:True:=⟨⟩
theorem tw3872404462239748114:True:=⟨⟩
theorem tw881431455120787585:True:=⟨⟩
theorem tw5946842268620943269:True:=⟨⟩
theorem tw16566575678307855304:True:=⟨⟩
theorem tw10312600688472531080:True:=⟨⟩
theorem tw6205363710745702472:True:=⟨⟩
theorem tw11982944459123565319:True:=⟨⟩
theorem tw7188475592970150049:True:=⟨⟩
theorem tw17992542142359213584:True:=⟨⟩
theorem tw11115490860802824284:True:=⟨⟩
theorem tw12883652508711793413:True:=⟨⟩
theorem tw16423381735399620174:True:=⟨⟩
theorem tw7785622703794917633:True:=⟨⟩
theorem tw1660798295367609049:True:=⟨⟩
theorem tw4830354446644868077:True:=⟨⟩
theorem tw17016180614035164468:True:=⟨⟩
theorem tw1871012934588000296:True:=⟨⟩
theorem tw12762662150225769231:True:=⟨⟩
theorem tw7288829120701335441:True:=⟨⟩
theorem tw12701444887313967518:True:=⟨⟩
theorem tw7853354981315184096:True:=⟨⟩
theorem tw16439661953436472063:True:=⟨⟩
theorem tw11893693239851364818:True:=⟨⟩
theorem tw5003790487580666281:True:=⟨⟩
theorem tw16761736421531386028:True:=⟨⟩
theorem tw17428683519326092471:True:=⟨⟩
theorem tw296371550771181534:True:=⟨⟩
theorem tw1955121655322189530:True:=⟨⟩
theorem tw9312908757183620989:True:=⟨⟩
theorem tw16597314896896022921:True:=⟨⟩
theorem tw10371220858975843521:True:=⟨⟩
theorem tw3484759463004449199:True:=⟨⟩
theorem tw11291106383557716080:True:=⟨⟩
theorem tw422659415222843982:True:=⟨⟩
theorem tw3260998457883527948:True:=⟨⟩
theorem tw14838416117673588444:True:=⟨⟩
theorem tw3412594338995148974:True:=⟨⟩
theorem tw115354282665750991:True:=⟨⟩
theorem tw882856087751864323:True:=⟨⟩
theorem tw9302293028721925031:True:=⟨⟩
theorem tw5063649884551484351:True:=⟨⟩
theorem tw8473008378134997009:True:=⟨⟩
theorem tw12995116763176121063:True:=⟨⟩
theorem tw50303556028966110:True:=⟨⟩
theorem tw1775962620727770999:True:=⟨⟩
theorem tw4696782701348861246:True:=⟨⟩
theorem tw14460234918666722389:True:=⟨⟩
theorem tw2912163670217260564:True:=⟨⟩
theorem tw15564246382862362086:True:=⟨⟩
theorem tw9898471140762660262:True:=⟨⟩
theorem tw15459617623694061550:True:=⟨⟩
theorem tw11541367769132313250:True:=⟨⟩
theorem tw14058963811221405066:True:=⟨⟩
theorem tw7872711672415682499:True:=⟨⟩
theorem tw5791622614612109716:True:=⟨⟩
theorem tw11325356118302330018:True:=⟨⟩
theorem tw14198333013363414655:True:=⟨⟩
theorem tw10314715235872279007:True:=⟨⟩
theorem tw4866443510681304306:True:=⟨⟩
theorem tw9482376769334058641:True:=⟨⟩
theorem tw128917990396524902:True:=⟨⟩
theorem tw9866547929693722529:True:=⟨⟩
theorem tw5480386405066105819:True:=⟨⟩
theorem tw9986369262585777814:True:=⟨⟩
theorem tw1789312067738062274:True:=⟨⟩
theorem tw480198701870214145:True:=⟨⟩
theorem tw5942913758009274053:True:=⟨⟩
theorem tw7483010060313193699:True:=⟨⟩
theorem tw13507083912834814607:True:=⟨⟩
theorem tw5335346346926412083:True:=⟨⟩
theorem tw8908857348807279664:True:=⟨⟩
theorem tw15492359343766305344:True:=⟨⟩
theorem tw9390059212349253184:True:=⟨⟩
theorem tw4786173845301572209:True:=⟨⟩
theorem tw18192961381130986076:True:=⟨⟩
theorem tw17950325885156053037:True:=⟨⟩
theorem tw51262078939070623:True:=⟨⟩
theorem tw16816478384603445824:True:=⟨⟩
theorem tw17965063911053968426:True:=⟨⟩
theorem tw6129991644596348565:True:=⟨⟩
theorem tw13999500237770415909:True:=⟨⟩
theorem tw373474872537507508:True:=⟨⟩
theorem tw8749037593170523601:True:=⟨⟩
theorem tw15920369761952804395:True:=⟨⟩
theorem tw13818832675915395535:True:=⟨⟩
theorem tw16060911024113184114:True:=⟨⟩
theorem tw8078254310209862775:True:=⟨⟩
theorem tw11955943531646025322:True:=⟨⟩
theorem tw8155589821642817195:True:=⟨⟩
theorem tw15723194006127400151:True:=⟨⟩
theorem tw18013409149982376580:True:=⟨⟩
theorem tw11579853275615032262:True:=⟨⟩
theorem tw7569527069788828097:True:=⟨⟩
theorem tw1968688162737809721:True:=⟨⟩
theorem tw9114024807541823814:True:=⟨⟩
theorem tw12470325176109171494:True:=⟨⟩
theorem tw17620256345894465591:True:=⟨⟩
theorem tw17536859959625534401:True:=⟨⟩
theorem tw2863080566275697218:True:=⟨⟩
theorem tw15143139631896403861:True:=⟨⟩
theorem tw13501588215248922854:True:=⟨⟩
theorem tw13748294146812031138:True:=⟨⟩
theorem tw2479942179460749723:True:=⟨⟩
theorem tw141281783669959897:True:=⟨⟩
theorem tw6664748529526951668:True:=⟨⟩
theorem tw2759819533160651591:True:=⟨⟩
theorem tw12162465954043712389:True:=⟨⟩
theorem tw16387363285273237824:True:=⟨⟩
theorem tw15322392037868235272:True:=⟨⟩
theorem tw10503506306687925741:True:=⟨⟩
theorem tw2721974942145455666:True:=⟨⟩
theorem tw16387749571509900011:True:=⟨⟩
theorem tw8709582285840535888:True:=⟨⟩
theorem tw1882593386802975615:True:=⟨⟩
theorem tw16881726402182666494:True:=⟨⟩
theorem tw12315335926027469457:True:=⟨⟩
theorem tw14389197792053999781:True:=⟨⟩
theorem tw229196354100734870:True:=⟨⟩
theorem tw13627520503291945595:True:=⟨⟩
theorem tw13051512337094221039:True:=⟨⟩
theorem tw6922040330919042210:True:=⟨⟩
theorem tw2412580542547964327:True:=⟨⟩
theorem tw16216128301786025134:True:=⟨⟩
theorem tw11844381308964301810:True:=⟨⟩
theorem tw14064283187597923805:True:=⟨⟩
theorem tw3813759628361398871:True:=⟨⟩
theorem tw8851548755832808459:True:=⟨⟩
theorem tw9886757326214187111:True:=⟨⟩
theorem tw10517783470270315021:True:=⟨⟩
theorem tw5101669213560967175:True:=⟨⟩
theorem tw5999642246571543963:True:=⟨⟩
theorem tw9819860952272399992:True:=⟨⟩
theorem tw4776850083354042180:True:=⟨⟩
theorem tw17985976122801796620:True:=⟨⟩
theorem tw205802913572475337:True:=⟨⟩
theorem tw17114266783312726044:True:=⟨⟩
theorem tw9391882369168126927:True:=⟨⟩
theorem tw9478665654624567557:True:=⟨⟩
theorem tw8106992773756223638:True:=⟨⟩
theorem tw12523530956455086523:True:=⟨⟩
theorem tw963736881554871312:True:=⟨⟩
theorem tw1502671921125105964:True:=⟨⟩
theorem tw7211190106643424656:True:=⟨⟩
theorem tw15790151209616864376:True:=⟨⟩
theorem tw17212679651358367986:True:=⟨⟩
theorem tw1190847177057562463:True:=⟨⟩
theorem tw15082512606717048570:True:=⟨⟩
theorem tw9619274046522644908:True:=⟨⟩
theorem tw6316450140927679539:True:=⟨⟩
theorem tw1580862927007976412:True:=⟨⟩
theorem tw10759550154313381391:True:=⟨⟩
theorem tw12687975041145730527:True:=⟨⟩
theorem tw14034226449034156238:True:=⟨⟩
theorem tw15901177918927739138:True:=⟨⟩
theorem tw18253811760410454002:True:=⟨⟩
theorem tw18197952389142969811:True:=⟨⟩
theorem tw1289009367745221866:True:=⟨⟩
theorem tw13332787722633076325:True:=⟨⟩
theorem tw7586224501252371859:True:=⟨⟩
theorem tw15815627870524592803:True:=⟨⟩
theorem tw5968428747624480531:True:=⟨⟩
theorem tw9276543406637675274:True:=⟨⟩
theorem tw993062487983137002:True:=⟨⟩
theorem tw12141109814944789706:True:=⟨⟩
theorem tw11627112562287467294:True:=⟨⟩
theorem tw1295135463821360400:True:=⟨⟩
theorem tw17175241476981823041:True:=⟨⟩
theorem tw10851555803196335963:True:=⟨⟩
theorem tw16244654484622964276:True:=⟨⟩
theorem tw9197288882514681971:True:=⟨⟩
theorem tw4103818132168502977:True:=⟨⟩
theorem tw2139022818467282551:True:=⟨⟩
theorem tw2067056852834150951:True:=⟨⟩
theorem tw5534157340921239962:True:=⟨⟩
theorem tw9738657182097028987:True:=⟨⟩
theorem tw15775500720746313788:True:=⟨⟩
theorem tw10199235066113763755:True:=⟨⟩
theorem tw12522626823515410395:True:=⟨⟩
theorem tw16749903480215856634:True:=⟨⟩
theorem tw13132158870679284002:True:=⟨⟩
theorem tw7890164697516482245:True:=⟨⟩
theorem tw12057056225503505901:True:=⟨⟩
theorem tw1800892201146516336:True:=⟨⟩
theorem tw9028403937195269016:True:=⟨⟩
theorem tw12835140198853340348:True:=⟨⟩
theorem tw16462644374820976593:True:=⟨⟩
theorem tw11662962771734972749:True:=⟨⟩
theorem tw2126665692833835697:True:=⟨⟩
theorem tw1399125049196080206:True:=⟨⟩
theorem tw1727682662585505616:True:=⟨⟩
theorem tw2003548959976672953:True:=⟨⟩
theorem tw8830135434791791448:True:=⟨⟩
theorem tw5938023739958554570:True:=⟨⟩
theorem tw4840100151445642821:True:=⟨⟩
theorem tw4029743205068397218:True:=⟨⟩
theorem tw9891711284012056746:True:=⟨⟩
theorem tw8710518769214084222:True:=⟨⟩
theorem tw6373828801194474876:True:=⟨⟩
theorem tw7335030637191138739:True:=⟨⟩
theorem tw18322098701859906149:True:=⟨⟩
theorem tw6067576000612985462:True:=⟨⟩
theorem tw2359355108843714219:True:=⟨⟩
theorem tw8592358324846792065:True:=⟨⟩
theorem tw18104455671455010010:True:=⟨⟩
theorem tw818324768505414922:True:=⟨⟩
theorem tw13330018527769625163:True:=⟨⟩
theorem tw5598342602164980021:True:=⟨⟩
theorem tw4025299577812591146:True:=⟨⟩
theorem tw15340945496174904436:True:=⟨⟩
theorem tw13048728815468599506:True:=⟨⟩
theorem tw13128285945200235644:True:=⟨⟩
theorem tw16438142081067868128:True:=⟨⟩
theorem tw8004958585182659871:True:=⟨⟩
theorem tw17670839518958887179:True:=⟨⟩
theorem tw8402228813395145877:True:=⟨⟩
theorem tw2139920613848611512:True:=⟨⟩
theorem tw10593462946941961694:True:=⟨⟩
theorem tw4953698961492297607:True:=⟨⟩
theorem tw9400223001876915810:True:=⟨⟩
theorem tw13686381566923858012:True:=⟨⟩
theorem tw12665752495519786448:True:=⟨⟩
theorem tw3542890711969241550:True:=⟨⟩
theorem tw6291093748465657041:True:=⟨⟩
theorem tw11495498919400309290:True:=⟨⟩
end PySem.W.Fast
open PySem PySem.W PyProof.Rows
set_option maxRecDepth 100000 in
set_option maxHeartbeats 0 in
theorem PySem.Challenge.cw_roofpost_k29_where_a_letter_goes_holds : PySem.Challenge.rw_roofpost_k29_where_a_letter_goes.Holds := by
 w_on;(refine holds_law wSaid λpR=>?_);k_head;(case hw=>w_witness2)
 k_fill
 refine Own.walk (l:=PySem.Challenge.rw_roofpost_k29_where_a_letter_goes) Own.law_true rfl rfl (λw h qC=>PySem.W.kIn_of qC) ?F
 case F =>
  intro w mg fa h KX G fN;refine' Own.all_mk fN (Own.dn KX G ?_ ?_ ?_ ?_) (Own.dn KX G ?_ ?_ ?_ ?_) (Own.dn KX G ?_ ?_ ?_ ?_) (Own.dn KX G ?_ ?_ ?_ ?_) (Own.dn KX G ?_ ?_ ?_ ?_) (Own.dn KX G ?_ ?_ ?_ ?_) (Own.dn KX G ?_ ?_ ?_ ?_) (Own.dn KX G ?_ ?_ ?_ ?_) (Own.dn KX G ?_ ?_ ?_ ?_) (Own.dn KX G ?_ ?_ ?_ ?_) (Own.dn KX G ?_ ?_ ?_ ?_) (Own.dn KX G ?_ ?_ ?_ ?_) (Own.dn KX G ?_ ?_ ?_ ?_) (Own.dn KX G ?_ ?_ ?_ ?_) (Own.dn KX G ?_ ?_ ?_ ?_) (Own.dn KX G ?_ ?_ ?_ ?_) (Own.dn KX G ?_ ?_ ?_ ?_) (Own.dn KX G ?_ ?_ ?_ ?_) (Own.dn KX G ?_ ?_ ?_ ?_) (Own.dn KX G ?_ ?_ ?_ ?_) (Own.dn KX G ?_ ?_ ?_ ?_) (Own.dn KX G ?_ ?_ ?_ ?_) (Own.dn KX G ?_ ?_ ?_ ?_) (Own.dn KX G ?_ ?_ ?_ ?_) (Own.dn KX G ?_ ?_ ?_ ?_) (Own.dn KX G ?_ ?_ ?_ ?_) (Own.dn KX G ?_ ?_ ?_ ?_) (Own.dn KX G ?_ ?_ ?_ ?_) (Own.dn KX G ?_ ?_ ?_ ?_) (Own.dn KX G ?_ ?_ ?_ ?_) (Own.dn KX G ?_ ?_ ?_ ?_) (Own.dn KX G ?_ ?_ ?_ ?_) (Own.dn KX G ?_ ?_ ?_ ?_) (NX KX G ?_) (NX KX G ?_) (NX KX G ?_) (NX KX G ?_) (NX KX G ?_) (NX KX G ?_) (NX KX G ?_) (NX KX G ?_) (NX KX G ?_) (NX KX G ?_) (NX KX G ?_) (NX KX G ?_) (NX KX G ?_) (NX KX G ?_) (NX KX G ?_) (NX KX G ?_)
  any_goals k_is
