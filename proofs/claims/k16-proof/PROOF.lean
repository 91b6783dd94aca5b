import PyProof.Rows.All
import Wide.All
import OpenK.AllK
import Wide.FinOn
import Lean
import PyProof.EqAt
import PyProof.EqKinds
import PyProof.TupleCall
import KE.KNest
import PyProof.NeKinds
import PyProof.IsiSeqPairs
import PyProof.IsiNone
import KE.KSortTup
import KE.KRevSl
import KE.KLam
import PySem.Challenge.RW_roofpost_k16_whole_fewest_and_spare
set_option Elab.async false
set_option linter.all false
open Array (forIn_toList getD getD_eq_getD_getElem? getElem?_eq_none length_toList mem_iff_getElem? size_extract toList)
open Array.Perm (trans)
open Bool (and_eq_true false_eq_true)
open Classical (byContradiction)
open False (elim)
open ForInStep (yield)
open Function (comp_def)
open Int (emod_lt_of_pos emod_nonneg)
open List (all_cons all_eq_true any_cons any_eq_true append_assoc append_nil drop_eq_getElem_cons drop_of_length_le drop_succ_cons filterMap_cons filter_cons filter_sublist find?_eq_none flatMap_cons foldl_append foldl_cons forIn_cons forIn_nil getD_eq_getElem?_getD getElem?_append_left getElem?_append_right getElem?_cons_succ getElem?_drop getElem?_eq_getElem getElem?_map getElem?_set_ne getElem_map getElem_mem getElem_of_mem getElem_range length length_append length_cons length_drop length_eq_zero_iff length_filter_le length_map length_pos_iff length_range length_replicate length_set length_take length_zip map map_append map_cons map_drop map_id map_map map_reverse map_take mem_append mem_append_left mem_append_right mem_cons mem_cons_of_mem mem_cons_self mem_filter mem_filterMap mem_flatMap mem_map mem_of_getElem? mem_of_mem_drop mem_of_mem_take mem_range mem_singleton nil_append nodup_append nodup_cons not_mem_nil of_mem_zip pairwise_cons range range_succ_eq_map replicate reverse_cons set_set singleton_append size_toArray sum_cons take_length take_succ zip_cons_cons)
open List.Pairwise (imp_of_mem)
open List.Perm (swap)
open Nat (le_add_right le_of_lt le_refl le_succ le_trans le_zero lt_irrefl lt_of_lt_of_le lt_or_ge lt_succ_of_lt lt_succ_self lt_trichotomy mod_lt ne_of_gt ne_of_lt not_lt not_lt_zero succ_pos zero_add zero_le)
open Option (getD_none map_eq_some_iff map_some)
open PUnit (unit)
open PySem.Around (under_plainId)
open PySem.Builtin.Frozenset (newClass slot0 updateFrom)
open PySem.Builtin.List (listExtendWith listLengthHint listTooLong)
open PySem.Builtin.Range (rangeSize)
open PySem.Builtin.Slice (sliceAdjust sliceApplied slicePlaces)
open PySem.Builtin.SmallTypes (nextOf stopIteration)
open PySem.Builtin.Tuple (tupleExact tupleHashOf tupleItemsOf)
open PySem.Data (fields seq)
open PySem.F (args_tuple_add_2 called_set entry_tuple_add plain_min_loop slot_tuple_add)
open PySem.Heap (get?_push_of_some get?_push_size get?_update_other get?_update_self lt_size size_push)
open PySem.Obj (data_mapFields mapSeq putSet)
open PySem.PassesOwn (never)
open PySem.SeqAt (ne_of_list_tuple)
open PySem.Str (ofString)
open PySem.Value (type)
open PySem.W (codeIn findIn fnOf instObj isFn keepIn kla_fn methodObj mg_none_of mg_of noTabs nsIn specialIn tabIn)
open Sum (inl inr)
set_option maxRecDepth 100000
noncomputable section
namespace L2
open PySem PySem.Spec PyProof.Rows
abbrev Key:=Sum Int Str
noncomputable def keyIs:Key->Value->Bool
 | .inl k,v=>Value.isInt k v
 | .inr x,v=>Value.isStrOf x v
noncomputable def keyH (w:World):Key->Int
 | .inl k=>hashInt k
 | .inr x=>hashStr w x
theorem bg':∀ {k:Key}{v:Value},keyIs k v=true->(∃ i t,k=inl i/\v=Value.int i t)\/(∃ x t,k=inr x/\v=Value.str x t)
 | .inl i,v,h=>by
  obtain ⟨t,e⟩:=Value.isInt_shape (k:=i) (v:=v) h
  exact .inl ⟨i,t,rfl,e⟩
 | .inr x,v,h=>by
  obtain ⟨t,e⟩:=Value.isStrOf_shape (x:=x) (v:=v) h
  exact .inr ⟨x,t,rfl,e⟩
theorem qg' (a b:Int):decide ((inl a:Key)=inl b)=(a == b):=by
 by_cases e:a=b
 ·subst e;simp
 ·have h:¬ (inl a:Key)=inl b:=λq=>e (inl.inj q)
  rw [decide_eq_false h]
  exact (beq_eq_false_iff_ne.mpr e).symm
theorem qh' (a b:Str):decide ((inr a:Key)=inr b)=decide (a=b):=by
 by_cases e:a=b
 ·subst e;simp
 ·have h:¬ (inr a:Key)=inr b:=λq=>e (inr.inj q)
  rw [decide_eq_false h,decide_eq_false e]
theorem qi' (a:Int) (b:Str):decide ((inl a:Key)=inr b)=false:=decide_eq_false (λq=>nomatch q)
theorem qj' (a:Str) (b:Int):decide ((inr a:Key)=inl b)=false:=decide_eq_false (λq=>nomatch q)
noncomputable def mixKind (prog:Program) (w:World):PySem.KeyKind prog w Key where
 is:=keyIs
 hash:=keyH w
 inj:=λv a b ha hb=>by
  rcases bg' ha with ⟨i,t,rfl,rfl⟩ | ⟨x,t,rfl,rfl⟩
  ·rcases bg' hb with ⟨j,u,rfl,e⟩ | ⟨y,u,rfl,e⟩
   ·injection e with e1 _;rw [e1]
   ·exact nomatch e
  ·rcases bg' hb with ⟨j,u,rfl,e⟩ | ⟨y,u,rfl,e⟩
   ·exact nomatch e
   ·injection e with e1 _;rw [e1]
 byValue:=λk v h=>by
  rcases bg' h with ⟨i,t,rfl,rfl⟩ | ⟨x,t,rfl,rfl⟩<;>rfl
 pyHash:=λhv h=>by
  rcases bg' hv with ⟨i,t,rfl,rfl⟩ | ⟨x,t,rfl,rfl⟩
  ·exact wpAny_pyHash_int h
  ·exact wpAny_pyHash_str h
 eqBool:=λhu hv h=>by
  rcases bg' hu with ⟨i,t,rfl,rfl⟩ | ⟨x,t,rfl,rfl⟩
  ·rcases bg' hv with ⟨j,u,rfl,rfl⟩ | ⟨y,u,rfl,rfl⟩
   ·rw [qg'] at h;exact wpAny_eqBool_int h
   ·rw [qi'] at h;exact SeqAt.EqAt.int_str i t y u _ _ _ _ h
  ·rcases bg' hv with ⟨j,u,rfl,rfl⟩ | ⟨y,u,rfl,rfl⟩
   ·rw [qj'] at h;exact SeqAt.EqAt.str_int x t j u _ _ _ _ h
   ·rw [qh'] at h;exact wpAny_eqBool_str h
 «strs»:=λk x t v h=>by
  rcases bg' h with ⟨i,u,rfl,e⟩ | ⟨y,u,rfl,e⟩
  ·exact nomatch e
  ·injection e with e1 _
   subst e1
   cases v<;>rfl
inductive V where
 | non | bl (b:Bool) | int (i:Int) | str (x:Str) | byt (b:Array UInt8) | flt (b:UInt64) | ref (a:Addr) | ty (n:String)
 deriving DecidableEq
def RelV:V->Value->Prop
 | .non,u=>u=Value.none
 | .bl b,u=>u=Value.bool b
 | .int i,u=>∃ t,u=Value.int i t
 | .str x,u=>∃ t,u=Value.str x t
 | .byt b,u=>∃ t,u=Value.bytes b t
 | .flt b,u=>∃ t,u=Value.float b t
 | .ref a,u=>u=Value.ref a
 | .ty n,u=>u=type n
abbrev Vals:List V->List Value->Prop:=Paired RelV
theorem Vals.length {xs:List V}{us:List Value} (r:Vals xs us):xs.length=us.length:=Paired.length r
theorem Vals.get:∀ {xs:List V}{us:List Value}{i:Nat}{x:V},Vals xs us->xs[i]?=some x->∃ u,us[i]?=some u/\RelV x u
 | _,_,_,_,.nil,e=>by simp at e
 | _,_,0,_,.cons r _,e=>by simp at e;subst e;exact ⟨_,rfl,r⟩
 | _,_,i+1,x,.cons _ t,e=>by
  obtain ⟨u,h1,h2⟩:=Vals.get (i:=i) (x:=x) t (by simpa using e)
  exact ⟨u,by simpa using h1,h2⟩
theorem Vals.set {x:V}{u:Value} (r:RelV x u):∀ {xs:List V}{us:List Value} (i:Nat),Vals xs us->Vals (xs.set i x) (us.set i u)
 | _,_,_,.nil=>.nil
 | _,_,0,.cons _ t=>.cons r t
 | _,_,i+1,.cons q t=>.cons q (Vals.set r i t)
theorem Vals.append:∀ {xs ys:List V}{us ws:List Value},Vals xs us->Vals ys ws->Vals (xs++ys) (us++ws)
 | _,_,_,_,.nil,s=>s
 | _,_,_,_,.cons r t,s=>.cons r (Vals.append t s)
theorem Vals.take:∀ {xs:List V}{us:List Value} (n:Nat),Vals xs us->Vals (xs.take n) (us.take n)
 | _,_,0,_=>.nil
 | _,_,_+1,.nil=>.nil
 | _,_,n+1,.cons r t=>.cons r (Vals.take n t)
theorem Vals.drop:∀ {xs:List V}{us:List Value} (n:Nat),Vals xs us->Vals (xs.drop n) (us.drop n)
 | _,_,0,r=>r
 | _,_,_+1,.nil=>.nil
 | _,_,n+1,.cons _ t=>Vals.drop n t
def RelO:Option V->Option Value->Prop
 | some v,some u=>RelV v u
 | none,none=>True
 | _,_=>False
def KV {κ:Type}:List (κ×V)->List (κ×Value)->Prop:=Paired λ(p:κ×V) (q:κ×Value)=>p.1=q.1/\RelV p.2 q.2
noncomputable def kV:Key->V
 | .inl i=>.int i
 | .inr x=>.str x
inductive HO where
 | lst (xs:List V)
 | tup (xs:List V)
 | dK (aH:List (Key×V)) | dT (aH:List (List Key×V))
 | set (S:Int->Bool) (n:Nat)
 | ins (C dx:Addr) (fs:List (Str×V))
 | own (x:Addr)
 | xd (fs:List (Str×V))
 | met (f x:Addr)
 | rng (lo hi:Int)
 | frz (o:Obj) (u:HO)
 | tbl (q:Str)
 | ext (φ:Heap->Prop)
abbrev Hp:=Addr->Option HO
noncomputable def upd (H:Hp) (a:Addr) (o:HO):Hp:=λb=>if b=a then some o else H b
theorem ap' {H:Hp}{a:Addr}{o:HO}:upd H a o a=some o:=by unfold upd;rw [if_pos rfl]
theorem ai' {H:Hp}{a b:Addr}{o:HO} (h:b≠a):upd H a o b=H b:=by unfold upd;rw [if_neg h]
theorem aY' {H:Hp}{a b:Addr}{o:HO} (h:H a=some o) (h':H b=none):a≠b:=by
 intro e;subst e;rw [h] at h';cases h'
section
variable (P:Program) (w:World)
def ObjOk (H:Hp) (h:Heap) (a:Addr):HO->Prop
 | .lst xs=>xs.length<=sizeLine/\∃ (ac:List Value) (n:Nat),Vals xs ac/\h.get? a=some { cls:=.type "list", data:=.seq ac.toArray n }
 | .tup xs=>xs.length<=sizeLine/\∃ ac:List Value,Vals xs ac/\IsTup h a ac.toArray
 | .dK aH=>aH.length<=sizeLine/\(a == sysModules)=false/\∃ vs,KV aH vs/\h.DictOf (mixKind P w) a vs
 | .dT aH=>aH.length<=sizeLine/\(a == sysModules)=false/\∃ xs:List (List Key×Addr×Value),
   Paired (λ(p:List Key×V) (q:List Key×Addr×Value)=>p.1=q.1/\H q.2.1=some (.tup (p.1.map kV))/\RelV p.2 q.2.2) aH xs ∧
   ∃ o es ep,h.get? a=some o/\o.ExactDict/\o.data=.dict es ep/\es.toList=xs.map (entryOfKey (tupleKind (mixKind P w)))/\(xs.map (·.1)).Nodup
 | .set S n=>h.SetOf (intKind P w) a S n
 | .ins C dx fs=>H dx=some (.own a)/\fs.length<=1000/\dx≠a/\h.get? a=some (instObj C dx) ∧
   ∃ mA,h.Ns1 dx mA/\(∀ f,RelO (fs.lookup f) (mA f))/\PySem.Within mA (fs.map (·.1))
 | .own _=>∃ o,h.get? a=some o
 | .xd fs=>∃ mA,h.Ns1 a mA/\∀ f,RelO (fs.lookup f) (mA f)
 | .rng lo hi=>∃ t u v,h.get? a=some { cls:=.type "range", data:=.fields #[.int lo t,.int hi u,.int 1 v] }
 | .frz o u=>h.get? a=some o/\ObjOk H h a u
 | .tbl q=>∃ ps:Array Value,h.get? a=some { cls:=.none,data:=.fields ps }/\TriplesOk ps.toList/\∀ pos cv,codeAmong pos ps.toList=some cv->∃ c oc vs t,cv=.ref c/\H c=some (.frz oc (.own a))/\oc.data=.fields vs/\vs[1]?=some (.str q t)
 | .met f x=>h.get? a=some (methodObj (.ref f) (.ref x))
 | .ext φ=>φ h/\(∃ o,h.get? a=some o)/\∀ h1 h2:Heap,φ h1->(∀ o,h1.get? a=some o->h2.get? a=some o)->φ h2
def HOk (H:Hp) (h:Heap):Prop:=∀ a o,H a=some o->ObjOk P w H h a o
end
section
variable {P:Program}{w:World}{H H':Hp}{h h':Heap}{a:Addr}{o:HO}
theorem ObjOk.lt (x:ObjOk P w H h a o):a < h.objs.size:=by
 cases o with
 | lst xs=>obtain ⟨_,_,_,_,e⟩:=x;exact lt_size e
 | tup xs=>obtain ⟨_,_,_,p⟩:=x;exact p.lt
 | dK aH=>obtain ⟨_,_,_,_,o,_,_,e,_⟩:=x;exact lt_size e
 | dT aH=>obtain ⟨_,_,_,_,o,_,_,e,_⟩:=x;exact lt_size e
 | set S n=>obtain ⟨o,_,_,_,e,_⟩:=x;exact lt_size e
 | ins C dx fs=>obtain ⟨_,_,_,e,_⟩:=x;exact lt_size e
 | own y=>obtain ⟨_,e⟩:=x;exact lt_size e
 | xd fs=>obtain ⟨_,⟨_,_,_,e,_⟩,_⟩:=x;exact lt_size e
 | rng lo hi=>obtain ⟨_,_,_,e⟩:=x;exact lt_size e
 | frz ob u=>obtain ⟨e,_⟩:=x;exact lt_size e
 | tbl q=>obtain ⟨_,e,_⟩:=x;exact lt_size e
 | met f y=>exact lt_size (show h.get? a=some _ from x)
 | ext φ=>obtain ⟨_,⟨_,e⟩,_⟩:=x;exact lt_size e
theorem Paired.mapP {α Z:Type}{F G:α->Z->Prop}:∀ {jr:List α}{jt:List Z},Paired F jr jt->(∀ a b,F a b->G a b)->Paired G jr jt
 | _,_,.nil,_=>.nil
 | _,_,.cons r t,f=>.cons (f _ _ r) (Paired.mapP t f)
theorem ObjOk.stay (x:ObjOk P w H h a o) (k:∀ b u,(b=a\/H b=some (.own a))->h.get? b=some u->h'.get? b=some u)
  (ho:∀ b,H b=some (.own a)->H' b=some (.own a)) (ht:∀ b xs,H b=some (.tup xs)->H' b=some (.tup xs)) (hz:∀ b o u,H b=some (.frz o u)->H' b=some (.frz o u)):ObjOk P w H' h' a o:=by
 induction o with
 | lst xs=>obtain ⟨z,ac,n,r,e⟩:=x;exact ⟨z,ac,n,r,k _ _ (.inl rfl) e⟩
 | tup xs=>obtain ⟨z,ac,r,ob,e,c⟩:=x;exact ⟨z,ac,r,ob,k _ _ (.inl rfl) e,c⟩
 | dK aH=>obtain ⟨z,y,vs,r,ob,es,ep,e,c⟩:=x;exact ⟨z,y,vs,r,ob,es,ep,k _ _ (.inl rfl) e,c⟩
 | dT aH =>
  obtain ⟨z,y,xs,r,ob,es,ep,e,c⟩:=x
  exact ⟨z,y,xs,Paired.mapP r λp q z=>⟨z.1,ht _ _ z.2.1,z.2.2⟩,ob,es,ep,k _ _ (.inl rfl) e,c⟩
 | set S n=>obtain ⟨ob,es,ep,t,e,c⟩:=x;exact ⟨ob,es,ep,t,k _ _ (.inl rfl) e,c⟩
 | ins C dx fs =>
  obtain ⟨d,z,ne,e,mA,⟨od,es,ep,e2,c⟩,r⟩:=x
  exact ⟨ho _ d,z,ne,k _ _ (.inl rfl) e,mA,⟨od,es,ep,k _ _ (.inr d) e2,c⟩,r⟩
 | own y=>obtain ⟨ob,e⟩:=x;exact ⟨ob,k _ _ (.inl rfl) e⟩
 | xd fs=>obtain ⟨mA,⟨od,es,ep,e,c⟩,r⟩:=x;exact ⟨mA,⟨od,es,ep,k _ _ (.inl rfl) e,c⟩,r⟩
 | rng lo hi=>obtain ⟨t,u,v,e⟩:=x;exact ⟨t,u,v,k _ _ (.inl rfl) e⟩
 | frz ob u ih=>obtain ⟨e,q⟩:=x;exact ⟨k _ _ (.inl rfl) e,ih q⟩
 | tbl q =>
  obtain ⟨ps,e,t,c⟩:=x
  refine ⟨ps,k _ _ (.inl rfl) e,t,λpos cv h=>?_⟩
  obtain ⟨c,oc,vs,t,e1,e2,e3⟩:=c pos cv h
  exact ⟨c,oc,vs,t,e1,hz _ _ _ e2,e3⟩
 | met f y =>
  have e:h.get? a=some (methodObj (.ref f) (.ref y)):=x
  show h'.get? a=some (methodObj (.ref f) (.ref y))
  exact k a _ (.inl rfl) e
 | ext φ=>obtain ⟨p,⟨o,e⟩,st⟩:=x;exact ⟨st _ _ p λo q=>k _ _ (.inl rfl) q,⟨o,k _ _ (.inl rfl) e⟩,st⟩
theorem HOk.lt (x:HOk P w H h) (e:H a=some o):a < h.objs.size:=(x a o e).lt
theorem HOk.fresh (x:HOk P w H h) (e:h.objs.size<=a):H a=none:=by
 cases q:H a with
 | none=>rfl
 | some u=>exact absurd (lt_of_lt_of_le (x.lt q) e) (lt_irrefl _)
theorem HOk.kept (x:HOk P w H h) (k:∀ b u,h.get? b=some u->h'.get? b=some u):HOk P w H h':=λa o e =>
 (x a o e).stay (λb u _ q=>k b u q) (λ_ q=>q) (λ_ _ q=>q) λ_ _ _ q=>q
theorem HOk.laid (x:HOk P w H h) (k:∀ b u,h.get? b=some u->h'.get? b=some u) (hp:h.objs.size<=a) (new:ObjOk P w (upd H a o) h' a o):HOk P w (upd H a o) h':=λb u e=>by
 have hn:=x.fresh hp
 by_cases hb:b=a
 ·subst hb;rw [ap'] at e;cases e;exact new
 ·rw [ai' hb] at e
  exact (x b u e).stay (λc v _ q=>k c v q) (λc q=>by rw [ai' (aY' q hn)];exact q) (λc xs q=>by rw [ai' (aY' q hn)];exact q) λc o u q=>by rw [ai' (aY' q hn)];exact q
end
def Rd (H:Hp) (a:Addr) (u:HO):Prop:=H a=some u\/∃ o,H a=some (.frz o u)
theorem Rd.ok {P:Program}{w:World}{H:Hp}{h:Heap}{a:Addr}{u:HO} (r:Rd H a u) (x:HOk P w H h):ObjOk P w H h a u:=by
 rcases r with r | ⟨o,r⟩
 ·exact x a u r
 ·obtain ⟨_,q⟩:=x a _ r
  exact q
def Mut:Option HO->Prop
 | some (.lst _)=>True
 | some (.dK _)=>True
 | some (.dT _)=>True
 | some (.set _ _)=>True
 | some (.ins _ _ _)=>True
 | some (.ext _)=>True
 | _=>False
section
variable {P:Program}{w:World}{H:Hp}{h h':Heap}{x e:Addr}{o':HO}
theorem HOk.write (ok:HOk P w H h) (mu:Mut (H x)) (he:e=x\/H e=some (.own x)) (k:∀ b u,b≠e->h.get? b=some u->h'.get? b=some u) (fJ:∃ u,h'.get? e=some u)
  (new:ObjOk P w (upd H x o') h' x o'):HOk P w (upd H x o') h':=λb u q=>by
 have ju:∀ c y,H c=some (.own y)->c≠x:=λc y r z=>by subst z;rw [r] at mu;exact mu
 have pe:∀ c xs,H c=some (.tup xs)->c≠x:=λc xs r z=>by subst z;rw [r] at mu;exact mu
 by_cases hb:b=x
 ·subst hb;rw [ap'] at q;cases q;exact new
 ·rw [ai' hb] at q
  by_cases hbe:b=e
  ·have q':H b=some (.own x):=by
    rcases he with z | z
    ·exact absurd (hbe.trans z) hb
    ·rw [hbe];exact z
   rw [q] at q';cases q'
   obtain ⟨v,hv⟩:=fJ
   exact ⟨v,by rw [hbe];exact hv⟩
  ·refine (ok b u q).stay (λc v hc r=>k c v ?_ r) (λc r=>by rw [ai' (ju c b r)];exact r) (λc xs r=>by rw [ai' (pe c xs r)];exact r) λc o u r=>by rw [ai' (λz=>by subst z;rw [r] at mu;exact mu)];exact r
   rcases hc with rfl | hc
   ·exact hbe
   ·rintro rfl
    rcases he with z | z
    ·exact ju c b hc z
    ·rw [hc] at z;cases z;exact hb rfl
end
structure Un (fs ex:List Addr) (H H':Hp) (h h':Heap):Prop where
 keep:∀ b o,h.get? b=some o->H b=none->b∉fs->b∉ex->h'.get? b=some o
 slot:∀ b o,h.get? b=some o->H b=none->b∈fs->b∉ex->∃ sl,h'.get? b=some { o with slots:=sl }
 free:∀ b o,h.get? b=some o->H b=none->b∉ex->H' b=none
 there:∀ b o,h.get? b=some o->b∉ex->∃ o',h'.get? b=some o'
 tups:∀ b xs,H b=some (.tup xs)->H' b=some (.tup xs)
 frzs:∀ b o u,H b=some (.frz o u)->H' b=some (.frz o u)
 tbls:∀ b q,H b=some (.tbl q)->H' b=some (.tbl q)
section
variable {fs u0 ex y8:List Addr}{H H1 H2:Hp}{h h1 h2 h':Heap}{a x e:Addr}{o:HO}
theorem Un.any (u:Un fs ex H H1 h h1){b:Addr}{ob:Obj} (q:h.get? b=some ob) (n:H b=none) (hx:b∉ex):∃ sl,h1.get? b=some { ob with slots:=sl }:=by
 by_cases hb:b∈fs
 ·exact u.slot b ob q n hb hx
 ·exact ⟨ob.slots,u.keep b ob q n hb hx⟩
theorem Un.kept (k:∀ b u,h.get? b=some u->h'.get? b=some u):Un fs ex H H h h' :=
 ⟨λb ob q _ _ _=>k b ob q,λb ob q _ _ _=>⟨ob.slots,k b ob q⟩,λ_ _ _ n _=>n,λb ob q _=>⟨ob,k b ob q⟩,λ_ _ q=>q,λ_ _ _ q=>q,λ_ _ q=>q⟩
theorem Un.refl:Un fs ex H H h h:=Un.kept λ_ _ q=>q
theorem Un.laid (k:∀ b u,h.get? b=some u->h'.get? b=some u) (hp:h.objs.size<=a) (hn:H a=none):Un fs ex H (upd H a o) h h' where
 keep:=λb u q _ _ _=>k b u q
 slot:=λb u q _ _ _=>⟨u.slots,k b u q⟩
 free:=λb u q n _=>by rw [ai' (ne_of_lt (lt_of_lt_of_le (lt_size q) hp))];exact n
 there:=λb u q _=>⟨u,k b u q⟩
 tups:=λb xs q=>by rw [ai' (aY' q hn)];exact q
 frzs:=λb u xs q=>by rw [ai' (aY' q hn)];exact q
 tbls:=λb xs q=>by rw [ai' (aY' q hn)];exact q
theorem Un.write (mu:Mut (H x)) (he:e=x\/H e=some (.own x)) (k:∀ b u,b≠e->h.get? b=some u->h'.get? b=some u) (fJ:∃ u,h'.get? e=some u):Un fs ex H (upd H x o) h h':=by
 have hx:∀ b,H b=none->b≠x:=λb n z=>by subst z;rw [n] at mu;exact mu
 have hb:∀ b,H b=none->b≠e:=λb n z=>by
  subst z
  rcases he with r | r
  ·exact hx b n r
  ·rw [n] at r;cases r
 have hm:∀ b u,H b=some u->¬ Mut (some u)->b≠x:=λb u q nm z=>by subst z;rw [q] at mu;exact nm mu
 refine ⟨λb u q n _ _=>k b u (hb b n) q,λb u q n _ _=>⟨u.slots,k b u (hb b n) q⟩,λb u q n _=>by rw [ai' (hx b n)];exact n,λb u q _=>?_,
  λb xs q=>by rw [ai' (hm b _ q λz=>z)];exact q,λb u xs q=>by rw [ai' (hm b _ q λz=>z)];exact q,λb xs q=>by rw [ai' (hm b _ q λz=>z)];exact q⟩
 by_cases hbe:b=e
 ·subst hbe;exact fJ
 ·exact ⟨u,k b u hbe q⟩
end
noncomputable def trk (h:Heap) (H:Hp):List Addr:=(range h.objs.size).filter λa=>(H a).isSome
noncomputable def hidT (h:Heap) (H:Hp):Heap:=PySem.W.hideAll h (trk h H)
theorem mx' (h:Heap) (H:Hp):(hidT h H).objs.size=h.objs.size:=PySem.W.hideAll_size _ _
theorem n1' {h:Heap}{H:Hp}{b:Addr}{o:Obj} (e:h.get? b=some o) (n:H b=none):(hidT h H).get? b=some o :=
 PySem.W.hideAll_get _ e λhm=>by
  have q:(H b).isSome=true:=(mem_filter.mp hm).2
  rw [n] at q;simp at q
theorem ph' {h:Heap}{H:Hp}{b:Addr}{o:Obj} (e:(hidT h H).get? b=some o):h.get? b=some o/\H b=none:=by
 have e':h.get? b=some o:=PySem.W.of_hideAll (trk h H) e
 refine ⟨e',?_⟩
 cases q:H b with
 | none=>rfl
 | some x =>
  have hm:b∈trk h H:=mem_filter.mpr ⟨mem_range.mpr (lt_size e'),by simp [q]⟩
  have z:(hidT h H).get? b=none:=PySem.W.hideAll_none (trk h H) hm
  rw [z] at e;cases e
def TabsOk (K:PySem.W.Frag) (H:Hp):Prop:=∀ c P,tabIn K "letter_left"=some (c,P)->H P=some (.tbl "letter_left.<locals>.<lambda>")
structure Mod (K:PySem.W.Frag) (mg:Str->Option Value) (base:Heap):Prop where
 kin:K.In base
 glob:base.Ns mainGlobals mg
 blt:∃ mb,base.Ns builtinsNs mb/\∀ x:Str,x ≠ "__name__"->mb x=bootBuiltins x
 nolimit:base.NoLimit
 bm:∃ bm ob,mg "__builtins__"=some (.ref bm)/\bm≠builtinsNs/\base.get? bm=some ob/\ob.cls=.type "module"/\ob.dict=some builtinsNs/\ob.data=.plain
 cod:∀ c P,tabIn K "letter_left"=some (c,P)->PySem.W.CodeHd base c P
structure Cx where
 prog:Program
 w:World
 K:PySem.W.Frag
 mg:Str->Option Value
 base:Heap
 A:Around
 N:List Str
 s₀:Shared
 H₀:Hp
 env:Env
 outer:List Env
 stack:List Env
 ex:List Addr
 fn:Str->Bool
 calm:Bool
 pn:List (Addr×Obj)
 xe:Value->Shared->Prop
noncomputable def frs (l:List Env):List Addr:=l.filterMap (·.frame)
noncomputable abbrev Cx.fs (X:Cx):List Addr:=frs X.outer
def Vis (sc:Scope) (x:Str):Prop:=sc.names.lookup x=some .local\/sc.names.lookup x=some .cell\/sc.names.lookup x=some .free
def Loc (sc:Scope) (x:Str):Prop:=sc.names.lookup x=some .local\/sc.names.lookup x=some .cell
noncomputable def visB (s:Scope) (x:Str):Bool:=match s.names.lookup x with|some .local=>true|some .cell=>true|some .free=>true|_=>false
noncomputable def locB (s:Scope) (x:Str):Bool:=match s.names.lookup x with|some .local=>true|some .cell=>true|_=>false
noncomputable def fnB (X:Cx) (x:Str):Bool:=X.fn x||match X.env.scope.names.lookup x with|some .local=>true|_=>false
theorem visI {s:Scope}{x:Str} (h:visB s x=true):Vis s x:=by
 unfold visB at h;unfold Vis;split at h<;>simp_all
theorem locI {s:Scope}{x:Str} (h:locB s x=true):Loc s x:=by
 unfold locB at h;unfold Loc;split at h<;>simp_all
theorem fnI {X:Cx}{x:Str} (h:fnB X x=true):X.fn x=true\/X.env.scope.names.lookup x=some .local:=by
 unfold fnB at h
 cases e:X.fn x with
 | true=>exact .inl rfl
 | false=>rw [e,Bool.false_or] at h;split at h<;>simp_all
def Look (env:Env) (h:Heap) (m:Str->Option Value) (x:Str) (u:Value):Prop :=
 (env.kindOf x=some .local/\m x=some u)\/((env.kindOf x=some .cell\/env.kindOf x=some .free)/\∃ c,env.cells.lookup x=some c/\h.IsCell c (some u))
structure Cx.Ok (X:Cx):Prop where
 mod:Mod X.K X.mg X.base
 kind:X.env.scope.kind=.function
 glob:X.env.globals=mainGlobals
 blt:X.env.builtins=builtinsNs
 above:X.s₀.heap.objs.size<=X.env.locals
 inj:∀ x y c,X.env.cells.lookup x=some c->X.env.cells.lookup y=some c->x=y
 has:∀ x,(X.env.kindOf x=some .cell\/X.env.kindOf x=some .free)->∃ c,X.env.cells.lookup x=some c
 cab:∀ x c,X.fn x=true->X.env.cells.lookup x=some c->X.s₀.heap.objs.size<=c
 hd:X.calm=true->X.A.handled=none
 frames:X.A.frames=some X.stack
 stk:X.stack=X.outer\/(X.stack=X.env::X.outer/\X.env.frame=some X.env.locals)
 exf:∀ b∈X.ex,b≠X.env.locals/\∀ x c,X.env.cells.lookup x=some c->c≠b
 bs:∀ b o,X.base.get? b=some o->X.s₀.heap.get? b=some o/\X.H₀ b=none
 bsz:X.base.objs.size<=X.s₀.heap.objs.size
 noex:∀ b o,X.base.get? b=some o->b∉X.ex
 exfs:∀ b∈X.ex,b∉X.fs
 funs:X.s₀.heap.FunFrames X.base X.outer
 frf:∀ b∈X.fs,X.H₀ b=none
 tb:TabsOk X.K X.H₀
structure Inv (X:Cx) (aa:List (Addr×Obj)) (U:List (Option V)) (H:Hp) (s:Shared):Prop where
 ok:X.Ok
 os:s.os=X.s₀.os
 bare:AllBare s.gens
 base:Un X.fs X.ex X.H₀ H X.s₀.heap s.heap
 loc:∃ m,s.heap.Ns X.env.locals m/\∀ (i:Nat) (x:Str) (v:V),X.N[i]?=some x->U[i]?=some (some v)->Vis X.env.scope x->∃ u,RelV v u/\Look X.env s.heap m x u
 cell:∀ x c,X.env.cells.lookup x=some c->∃ v,s.heap.IsCell c v
 free:H X.env.locals=none
 freeC:∀ x c,X.env.cells.lookup x=some c->H c=none
 pin:∀ p∈X.pn++aa,s.heap.get? p.1=some p.2/\H p.1=none/\p.1≠X.env.locals/\p.1∉X.fs/\∀ v,p.2.data≠.cell v
 hok:HOk X.prog X.w H s.heap
 len:U.length=X.N.length
section
variable {X:Cx}{aa:List (Addr×Obj)}{U:List (Option V)}{H H':Hp}{s:Shared}{h':Heap}
theorem Cx.Ok.nofr (ok:X.Ok){b:Addr}{o:Obj} (e:X.base.get? b=some o):b∉X.fs:=λhb=>by
 have:=(ok.funs.mem hb).1
 rw [e] at this;cases this
theorem Inv.bs (I:Inv X aa U H s):∀ b o,X.base.get? b=some o->s.heap.get? b=some o/\H b=none:=λb o e =>
 ⟨I.base.keep b o (I.ok.bs b o e).1 (I.ok.bs b o e).2 (I.ok.nofr e) (I.ok.noex b o e),I.base.free b o (I.ok.bs b o e).1 (I.ok.bs b o e).2 (I.ok.noex b o e)⟩
theorem Inv.bk (I:Inv X aa U H s):∀ b o,X.base.get? b=some o->s.heap.get? b=some o:=λb o e=>(I.bs b o e).1
theorem Inv.mod (I:Inv X aa U H s):Mod X.K X.mg X.base:=I.ok.mod
theorem Inv.kIn (I:Inv X aa U H s):X.K.In s.heap:=I.ok.mod.kin.keeps I.bk
theorem Inv.nolimit (I:Inv X aa U H s):s.heap.NoLimit:=I.ok.mod.nolimit.keeps I.bk
theorem Inv.lt (I:Inv X aa U H s):X.env.locals < s.heap.objs.size:=let ⟨_,hn,_⟩:=I.loc;hn.lt
theorem Inv.sz (I:Inv X aa U H s):X.s₀.heap.objs.size<=s.heap.objs.size:=le_trans I.ok.above (le_of_lt I.lt)
theorem Inv.nofs (I:Inv X aa U H s){a:Addr} (h:s.heap.objs.size<=a):a∉X.fs:=λhb=>by
 obtain ⟨_,o,ho,_⟩:=I.ok.funs.mem hb
 exact absurd (lt_of_lt_of_le (lt_size ho) (le_trans I.sz h)) (lt_irrefl _)
theorem Inv.cne (I:Inv X aa U H s):∀ x c,X.env.cells.lookup x=some c->c≠X.env.locals:=λx c e z=>by
 obtain ⟨v,o,ho,hd⟩:=I.cell x c e
 obtain ⟨m,⟨o',es,ep,cB,bD,_⟩,_⟩:=I.loc
 rw [z,cB] at ho;cases ho;rw [bD] at hd;cases hd
theorem Inv.funs (I:Inv X aa U H s):s.heap.FunFrames X.base X.outer:=by
 have all:∀ (l:List Env),(∀ b∈frs l,b∈X.fs)->X.s₀.heap.FunFrames X.base l->s.heap.FunFrames X.base l:=by
  intro l
  induction l with
  | nil=>intro _ _;trivial
  | cons env r ih =>
   intro hs hl
   obtain ⟨hk,⟨L,o,hf,hn,ho,hd⟩,hr⟩:=hl
   have hL:L∈X.fs:=hs L (by unfold frs;rw [filterMap_cons,hf];exact mem_cons_self)
   obtain ⟨sl,e⟩:=I.base.slot L o ho (I.ok.frf L hL) hL λz=>I.ok.exfs L z hL
   exact ⟨hk,⟨L,_,hf,hn,e,hd⟩,ih (λb hb=>hs b (by unfold frs;rw [filterMap_cons,hf];exact mem_cons_of_mem _ hb)) hr⟩
 exact all X.outer (λ_ hb=>hb) I.ok.funs
theorem Inv.stack (I:Inv X aa U H s):s.heap.FunFrames X.base X.stack:=by
 rcases I.ok.stk with e | ⟨e,hf⟩
 ·rw [e];exact I.funs
 ·rw [e]
  obtain ⟨m,hn,_⟩:=I.loc
  refine .cons (by rw [I.ok.kind];decide) hf hn ?_ I.funs
  exact Heap.get?_none_of_le (le_trans I.ok.bsz I.ok.above)
theorem Inv.stkSub (I:Inv X aa U H s):∀ b∈frs X.stack,b∈X.env.locals::X.fs:=λb hb=>by
 rcases I.ok.stk with e | ⟨e,hf⟩
 ·rw [e] at hb;exact mem_cons_of_mem _ hb
 ·rw [e] at hb
  unfold frs at hb
  rw [filterMap_cons,hf] at hb
  exact hb
theorem Inv.stkFree (I:Inv X aa U H s):∀ b∈frs X.stack,H b=none:=λb hb=>by
 rcases mem_cons.mp (I.stkSub b hb) with e | hb
 ·rw [e];exact I.free
 ·obtain ⟨_,o,ho,_⟩:=I.ok.funs.mem hb
  exact I.base.free b o ho (I.ok.frf b hb) λz=>I.ok.exfs b z hb
theorem Inv.step {g':Array GenState}{t':Nat}{d':Drawn}{ch:List Addr} (I:Inv X aa U H s)
  (bi:∀ b∈ch,(b∈X.ex\/X.s₀.heap.objs.size<=b)/\b≠X.env.locals/\(∀ x c,X.env.cells.lookup x=some c->c≠b)/\∀ p∈X.pn++aa,p.1≠b)
  (keep:∀ b o,b≠X.env.locals->b∉X.fs->b∉ch->s.heap.get? b=some o->H b=none->h'.get? b=some o)
  (slot:∀ b o,b≠X.env.locals->b∈X.fs->b∉ch->s.heap.get? b=some o->H b=none->∃ sl,h'.get? b=some { o with slots:=sl }) (free:∀ b o,b∉ch->s.heap.get? b=some o->H b=none->H' b=none)
  (there:∀ b o,b∉ch->s.heap.get? b=some o->∃ o',h'.get? b=some o')
  (tups:∀ b xs,H b=some (.tup xs)->H' b=some (.tup xs)) (frzs:∀ b o u,H b=some (.frz o u)->H' b=some (.frz o u)) (tbls:∀ b q,H b=some (.tbl q)->H' b=some (.tbl q))
  (ns:∀ m,s.heap.Ns X.env.locals m->h'.Ns X.env.locals m) (hok:HOk X.prog X.w H' h') (hg:AllBare g') :
  Inv X aa U H' { s with heap:=h',gens:=g',drawn:=d',toks:=t' }:=by
 have fK:∀ b o,X.s₀.heap.get? b=some o->b≠X.env.locals:=λb o e=>ne_of_lt (lt_of_lt_of_le (lt_size e) I.ok.above)
 have fL:∀ b o,X.s₀.heap.get? b=some o->b∉X.ex->b∉ch:=λb o e hx hb=>by
  rcases (bi b hb).1 with z | z
  ·exact hx z
  ·exact absurd (lt_of_lt_of_le (lt_size e) z) (lt_irrefl _)
 have gj:∀ x c,X.env.cells.lookup x=some c->∀ v,s.heap.IsCell c v->h'.IsCell c v:=λx c e v ⟨o,ho,hd⟩=>by
  have cC:c∉ch:=λz=>(bi c z).2.2.1 x c e rfl
  by_cases hc:c∈X.fs
  ·obtain ⟨sl,q⟩:=slot c o (I.cne x c e) hc cC ho (I.freeC x c e)
   exact ⟨_,q,hd⟩
  ·exact ⟨o,keep c o (I.cne x c e) hc cC ho (I.freeC x c e),hd⟩
 refine ⟨I.ok,I.os,hg,⟨λb o e n hb hx=>?_,λb o e n hb hx=>?_,λb o e n hx=>?_,λb o e hx=>?_,λb xs e=>tups b xs (I.base.tups b xs e),λb o xs e=>frzs b o xs (I.base.frzs b o xs e),λb ps e=>?_⟩,?_,λx c e=>?_,?_,λx c e=>?_,λp hp=>?_,hok,I.len⟩
 ·exact keep b o (fK b o e) hb (fL b o e hx) (I.base.keep b o e n hb hx) (I.base.free b o e n hx)
 ·obtain ⟨sl,e1⟩:=I.base.slot b o e n hb hx
  obtain ⟨u3,e2⟩:=slot b _ (fK b o e) hb (fL b o e hx) e1 (I.base.free b o e n hx)
  exact ⟨u3,e2⟩
 ·obtain ⟨o',e1⟩:=I.base.there b o e hx
  exact free b o' (fL b o e hx) e1 (I.base.free b o e n hx)
 ·obtain ⟨o',e1⟩:=I.base.there b o e hx
  exact there b o' (fL b o e hx) e1
 ·exact tbls b ps (I.base.tbls b ps e)
 ·obtain ⟨m,hn,hl⟩:=I.loc
  refine ⟨m,ns m hn,λi x v e1 e2 e3=>?_⟩
  obtain ⟨u,r,l⟩:=hl i x v e1 e2 e3
  refine ⟨u,r,?_⟩
  rcases l with l | ⟨k,c,e,z⟩
  ·exact .inl l
  ·exact .inr ⟨k,c,e,gj x c e _ z⟩
 ·obtain ⟨v,z⟩:=I.cell x c e
  exact ⟨v,gj x c e v z⟩
 ·obtain ⟨m,⟨o,_,_,ho,_⟩,_⟩:=I.loc
  exact free _ o (λz=>(bi _ z).2.1 rfl) ho I.free
 ·obtain ⟨v,o,ho,hd⟩:=I.cell x c e
  exact free c o (λz=>(bi c z).2.2.1 x c e rfl) ho (I.freeC x c e)
 ·obtain ⟨e,n,ne,nf,d⟩:=I.pin p hp
  have cC:p.1∉ch:=λz=>(bi p.1 z).2.2.2 p hp rfl
  exact ⟨keep p.1 p.2 ne nf cC e n,free p.1 p.2 cC e n,ne,nf,d⟩
theorem Inv.un {t':Nat} (I:Inv X aa U H s) (u:Un X.fs [] H H' s.heap h') (hok:HOk X.prog X.w H' h'):Inv X aa U H' { s with heap:=h',toks:=t' }:=by
 obtain ⟨m,⟨o,es,ep,ho,r⟩,_⟩:=id I.loc
 obtain ⟨sl,hL⟩:=u.any ho I.free (by simp)
 exact I.step (g':=s.gens) (d':=s.drawn) (ch:=[]) (λ_ z=>nomatch z) (λb o _ hb _ e n=>u.keep b o e n hb (by simp)) (λb o _ hb _ e n=>u.slot b o e n hb (by simp)) (λb o _ e n=>u.free b o e n (by simp)) (λb o _ e=>u.there b o e (by simp)) u.tups u.frzs u.tbls (λm' hm=>by
  obtain ⟨o',es',kj,cB,r'⟩:=hm
  rw [ho] at cB;cases cB
  exact ⟨_,es',kj,hL,r'⟩) hok I.bare
theorem Inv.call {g':Array GenState}{t':Nat}{d':Drawn}{ch:List Addr} (I:Inv X aa U H s) (u:Un (frs X.stack) ch H H' s.heap h') (hok:HOk X.prog X.w H' h') (hg:AllBare g')
  (bi:∀ b∈ch,(b∈X.ex\/X.s₀.heap.objs.size<=b)/\b≠X.env.locals/\(∀ x c,X.env.cells.lookup x=some c->c≠b)/\∀ p∈X.pn++aa,p.1≠b) :
  Inv X aa U H' { s with heap:=h',gens:=g',drawn:=d',toks:=t' }:=by
 obtain ⟨m,⟨o,es,ep,ho,r⟩,_⟩:=id I.loc
 obtain ⟨sl,hL⟩:=u.any ho I.free λz=>(bi _ z).2.1 rfl
 exact I.step (ch:=ch) bi (λb o hL hb hc e n=>u.keep b o e n (λz=>(mem_cons.mp (I.stkSub b z)).elim hL hb) hc) (λb o _ _ hc e n=>u.any e n hc) (λb o hc e n=>u.free b o e n hc) (λb o hc e=>u.there b o e hc) u.tups u.frzs u.tbls (λm' hm=>by
  obtain ⟨o',es',kj,cB,r'⟩:=hm
  rw [ho] at cB;cases cB
  exact ⟨_,es',kj,hL,r'⟩) hok hg
theorem Inv.turned {t':Nat}{it:Addr} (I:Inv X aa U H s) (k:∀ b o,b≠it->s.heap.get? b=some o->h'.get? b=some o) (hn:H it=none) (hL:it≠X.env.locals)
  (h1:it∈X.ex\/X.s₀.heap.objs.size<=it) (h2:∀ x c,X.env.cells.lookup x=some c->c≠it) (h3:∀ p∈X.pn++aa,p.1≠it):Inv X aa U H { s with heap:=h',toks:=t' }:=by
 have pf:∀ b u,H b=some u->b≠it:=λb u e z=>by rw [z,hn] at e;cases e
 refine I.step (g':=s.gens) (d':=s.drawn) (ch:=[it]) (λb hb=>?_) (λb o _ _ hc e _=>k b o (λz=>hc (by simp [z])) e) (λb o _ _ hc e _=>⟨o.slots,k b o (λz=>hc (by simp [z])) e⟩) (λ_ _ _ _ n=>n)
  (λb o hc e=>⟨o,k b o (λz=>hc (by simp [z])) e⟩) (λ_ _ e=>e) (λ_ _ _ e=>e) (λ_ _ e=>e) (λm hm=>?_) (λb u e=>?_) I.bare
 ·have e:b=it:=by simpa using hb
  subst e
  exact ⟨h1,hL,h2,h3⟩
 ·obtain ⟨o,es,ep,ho,r⟩:=hm
  exact ⟨o,es,ep,k _ o (Ne.symm hL) ho,r⟩
 ·refine (I.hok b u e).stay (λc v hc q=>k c v ?_ q) (λ_ q=>q) (λ_ _ q=>q) λ_ _ _ q=>q
  rcases hc with z | z
  ·rw [z];exact pf b u e
  ·exact pf c _ z
theorem Inv.tok (I:Inv X aa U H s) (t:Nat):Inv X aa U H { s with toks:=t }:=I.un (h':=s.heap) (t':=t) Un.refl I.hok
theorem Inv.kept {t':Nat} (I:Inv X aa U H s) (k:∀ b u,s.heap.get? b=some u->h'.get? b=some u):Inv X aa U H { s with heap:=h',toks:=t' }:=I.un (Un.kept k) (I.hok.kept k)
theorem Inv.laid {a:Addr}{o:HO}{t':Nat} (I:Inv X aa U H s) (k:∀ b u,s.heap.get? b=some u->h'.get? b=some u) (hp:s.heap.objs.size<=a) (new:ObjOk X.prog X.w (upd H a o) h' a o) :
  Inv X aa U (upd H a o) { s with heap:=h',toks:=t' }:=I.un (Un.laid k hp (I.hok.fresh hp)) (I.hok.laid k hp new)
theorem Inv.write {x e:Addr}{o:HO}{t':Nat} (I:Inv X aa U H s) (mu:Mut (H x)) (he:e=x\/H e=some (.own x)) (k:∀ b u,b≠e->s.heap.get? b=some u->h'.get? b=some u) (fJ:∃ u,h'.get? e=some u)
  (new:ObjOk X.prog X.w (upd H x o) h' x o):Inv X aa U (upd H x o) { s with heap:=h',toks:=t' }:=I.un (Un.write mu he k fJ) (I.hok.write mu he k fJ new)
theorem Inv.pins_of {gm:List (Addr×Obj)} (I:Inv X aa U H s) (h:∀ p∈gm,s.heap.get? p.1=some p.2/\H p.1=none/\p.1≠X.env.locals/\p.1∉X.fs/\∀ v,p.2.data≠.cell v):Inv X gm U H s :=
 ⟨I.ok,I.os,I.bare,I.base,I.loc,I.cell,I.free,I.freeC,λp hp=>(mem_append.mp hp).elim (λz=>I.pin p (mem_append_left _ z)) (h p),I.hok,I.len⟩
theorem i7' {N:List Str} (hN:N.Nodup){i j:Nat}{x:Str} (a:N[i]?=some x) (b:N[j]?=some x):i=j:=by
 obtain ⟨h1,e1⟩:=List.getElem?_eq_some_iff.mp a
 obtain ⟨h2,e2⟩:=List.getElem?_eq_some_iff.mp b
 exact (List.getElem_inj hN).mp (e1.trans e2.symm)
theorem h3' {M:Model}{A:Around}{E:Value->Shared->Prop}{i:Nat}{x:Str}{v:V}{u:Value}{Q:Unit->Shared->Prop} (I:Inv X aa U H s) (hN:X.N.Nodup) (hi:X.N[i]?=some x) (hx:Loc X.env.scope x) (r:RelV v u)
  (h:∀ s',Inv X aa (U.set i (some v)) H s'->(∃ a,Heap.SameBut a s.heap s'.heap/\(a=X.env.locals\/X.env.cells.lookup x=some a))->Q () s') (hf:X.fn x=true\/X.env.scope.names.lookup x=some .local):wpAny M A (storeName X.env x u) Q E s:=by
 obtain ⟨m,hn,hl⟩:=id I.loc
 have ph:(X.env.scope.kind == .class||(X.env.scope.kind == .module&&X.env.locals != X.env.globals))=false:=by rw [I.ok.kind];rfl
 have jv:i < U.length:=by rw [I.len];exact (List.getElem?_eq_some_iff.mp hi).1
 have cne:=I.cne
 have cD:∀ {a:Addr}{h':Heap},(∃ o,s.heap.get? a=some o/\H a=none)->Heap.SameBut a s.heap h'->HOk X.prog X.w H h':=λ{a h'} ha hs b ob e=>by
  obtain ⟨_,_,dk⟩:=ha
  refine (I.hok b ob e).stay (λc w' hc q=>(hs.2 c ?_).trans q) (λ_ q=>q) (λ_ _ q=>q) λ_ _ _ q=>q
  rintro rfl
  rcases hc with rfl | hc
  ·rw [dk] at e;cases e
  ·rw [dk] at hc;cases hc
 rcases hx with hk | hk
 ·refine wpAny_storeName_local hk hn (λh' gr hs=>?_) ph
  obtain ⟨oL,_,_,u4,_⟩:=id hn
  refine h _ ⟨I.ok,I.os,I.bare,⟨λb o e n hb hx=>?_,λb o e n hb hx=>?_,I.base.free,λb o e hx=>?_,I.base.tups,I.base.frzs,I.base.tbls⟩,⟨_,gr,λj y v' e1 e2 e3=>?_⟩,λy c e=>?_,I.free,I.freeC,λp hp=>?_,cD ⟨oL,u4,I.free⟩ hs,by simpa using I.len⟩ ⟨_,hs,.inl rfl⟩
  ·exact (hs.2 b (ne_of_lt (lt_of_lt_of_le (lt_size e) I.ok.above))).trans (I.base.keep b o e n hb hx)
  ·obtain ⟨sl,e1⟩:=I.base.slot b o e n hb hx
   exact ⟨sl,(hs.2 b (ne_of_lt (lt_of_lt_of_le (lt_size e) I.ok.above))).trans e1⟩
  ·obtain ⟨o',e1⟩:=I.base.there b o e hx
   exact ⟨o',(hs.2 b (ne_of_lt (lt_of_lt_of_le (lt_size e) I.ok.above))).trans e1⟩
  ·by_cases hj:j=i
   ·subst hj
    rw [hi] at e1;cases e1
    rw [List.getElem?_set_self jv] at e2
    cases e2
    exact ⟨u,r,.inl ⟨hk,by simp⟩⟩
   ·rw [getElem?_set_ne (Ne.symm hj)] at e2
    obtain ⟨u',r',q⟩:=hl j y v' e1 e2 e3
    refine ⟨u',r',?_⟩
    rcases q with ⟨k,e⟩ | ⟨k,c,e,z⟩
    ·refine .inl ⟨k,?_⟩
     have:y≠x:=λe=>hj (i7' hN e1 (e▸hi))
     simp [this,e]
    ·exact .inr ⟨k,c,e,z.sameBut hs (cne y c e)⟩
  ·obtain ⟨w',z⟩:=I.cell y c e
   exact ⟨w',z.sameBut hs (cne y c e)⟩
  ·obtain ⟨e,n,ne,nf,d⟩:=I.pin p hp
   exact ⟨(hs.2 p.1 ne).trans e,n,ne,nf,d⟩
 ·have km:X.fn x=true:=by
   rcases hf with z | z
   ·exact z
   ·rw [z] at hk;cases hk
  obtain ⟨c,hc⟩:=I.ok.has x (.inl hk)
  obtain ⟨w',z⟩:=I.cell x c hc
  refine wpAny_storeName_cell I.ok.kind hk hc z (λh' aD hs=>?_)
  obtain ⟨oc,gw,pi⟩:=id z
  refine h { s with heap:=h' } ⟨I.ok,I.os,I.bare,⟨λb o e n hb hx=>?_,λb o e n hb hx=>?_,I.base.free,λb o e hx=>?_,I.base.tups,I.base.frzs,I.base.tbls⟩,⟨m,hn.sameBut hs (Ne.symm (cne x c hc)),λj y v' e1 e2 e3=>?_⟩,λy c' e=>?_,I.free,I.freeC,λp hp=>?_,cD ⟨oc,gw,I.freeC x c hc⟩ hs,by simpa using I.len⟩ ⟨c,hs,.inr hc⟩
  ·exact (hs.2 b (ne_of_lt (lt_of_lt_of_le (lt_size e) (I.ok.cab x c km hc)))).trans (I.base.keep b o e n hb hx)
  ·obtain ⟨sl,e1⟩:=I.base.slot b o e n hb hx
   exact ⟨sl,(hs.2 b (ne_of_lt (lt_of_lt_of_le (lt_size e) (I.ok.cab x c km hc)))).trans e1⟩
  ·obtain ⟨o',e1⟩:=I.base.there b o e hx
   exact ⟨o',(hs.2 b (ne_of_lt (lt_of_lt_of_le (lt_size e) (I.ok.cab x c km hc)))).trans e1⟩
  ·by_cases hj:j=i
   ·subst hj
    rw [hi] at e1;cases e1
    rw [List.getElem?_set_self jv] at e2
    cases e2
    exact ⟨u,r,.inr ⟨.inl hk,c,hc,aD⟩⟩
   ·rw [getElem?_set_ne (Ne.symm hj)] at e2
    obtain ⟨u',r',q⟩:=hl j y v' e1 e2 e3
    refine ⟨u',r',?_⟩
    rcases q with q | ⟨k,c',e,z'⟩
    ·exact .inl q
    ·refine .inr ⟨k,c',e,z'.sameBut hs ?_⟩
     rintro rfl
     exact hj (i7' hN e1 (I.ok.inj _ _ _ e hc▸hi))
  ·by_cases ko:c'=c
   ·subst ko;exact ⟨_,aD⟩
   ·obtain ⟨w2,z2⟩:=I.cell y c' e
    exact ⟨w2,z2.sameBut hs ko⟩
  ·obtain ⟨e,n,ne,nf,d⟩:=I.pin p hp
   refine ⟨(hs.2 p.1 ?_).trans e,n,ne,nf,d⟩
   intro q
   rw [q,gw] at e
   have q':oc=p.2:=Option.some.inj e
   exact d w' (by rw [← q'];exact pi)
theorem i8' {M:Model}{A:Around}{E:Value->Shared->Prop}{i:Nat}{x:Str}{v:V}{u:Value}{Q:Unit->Shared->Prop} (I:Inv X aa U H s) (hN:X.N.Nodup) (hi:X.N[i]?=some x) (hx:Loc X.env.scope x) (r:RelV v u)
  (h:∀ s',Inv X aa (U.set i (some v)) H s'->Q () s') (hf:X.fn x=true\/X.env.scope.names.lookup x=some .local):wpAny M A (storeName X.env x u) Q E s :=
 h3' I hN hi hx r (λs' I' _=>h s' I') hf
theorem Inv.call' {s':Shared}{ch:List Addr} (I:Inv X aa U H s) (ho:s'.os=s.os) (u:Un (frs X.stack) ch H H' s.heap s'.heap) (hok:HOk X.prog X.w H' s'.heap) (hg:AllBare s'.gens)
  (bi:∀ b∈ch,(b∈X.ex\/X.s₀.heap.objs.size<=b)/\b≠X.env.locals/\(∀ x c,X.env.cells.lookup x=some c->c≠b)/\∀ p∈X.pn++aa,p.1≠b):Inv X aa U H' s':=by
 obtain ⟨h',g',d',t',o'⟩:=s'
 have e:o'=s.os:=ho
 subst e
 exact I.call (g':=g') (t':=t') (d':=d') u hok hg bi
end
abbrev XK:=Value->Option Addr->Hp->Prop
abbrev St:=List (Option V)
abbrev VK:=V->Hp->Prop
abbrev TE:=St->Hp->VK->Prop
abbrev TT:=St->Hp->(Bool->Hp->Prop)->Prop
abbrev TA:=St->Hp->(List V->Hp->Prop)->Prop
structure Ends where
 nx:St->Hp->Prop
 rt:VK
 bk:St->Hp->Prop:=λ_ _=>False
 ct:St->Hp->Prop:=λ_ _=>False
abbrev TS:=Ends->St->Hp->Prop
def EP (X:Cx) (aa:List (Addr×Obj)) (U:St) (Q:VK) (u:Value) (s':Shared):Prop:=∃ v H',Inv X aa U H' s'/\RelV v u/\Q v H'
def TP (X:Cx) (aa:List (Addr×Obj)) (U:St) (Q:Bool->Hp->Prop) (b:Bool) (s':Shared):Prop:=∃ H',Inv X aa U H' s'/\Q b H'
def AP (X:Cx) (aa:List (Addr×Obj)) (U:St) (Q:List V->Hp->Prop) (us:List Value) (s':Shared):Prop:=∃ vs H',Inv X aa U H' s'/\Vals vs us/\Q vs H'
def SP (X:Cx) (aa:List (Addr×Obj)) (D:Ends) (f:Flow) (s':Shared):Prop :=
 match f with
 | .next=>∃ aj H',Inv X aa aj H' s'/\D.nx aj H'
 | .brk=>∃ aj H',Inv X aa aj H' s'/\D.bk aj H'
 | .cont=>∃ aj H',Inv X aa aj H' s'/\D.ct aj H'
 | .ret u=>∃ v aj H',Inv X aa aj H' s'/\RelV v u/\D.rt v H'
def PE (X:Cx) (e:Expr) (t:TE):Prop :=
 ∀ (aa:List (Addr×Obj)) (s:Shared) (U:St) (H:Hp) (Q:VK),Inv X aa U H s->t U H Q->wpAny (model X.prog X.w) X.A (eval e X.env) (EP X aa U Q) X.xe s
def PT (X:Cx) (e:Expr) (t:TT):Prop :=
 ∀ (aa:List (Addr×Obj)) (s:Shared) (U:St) (H:Hp) (Q:Bool->Hp->Prop),Inv X aa U H s->t U H Q->wpAny (model X.prog X.w) X.A (isTrue e X.env (eval e X.env)) (TP X aa U Q) X.xe s
def PW (X:Cx) (e:Expr) (t:TT):Prop :=
 ∀ (bE:Sem Value) (aa:List (Addr×Obj)) (s:Shared) (U:St) (H:Hp) (Q:Bool->Hp->Prop),Inv X aa U H s->t U H Q->wpAny (model X.prog X.w) X.A (isTrue e X.env bE) (TP X aa U Q) X.xe s
def PA (X:Cx) (es:List Expr) (t:TA):Prop :=
 ∀ (pos:Pos) (aa:List (Addr×Obj)) (s:Shared) (U:St) (H:Hp) (Q:List V->Hp->Prop),Inv X aa U H s->t U H Q->wpAny (model X.prog X.w) X.A (spliced (backTo pos (starEach es X.env))) (AP X aa U Q) X.xe s
def PS (X:Cx) (st:Stmt) (t:TS):Prop :=
 ∀ (aa:List (Addr×Obj)) (s:Shared) (U:St) (H:Hp) (D:Ends),Inv X aa U H s->t D U H->wpAny (model X.prog X.w) X.A (exec st X.env) (SP X aa D) X.xe s
def PSs (X:Cx) (st:List Stmt) (t:TS):Prop :=
 ∀ (aa:List (Addr×Obj)) (s:Shared) (U:St) (H:Hp) (D:Ends),Inv X aa U H s->t D U H->wpAny (model X.prog X.w) X.A (execs st X.env) (SP X aa D) X.xe s
theorem thn {α:Type}{t:Sem α}{Q Q':α->Shared->Prop}{M:Model}{A:Around}{E:Value->Shared->Prop}{s:Shared} (h:wpAny M A t Q E s) (hQ:∀ a s,Q a s->Q' a s):wpAny M A t Q' E s:=wpAny_mono h hQ λ_ _ x=>x
section
variable {X:Cx}
noncomputable def tVar (i:Nat):TE:=λU H Q=>∃ v,U[i]?=some (some v)/\Q v H
noncomputable def tC (v:V):TE:=λ_ H Q=>Q v H
theorem qk' {i:Nat}{x:Str}{pos:Pos} (hN:X.N[i]?=some x) (hv:Vis X.env.scope x) (hd:(x == ("__debug__":Str))=false:=by decide) (aU:(x == ("__classdict__":Str))=false:=by decide):PE X (.Name x pos) (tVar i):=by
 intro aa s U H Q I h
 obtain ⟨v,e,h⟩:=h
 obtain ⟨m,hn,hl⟩:=I.loc
 obtain ⟨u,r,l⟩:=hl i x v hN e hv
 have fin:EP X aa U Q u s:=⟨v,H,I,r,h⟩
 rcases l with ⟨hk,hm⟩ | ⟨hk,c,hc,bP⟩
 ·exact wpAny_Name (wpAny_loadName_local I.ok.kind hk hn hm fin) hd
 ·rcases hk with hk | hk
  ·exact wpAny_Name (wpAny_loadName_cell I.ok.kind hk hc bP fin) hd
  ·exact wpAny_Name (wpAny_loadName_free I.ok.kind hk hc bP fin aU) hd
theorem ql' {i j pos}:PE X (.Constant (.int i) j pos) (tC (.int i)):=λ_ _ _ H _ I h=>wpAny_Constant_int ⟨.int i,H,I.tok _,⟨_,rfl⟩,h⟩
theorem ru' {b j pos}:PE X (.Constant (.bool b) j pos) (tC (.bl b)):=λ_ _ _ H _ I h=>Constant_bool ⟨.bl b,H,I,rfl,h⟩
theorem qm' {j pos}:PE X (.Constant .none j pos) (tC .non):=λ_ _ _ H _ I h=>Constant_none ⟨.non,H,I,rfl,h⟩
theorem qn' {x j pos}:PE X (.Constant (.str x) j pos) (tC (.str x)):=λ_ _ _ H _ I h=>Calls.Constant_str ⟨.str x,H,I.tok _,⟨_,rfl⟩,h⟩
def Gl (X:Cx) (x:Str):Prop:=X.env.kindOf x=some .globalImplicit
theorem pi' {E:Value->Shared->Prop}{aa:List (Addr×Obj)}{s:Shared}{U:St}{H:Hp}{x:Str}{u:Value}{pos:Pos}{Q:Value->Shared->Prop} (I:Inv X aa U H s) (hg:Gl X x) (hm:X.mg x=some u) (h:Q u s)
  (hd:(x == ("__debug__":Str))=false:=by decide):wpAny (model X.prog X.w) X.A (eval (.Name x pos) X.env) Q E s :=
 Calls.Name_function_global I.ok.kind hg (Calls.loadGlobal_global (by rw [I.ok.glob];exact I.mod.glob.keeps I.bk) hm h) hd
theorem cu' {E:Value->Shared->Prop}{aa:List (Addr×Obj)}{s:Shared}{U:St}{H:Hp}{x:Str}{u:Value}{pos:Pos}{Q:Value->Shared->Prop} (I:Inv X aa U H s) (hg:Gl X x) (hm:X.mg x=none) (hv:bootBuiltins x=some u) (h:Q u s)
  (hn:x ≠ "__name__":=by decide) (hd:(x == ("__debug__":Str))=false:=by decide):wpAny (model X.prog X.w) X.A (eval (.Name x pos) X.env) Q E s:=by
 obtain ⟨mb,h1,h2⟩:=I.mod.blt
 exact Calls.Name_function_global I.ok.kind hg (Calls.loadGlobal_builtin (by rw [I.ok.glob];exact I.mod.glob.keeps I.bk) hm (by rw [I.ok.blt];exact h1.keeps I.bk) ((h2 x hn).trans hv) h) hd
variable {a b:Expr}{ta tb:TE}{pos:Pos}
noncomputable def tB (t:TE):TT:=λU H Q=>t U H λx H1=>∃ c,x=.bl c/\Q c H1
theorem qo' {e:Expr}{t:TE} (h:PE X e t) (he:∀ bE,isTrue e X.env bE=(do let v ← bE;standAt e.pos;holding [v] (truthy v)):=by intro _;rfl):PT X e (tB t):=by
 intro aa s U H Q I hw
 refine isTrue_plain (thn (h aa s U H _ I hw) λv s1 ⟨x,H1,I1,r1,q1⟩=>?_) (he _)
 obtain ⟨d,rfl,q⟩:=q1
 cases r1
 exact wpAny_truthy_bool ⟨H1,I1,q⟩
variable {tA iA:TT}{ay:List Expr}
noncomputable def tAnd (t u:TT):TT:=λU H Q=>t U H λc H1=>if c=true then u U H1 Q else Q false H1
noncomputable def tOr (t u:TT):TT:=λU H Q=>t U H λc H1=>if c=true then Q true H1 else u U H1 Q
noncomputable def tNot (t:TT):TT:=λU H Q=>t U H λc H1=>Q (!c) H1
theorem pj' (ha:PT X a tA):PW X (.BoolOp .And [a] pos) tA:=by
 intro wh aa s U H Q I h
 refine isTrue_and (thn (ha aa s U H Q I h) λc s1 e=>?_)
 cases c with
 | true=>exact isTrue_and_nil e
 | false=>exact e
theorem qp' (ha:PT X a tA):PW X (.BoolOp .Or [a] pos) tA:=by
 intro wh aa s U H Q I h
 refine isTrue_or (thn (ha aa s U H Q I h) λc s1 e=>?_)
 cases c with
 | false=>exact isTrue_or_nil e
 | true=>exact e
theorem qq' (ha:PT X a tA) (hb:PW X (.BoolOp .And (b::ay) pos) iA):PW X (.BoolOp .And (a::b::ay) pos) (tAnd tA iA):=by
 intro wh aa s U H Q I h
 refine isTrue_and (thn (ha aa s U H _ I h) λc s1 ⟨H1,I1,q1⟩=>?_)
 cases c with
 | true=>exact hb wh aa s1 U H1 Q I1 q1
 | false=>exact ⟨H1,I1,q1⟩
theorem rv' (ha:PT X a tA) (hb:PW X (.BoolOp .Or (b::ay) pos) iA):PW X (.BoolOp .Or (a::b::ay) pos) (tOr tA iA):=by
 intro wh aa s U H Q I h
 refine isTrue_or (thn (ha aa s U H _ I h) λc s1 ⟨H1,I1,q1⟩=>?_)
 cases c with
 | true=>exact ⟨H1,I1,q1⟩
 | false=>exact hb wh aa s1 U H1 Q I1 q1
theorem qs' (ha:PT X a tA):PT X (.UnaryOp .Not a pos) (tNot tA):=by
 intro aa s U H Q I h
 exact isTrue_not (ha aa s U H (λc H1=>Q (!c) H1) I h)
noncomputable def tAndV (ta tb:TE):TE:=λU H Q=>ta U H λx H1=>∃ c,x=.bl c/\if c=true then tb U H1 Q else Q (.bl false) H1
theorem qt' {op}{t:TE} (h:PE X a t):PE X (.BoolOp op [a] pos) t:=λaa s U H Q I hw=>BoolOp_one (h aa s U H Q I hw)
theorem qu' (ha:PE X a ta) (hb:PE X (.BoolOp .And (b::ay) pos) tb):PE X (.BoolOp .And (a::b::ay) pos) (tAndV ta tb):=by
 intro aa s U H Q I h
 refine BoolOp_and (thn (ha aa s U H _ I h) λv s1 ⟨x,H1,I1,r1,q1⟩=>?_)
 obtain ⟨c,rfl,q1⟩:=q1
 cases r1
 refine wpAny_truthy_bool ?_
 cases c with
 | true=>exact hb aa s1 U H1 Q I1 q1
 | false=>exact ⟨.bl false,H1,I1,rfl,q1⟩
end
def SqL (K:PySem.W.Frag) (H:Hp) (a:Addr) (xs:List V):Prop :=
 Rd H a (.lst xs) ∨
  ∃ (o:Obj) (ac:Array Value) (n:Nat),K.lookup a=some o/\o.cls=.type "list"/\o.dict=none/\o.data=.seq ac n/\ac.size<=sizeLine/\Vals xs ac.toList
def SqT (K:PySem.W.Frag) (H:Hp) (a:Addr) (xs:List V):Prop :=
 Rd H a (.tup xs) ∨
  ∃ (o:Obj) (ac:Array Value) (n:Nat),K.lookup a=some o/\o.cls=.type "tuple"/\o.data=.seq ac n/\ac.size<=sizeLine/\Vals xs ac.toList
noncomputable def absV:Value->Option V
 | .none=>some .non
 | .bool b=>some (.bl b)
 | .int i _=>some (.int i)
 | .str x _=>some (.str x)
 | .bytes b _=>some (.byt b)
 | .float b _=>some (.flt b)
 | .ref a=>some (.ref a)
 | .type n=>some (.ty n)
 | _=>none
theorem RelV.abs {x:V}{u:Value} (r:RelV x u):absV u=some x:=by
 cases x with
 | non=>cases r;rfl
 | bl _=>cases r;rfl
 | int _=>obtain ⟨t,rfl⟩:=r;rfl
 | str _=>obtain ⟨t,rfl⟩:=r;rfl
 | byt _=>obtain ⟨t,rfl⟩:=r;rfl
 | flt _=>obtain ⟨t,rfl⟩:=r;rfl
 | ref _=>cases r;rfl
 | ty _=>cases r;rfl
theorem RelV.inj {x y:V}{u:Value} (r:RelV x u) (q:RelV y u):x=y:=Option.some.inj (r.abs.symm.trans q.abs)
theorem Vals.inj:∀ {xs ys:List V}{us:List Value},Vals xs us->Vals ys us->xs=ys
 | _,_,_,.nil,.nil=>rfl
 | _,_,_,.cons r t,.cons r' t'=>by rw [r.inj r',Vals.inj t t']
section
variable {X:Cx}{aa:List (Addr×Obj)}{U:St}{H:Hp}{s:Shared}{a:Addr}{xs ys:List V}
theorem SqL.of {K:PySem.W.Frag} (h:H a=some (.lst xs)):SqL K H a xs:=.inl (.inl h)
theorem SqT.of {K:PySem.W.Frag} (h:H a=some (.tup xs)):SqT K H a xs:=.inl (.inl h)
theorem Inv.list (I:Inv X aa U H s) (h:SqL X.K H a xs):∃ ac:List Value,Vals xs ac/\PlainL s.heap a ac.toArray/\xs.length<=sizeLine:=by
 rcases h with h | ⟨o,ac,n,hk,hc,hd,hs,hz,r⟩
 ·obtain ⟨z,ac,n,r,e⟩:=h.ok I.hok
  exact ⟨ac,r,⟨_,n,e,rfl,rfl,rfl⟩,z⟩
 ·refine ⟨ac.toList,r,⟨o,n,I.kIn a o hk,hc,hd,by simpa using hs⟩,?_⟩
  have e:=r.length
  simp only [length_toList] at e
  omega
theorem Inv.tuple (I:Inv X aa U H s) (h:SqT X.K H a xs):∃ ac:List Value,Vals xs ac/\IsTup s.heap a ac.toArray/\xs.length<=sizeLine:=by
 rcases h with h | ⟨o,ac,n,hk,hc,hs,hz,r⟩
 ·obtain ⟨z,ac,r,p⟩:=h.ok I.hok
  exact ⟨ac,r,p,z⟩
 ·refine ⟨ac.toList,r,⟨o,I.kIn a o hk,hc,n,by simpa using hs⟩,?_⟩
  have e:=r.length
  simp only [length_toList] at e
  omega
theorem Inv.list_inj (I:Inv X aa U H s) (h:SqL X.K H a xs) (h':SqL X.K H a ys):xs=ys:=by
 obtain ⟨ac,r,⟨o,n,e,_,_,d⟩,_⟩:=I.list h
 obtain ⟨its',r',⟨o',n',e',_,_,d'⟩,_⟩:=I.list h'
 rw [e] at e';cases e'
 rw [d] at d'
 injection d' with d1 _
 have:ac=its':=by simpa using congrArg toList d1
 subst this
 exact r.inj r'
theorem Inv.tuple_inj (I:Inv X aa U H s) (h:SqT X.K H a xs) (h':SqT X.K H a ys):xs=ys:=by
 obtain ⟨ac,r,⟨o,e,_,n,d⟩,_⟩:=I.tuple h
 obtain ⟨its',r',⟨o',e',_,n',d'⟩,_⟩:=I.tuple h'
 rw [e] at e';cases e'
 rw [d] at d'
 injection d' with d1 _
 have:ac=its':=by simpa using congrArg toList d1
 subst this
 exact r.inj r'
end
noncomputable abbrev Cx.wish (X:Cx) (E:Value->Shared->Prop):Cx:={ X with xe:=E }
noncomputable abbrev Cx.nox (X:Cx):Cx:=X.wish λ_ _=>False
theorem Cx.Ok.wish {X:Cx} (ok:X.Ok) (E:Value->Shared->Prop):(X.wish E).Ok :=
 ⟨ok.mod,ok.kind,ok.glob,ok.blt,ok.above,ok.inj,ok.has,ok.cab,ok.hd,ok.frames,ok.stk,ok.exf,ok.bs,ok.bsz,ok.noex,ok.exfs,ok.funs,ok.frf,ok.tb⟩
theorem Cx.Ok.unwish {X:Cx}{E:Value->Shared->Prop} (ok:(X.wish E).Ok):X.Ok :=
 ⟨ok.mod,ok.kind,ok.glob,ok.blt,ok.above,ok.inj,ok.has,ok.cab,ok.hd,ok.frames,ok.stk,ok.exf,ok.bs,ok.bsz,ok.noex,ok.exfs,ok.funs,ok.frf,ok.tb⟩
section
variable {X:Cx}{aa:List (Addr×Obj)}{U:St}{H:Hp}{s:Shared}{E:Value->Shared->Prop}
theorem Inv.wish (I:Inv X aa U H s) (E:Value->Shared->Prop):Inv (X.wish E) aa U H s:=⟨I.ok.wish E,I.os,I.bare,I.base,I.loc,I.cell,I.free,I.freeC,I.pin,I.hok,I.len⟩
theorem Inv.unwish (I:Inv (X.wish E) aa U H s):Inv X aa U H s:=⟨I.ok.unwish,I.os,I.bare,I.base,I.loc,I.cell,I.free,I.freeC,I.pin,I.hok,I.len⟩
theorem SP.unwish {D:Ends}{f:Flow}{s':Shared} (h:SP (X.wish E) aa D f s'):SP X aa D f s':=by
 cases f with
 | next=>obtain ⟨aj,H',I,q⟩:=h;exact ⟨aj,H',I.unwish,q⟩
 | brk=>obtain ⟨aj,H',I,q⟩:=h;exact ⟨aj,H',I.unwish,q⟩
 | cont=>obtain ⟨aj,H',I,q⟩:=h;exact ⟨aj,H',I.unwish,q⟩
 | ret u=>obtain ⟨v,aj,H',I,r,q⟩:=h;exact ⟨v,aj,H',I.unwish,r,q⟩
theorem PSs.nox {st:List Stmt}{t:TS} (h:PSs X.nox st t):PSs X st t:=λaa s U H D I hw =>
 wpAny_mono (h aa s U H D (I.wish _) hw) (λ_ _ q=>q.unwish) λ_ _ z=>elim z
end
section
variable {X:Cx}{st:Stmt}{ay:List Stmt}{t u:TS}{e:Expr}{te:TE}{pos:Pos}
noncomputable def tNext:TS:=λD U H=>D.nx U H
noncomputable def tSeq (t u:TS):TS:=λD U H=>t { D with nx:=u D } U H
theorem pk':PSs X [] tNext:=λ_ _ U H _ I h=>wpAny_execs_nil ⟨U,H,I,h⟩
theorem n2' (h1:PS X st t) (h2:PSs X ay u):PSs X (st::ay) (tSeq t u):=by
 intro aa s U H D I h
 refine wpAny_execs_cons (thn (h1 aa s U H { D with nx:=u D } I h) λf s1 q=>?_)
 cases f with
 | next =>
  obtain ⟨aj,H',I',q⟩:=q
  exact h2 aa s1 aj H' D I' q
 | ret v=>exact q
 | brk=>exact q
 | cont=>exact q
theorem pl' (h1:PS X st t):PSs X [st] t:=by
 intro aa s U H D I h
 refine wpAny_execs_cons (thn (h1 aa s U H D I h) λf s1 q=>?_)
 cases f with
 | next=>exact wpAny_execs_nil q
 | ret v=>exact q
 | brk=>exact q
 | cont=>exact q
theorem Inv.quiet {aa:List (Addr×Obj)}{U:St}{H:Hp}{s:Shared} (I:Inv X aa U H s):interactive X.env=false:=by simp [interactive,I.ok.kind]
noncomputable def tDrop (te:TE):TS:=λD U H=>te U H λ_ H1=>D.nx U H1
theorem hA' (he:PE X e te) (hs:swapsWith e none pos.line X.env=pure false:=by rfl):PS X (.Expr e pos) (tDrop te):=by
 intro aa s U H D I h
 exact wpAny_Expr_any (thn (he aa s U H _ I h) λv s1 ⟨x,H1,I1,r1,q1⟩=>⟨U,H1,I1,q1⟩) I.quiet hs
noncomputable def tRet (te:TE):TS:=λD U H=>te U H D.rt
theorem i9' (he:PE X e te):PS X (.Return (some e) pos) (tRet te):=by
 intro aa s U H D I h
 exact wpAny_Return_some (thn (he aa s U H _ I h) λv s1 ⟨x,H1,I1,r1,q1⟩=>⟨x,U,H1,I1,r1,q1⟩)
noncomputable def tIfS (c:TT) (t u:TS):TS:=λD U H=>c U H λb H1=>if b=true then t D U H1 else u D U H1
theorem rx' {c:Expr}{a b:List Stmt}{tc:TT} (hc:PT X c tc) (ha:PSs X a t) (hb:PSs X b u):PS X (.If c a b pos) (tIfS tc t u):=by
 intro aa s U H D I h
 refine wpAny_If (thn (hc aa s U H _ I h) λd s1 ⟨H1,I1,q1⟩=>?_)
 cases d with
 | true=>exact ha aa s1 U H1 D I1 q1
 | false=>exact hb aa s1 U H1 D I1 q1
noncomputable def tNever:TS:=λ_ _ _=>False
theorem n3':PS X st tNever:=λ_ _ _ _ _ _ h=>h.elim
end
abbrev TG:=V->St->Hp->(St->Hp->Prop)->Prop
abbrev TGs:=List V->St->Hp->(St->Hp->Prop)->Prop
def PG (X:Cx) (iB:Expr) (t:TG):Prop :=
 ∀ (aa:List (Addr×Obj)) (s:Shared) (U:St) (H:Hp) (v:V) (u:Value) (Q:St->Hp->Prop),Inv X aa U H s->RelV v u->t v U H Q →
  wpAny (model X.prog X.w) X.A (assign iB X.env u) (λ_ s'=>∃ aj H',Inv X aa aj H' s'/\Q aj H') X.xe s
def PGs (X:Cx) (ts:List Expr) (t:TGs):Prop :=
 ∀ (aa:List (Addr×Obj)) (s:Shared) (U:St) (H:Hp) (vs:List V) (us:List Value) (Q:St->Hp->Prop),Inv X aa U H s->Vals vs us->t vs U H Q →
  wpAny (model X.prog X.w) X.A (assignInOrder ((assignEach ts X.env).map (·.2)) us) (λ_ s'=>∃ aj H',Inv X aa aj H' s'/\Q aj H') X.xe s
abbrev TSet:=V->V->V->Hp->(Hp->Prop)->Prop
def PSet (X:Cx) (t:TSet):Prop :=
 ∀ (aa:List (Addr×Obj)) (s:Shared) (U:St) (H:Hp) (o i v:V) (ov iv u:Value) (Q:Hp->Prop),Inv X aa U H s->RelV o ov->RelV i iv->RelV v u->t o i v H Q →
  wpAny (model X.prog X.w) X.A (setItem ov iv u) (λ_ s'=>∃ H',Inv X aa U H' s'/\Q H') X.xe s
section
variable {X:Cx}{pos:Pos}
noncomputable def gName (i:Nat):TG:=λv U H Q=>Q (U.set i (some v)) H
theorem pm' {i:Nat}{x:Str} (hN:X.N.Nodup) (hi:X.N[i]?=some x) (hx:Loc X.env.scope x) (hf:X.fn x=true\/X.env.scope.names.lookup x=some .local):PG X (.Name x pos) (gName i):=by
 intro aa s U H v u Q I r h
 exact wpAny_assign_Name (i8' I hN hi hx r (λs' I'=>⟨_,H,I',h⟩) hf)
noncomputable def gNil:TGs:=λvs U H Q=>vs=[]/\Q U H
noncomputable def gCons (t:TG) (u:TGs):TGs:=λvs U H Q=>∃ v r,vs=v::r/\t v U H λaj H'=>u r aj H' Q
theorem pn':PGs X [] gNil:=by
 intro aa s U H vs us Q I r h
 obtain ⟨e,h⟩:=h
 subst e
 cases r
 exact assignInOrder_nil ⟨U,H,I,h⟩
theorem n4' {e:Expr}{es:List Expr}{t:TG}{u:TGs} (h1:PG X e t) (h2:PGs X es u)
  (hs:(assignEach (e::es) X.env).map (·.2)=assign e X.env::(assignEach es X.env).map (·.2):=by rfl):PGs X (e::es) (gCons t u):=by
 intro aa s U H vs us Q I r h
 obtain ⟨v,vr,e1,h⟩:=h
 subst e1
 cases r with
 | cons r rr =>
  rw [hs]
  refine assignInOrder_cons (thn (h1 aa s U H _ _ _ I r h) λ_ s1 ⟨bU,H1,I1,q1⟩=>?_)
  exact h2 aa s1 bU H1 _ _ Q I1 rr q1
noncomputable def gTup (K:PySem.W.Frag) (n:Nat) (t:TGs):TG:=λv U H Q=>∃ a xs,v=.ref a/\SqT K H a xs/\xs.length=n/\t xs U H Q
theorem qv' {es:List Expr}{k:Nat}{t:TGs}{n:Nat} (hc:X.calm=true) (h:PGs X es t)
  (hn:(assignEach es X.env).length=n:=by rfl) (gy:(assignEach es X.env).findIdx? (·.1)=none:=by rfl):PG X (.Tuple es k pos) (gTup X.K n t):=by
 intro aa s U H v u Q I r hw
 obtain ⟨a,xs,e1,hq,hl,hw⟩:=hw
 subst e1
 cases r
 obtain ⟨ac,rv,ht,hz⟩:=I.tuple hq
 refine assign_Tuple_tuple (I.ok.hd hc) ht (by simp [hn,← hl,rv.length]) gy λh' hx=>?_
 have I1:Inv X aa U H { s with heap:=h' }:=I.kept (t':=s.toks) λb o e=>hx b o (ne_of_lt (lt_size e)) e
 exact h aa _ U H xs _ Q I1 (by simpa using rv) hw
noncomputable def gSub (to ti:TE) (t:TSet):TG:=λv U H Q=>to U H λo H1=>ti U H1 λi H2=>t o i v H2 λH3=>Q U H3
theorem qw' {o i:Expr}{to ti:TE}{t:TSet} (ho:PE X o to) (hi:PE X i ti) (hs:PSet X t)
  (ha:∀ v,assign (.Subscript o i pos) X.env v=(do
   let ov ← holding [v] (eval o X.env)
   let iv ← holding [v,ov] (eval i X.env)
   standAt pos
   holding [v,ov,iv] (setItem ov iv v)
   release [v,ov,iv] []):=by intro _;rfl):PG X (.Subscript o i pos) (gSub to ti t):=by
 intro aa s U H v u Q I r h
 rw [ha]
 refine wpAny_bind (wpAny_holding (thn (ho aa s U H _ I h) λov s1 ⟨x,H1,I1,r1,q1⟩=>?_))
 refine wpAny_bind (wpAny_holding (thn (hi aa s1 U H1 _ I1 q1) λiv s2 ⟨y,H2,I2,r2,q2⟩=>?_))
 refine wpAny_bind (wpAny_standAt (wpAny_bind (wpAny_holding (thn (hs aa s2 U H2 x y v ov iv u _ I2 r1 r2 r q2) λ_ s3 ⟨H3,I3,q3⟩=>?_))))
 exact wpAny_release ⟨U,H3,I3,q3⟩
noncomputable def tAsg (te:TE) (g:TG):TS:=λD U H=>te U H λx H1=>g x U H1 D.nx
theorem my' {tg e:Expr}{te:TE}{g:TG} (he:PE X e te) (hg:PG X tg g) (hs:swapsWithSole [tg] e pos.line X.env=pure false:=by rfl) (hw:swappedStores [tg] e X.env=pure none:=by rfl)
  (h1:(assignEach [tg] X.env).map (·.2)=[assign tg X.env]:=by rfl):PS X (.Assign [tg] e pos) (tAsg te g):=by
 intro aa s U H D I h
 refine wpAny_Assign_stores (thn (he aa s U H _ I h) λv s1 ⟨x,H1,I1,r1,q1⟩=>?_) hs hw
 rw [h1]
 exact thn (hg aa s1 U H1 x v _ I1 r1 q1) λ_ s2 q=>q
theorem gG' {i:Nat}{x:Str}{e:Expr}{te:TE}{ax:Pos} (hN:X.N.Nodup) (hi:X.N[i]?=some x) (hx:Loc X.env.scope x) (he:PE X e te) (hs:swapsWith e (some (.Name x ax)) pos.line X.env=pure false:=by rfl) (hf:X.fn x=true\/X.env.scope.names.lookup x=some .local) :
  PS X (.Assign [.Name x ax] e pos) (tAsg te (gName i)):=by
 intro aa s U H D I h
 refine wpAny_Assign_Name (thn (he aa s U H _ I h) λv s1 ⟨y,H1,I1,r1,q1⟩=>?_) hs
 exact i8' I1 hN hi hx r1 (λs2 I2=>⟨_,H1,I2,q1⟩) hf
end
section
variable {X:Cx}{pos:Pos}
noncomputable def tWhile (c:TT) (tb:TS):TS:=λD U H=>∃ W:Nat->St->Hp->Prop,(∃ m,W m U H)/\∀ m U H,W m U H →
 c U H λb H1=>if b=true then ∃ N:St->Hp->Prop,(∀ aj H',N aj H'->∃ m',m' < m/\W m' aj H')/\tb { D with nx:=N,ct:=N,bk:=D.nx } U H1 else D.nx U H1
theorem n5' {c:Expr}{body:List Stmt}{tc:TT}{tb:TS} (hp:PassesOwn (model X.prog X.w) X.A X.env X.xe) (hc:PT X c tc) (hb:PSs X body tb):PS X (.While c body [] pos) (tWhile tc tb):=by
 intro aa s U H D I h
 obtain ⟨W,⟨m0,w0⟩,turn⟩:=h
 refine wpAny_While (codeAny_whileLoop (λn s'=>∃ aj H',Inv X aa aj H' s'/\W n aj H') ?_ m0 ⟨U,H,I,w0⟩)
 rintro n s1 ⟨bU,H1,I1,w1⟩
 refine wpAny_passesOwn hp (thn (hc aa s1 bU H1 _ I1 (turn n bU H1 w1)) λb s2 ⟨H2,I2,q2⟩=>?_)
 cases b with
 | true =>
  obtain ⟨N,hN,q2⟩:=q2
  rw [if_pos rfl]
  refine wpAny_passesOwn hp (thn (hb aa s2 bU H2 _ I2 q2) λf s3 q3=>?_)
  cases f with
  | next =>
   obtain ⟨cE,H3,I3,n3⟩:=q3
   obtain ⟨m',hm,w3⟩:=hN cE H3 n3
   exact ⟨m',hm,cE,H3,I3,w3⟩
  | cont =>
   obtain ⟨cE,H3,I3,n3⟩:=q3
   obtain ⟨m',hm,w3⟩:=hN cE H3 n3
   exact ⟨m',hm,cE,H3,I3,w3⟩
  | brk=>exact q3
  | ret v=>exact q3
 | false =>
  rw [if_neg Bool.false_ne_true]
  exact wpAny_execs_nil ⟨bU,H2,I2,q2⟩
end
structure It where
 go:Nat->Hp->Prop
 yld:Nat->Hp->V->Hp->Prop
 stop:Nat->Hp->Prop
def FpOk (X:Cx) (aa:List (Addr×Obj)) (H:Hp) (b:Addr):Prop :=
 H b=none/\b≠X.env.locals/\b∉X.fs/\(b∈X.ex\/X.s₀.heap.objs.size<=b)/\(∀ x c,X.env.cells.lookup x=some c->c≠b)/\∀ p∈X.pn++aa,p.1≠b
theorem Inv.fpOk {X:Cx}{aa:List (Addr×Obj)}{U:St}{H H':Hp}{s:Shared}{b:Addr} (I:Inv X aa U H s) (hb:s.heap.objs.size<=b) (hn:H' b=none):FpOk X aa H' b:=by
 refine ⟨hn,ne_of_gt (lt_of_lt_of_le I.lt hb),I.nofs hb,.inr (le_trans I.sz hb),λx c e z=>?_,λp hp z=>?_⟩
 ·obtain ⟨v,q⟩:=I.cell x c e
  exact absurd (lt_of_lt_of_le q.lt (by rw [z];exact hb)) (lt_irrefl _)
 ·exact absurd (lt_of_lt_of_le (lt_size (I.pin p hp).1) (by rw [z];exact hb)) (lt_irrefl _)
structure Turn (P:Program) (w:World) (K:PySem.W.Frag) (tg:Expr) (J:It) (fp:List Addr) (it:Addr) (tn:Nat->Heap->Prop):Prop where
 mem:it∈fp
 obj:∀ i h,tn i h->∀ b∈fp,∃ o,h.get? b=some o/\∀ v,o.data≠.cell v
 keep:∀ i h h',tn i h->(∀ b∈fp,∀ o,h.get? b=some o->h'.get? b=some o)->tn i h'
 item:∀ (X:Cx),X.prog=P->X.w=w->X.K=K->X.calm=true->∀ (i:Nat) (aa:List (Addr×Obj)) (s:Shared) (U:St) (H:Hp) (E:Value->Shared->Prop),Inv X aa U H s->(∀ b∈fp,FpOk X aa H b)->tn i s.heap->J.go i H →
  wpAny (model P w) X.A (pyNext (.ref it)) (λr s1=>∃ u,r=some u ∧
   wpAny (model P w) X.A (letOwnedTupleGo tg (.ref it) u) (λ_ s2=>∃ x H',Inv X aa U H' s2/\RelV x u/\J.yld i H x H'/\tn (i+1) s2.heap/\∀ b∈fp,H' b=none) E s1) E s
 done:∀ (X:Cx),X.prog=P->X.w=w->X.K=K->X.calm=true->∀ (i:Nat) (aa:List (Addr×Obj)) (s:Shared) (U:St) (H:Hp) (E:Value->Shared->Prop),Inv X aa U H s->(∀ b∈fp,FpOk X aa H b)->tn i s.heap->J.stop i H →
  wpAny (model P w) X.A (pyNext (.ref it)) (λr s1=>r=none/\Inv X aa U H s1) E s
 self:∀ (A:Around) (i:Nat) (s:Shared) (Q:Value->Shared->Prop) (E:Value->Shared->Prop),tn i s.heap->Q (.ref it) s->wpAny (model P w) A (pyIter (.ref it)) Q E s
abbrev TI:=St->Hp->(It->Hp->Prop)->Prop
def PIE (X:Cx) (aa:List (Addr×Obj)) (U:St) (tg:Expr) (R:It->Hp->Prop) (iC:Value) (s2:Shared):Prop :=
 ∃ (it:Addr) (fp:List Addr) (tn:Nat->Heap->Prop) (J:It) (H':Hp),iC=.ref it/\Inv X aa U H' s2/\Turn X.prog X.w X.K tg J fp it tn/\tn 0 s2.heap/\(∀ b∈fp,FpOk X aa H' b)/\R J H'
def PI (X:Cx) (tg iter:Expr) (wi:TI):Prop :=
 ∀ (aa:List (Addr×Obj)) (s:Shared) (U:St) (H:Hp) (R:It->Hp->Prop),Inv X aa U H s->wi U H R →
  wpAny (model X.prog X.w) X.A (eval iter X.env) (λv s1=>wpAny (model X.prog X.w) X.A (pyIter v) (PIE X aa U tg R) X.xe s1) X.xe s
theorem lS' {M:Model}{A:Around}{E:Value->Shared->Prop}{s:Shared}{tg:Expr}{it:Addr}{u:Value}{o:Obj}{n:String}{vs:Array Value}{Q:Unit->Shared->Prop} (ho:s.heap.get? it=some o) (hc:o.cls=.type n) (hd:o.data=.fields vs)
  (hn:["enumerate", "zip", "dict_itemiterator", "dict_reverseitemiterator", "odict_iterator", "itertools.zip_longest", "itertools.pairwise"].contains n=false) (hQ:Q () s):wpAny M A (letOwnedTupleGo tg (.ref it) u) Q E s:=by
 unfold letOwnedTupleGo
 cases tg<;>first
  | exact wpAny_pure hQ
  | (cases u<;>first
    | exact wpAny_pure hQ
    | (refine wpAny_bind (wpAny_load ho ?_)
       rw [hc,hd]
       show wpAny M A (if (["enumerate", "zip", "dict_itemiterator", "dict_reverseitemiterator", "odict_iterator", "itertools.zip_longest", "itertools.pairwise"].contains n&&vs[0]? == some (rawInt _))=true then _ else _) Q E s
       rw [if_neg (by intro h;rw [hn,Bool.false_and] at h;cases h)]
       exact wpAny_pure hQ))
noncomputable def Itl (K:PySem.W.Frag) (a:Addr):It :=
 ⟨λi H=>∃ xs x,SqL K H a xs/\xs[i]?=some x,λi H x H'=>H'=H/\∀ xs,SqL K H a xs->xs[i]?=some x,λi H=>∃ xs,SqL K H a xs/\xs.length<=i⟩
noncomputable def Itt (K:PySem.W.Frag) (a:Addr):It :=
 ⟨λi H=>∃ xs x,SqT K H a xs/\xs[i]?=some x,λi H x H'=>H'=H/\∀ xs,SqT K H a xs->xs[i]?=some x,λi H=>∃ xs,SqT K H a xs/\xs.length<=i⟩
noncomputable def Itr (lo:Int) (n:Nat):It:=⟨λi _=>i < n,λi H x H'=>H'=H/\x=.int (lo+i),λi _=>n<=i⟩
theorem mz' {P:Program}{w:World}{K:PySem.W.Frag}{tg:Expr} (a it:Addr):Turn P w K tg (Itl K a) [it] it (λi h=>h.IsListIter it a i) where
 mem:=by simp
 obj:=λi h st b hb=>by
  have e:b=it:=by simpa using hb
  subst e
  obtain ⟨o,e,c,d⟩:=st
  exact ⟨o,e,λv z=>by rw [d] at z;cases z⟩
 keep:=λi h h' st k=>st.at λo e=>k it (by simp) o e
 item:=by
  intro X hP hw hK hc i aa s U H E I hf st hg
  subst hP hw hK
  obtain ⟨xs,x,hq,hx⟩:=hg
  obtain ⟨ac,rv,p,hz⟩:=I.list hq
  obtain ⟨u,hu,ru⟩:=rv.get hx
  obtain ⟨f0,f1,f2,f3,f4,f5⟩:=hf it (by simp)
  refine wpAny_pyNext_list_item st p.isList (x:=u) (by simpa using hu) λh' dO sb=>?_
  have I1:Inv X aa U H { s with heap:=h' }:=I.turned (t':=s.toks) (λb o hb e=>(sb.2 b hb).trans e) f0 f1 f3 f4 f5
  obtain ⟨o,e,c,d⟩:=id dO
  exact ⟨u,rfl,lS' (s:={ s with heap:=h' }) e c d (by decide) ⟨x,H,I1,ru,⟨rfl,λys hy=>by rw [I.list_inj hy hq];exact hx⟩,dO,λb hb=>(hf b hb).1⟩⟩
 done:=by
  intro X hP hw hK hc i aa s U H E I hf st hg
  subst hP hw hK
  obtain ⟨xs,hq,hx⟩:=hg
  obtain ⟨ac,rv,p,hz⟩:=I.list hq
  obtain ⟨f0,f1,f2,f3,f4,f5⟩:=hf it (by simp)
  have hl:=rv.length
  exact wpAny_pyNext_list_end (I.ok.hd hc) st p.isList (by simp;omega) λh' eb=>⟨rfl,I.turned (t':=s.toks) (λb o hb e=>eb b o hb e) f0 f1 f3 f4 f5⟩
 self:=λ_ _ _ _ _ st h=>wpAny_pyIter_listiter st h
theorem lT' {P:Program}{w:World}{K:PySem.W.Frag}{tg:Expr} (a it:Addr):Turn P w K tg (Itt K a) [it] it (λi h=>h.IsTupleIter it a i) where
 mem:=by simp
 obj:=λi h st b hb=>by
  have e:b=it:=by simpa using hb
  subst e
  obtain ⟨o,e,c,d⟩:=st
  exact ⟨o,e,λv z=>by rw [d] at z;cases z⟩
 keep:=λi h h' st k=>st.at λo e=>k it (by simp) o e
 item:=by
  intro X hP hw hK hc i aa s U H E I hf st hg
  subst hP hw hK
  obtain ⟨xs,x,hq,hx⟩:=hg
  obtain ⟨ac,rv,p,hz⟩:=I.tuple hq
  obtain ⟨u,hu,ru⟩:=rv.get hx
  obtain ⟨f0,f1,f2,f3,f4,f5⟩:=hf it (by simp)
  refine wpAny_pyNext_tuple_item st (show s.heap.IsTuple a ac.toArray from p) (x:=u) (by simpa using hu) λh' dO sb=>?_
  have I1:Inv X aa U H { s with heap:=h' }:=I.turned (t':=s.toks) (λb o hb e=>(sb.2 b hb).trans e) f0 f1 f3 f4 f5
  obtain ⟨o,e,c,d⟩:=id dO
  exact ⟨u,rfl,lS' (s:={ s with heap:=h' }) e c d (by decide) ⟨x,H,I1,ru,⟨rfl,λys hy=>by rw [I.tuple_inj hy hq];exact hx⟩,dO,λb hb=>(hf b hb).1⟩⟩
 done:=by
  intro X hP hw hK hc i aa s U H E I hf st hg
  subst hP hw hK
  obtain ⟨xs,hq,hx⟩:=hg
  obtain ⟨ac,rv,p,hz⟩:=I.tuple hq
  obtain ⟨f0,f1,f2,f3,f4,f5⟩:=hf it (by simp)
  have hl:=rv.length
  exact wpAny_pyNext_tuple_end (I.ok.hd hc) st (show s.heap.IsTuple a ac.toArray from p) (by simp;omega) λh' eb=>⟨rfl,I.turned (t':=s.toks) (λb o hb e=>eb b o hb e) f0 f1 f3 f4 f5⟩
 self:=λ_ _ _ _ _ st h=>wpAny_pyIter_tupleiter st h
theorem lU' {P:Program}{w:World}{K:PySem.W.Frag}{tg:Expr} (it:Addr) (lo:Int) (n:Nat):Turn P w K tg (Itr lo n) [it] it (λi h=>IsRangeIter h it (lo+(i:Nat)*1) ((n:Int) - (i:Nat)) 1) where
 mem:=by simp
 obj:=λi h st b hb=>by
  have e:b=it:=by simpa using hb
  subst e
  exact ⟨_,st,λv z=>by
   have z':fields _=Data.cell v:=z
   cases z'⟩
 keep:=λi h h' st k=>k it (by simp) _ st
 item:=by
  intro X hP hw hK hc i aa s U H E I hf st hg
  subst hP hw hK
  obtain ⟨f0,f1,f2,f3,f4,f5⟩:=hf it (by simp)
  have W:=Walks.range (prog:=X.prog) (w:=X.w) (I.ok.hd hc) it lo 1 n
  refine W.item i s _ _ hg st λv h' tk hv dO kk=>?_
  obtain ⟨t,rfl⟩:=hv
  have I1:Inv X aa U H { s with heap:=h',toks:=tk }:=I.turned (λb o hb e=>kk b o (by simpa using hb) e) f0 f1 f3 f4 f5
  refine ⟨_,rfl,lS' (s:={ s with heap:=h',toks:=tk }) (n := "range_iterator") dO rfl rfl (by decide) ⟨.int (lo+i),H,I1,⟨t,?_⟩,⟨rfl,rfl⟩,dO,λb hb=>(hf b hb).1⟩⟩
  rw [Int.mul_one]
 done:=by
  intro X hP hw hK hc i aa s U H E I hf st hg
  subst hP hw hK
  obtain ⟨f0,f1,f2,f3,f4,f5⟩:=hf it (by simp)
  exact wpAny_pyNext_range_end (I.ok.hd hc) st (by have:n<=i:=hg;omega) λh' eb=>⟨rfl,I.turned (t':=s.toks) (λb o hb e=>eb b o hb e) f0 f1 f3 f4 f5⟩
 self:=λ_ _ _ _ _ st h=>wpAny_pyIter_rangeiter st h
section
variable {X:Cx}{tg:Expr}
theorem n6' {aa:List (Addr×Obj)}{U:St}{H:Hp}{s:Shared}{R:It->Hp->Prop}{E:Value->Shared->Prop}{lo hi:Int}{t u v:Tok}{tk:Nat} (I:Inv X aa U H s) (h1:-(2 ^ 62)<=lo) (h2:lo < 2 ^ 62) (h3:-(2 ^ 62)<=hi) (h4:hi < 2 ^ 62)
  (q:R (Itr lo (hi - lo).toNat) H):wpAny (model X.prog X.w) X.A (pyIter (.ref s.heap.objs.size)) (PIE X aa U tg R) E { s with heap:=s.heap.push { cls:=.type "range", data:=.fields #[.int lo t,.int hi u,.int 1 v] },toks:=tk }:=by
 refine wpAny_pyIter_range (IsRange.new ..) (small_one h1 h2 h3 h4) ?_
 have I1:Inv X aa U H { s with heap:=s.heap.push { cls:=.type "range", data:=.fields #[.int lo t,.int hi u,.int 1 v] },toks:=tk }:=I.kept λb o e=>get?_push_of_some _ e
 refine ⟨(s.heap.push { cls:=.type "range", data:=.fields #[.int lo t,.int hi u,.int 1 v] }).objs.size,[(s.heap.push { cls:=.type "range", data:=.fields #[.int lo t,.int hi u,.int 1 v] }).objs.size],_,_,H,rfl,
  I1.kept (t':=tk) λb o e=>get?_push_of_some _ e,lU' _ lo (hi - lo).toNat,?_,λb hb=>?_,q⟩
 ·have e1:lo+((0:Nat):Int)*1=lo:=by simp
  have e2:(((hi - lo).toNat:Nat):Int) - ((0:Nat):Int)=rangeSize lo hi 1:=by rw [rangeSize_one];split<;>omega
  show IsRangeIter _ _ (lo+((0:Nat):Int)*1) ((((hi - lo).toNat:Nat):Int) - ((0:Nat):Int)) 1
  rw [e1,e2]
  exact get?_push_size _ rfl
 ·have e:b=(s.heap.push { cls:=.type "range", data:=.fields #[.int lo t,.int hi u,.int 1 v] }).objs.size:=by simpa using hb
  subst e
  exact I1.fpOk (le_refl _) (I1.hok.fresh (le_refl _))
noncomputable def iRng1 (ta:TA):TI:=λU H R=>ta U H λvs H1=>∃ j:Int,vs=[.int j]/\-(2 ^ 62)<=j/\j < 2 ^ 62/\R (Itr 0 j.toNat) H1
theorem mA' {a:Expr}{ta:TA}{p pos:Pos} (hg:Gl X "range") (hm:X.mg "range"=none) (ha:PA X [a] ta) (hs:starEach [a] X.env=[(false,eval a X.env)]:=by rfl):PI X tg (.Call (.Name "range" p) [a] [] pos) (iRng1 ta):=by
 intro aa s U H R I h
 refine Call_ (cu' I hg hm boot_range (PyProof.Rows.callWith_type1 (thn (ha pos aa s U H _ I h) λus s1 ⟨vs,H1,I1,r1,q1⟩=>?_) hs rfl))
 obtain ⟨j,e,q1,q2,q⟩:=q1
 subst e
 cases r1 with
 | cons r rr =>
  cases rr
  obtain ⟨t,rfl⟩:=r
  exact call_range_1 (n6' I1 (by omega) (by omega) q1 q2 (by simpa using q))
noncomputable def tFor (wi:TI) (g:TG) (tb:TS):TS:=λD U H=>wi U H λJ H1=>∃ W:Nat->Nat->St->Hp->Prop,(∃ m,W 0 m U H1)/\∀ i m U H,W i m U H →
 (J.stop i H/\D.nx U H)\/(J.go i H/\∃ N:St->Hp->Prop,(∀ aj H',N aj H'->∃ m',m' < m/\W (i+1) m' aj H')/\∀ x H',J.yld i H x H'->g x U H' λaP H2=>tb { D with nx:=N,ct:=N,bk:=D.nx } aP H2)
noncomputable def pinsAt (fp:List Addr) (h:Heap):List (Addr×Obj):=fp.filterMap λb=>(h.get? b).map λo=>(b,o)
theorem dE' {fp:List Addr}{h:Heap}{b:Addr}{o:Obj} (hb:b∈fp) (e:h.get? b=some o):(b,o)∈pinsAt fp h:=mem_filterMap.mpr ⟨b,hb,by rw [e];rfl⟩
theorem mB' {fp:List Addr}{h:Heap}{p:Addr×Obj} (hp:p∈pinsAt fp h):p.1∈fp/\h.get? p.1=some p.2:=by
 obtain ⟨b,hb,e⟩:=mem_filterMap.mp hp
 cases q:h.get? b with
 | none=>rw [q] at e;cases e
 | some o =>
  rw [q] at e
  have e':(b,o)=p:=Option.some.inj e
  subst e'
  exact ⟨hb,q⟩
theorem Inv.pinned {aa:List (Addr×Obj)}{U:St}{H:Hp}{s:Shared}{fp:List Addr} (I:Inv X aa U H s) (hf:∀ b∈fp,FpOk X aa H b) (ho:∀ b∈fp,∃ o,s.heap.get? b=some o/\∀ v,o.data≠.cell v):Inv X (aa++pinsAt fp s.heap) U H s :=
 I.pins_of λp hp=>(mem_append.mp hp).elim (λz=>I.pin p (mem_append_right _ z)) λz=>by
  obtain ⟨hb,e⟩:=mB' z
  obtain ⟨f0,f1,f2,_⟩:=hf p.1 hb
  obtain ⟨o,e',d⟩:=ho p.1 hb
  rw [e] at e';cases e'
  exact ⟨e,f0,f1,f2,d⟩
theorem Inv.unpinned {aa pl:List (Addr×Obj)}{U:St}{H:Hp}{s:Shared} (I:Inv X (aa++pl) U H s):Inv X aa U H s:=I.pins_of λp hp=>I.pin p (mem_append_right _ (mem_append_left _ hp))
theorem qx' {iter:Expr}{body:List Stmt}{wi:TI}{g:TG}{tb:TS}{pos:Pos} (hp:PassesOwn (model X.prog X.w) X.A X.env X.xe) (hc:X.calm=true) (hi:PI X tg iter wi) (hg:PG X tg g) (hb:PSs X body tb)
  (hs:∀ x,foldedSetIterable iter X.env x=pure x:=by intro _;rfl):PS X (.For tg iter body [] pos) (tFor wi g tb):=by
 intro aa s U H D I h
 refine wpAny_For (thn (hi aa s U H _ I h) λv s1 h1=>thn h1 λiC s2 h2=>?_) hs
 obtain ⟨it,fp,tn,J,H2,e,I2,T,dP,f2,W,⟨m0,w0⟩,turn⟩:=h2
 subst e
 -- what stays true of the iterator's objects through the aO
 have cF:∀ {H':Hp},(∀ b∈fp,H' b=none)->∀ b∈fp,FpOk X aa H' b:=λhn b hb=>⟨hn b hb,(f2 b hb).2⟩
 refine codeAny_forLoop_any (λn s'=>∃ i aj H',Inv X aa aj H' s'/\tn i s'.heap/\(∀ b∈fp,H' b=none)/\W i n aj H') ?_ m0 ⟨0,U,H2,I2,dP,λb hb=>(f2 b hb).1,w0⟩
 rintro n s3 ⟨i,cE,H3,I3,fM,pj,w3⟩
 rcases turn i n cE H3 w3 with ⟨stop,qn⟩ | ⟨go,N,hN,step⟩
 ·refine wpAny_passesOwn hp (thn (T.done X rfl rfl rfl hc i aa s3 cE H3 X.xe I3 (cF pj) fM stop) λr s4 ⟨hr,I4⟩=>?_)
  subst hr
  exact wpAny_execs_nil ⟨cE,H3,I4,qn⟩
 ·refine wpAny_passesOwn hp (thn (T.item X rfl rfl rfl hc i aa s3 cE H3 X.xe I3 (cF pj) fM go) λr s4 ⟨u,hr,h4⟩=>?_)
  subst hr
  refine wpAny_passesOwn hp (thn h4 λ_ s5 ⟨x,H5,I5,r5,y5,fN,iD⟩=>?_)
  have u5:=I5.pinned (cF iD) (T.obj _ _ fN)
  refine wpAny_passesOwn hp (thn (hg _ s5 cE H5 x u _ u5 r5 (step x H5 y5)) λ_ s6 ⟨u6,H6,I6,q6⟩=>?_)
  refine wpAny_passesOwn hp (thn (hb _ s6 u6 H6 _ I6 q6) λf s7 q7=>?_)
  have again:∀ {cG:St}{H7:Hp},Inv X (aa++pinsAt fp s5.heap) cG H7 s7->N cG H7->∃ m,m < n/\∃ i aj H',Inv X aa aj H' s7/\tn i s7.heap/\(∀ b∈fp,H' b=none)/\W i m aj H':=λ{cG H7} I7 n7=>by
   obtain ⟨m',hm,w7⟩:=hN cG H7 n7
   refine ⟨m',hm,i+1,cG,H7,I7.unpinned,T.keep _ _ _ fN λb hb o e=>(I7.pin (b,o) (mem_append_right _ (mem_append_right _ (dE' hb e)))).1,λb hb=>?_,w7⟩
   obtain ⟨o,e,d⟩:=T.obj _ _ fN b hb
   exact (I7.pin (b,o) (mem_append_right _ (mem_append_right _ (dE' hb e)))).2.1
  cases f with
  | next=>obtain ⟨cG,H7,I7,n7⟩:=q7;exact again I7 n7
  | cont=>obtain ⟨cG,H7,I7,n7⟩:=q7;exact again I7 n7
  | brk=>obtain ⟨cG,H7,I7,q7⟩:=q7;exact ⟨cG,H7,I7.unpinned,q7⟩
  | ret v=>obtain ⟨x7,cG,H7,I7,r7,q7⟩:=q7;exact ⟨x7,cG,H7,I7.unpinned,r7,q7⟩
end
abbrev R2:=V->V->Hp->VK->Prop
def OpR (X:Cx) (f:Value->Value->Sem Value) (r:R2):Prop :=
 ∀ (aa:List (Addr×Obj)) (s:Shared) (U:St) (H:Hp) (x y:V) (v u:Value) (Q:VK),Inv X aa U H s->RelV x v->RelV y u->r x y H Q →
  wpAny (model X.prog X.w) X.A (f v u) (EP X aa U Q) X.xe s
def UnR (X:Cx) (f:Value->Sem Value) (r:V->Hp->VK->Prop):Prop :=
 ∀ (aa:List (Addr×Obj)) (s:Shared) (U:St) (H:Hp) (x:V) (v:Value) (Q:VK),Inv X aa U H s->RelV x v->r x H Q →
  wpAny (model X.prog X.w) X.A (f v) (EP X aa U Q) X.xe s
def CallR (X:Cx) (f:Value) (r:List V->Hp->VK->Prop):Prop :=
 ∀ (aa:List (Addr×Obj)) (s:Shared) (U:St) (H:Hp) (xs:List V) (us:List Value) (Q:VK),Inv X aa U H s->Vals xs us->r xs H Q →
  wpAny (model X.prog X.w) X.A (call f us) (EP X aa U Q) X.xe s
noncomputable def tOp (r:R2) (ta tb:TE):TE:=λU H Q=>ta U H λx H1=>tb U H1 λy H2=>r x y H2 Q
noncomputable def tUn (r:V->Hp->VK->Prop) (ta:TE):TE:=λU H Q=>ta U H λx H1=>r x H1 Q
noncomputable def rI (C:Int->Int->Prop) (g:Int->Int->V):R2:=λx y H Q=>∃ i j,x=.int i/\y=.int j/\C i j/\Q (g i j) H
noncomputable def rI0 (g:Int->Int->V):R2:=λx y H Q=>∃ i j,x=.int i/\y=.int j/\Q (g i j) H
def rU (g:Int->V):V->Hp->VK->Prop:=λx H Q=>∃ i,x=.int i/\Q (g i) H
section
variable {X:Cx}{a b c:Expr}{ta tb tc:TE}{pos:Pos}
theorem binT (ha:PE X a ta) (hb:PE X b tb){aa:List (Addr×Obj)}{s:Shared}{U:St}{H:Hp}{R:V->V->Hp->Prop} (I:Inv X aa U H s)
  (h:ta U H λx H1=>tb U H1 λy H2=>R x y H2){Q:Value->Shared->Prop}{f:Value->Value->Sem Value}
  (hf:∀ v u s2 x y H2,Inv X aa U H2 s2->RelV x v->RelV y u->R x y H2->wpAny (model X.prog X.w) X.A (f v u) Q X.xe s2) :
  wpAny (model X.prog X.w) X.A (eval a X.env) (λv am=>wpAny (model X.prog X.w) X.A (eval b X.env) (λu dQ=>wpAny (model X.prog X.w) X.A (f v u) Q X.xe dQ) X.xe am) X.xe s:=by
 refine thn (ha aa s U H _ I h) λv s1 ⟨x,H1,I1,r1,q1⟩=>?_
 refine thn (hb aa s1 U H1 _ I1 q1) λu s2 ⟨y,H2,I2,r2,q2⟩=>?_
 exact hf v u s2 x y H2 I2 r1 r2 q2
theorem o0' {op:Operator}{r:R2} (ho:OpR X (binaryOp op) r) (ha:PE X a ta) (hb:PE X b tb):PE X (.BinOp a op b pos) (tOp r ta tb):=by
 intro aa s U H Q I h
 exact wpAny_BinOp (binT ha hb I h λv u s2 x y H2 I2 rx ry q=>ho aa s2 U H2 x y v u Q I2 rx ry q)
theorem ry' {op:UnaryOp}{r:V->Hp->VK->Prop} (ho:UnR X (unaryOp op) r) (ha:PE X a ta):PE X (.UnaryOp op a pos) (tUn r ta):=by
 intro aa s U H Q I h
 exact UnaryOp_ (thn (ha aa s U H _ I h) λv s1 ⟨x,H1,I1,r1,q1⟩=>ho aa s1 U H1 x v Q I1 r1 q1)
theorem opI {f:Value->Value->Sem Value}{C:Int->Int->Prop}{g:Int->Int->Int}
  (rule:∀ (i j:Int) (t u:Tok) (s:Shared) (Q:Value->Shared->Prop) (E:Value->Shared->Prop),C i j->Q (.int (g i j) s.toks) { s with toks:=s.toks+1 }->wpAny (model X.prog X.w) X.A (f (.int i t) (.int j u)) Q E s) :
  OpR X f (rI C λi j=>.int (g i j)):=by
 intro aa s U H x y v u Q I rx ry h
 obtain ⟨i,j,rfl,rfl,hc,q⟩:=h
 obtain ⟨t,rfl⟩:=rx
 obtain ⟨t',rfl⟩:=ry
 exact rule i j t t' s _ _ hc ⟨.int (g i j),H,I.tok _,⟨_,rfl⟩,q⟩
theorem opI0 {f:Value->Value->Sem Value}{g:Int->Int->Int}
  (rule:∀ (i j:Int) (t u:Tok) (s:Shared) (Q:Value->Shared->Prop) (E:Value->Shared->Prop),Q (.int (g i j) s.toks) { s with toks:=s.toks+1 }->wpAny (model X.prog X.w) X.A (f (.int i t) (.int j u)) Q E s) :
  OpR X f (rI0 λi j=>.int (g i j)):=by
 intro aa s U H x y v u Q I rx ry h
 obtain ⟨i,j,rfl,rfl,q⟩:=h
 obtain ⟨t,rfl⟩:=rx
 obtain ⟨t',rfl⟩:=ry
 exact rule i j t t' s _ _ ⟨.int (g i j),H,I.tok _,⟨_,rfl⟩,q⟩
theorem opB0 {f:Value->Value->Sem Value}{g:Int->Int->Bool}
  (rule:∀ (i j:Int) (t u:Tok) (s:Shared) (Q:Value->Shared->Prop) (E:Value->Shared->Prop),Q (.bool (g i j)) s->wpAny (model X.prog X.w) X.A (f (.int i t) (.int j u)) Q E s) :
  OpR X f (rI0 λi j=>.bl (g i j)):=by
 intro aa s U H x y v u Q I rx ry h
 obtain ⟨i,j,rfl,rfl,q⟩:=h
 obtain ⟨t,rfl⟩:=rx
 obtain ⟨t',rfl⟩:=ry
 exact rule i j t t' s _ _ ⟨.bl (g i j),H,I,rfl,q⟩
def CPow (i j:Int):Prop:=0<=j/\j<=1000000/\i.natAbs < 2 ^ 64
def CMul (i j:Int):Prop:=(-(2 ^ 64) < i/\i < 2 ^ 64)\/(-(2 ^ 64) < j/\j < 2 ^ 64)
theorem CMul.ok {i j:Int} (h:CMul i j):IntMulOk i j:=by
 rcases h with ⟨h1,h2⟩ | ⟨h1,h2⟩
 ·exact .of_left (intBits_le_64 h1 h2)
 ·exact .of_right (intBits_le_64 h1 h2)
theorem qy':OpR X (binaryOp .Add) (rI0 λi j=>.int (i+j)):=opI0 λ_ _ _ _ _ _ _ q=>add_int q
theorem qz':OpR X (binaryOp .Sub) (rI0 λi j=>.int (i - j)):=opI0 λ_ _ _ _ _ _ _ q=>sub_int q
theorem qA':OpR X (binaryOp .Mult) (rI CMul λi j=>.int (i*j)):=opI λ_ _ _ _ _ _ _ hc q=>mul_int q hc.ok
theorem qB':OpR X (binaryOp .Mod) (rI (λ_ j=>0 < j) λi j=>.int (i % j)):=opI λi j _ _ _ _ _ hc q=>by
 have h1:(0:Int) < j:=hc
 exact mod_int' (by omega) (by rw [Int.fmod_eq_emod_of_nonneg i (by omega)];exact q)
theorem qC':OpR X (binaryOp .Pow) (rI CPow λi j=>.int (i ^ j.toNat)):=opI λ_ _ _ _ _ _ _ hc q=>pow_int_small hc.1 hc.2.1 hc.2.2 q
theorem unI {f:Value->Sem Value}{g:Int->Int}
  (rule:∀ (i:Int) (t:Tok) (s:Shared) (Q:Value->Shared->Prop) (E:Value->Shared->Prop),Q (.int (g i) s.toks) { s with toks:=s.toks+1 }->wpAny (model X.prog X.w) X.A (f (.int i t)) Q E s) :
  UnR X f (rU λi=>.int (g i)):=by
 intro aa s U H x v Q I rx h
 obtain ⟨i,rfl,q⟩:=h
 obtain ⟨t,rfl⟩:=rx
 exact rule i t s _ _ ⟨.int (g i),H,I.tok _,⟨_,rfl⟩,q⟩
theorem qD':UnR X (unaryOp .USub) (rU λi=>.int (-i)):=unI λ_ _ _ _ _ q=>neg_int q
end
section
variable {X:Cx}{a b c:Expr}{ta tb tc:TE}{pos:Pos}
theorem mC' {aa:List (Addr×Obj)}{U:St}{H:Hp}{s:Shared}{Q:VK}{k k':Bool} (I:Inv X aa U H s) (q:Q (.bl k) H) (e:k=k'):EP X aa U Q (.bool k') s:=by
 subst e
 exact ⟨.bl k,H,I,rfl,q⟩
theorem rz':OpR X (compareOp .Lt) (rI0 λi j=>.bl (decide (i < j))):=opB0 λ_ _ _ _ _ _ _ q=>lt_int q
theorem lV':OpR X (compareOp .LtE) (rI0 λi j=>.bl (decide (i<=j))):=opB0 λ_ _ _ _ _ _ _ q=>le_int q
theorem rA':OpR X (compareOp .Gt) (rI0 λi j=>.bl (decide (j < i))):=opB0 λ_ _ _ _ _ _ _ q=>gt_int q
theorem rB':OpR X (compareOp .GtE) (rI0 λi j=>.bl (decide (j<=i))):=opB0 λ_ _ _ _ _ _ _ q=>ge_int q
theorem mD':OpR X (compareOp .Is) (λx y H Q=>y=.non/\Q (.bl (decide (x=.non))) H):=by
 intro aa s U H x y v u Q I rx ry h
 obtain ⟨rfl,q⟩:=h
 cases ry
 refine is_none_gen (mC' I q ?_)
 cases x<;>first
  | (cases rx;rfl)
  | (obtain ⟨t,rfl⟩:=rx;rfl)
theorem po':OpR X (compareOp .IsNot) (λx y H Q=>y=.non/\Q (.bl (!decide (x=.non))) H):=by
 intro aa s U H x y v u Q I rx ry h
 obtain ⟨rfl,q⟩:=h
 cases ry
 refine isnot_none_gen (mC' I q ?_)
 cases x<;>first
  | (cases rx;rfl)
  | (obtain ⟨t,rfl⟩:=rx;rfl)
theorem OpR.or {f:Value->Value->Sem Value}{r r':R2} (h:OpR X f r) (h':OpR X f r'):OpR X f (λx y H Q=>r x y H Q\/r' x y H Q):=by
 intro aa s U H x y v u Q I rx ry q
 rcases q with q | q
 ·exact h aa s U H x y v u Q I rx ry q
 ·exact h' aa s U H x y v u Q I rx ry q
theorem nomark (b:Expr){op:CmpOp} (h:op≠.In:=by decide) (h2:op≠.NotIn:=by decide):behindInMarks op b=false:=by
 have e1:(op == CmpOp.In)=false:=by cases op<;>first | rfl | exact absurd rfl h
 have e2:(op == CmpOp.NotIn)=false:=by cases op<;>first | rfl | exact absurd rfl h2
 cases b<;>simp [behindInMarks,e1,e2]
theorem pp' {op:CmpOp}{r:R2} (ho:OpR X (compareOp op) r) (ha:PE X a ta) (hb:PE X b tb) (hm:behindInMarks op b=false):PE X (.Compare a [op] [b] pos) (tOp r ta tb):=by
 intro aa s U H Q I h
 exact wpAny_Compare1 (binT ha hb I h λv u s2 x y H2 I2 rx ry q=>ho aa s2 U H2 x y v u Q I2 rx ry q) hm
noncomputable def tTest (t:TE):TT:=λU H Q=>t U H λx H'=>∃ k,x=.bl k/\Q k H'
theorem k7' {op:CmpOp}{r:R2} (ho:OpR X (compareOp op) r) (ha:PE X a ta) (hb:PE X b tb) (hm:behindInMarks op b=false):PT X (.Compare a [op] [b] pos) (tTest (tOp r ta tb)):=by
 intro aa s U H Q I h
 refine wpAny_isTrue_Compare1 (thn (ha aa s U H _ I h) λv s1 ⟨x,H1,I1,r1,q1⟩=>thn (hb aa s1 U H1 _ I1 q1) λu s2 ⟨y,H2,I2,r2,q2⟩ =>
  thn (ho aa s2 U H2 x y v u _ I2 r1 r2 q2) λc s3 ⟨z,H3,I3,r3,k,e,q3⟩=>?_) hm
 subst e
 cases r3
 exact wpAny_truthy_bool ⟨H3,I3,q3⟩
noncomputable def tChain (r r':R2) (ta tb tc:TE):TE:=λU H Q=>ta U H λx H1=>tb U H1 λy H2=>r x y H2 λz H3=>∃ k,z=.bl k ∧
 (if k=true then tc U H3 λw' H4=>r' y w' H4 Q else Q (.bl false) H3)
theorem n7' {op eC:CmpOp}{r r':R2} (ho:OpR X (compareOp op) r) (cB:OpR X (compareOp eC) r') (ha:PE X a ta) (hb:PE X b tb) (hc:PE X c tc)
  (hm:lastMarks [op,eC] [b,c]=false:=by with_unfolding_all rfl):PE X (.Compare a [op,eC] [b,c] pos) (tChain r r' ta tb tc):=by
 intro aa s U H Q I h
 refine Compare_chain (thn (ha aa s U H _ I h) λv s1 ⟨x,H1,I1,r1,q1⟩=>chain_link (thn (hb aa s1 U H1 _ I1 q1) λu s2 ⟨y,H2,I2,r2,q2⟩ =>
  thn (ho aa s2 U H2 x y v u _ I2 r1 r2 q2) λd s3 ⟨z,H3,I3,r3,k,e,q3⟩=>?_)) hm
 subst e
 cases r3
 refine wpAny_truthy_bool ?_
 cases k with
 | false=>exact ite_ff ⟨.bl false,H3,I3,rfl,q3⟩
 | true=>exact ite_tt (chain_last (thn (hc aa s3 U H3 _ I3 q3) λw' s4 ⟨z',H4,I4,r4,q4⟩=>cB aa s4 U H4 y z' u w' Q I4 r2 r4 q4))
theorem line63:(sizeLine:Nat) < 2 ^ 63:=by rw [sizeLine_eq];decide
theorem lW':OpR X (binaryOp .Add) (λx y H Q=>∃ i j,x=.str i/\y=.str j/\i.length+j.length<=sizeLine/\Q (.str (i++j)) H):=by
 intro aa s U H x y v u Q I rx ry h
 obtain ⟨i,j,rfl,rfl,hz,q⟩:=h
 obtain ⟨t,rfl⟩:=rx
 obtain ⟨t',rfl⟩:=ry
 exact add_str (λt' tk=>⟨.str (i++j),H,I.tok _,⟨_,rfl⟩,q⟩) hz
theorem vals1 {x:V}{us:List Value} (r:Vals [x] us):∃ u,us=[u]/\RelV x u:=by
 cases r with
 | cons r1 r2=>cases r2;exact ⟨_,rfl,r1⟩
theorem vals2 {x y:V}{us:List Value} (r:Vals [x,y] us):∃ u w',us=[u,w']/\RelV x u/\RelV y w':=by
 cases r with
 | cons r1 r2 =>
  cases r2 with
  | cons r3 r4=>cases r4;exact ⟨_,_,rfl,r1,r3⟩
theorem mE' (hc:X.calm=true):CallR X (.builtin "max") (λxs H Q=>∃ i j,xs=[.int i,.int j]/\Q (.int (if j > i then j else i)) H):=by
 intro aa s U H xs us Q I r h
 obtain ⟨i,j,rfl,q⟩:=h
 obtain ⟨u,w',rfl,⟨t,rfl⟩,⟨t',rfl⟩⟩:=vals2 r
 refine max_two_ints (I.ok.hd hc) λh' tk k=>⟨_,H,I.kept k,?_,q⟩
 by_cases hj:j > i
 ·rw [if_pos hj,if_pos hj];exact ⟨_,rfl⟩
 ·rw [if_neg hj,if_neg hj];exact ⟨_,rfl⟩
theorem mF' (hc:X.calm=true):CallR X (.builtin "min") (λxs H Q=>∃ i j,xs=[.int i,.int j]/\Q (.int (if j < i then j else i)) H):=by
 intro aa s U H xs us Q I r h
 obtain ⟨i,j,rfl,q⟩:=h
 obtain ⟨u,w',rfl,⟨t,rfl⟩,⟨t',rfl⟩⟩:=vals2 r
 refine min_two_ints (I.ok.hd hc) λh' tk k=>⟨_,H,I.kept k,?_,q⟩
 by_cases hj:j < i
 ·rw [if_pos hj,if_pos hj];exact ⟨_,rfl⟩
 ·rw [if_neg hj,if_neg hj];exact ⟨_,rfl⟩
end
structure ObjM (h:Heap) (x dx C:Addr) (mA:Str->Option Value):Prop where
 obj:h.get? x=some (instObj C dx)
 ns:h.Ns1 dx mA
 ne:dx≠x
structure Cls (K:PySem.W.Frag) (C:Addr):Prop where
 pg:PySem.W.plainGet K C Str.empty=true
 hd:PySem.W.hasDictIn K C=true
 po:PySem.W.plainOver K C=true
 sa:findIn K (.ref C) "__setattr__"=some (some (.builtin "object.__setattr__"))
structure Con (K:PySem.W.Frag) (C:Addr) (f:Str) (v:V) (u:Value):Prop where
 at_:findIn K (.ref C) f=some (some u)
 rel:RelV v u
 get:specialIn K u "__get__"=some none
 cp:PySem.W.copiedNames.contains f=false
structure Meth (K:PySem.W.Frag) (C:Addr) (m:Str) (f:Addr):Prop where
 at_:findIn K (.ref C) m=some (some (.ref f))
 fn:isFn K (.ref f)=true
 kp:keepIn K (.ref f)=true
section
variable {X:Cx}{aa:List (Addr×Obj)}{U:St}{H:Hp}{s:Shared}{A:Around}{E:Value->Shared->Prop}{Q:Value->Shared->Prop}{c:Value}{b:Bool}
inductive TyOf (K:PySem.W.Frag) (H:Hp):V->Value->Prop where
 | non:TyOf K H .non (.type "NoneType")
 | bl (x:Bool):TyOf K H (.bl x) (.type "bool")
 | int (i:Int):TyOf K H (.int i) (.type "int")
 | str (x:Str):TyOf K H (.str x) (.type "str")
 | flt (x:UInt64):TyOf K H (.flt x) (.type "float")
 | lst {a:Addr}{xs:List V} (e:H a=some (.lst xs)):TyOf K H (.ref a) (.type "list")
 | frz {a:Addr}{o:Obj}{xs:List V} (e:H a=some (.frz o (.lst xs))):TyOf K H (.ref a) (.type "list")
 | tup {a:Addr}{xs:List V} (e:H a=some (.tup xs)):TyOf K H (.ref a) (.type "tuple")
 | dK {a:Addr}{aH:List (Key×V)} (e:H a=some (.dK aH)):TyOf K H (.ref a) (.type "dict")
 | dT {a:Addr}{aH:List (List Key×V)} (e:H a=some (.dT aH)):TyOf K H (.ref a) (.type "dict")
 | ins {a C dx:Addr}{fs:List (Str×V)} (e:H a=some (.ins C dx fs)) (cl:Cls K C) (ha:findIn K (.ref C) "__class__"=some (some (.builtin "object.__class__")))
   (hn:specialIn K (.builtin "object.__class__") "__get__"=some (some (.builtin "getset_descriptor.__get__"))) (eD:PySem.W.takesIn K (.builtin "object.__class__")=some true)
   (hm:PySem.W.mroIn K C (.type "object")=some true):TyOf K H (.ref a) (.ref C)
end
structure Room (k:Nat) (A:Around):Prop where
 hd:A.handled=none
 dp:A.depth+3*k+5 < recursionLimit
 un:A.units+16*k+200 < cLine
 gd:A.guards=some []
theorem Room.mono {j k:Nat}{A:Around} (r:Room k A) (h:j<=k):Room j A:=⟨r.hd,by have:=r.dp;omega,by have:=r.un;omega,r.gd⟩
theorem Room.deeper {k:Nat}{A:Around} (r:Room (k+1) A) (env:Env):Room k (A.deeper env) :=
 ⟨r.hd,by have:=r.dp;show A.depth+1+3*k+5 < _;omega,by have:=r.un;show A.units+3+16*k+200 < _;omega,r.gd⟩
theorem Room.in1 {k:Nat}{A:Around} (r:Room (k+1) A):Room k A.in1 :=
 ⟨r.hd,by have:=r.dp;show A.depth+3*k+5 < _;omega,by have:=r.un;show A.units+1+16*k+200 < _;omega,r.gd⟩
theorem Room.depth {k:Nat}{A:Around} (r:Room k A):A.depth < recursionLimit:=by have:=r.dp;omega
noncomputable def tNil:TA:=λ_ H Q=>Q [] H
noncomputable def tCons (ta:TE) (tr:TA):TA:=λU H Q=>ta U H λx H1=>tr U H1 λxs H2=>Q (x::xs) H2
section
variable {X:Cx}{e:Expr}{es:List Expr}{te:TE}{t:TA}{pos:Pos}
theorem gH':PA X [] tNil:=λ_ _ _ _ H Q I h=>Calls.spliced_nil ⟨[],H,I,.nil,h⟩
theorem eG' (ha:PE X e te) (hr:PA X es t) (hs:starEach (e::es) X.env=(false,eval e X.env)::starEach es X.env:=by rfl):PA X (e::es) (tCons te t):=by
 intro pos aa s U H Q I h
 rw [hs]
 show wpAny _ _ (spliced ((false,eval e X.env)::backTo pos (starEach es X.env))) _ _ s
 refine Calls.spliced_cons (thn (ha aa s U H _ I h) λu s1 ⟨x,H1,I1,r1,q1⟩=>?_)
 exact thn (hr pos aa s1 U H1 _ I1 q1) λus s2 ⟨xs,H2,I2,r2,q2⟩=>⟨x::xs,H2,I2,.cons r1 r2,q2⟩
noncomputable def tTup (t:TA):TE:=λU H Q=>t U H λxs H1=>xs.length<=sizeLine/\∀ p,H1 p=none->Q (.ref p) (upd H1 p (.tup xs))
noncomputable def tLst (t:TA):TE:=λU H Q=>t U H λxs H1=>xs.length<=sizeLine/\∀ p,H1 p=none->Q (.ref p) (upd H1 p (.lst xs))
theorem qE' {x1} (h:PA X es t):PE X (.Tuple es x1 pos) (tTup t):=by
 intro aa s U H Q I hq
 refine wpAny_Tuple_spliced (thn (h pos aa s U H _ I hq) λus s1 ⟨xs,H1,I1,r,z,q⟩=>⟨by rw [← r.length];exact z,?_⟩)
 have hf:H1 s1.heap.objs.size=none:=I1.hok.fresh (le_refl _)
 refine ⟨.ref s1.heap.objs.size,upd H1 s1.heap.objs.size (.tup xs),I1.laid (t':=s1.toks) (λb u e=>get?_push_of_some _ e) (le_refl _) ?_,rfl,q _ hf⟩
 exact ⟨z,us,r,⟨_,get?_push_size _ rfl,rfl,_,rfl⟩⟩
theorem qF' (h:PA X es t):PE X (.List es pos) (tLst t):=by
 intro aa s U H Q I hq
 refine wpAny_List_spliced (thn (h pos aa s U H _ I hq) λus s1 ⟨xs,H1,I1,r,z,q⟩=>⟨by rw [← r.length];exact z,?_⟩)
 have hf:H1 s1.heap.objs.size=none:=I1.hok.fresh (le_refl _)
 refine ⟨.ref s1.heap.objs.size,upd H1 s1.heap.objs.size (.lst xs),I1.laid (t':=s1.toks) (λb u e=>get?_push_of_some _ e) (le_refl _) ?_,rfl,q _ hf⟩
 exact ⟨z,us,0,r,get?_push_size _ rfl⟩
end
abbrev Sp:=List V->Hp->VK->XK->Prop
abbrev CXT:=List Env->Hp->Shared->XK->Value->Shared->Prop
structure Env0 (P:Program) (w:World) (K:PySem.W.Frag) (mg:Str->Option Value) (base:Heap) (A:Around) (outer:List Env) (s:Shared) (H:Hp):Prop where
 frames:A.frames=some outer
 mod:Mod K mg base
 bs:∀ b o,base.get? b=some o->s.heap.get? b=some o/\H b=none
 bsz:base.objs.size<=s.heap.objs.size
 funs:s.heap.FunFrames base outer
 frf:∀ b∈frs outer,H b=none
 hok:HOk P w H s.heap
 bare:AllBare s.gens
 tb:TabsOk K H
def CE (outer:List Env) (P:Program) (w:World) (H:Hp) (s:Shared) (Q:VK) (u:Value) (s':Shared):Prop :=
 ∃ v H',s'.os=s.os/\AllBare s'.gens/\Un (frs outer) [] H H' s.heap s'.heap/\HOk P w H' s'.heap/\RelV v u/\Q v H'
def CR (CX:CXT) (outer:List Env) (P:Program) (w:World) (H:Hp) (s:Shared) (Q:VK) (E:XK) (r:Result) (s':Shared):Prop :=
 match r with
 | .ok (.ret u)=>CE outer P w H s Q u s'
 | .ok _=>False
 | .error e=>CX outer H s E e s'
structure FnOk (P:Program) (w:World) (K:PySem.W.Frag) (mg:Str->Option Value) (base:Heap) (CX:CXT) (k:Nat) (f:Addr) (fd:FuncData) (ps:List Str) (sp:Sp):Prop where
 len:∀ vs H Q E,sp vs H Q E->vs.length=ps.length
 run:∀ (A:Around) (outer:List Env) (s:Shared) (H:Hp) (args:Args) (us:List Value) (vs:List V) (Q:VK) (E:XK),Room k A->Env0 P w K mg base A outer s H->BindsTo s fd args (ps.zip us)->Vals vs us->sp vs H Q E →
  codeAny (model P w) A (.call (.ref f) args) (CR CX outer P w H s Q E) s
theorem Env0.in1 {P:Program}{w:World}{K:PySem.W.Frag}{mg:Str->Option Value}{base:Heap}{A:Around}{outer:List Env}{s:Shared}{H:Hp} (e:Env0 P w K mg base A outer s H) :
  Env0 P w K mg base A.in1 outer s H:=⟨e.frames,e.mod,e.bs,e.bsz,e.funs,e.frf,e.hok,e.bare,e.tb⟩
section
variable {X:Cx}{aa:List (Addr×Obj)}{U:St}{H:Hp}{s s':Shared}
theorem Inv.env0 (I:Inv X aa U H s):Env0 X.prog X.w X.K X.mg X.base X.A X.stack s H :=
 ⟨I.ok.frames,I.ok.mod,I.bs,le_trans I.ok.bsz I.sz,I.stack,I.stkFree,I.hok,I.bare,λc P h=>I.base.tbls P _ (I.ok.tb c P h)⟩
theorem Inv.after {Q:VK}{u:Value} (I:Inv X aa U H s) (h:CE X.stack X.prog X.w H s Q u s'):EP X aa U Q u s':=by
 obtain ⟨v,H',os,bare,un,hok,r,q⟩:=h
 obtain ⟨hh,g,d,t,gz⟩:=s'
 obtain rfl:gz=s.os:=os
 exact ⟨v,H',I.call (h':=hh) (g':=g) (d':=d) (t':=t) (ch:=[]) un hok bare (λb z=>absurd z (by simp)),r,q⟩
end
noncomputable def tCall (sp:Sp) (dR:List V) (E:XK) (t:TA):TE:=λU H Q=>t U H λvs H1=>sp (vs++dR) H1 Q E
def Binds (K:PySem.W.Frag) (fd:FuncData) (ps:List Str) (ds:List Value):Prop :=
 ∀ (s:Shared) (us:List Value),K.In s.heap->(us++ds).length=ps.length->BindsTo s fd ⟨us,[]⟩ (ps.zip (us++ds))
theorem Binds.all {K:PySem.W.Frag}{fd:FuncData}{ps:List Str} (h:∀ us:List Value,us.length=ps.length->bindArgs fd ⟨us,[]⟩=pure (ps.zip us)):Binds K fd ps []:=λs us _ hl=>by
 rw [append_nil] at hl ⊢
 exact .of_eq (h us hl)
def Passes (CX:CXT) (X:Cx) (E:XK):Prop:=∀ (aa:List (Addr×Obj)) (U:St) (H:Hp) (s:Shared) (e:Value) (s':Shared),Inv X aa U H s->CX X.stack H s E e s'->X.xe e s'
section
variable {X:Cx}{CX:CXT}{k:Nat}{f C:Addr}{fd:FuncData}{ps:List Str}{sp:Sp}{dR:List V}{ds:List Value}{E:XK}{x m:Str}{p pos ba:Pos}{e o:Expr}{es:List Expr}{ta:TE}{t:TA}
theorem qG' {aa:List (Addr×Obj)}{U:St}{H:Hp}{s:Shared}{Q:VK}{us:List Value}{vs:List V} (F:FnOk X.prog X.w X.K X.mg X.base CX k f fd ps sp) (hr:Room k X.A) (hb:Binds X.K fd ps ds) (hd:Vals dR ds) (hx:Passes CX X E)
  (I:Inv X aa U H s) (r:Vals vs us) (h:sp (vs++dR) H Q E):wpAny (model X.prog X.w) X.A (call (.ref f) us) (EP X aa U Q) X.xe s:=by
 have r2:Vals (vs++dR) (us++ds):=r.append hd
 have hl:(us++ds).length=ps.length:=by rw [← r2.length];exact F.len _ _ _ _ h
 refine wpAny_call (codeAny_mono (F.run X.A X.stack s H ⟨us,[]⟩ (us++ds) (vs++dR) Q E hr I.env0 (hb s us I.kIn hl) r2 h) λr s' hq=>?_)
 cases r with
 | error e=>exact hx aa U H s e s' I hq
 | ok fl =>
  cases fl with
  | ret u=>exact I.after hq
  | next=>exact elim hq
  | brk=>exact elim hq
  | cont=>exact elim hq
theorem hB' (F:FnOk X.prog X.w X.K X.mg X.base CX k f fd ps sp) (hr:Room k X.A) (hg:Gl X x) (hm:X.mg x=some (.ref f)) (hk:keepIn X.K (.ref f)=true) (hb:Binds X.K fd ps ds) (hd:Vals dR ds) (hx:Passes CX X E)
  (ha:PA X (e::es) t) (bb:(x == ("__debug__":Str))=false:=by decide) (he:starEach (e::es) X.env=(false,eval e X.env)::starEach es X.env:=by rfl) (au:(backTo pos (starEach es X.env)).any (·.1)=false:=by rfl) :
  PE X (.Call (.Name x p) (e::es) [] pos) (tCall sp dR E t):=by
 intro aa s U H Q I h
 refine wpAny_Call_Name_kw (pi' I hg hm ?_ bb)
 refine PySem.W.callWith_K (h₀:=X.base) I.ok.mod.kin hk (thn (ha pos aa s U H _ I h) λus s1 ⟨vs,H1,I1,r,q⟩=>⟨I1.kIn,?_⟩) he au
 exact qG' F hr hb hd hx I1 r q
structure Mk (K:PySem.W.Frag) (C f:Addr):Prop where
 makes:PySem.W.makesIn K C=true
 init:findIn K (.ref C) "__init__"=some (some (.ref f))
 fn:isFn K (.ref f)=true
 kp:keepIn K (.ref C)=true
end
section
variable {X:Cx}{CX:CXT}{k:Nat}{f C:Addr}{fd:FuncData}{ps ks:List Str}{sp:Sp}{E:XK}{x m:Str}{p pos ba yS:Pos}{e o:Expr}{es:List Expr}{y9:List Keyword}{te ta:TE}{t tk:TA}{nm:Option Str}
structure KBinds (K:PySem.W.Frag) (fd:FuncData) (ps ks:List Str) (g:List Value->List Value->List Value) (gV:List V->List V->List V):Prop where
 to:∀ (s:Shared) (us ws:List Value),K.In s.heap->(g us ws).length=ps.length->BindsTo s fd ⟨us,ks.zip ws⟩ (ps.zip (g us ws))
 rel:∀ {vs:List V}{us:List Value}{zs:List V}{ws:List Value},Vals vs us->Vals zs ws->Vals (gV vs zs) (g us ws)
variable {g:List Value->List Value->List Value}{gV:List V->List V->List V}
end
structure FnScope (N P:List Str) (sc:Scope):Prop where
 kind:sc.kind=.function
 co:sc.isCoroutine=false
 gen:sc.isGenerator=false
 nd:N.Nodup
 pre:N.take P.length=P
 par:∀ x∈P,sc.names.lookup x=some .local\/sc.names.lookup x=some .cell
 nofree:∀ y∈sc.names,y.2≠.free
theorem h4' {kindOf:Str->Option NameKind}{x:Str}:∀ {binds:List (Str×Value)}{m:Str->Option Value},(∀ v,(x,v)∉binds)->bindL kindOf binds m x=m x
 | [],_,_=>rfl
 | (n,v)::r,m,h=>by
  unfold bindL
  rw [h4' λw hw=>h w (mem_cons_of_mem _ hw)]
  split
  ·have:x≠n:=by rintro rfl;exact h v mem_cons_self
   simp [this]
  ·rfl
theorem h5' {kindOf:Str->Option NameKind}{x:Str}:∀ {binds:List (Str×Value)}{m:Str->Option Value},(∀ v,(x,v)∉binds)->bindC kindOf binds m x=m x
 | [],_,_=>rfl
 | (n,v)::r,m,h=>by
  unfold bindC
  rw [h5' λw hw=>h w (mem_cons_of_mem _ hw)]
  split
  ·rfl
  ·have:x≠n:=by rintro rfl;exact h v mem_cons_self
   simp [this]
theorem h6' {kindOf:Str->Option NameKind}{x:Str}{v:Value}:∀ {P:List Str}{vs:List Value}{i:Nat}{m:Str->Option Value},P.Nodup->P[i]?=some x->vs[i]?=some v->kindOf x=some .local →
  bindL kindOf (P.zip vs) m x=some v
 | [],_,_,_,_,h,_,_=>by simp at h
 | _::_,[],_,_,_,_,h,_=>by simp at h
 | p::P,w::vs,0,m,nd,h1,h2,hk=>by
  simp at h1 h2;subst h1;subst h2
  show bindL kindOf ((p,w)::P.zip vs) m p=_
  unfold bindL
  rw [h4' λv hv=>(nodup_cons.mp nd).1 (of_mem_zip hv).1,if_pos hk]
  simp
 | p::P,w::vs,i+1,m,nd,h1,h2,hk=>by
  show bindL kindOf ((p,w)::P.zip vs) m x=_
  unfold bindL
  exact h6' (i:=i) (nodup_cons.mp nd).2 (by simpa using h1) (by simpa using h2) hk
theorem h7' {kindOf:Str->Option NameKind}{x:Str}{v:Value}:∀ {P:List Str}{vs:List Value}{i:Nat}{m:Str->Option Value},P.Nodup->P[i]?=some x->vs[i]?=some v->kindOf x≠some .local →
  bindC kindOf (P.zip vs) m x=some v
 | [],_,_,_,_,h,_,_=>by simp at h
 | _::_,[],_,_,_,_,h,_=>by simp at h
 | p::P,w::vs,0,m,nd,h1,h2,hk=>by
  simp at h1 h2;subst h1;subst h2
  show bindC kindOf ((p,w)::P.zip vs) m p=_
  unfold bindC
  rw [h5' λv hv=>(nodup_cons.mp nd).1 (of_mem_zip hv).1,if_neg hk]
  simp
 | p::P,w::vs,i+1,m,nd,h1,h2,hk=>by
  show bindC kindOf ((p,w)::P.zip vs) m x=_
  unfold bindC
  exact h7' (i:=i) (nodup_cons.mp nd).2 (by simpa using h1) (by simpa using h2) hk
noncomputable def start (N:List Str) (vs:List V):St:=vs.map some++replicate (N.length - vs.length) none
noncomputable def cxOf (CX:CXT) (P:Program) (w:World) (K:PySem.W.Frag) (mg:Str->Option Value) (base:Heap) (N:List Str) (qual:Str) (scope:Scope) (f:Addr) (cd:Value) (A:Around) (outer:List Env) (s:Shared) (H:Hp) (E:XK):Cx where
 prog:=P
 w:=w
 K:=K
 mg:=mg
 base:=base
 A:=A.deeper (envOfC qual scope s.heap.objs.size f cd)
 N:=N
 s₀:=s
 H₀:=H
 env:=envOfC qual scope s.heap.objs.size f cd
 outer:=outer
 stack:=envOfC qual scope s.heap.objs.size f cd::outer
 ex:=[]
 calm:=true
 fn:=λ_=>true
 pn:=[]
 xe:=λe s'=>wpAny (model P w) (A.deeper (envOfC qual scope s.heap.objs.size f cd)) (leaving (envOfC qual scope s.heap.objs.size f cd) e) (λ_ fO=>CX outer H s E e fO) (λe' fO=>CX outer H s E e' fO) s'
theorem ja' {sc:Scope}{n:Nat}{x:Str} (h:sc.names.lookup x=some .cell):∃ c,(cellsFrom n sc.names []).lookup x=some c:=by
 have q:=PySem.W.cellsFrom_some sc.names n [] (.inl h)
 exact Option.isSome_iff_exists.mp q
theorem mG' {CX:CXT}{P:Program}{w:World}{K:PySem.W.Frag}{mg:Str->Option Value}{base:Heap}{N ps:List Str}{qual:Str}{scope:Scope}{f:Addr}{cd:Value}{A:Around}{outer:List Env}{s s1:Shared}{H:Hp}{E:XK}{us:List Value}{vs:List V}
  (S:FnScope N ps scope) (hd:A.handled=none) (e0:Env0 P w K mg base A outer s H) (hl:vs.length=ps.length) (r:Vals vs us)
  (x:InCallC s s.heap.objs.size (bindL (envOfC qual scope s.heap.objs.size f cd).kindOf (ps.zip us) λ_=>none) (cellsFrom (s.heap.objs.size+1) scope.names []) (bindC (envOfC qual scope s.heap.objs.size f cd).kindOf (ps.zip us) λ_=>none) s1) :
  Inv (cxOf CX P w K mg base N qual scope f cd A outer s H E) [] (start N vs) H s1:=by
 have au:ps.length<=N.length:=by have:=congrArg length S.pre;rw [length_take] at this;omega
 obtain ⟨h1,tk,rfl,hk⟩:=x.done
 have kq:∀ b:Addr,b∉(cxOf CX P w K mg base N qual scope f cd A outer s H E).ex:=λb z=>absurd (show b∈([]:List Addr) from z) (by simp)
 refine ⟨⟨e0.mod,S.kind,rfl,rfl,le_refl _,λy z c h1 h2=>?_,λy hy=>?_,λy c _ h=>?_,λ_=>hd,Around.frames_deeper e0.frames,.inr ⟨rfl,rfl⟩,λb z=>absurd z (kq b),e0.bs,e0.bsz,λb _ _=>kq b,λb z=>absurd z (kq b),e0.funs,e0.frf,e0.tb⟩,
  rfl,e0.bare,Un.kept hk,⟨_,x.toInCall.ns,λi y v h1 h2 h3=>?_⟩,λy c h=>⟨_,x.cell y c h⟩,e0.hok.fresh (le_refl _),λy c h=>?_,λp hp=>absurd (show p∈([]:List (Addr×Obj)) from hp) (by simp),e0.hok.kept hk,?_⟩
 ·exact name_of_addr x.apart (PySem.mem_of_lookup h1) (PySem.mem_of_lookup h2)
 ·have hy:scope.names.lookup y=some .cell\/scope.names.lookup y=some .free:=hy
  rcases hy with hy | hy
  ·exact ja' hy
  ·exact absurd rfl (S.nofree _ (PySem.mem_of_lookup hy))
 ·exact le_of_lt (x.above y c (PySem.mem_of_lookup h))
 ·have hi:i < vs.length:=by
   unfold start at h2
   by_cases hi:i < vs.length
   ·exact hi
   ·rw [getElem?_append_right (by simpa using hi)] at h2
    rw [List.getElem?_replicate] at h2
    split at h2<;>cases h2
  have ha:vs[i]?=some v:=by
   unfold start at h2
   rw [getElem?_append_left (by simpa using hi),getElem?_map] at h2
   cases e:vs[i]? with
   | none=>rw [e] at h2;cases h2
   | some a=>rw [e] at h2;cases h2;rfl
  obtain ⟨u,hu,rv⟩:=r.get ha
  have hp:ps[i]?=some y:=by
   rw [← S.pre,List.getElem?_take_of_lt (by omega)];exact h1
  have pp:ps.Nodup:=by rw [← S.pre];exact S.nd.sublist (List.take_sublist _ _)
  refine ⟨u,rv,?_⟩
  rcases S.par y (mem_of_getElem? hp) with k | k
  ·exact .inl ⟨k,h6' pp hp hu k⟩
  ·obtain ⟨c,e⟩:=ja' (n:=s.heap.objs.size+1) k
   refine .inr ⟨.inl k,c,e,?_⟩
   have q:=x.cell y c e
   rw [h7' pp hp hu (by show scope.names.lookup y≠_;rw [k];decide)] at q
   exact q
 ·exact e0.hok.fresh (le_of_lt (x.above y c (PySem.mem_of_lookup h)))
 ·unfold start
  show _=N.length
  rw [length_append,length_map,length_replicate]
  omega
theorem o1' {CX:CXT}{P:Program}{w:World}{K:PySem.W.Frag}{mg:Str->Option Value}{base:Heap}{k:Nat}{f:Addr}{name qual:Str}{params:Arguments}{body:List Stmt}{scope:Scope}{dV kV bF pm ao ct oc:Value}{an od:Option Addr}
  {cH:Array (Option Value)}{N ps:List Str}{sp:Sp} (lk:K.lookup f=some ⟨oc,od,.func (fnOf name qual params body scope dV kV bF pm an ao ct),cH⟩) (aU:codeIn K ao qual=true) (S:FnScope N ps scope)
  (len:∀ vs H Q E,sp vs H Q E->vs.length=ps.length)
  (cJ:∀ (A:Around) (outer:List Env) (s:Shared) (H:Hp) (vs:List V) (Q:VK) (E:XK),Room k (A.deeper (envOfC qual scope s.heap.objs.size f ao))->sp vs H Q E →
   ∃ t,PSs (cxOf CX P w K mg base N qual scope f ao A outer s H E) body t/\t { nx:=λ_ H'=>Q .non H',rt:=Q } (start N vs) H) :
  FnOk P w K mg base CX (k+1) f (fnOf name qual params body scope dV kV bF pm an ao ct) ps sp:=by
 refine ⟨len,λA outer s H args us vs Q E hr e0 hb r cZ=>?_⟩
 have hl:=len _ _ _ _ cZ
 have KX:K.In s.heap:=e0.mod.kin.keeps λb o e=>(e0.bs b o e).1
 have lim:s.heap.NoLimit:=e0.mod.nolimit.keeps λb o e=>(e0.bs b o e).1
 have gA:∀ y∈ps.zip us,scope.names.lookup y.1=some .local\/(scope.names.lookup y.1=some .cell/\((cellsFrom (s.heap.objs.size+1) scope.names []).lookup y.1).isSome=true):=λ⟨n,v⟩ hy=>by
  rcases S.par n (of_mem_zip hy).1 with q | q
  ·exact .inl q
  ·exact .inr ⟨q,PySem.W.cellsFrom_some _ _ _ (.inl q)⟩
 refine codeAny_call_function hr.depth (KX _ _ lk) rfl S.co S.gen rfl (PySem.W.codeRec_of KX aU) (hb _ _ _ _ ?_)
 refine wpAny_newFunctionEnv_cells S.kind gA λenv he s1 x=>?_
 subst he
 refine ⟨lim.keeps x.toInCall.keep,codeAny_func ?_⟩
 obtain ⟨t,ht,hq⟩:=cJ A outer s H vs Q E (hr.deeper _) cZ
 have I:Inv (cxOf CX P w K mg base N qual scope f ao A outer s H E) [] (start N vs) H s1:=mG' S hr.hd e0 hl r x
 refine wpAny_mono (ht [] s1 (start N vs) H _ I hq) (λfl s' hs=>?_) λe s' hs=>hs
 have fin:∀ {aj:St}{H':Hp}{v:V}{u:Value},Inv (cxOf CX P w K mg base N qual scope f ao A outer s H E) [] aj H' s'->RelV v u->Q v H'->CE outer P w H s Q u s' :=
  λ{aj H' v u} J rv q=>⟨v,H',J.os,J.bare,J.base,J.hok,rv,q⟩
 cases fl with
 | ret u =>
  obtain ⟨v,aj,H',J,rv,q⟩:=hs
  exact fin J rv q
 | next =>
  obtain ⟨aj,H',J,q⟩:=hs
  exact fin (v:=V.non) (u:=Value.none) J rfl q
 | brk =>
  obtain ⟨_,_,_,q⟩:=hs
  exact elim q
 | cont =>
  obtain ⟨_,_,_,q⟩:=hs
  exact elim q
section
variable {X:Cx}{x:Str}{p pos:Pos}{e:Expr}{es:List Expr}{t:TA}{id T:String}{r:List V->Hp->VK->Prop}
noncomputable def tCB (r:List V->Hp->VK->Prop) (t:TA):TE:=λU H Q=>t U H λvs H1=>r vs H1 Q
theorem ge' (hc:CallR X (.builtin id) r) (hg:Gl X x) (hm:X.mg x=none) (hv:bootBuiltins x=some (.builtin id)) (ha:PA X (e::es) t) (hn:x ≠ "__name__":=by decide) (bb:(x == ("__debug__":Str))=false:=by decide)
  (he:starEach (e::es) X.env=(false,eval e X.env)::starEach es X.env:=by rfl) (au:(backTo pos (starEach es X.env)).any (·.1)=false:=by rfl):PE X (.Call (.Name x p) (e::es) [] pos) (tCB r t):=by
 intro aa s U H Q I h
 refine wpAny_Call_Name_kw (cu' I hg hm hv ?_ hn bb)
 exact PyProof.Rows.callWith_builtin1 (thn (ha pos aa s U H _ I h) λus s1 ⟨vs,H1,I1,r1,q1⟩=>hc aa s1 U H1 vs us Q I1 r1 q1) he au
theorem h8' (hc:CallR X (.type T) r) (hg:Gl X x) (hm:X.mg x=none) (hv:bootBuiltins x=some (.type T)) (ha:PA X (e::es) t) (hn:x ≠ "__name__":=by decide) (bb:(x == ("__debug__":Str))=false:=by decide)
  (he:starEach (e::es) X.env=(false,eval e X.env)::starEach es X.env:=by rfl) (au:(backTo pos (starEach es X.env)).any (·.1)=false:=by rfl):PE X (.Call (.Name x p) (e::es) [] pos) (tCB r t):=by
 intro aa s U H Q I h
 refine wpAny_Call_Name_kw (cu' I hg hm hv ?_ hn bb)
 exact PyProof.Rows.callWith_type1 (thn (ha pos aa s U H _ I h) λus s1 ⟨vs,H1,I1,r1,q1⟩=>hc aa s1 U H1 vs us Q I1 r1 q1) he au
end
end L2
namespace HT
open PySem PyProof.Rows
section
variable {prog:Program}{w:World}{A:Around}{E:Value->Shared->Prop}{s:Shared}
theorem sy' {t b:Addr}{vs ws:List Value}{Q:Value->Shared->Prop} (ht:IsTup s.heap t vs.toArray) (hb:IsTup s.heap b ws.toArray) (hv:vs≠[])
  (h1:ws=[]->Q (.ref t) s) (h2:ws≠[]->Q (.ref s.heap.objs.size) { s with heap:=s.heap.push { cls:=.type "tuple", data:=.seq (vs++ws).toArray } })
  (iE:vs.length+ws.length<=sizeLine):wpAny (model prog w) A (binaryOp .Add (.ref t) (.ref b)) Q E s:=by
 obtain ⟨⟨cls,dd,data,sl⟩,ho,hc,n,hd⟩:=id ht
 obtain ⟨⟨pq,iF,data2,fP⟩,eE,cL,n2,dr⟩:=id hb
 simp only at hc hd cL dr
 subst hc hd cL dr
 have e:vs.toArray++ws.toArray=(vs++ws).toArray:=by simp
 by_cases hw:ws=[]
 ·exact concat_meets ⟨_,ho,rfl⟩ ⟨_,eE,rfl⟩ noFill_tuple_add seq_tuple_add slot_tuple_add entry_tuple_add (args_tuple_add_2 _ _)
   (tuple_addW1 t b vs.toArray ws.toArray n n2 dd iF sl fP (by simpa using hv) (by simp [hw])) ⟨ho,eE,h1 hw⟩
 ·refine concat_meets ⟨_,ho,rfl⟩ ⟨_,eE,rfl⟩ noFill_tuple_add seq_tuple_add slot_tuple_add entry_tuple_add (args_tuple_add_2 _ _)
   (tuple_addW2 t b vs.toArray ws.toArray n n2 dd iF sl fP (by simpa using hv) (by simpa using hw) (by rw [size_toArray,size_toArray];exact iE)) ⟨ho,eE,?_⟩
  rw [e]
  exact h2 hw
noncomputable def sIx (n d:Nat):Option Int->Nat
 | none=>d
 | some v=>if v < 0 then (v+(n:Int)).toNat else min v.toNat n
theorem sq' (n d:Nat):sIx n d none=d:=rfl
theorem qH' (n d:Nat) (hd:d<=n) (o:Option Int):sIx n d o<=n:=by
 cases o with
 | none=>exact hd
 | some v =>
  show (if v < 0 then (v+(n:Int)).toNat else min v.toNat n)<=n
  by_cases hv:v < 0
  ·rw [if_pos hv];omega
  ·rw [if_neg hv];exact Nat.min_le_right _ _
theorem k8' (v:Int) (n d:Nat):(if v < 0 then max (v+(n:Int)) 0 else min v (n:Int))=((sIx n d (some v):Nat):Int):=by
 show (if v < 0 then max (v+(n:Int)) 0 else min v (n:Int))=(((if v < 0 then (v+(n:Int)).toNat else min v.toNat n):Nat):Int)
 by_cases hv:v < 0
 ·simp only [if_pos hv];omega
 ·simp only [if_neg hv];omega
theorem lX' (lo hi:Option Int) (n:Nat):sliceAdjust lo hi 1 (n:Int)=(((sIx n 0 lo:Nat):Int),((sIx n n hi:Nat):Int)):=by
 have h1:¬ ((1:Int) < 0):=by omega
 unfold sliceAdjust
 simp only [h1,if_false]
 refine Prod.ext ?_ ?_
 ·cases lo with
  | none=>rfl
  | some v=>exact k8' v n 0
 ·cases hi with
  | none=>rfl
  | some v=>exact k8' v n n
theorem lY' (i j:Nat):slicePlaces (i:Int) (j:Int) 1=j - i:=by
 unfold slicePlaces
 have h1:(1:Int) > 0:=by omega
 simp only [h1,if_true,Int.ediv_one]
 split<;>omega
theorem gI' {v:Value}{o:Option Int}{Q:Option Int->Shared->Prop} (p:IsPart v o) (h:Q o s):wpAny (model prog w) A (Builtin.Slice.slicePartIndex v) Q E s:=by
 cases p with
 | none=>exact slicePart_none h
 | int i t=>exact slicePart_int h
theorem gf' {sl:Addr}{vl vu:Value}{lo hi:Option Int}{n:Nat}{Q:Int×Int×Nat->Shared->Prop} (hs:s.heap.IsSliceOf sl vl vu .none) (pl:IsPart vl lo) (pu:IsPart vu hi)
  (h:Q (((sIx n 0 lo:Nat):Int),1,sIx n n hi - sIx n 0 lo) s):wpAny (model prog w) A (sliceApplied (.ref sl) (pure (n:Int))) Q E s:=by
 obtain ⟨os,gB,pt,fQ⟩:=id hs
 unfold sliceApplied Builtin.Slice.sliceFields
 refine wpAny_bind (wpAny_bind (wpAny_field gB fQ (x:=vl) rfl (wpAny_bind (wpAny_field gB fQ (x:=vu) rfl (wpAny_bind (wpAny_field gB fQ (x:=.none) rfl (wpAny_pure ?_)))))))
 refine wpAny_bind (slicePart_none ?_)
 show wpAny _ _ (if ((1:Int) == 0)=true then _ else _) _ _ s
 rw [if_neg (by decide)]
 refine wpAny_bind (gI' pl (wpAny_bind (gI' pu (wpAny_bind (wpAny_pure ?_)))))
 show wpAny _ _ (match sliceAdjust lo hi 1 (n:Int) with | (lo,hi)=>pure (lo,(1:Int),slicePlaces lo hi 1)) _ _ s
 rw [lX' lo hi n]
 show wpAny _ _ (pure (((sIx n 0 lo:Nat):Int),(1:Int),slicePlaces ((sIx n 0 lo:Nat):Int) ((sIx n n hi:Nat):Int) 1)) _ _ s
 rw [lY']
 exact wpAny_pure h
theorem n8' (xs:Array Value) (i k:Nat):((range k).filterMap λ(m:Nat)=>xs[((i:Int)+(m:Int)*1).toNat]?).toArray=((xs.toList.drop i).take k).toArray:=by
 have e:(λ(m:Nat)=>xs[((i:Int)+(m:Int)*1).toNat]?)=λm=>xs[i+m]?:=by
  funext m
  have:((i:Int)+(m:Int)*1).toNat=i+m:=by omega
  rw [this]
 rw [e]
 have:=pick_run xs i k
 rw [List.filterMap_map] at this
 have e2:((λx=>xs[x]?)∘λx=>i+x)=λm=>xs[i+m]?:=rfl
 rw [e2] at this
 rw [this]
theorem n0' {t sl:Addr}{af:Array Value}{vl vu:Value}{lo hi:Option Int}{Q:Value->Shared->Prop} (ht:IsTup s.heap t af) (hs:s.heap.IsSliceOf sl vl vu .none) (pl:IsPart vl lo) (pu:IsPart vu hi)
  (hw:¬ (sIx af.size 0 lo=0/\sIx af.size af.size hi=af.size))
  (h:Q (.ref s.heap.objs.size) { s with heap:=s.heap.push { cls:=.type "tuple", data:=.seq ((af.toList.drop (sIx af.size 0 lo)).take (sIx af.size af.size hi - sIx af.size 0 lo)).toArray } })
  (iE:af.size<=sizeLine):wpAny (model prog w) A (getItem (.ref t) (.ref sl)) Q E s:=by
 have dy:sizeOk (.seq ((af.toList.drop (sIx af.size 0 lo)).take (sIx af.size af.size hi - sIx af.size 0 lo)).toArray):=by
  show ((af.toList.drop (sIx af.size 0 lo)).take (sIx af.size af.size hi - sIx af.size 0 lo)).toArray.size<=sizeLine
  rw [size_toArray,length_take,length_drop,length_toList]
  omega
 have hj:sIx af.size af.size hi<=af.size:=qH' _ _ (le_refl _) hi
 obtain ⟨os,gB,pt,fQ⟩:=id hs
 have u7:s.TypeIs (.ref sl) "slice":=⟨os,gB,pt⟩
 unfold getItem
 try with_reducible refine wpAny_holding ?_
 first | refine wpAny_bind (wpAny_pure ?_) | skip
 refine wpAny_bind (wpAny_sequenceKey ht.typeIs (by decide) ?_)
 refine wpAny_bind (wpAny_callSpecial?_slot (name:=ofString "__getitem__") ht.typeIs PyProof.Rows.slot_tuple_getitem
  (wpAny_call_entry PyProof.Rows.slot_tuple_getitem ht.typeIs entry_tuple_getitem ?_ (args_tuple_getitem _ _)))
 show wpAny _ _ (tupleItemsOf (.ref t) >>= _) _ _ s
 refine wpAny_bind (tupleItemsOf_ ht ?_)
 refine wpAny_bind (wpAny_typeOf u7 ?_)
 rw [if_pos (by decide)]
 refine wpAny_bind (gf' hs pl pu ?_)
 have iG:¬ ((((sIx af.size 0 lo:Nat):Int) == 0&&(1:Int) == 1&&(sIx af.size af.size hi - sIx af.size 0 lo) == af.size)=true):=by
  intro q
  rw [and_eq_true,and_eq_true] at q
  have q1:((sIx af.size 0 lo:Nat):Int)=0:=eq_of_beq q.1.1
  have q2:sIx af.size af.size hi - sIx af.size 0 lo=af.size:=eq_of_beq q.2
  exact hw ⟨by omega,by omega⟩
 show wpAny _ _ (if (((sIx af.size 0 lo:Nat):Int) == 0&&(1:Int) == 1&&(sIx af.size af.size hi - sIx af.size 0 lo) == af.size)=true then _ else _) _ _ s
 rw [if_neg iG,n8']
 first
  | exact wpAny_bind (m:=tupleExact _) (wpAny_newObj_type (wpAny_pure ⟨_,rfl,wpAny_pure h⟩) dy)
  | exact wpAny_bind (m:=tupleExact _) (wpAny_newObj_type (wpAny_bind (wpAny_pure (wpAny_pure ⟨_,rfl,wpAny_pure h⟩))) dy)
  | exact wpAny_bind (wpAny_bind (m:=tupleExact _) (wpAny_newObj_type (wpAny_pure (wpAny_pure ⟨_,rfl,wpAny_pure h⟩)) dy))
  | exact wpAny_bind (wpAny_bind (m:=tupleExact _) (wpAny_newObj_type (wpAny_pure ⟨_,rfl,wpAny_pure h⟩) dy))
end
end HT
namespace L2
open PySem PySem.Spec PyProof.Rows
abbrev TO:=St->Hp->(Option Int->Hp->Prop)->Prop
def PO (X:Cx) (e:Option Expr) (t:TO):Prop :=
 ∀ (aa:List (Addr×Obj)) (s:Shared) (U:St) (H:Hp) (Q:Option Int->Hp->Prop),Inv X aa U H s->t U H Q →
  wpAny (model X.prog X.w) X.A (evalPart e X.env) (λu s'=>∃ o H',Inv X aa U H' s'/\IsPart u o/\Q o H') X.xe s
noncomputable def tNoPart:TO:=λ_ H Q=>Q none H
noncomputable def tPart (t:TE):TO:=λU H Q=>t U H λx H1=>∃ i,x=.int i/\Q (some i) H1
section
variable {X:Cx}{e:Expr}{te:TE}{lo hi:Option Expr}{tl th:TO}{pos p2:Pos}
theorem pq':PO X none tNoPart:=by
 intro aa s U H Q I h
 rw [evalPart_none]
 exact wpAny_pure ⟨none,H,I,.none,h⟩
theorem pr' (h:PE X e te):PO X (some e) (tPart te):=by
 intro aa s U H Q I hw
 rw [evalPart_some]
 refine thn (h aa s U H _ I hw) λu s1 ⟨x,H1,I1,r1,q1⟩=>?_
 obtain ⟨i,rfl,q⟩:=q1
 obtain ⟨t,rfl⟩:=r1
 exact ⟨some i,H1,I1,.int i t,q⟩
def SlR (X:Cx) (r:V->Option Int->Option Int->Hp->VK->Prop):Prop :=
 ∀ (aa:List (Addr×Obj)) (s:Shared) (U:St) (H:Hp) (x:V) (v vl vu:Value) (lo hi:Option Int) (sl:Addr) (Q:VK),Inv X aa U H s->RelV x v->s.heap.IsSliceOf sl vl vu .none->IsPart vl lo->IsPart vu hi->r x lo hi H Q →
  ∃ T id,typeLookup (.type T) "__getitem__"=pure (some (.builtin id))/\s.TypeIs v T/\wpAny (model X.prog X.w) X.A (getItem v (.ref sl)) (EP X aa U Q) X.xe s
theorem SlR.or {r r':V->Option Int->Option Int->Hp->VK->Prop} (h:SlR X r) (h':SlR X r'):SlR X (λx lo hi H Q=>r x lo hi H Q\/r' x lo hi H Q):=by
 intro aa s U H x v vl vu lo hi sl Q I rx hs pl pu q
 rcases q with q | q
 ·exact h aa s U H x v vl vu lo hi sl Q I rx hs pl pu q
 ·exact h' aa s U H x v vl vu lo hi sl Q I rx hs pl pu q
noncomputable def tSl (r:V->Option Int->Option Int->Hp->VK->Prop) (te:TE) (tl th:TO):TE:=λU H Q=>te U H λx H1=>tl U H1 λl H2=>th U H2 λu H3=>r x l u H3 Q
theorem n9' {r:V->Option Int->Option Int->Hp->VK->Prop} (hr:SlR X r) (he:PE X e te) (hl:PO X lo tl) (hu:PO X hi th):PE X (.Subscript e (.Slice lo hi none p2) pos) (tSl r te tl th):=by
 intro aa s U H Q I h
 refine Subscript_ (thn (he aa s U H _ I h) λv s1 ⟨x,H1,I1,r1,q1⟩=>?_)
 refine wpAny_Slice (thn (hl aa s1 U H1 _ I1 q1) λvl s2 ⟨l,H2,I2,pl,q2⟩=>thn (hu aa s2 U H2 _ I2 q2) λvu s3 ⟨u,H3,I3,pu,q3⟩=>?_)
 rw [evalPart_none]
 refine wpAny_pure ?_
 have I4:Inv X aa U H3 { s3 with heap:=s3.heap.push { cls:=.type "slice", data:=.fields #[vl,vu,.none] } }:=I3.kept (t':=s3.toks) λb ob q=>get?_push_of_some _ q
 obtain ⟨T,id,hT,ht,hg⟩:=hr aa { s3 with heap:=s3.heap.push { cls:=.type "slice", data:=.fields #[vl,vu,.none] } } U H3 x v vl vu l u s3.heap.objs.size Q I4 r1 (Heap.IsSliceOf.new ..) pl pu q3
 show wpAny (model X.prog X.w) X.A (subscriptTail e (.Slice lo hi none p2) v (.ref s3.heap.objs.size)) (EP X aa U Q) X.xe { s3 with heap:=s3.heap.push { cls:=.type "slice", data:=.fields #[vl,vu,.none] } }
 exact tail_any (ops:=[.ref s3.heap.objs.size,v]) ht hT hg (by with_unfolding_all rfl)
noncomputable def cutV (xs:List V) (lo hi:Option Int):List V:=(xs.drop (HT.sIx xs.length 0 lo)).take (HT.sIx xs.length xs.length hi - HT.sIx xs.length 0 lo)
theorem f8' (xs:List V) (lo hi:Option Int):(cutV xs lo hi).length<=xs.length:=by
 unfold cutV
 rw [length_take,length_drop]
 omega
def rSlT (K:PySem.W.Frag):V->Option Int->Option Int->Hp->VK->Prop:=λx lo hi H Q=>∃ a xs,x=.ref a/\SqT K H a xs ∧
 ¬ (HT.sIx xs.length 0 lo=0/\HT.sIx xs.length xs.length hi=xs.length)/\∀ p,H p=none->Q (.ref p) (upd H p (.tup (cutV xs lo hi)))
theorem qI':SlR X (rSlT X.K):=by
 intro aa s U H x v vl vu lo hi sl Q I rx hs pl pu h
 obtain ⟨a,xs,rfl,hx,hw,q⟩:=h
 cases rx
 obtain ⟨ac,r,ht,hz⟩:=I.tuple hx
 have aF:ac.toArray.size=xs.length:=by rw [size_toArray];exact r.length.symm
 refine ⟨"tuple", _,PyProof.Rows.slot_tuple_getitem.lookup,ht.typeIs,?_⟩
 refine HT.n0' ht hs pl pu (by rw [aF];exact hw) ?_ (by rw [aF];exact hz)
 rw [aF]
 refine ⟨.ref s.heap.objs.size,_,I.laid (t':=s.toks) (o:=.tup (cutV xs lo hi)) (λb ob q=>get?_push_of_some _ q) (le_refl _) ?_,rfl,q _ (I.hok.fresh (le_refl _))⟩
 exact ⟨le_trans (f8' xs lo hi) hz,_,(r.drop (HT.sIx xs.length 0 lo)).take (HT.sIx xs.length xs.length hi - HT.sIx xs.length 0 lo),IsTup.new _ _⟩
noncomputable def rCatT (K:PySem.W.Frag):R2:=λx y H Q=>∃ a b xs ys,x=.ref a/\y=.ref b/\SqT K H a xs/\SqT K H b ys/\xs≠[]/\xs.length+ys.length<=sizeLine ∧
 (ys=[]->Q (.ref a) H)/\(ys≠[]->∀ p,H p=none->Q (.ref p) (upd H p (.tup (xs++ys))))
theorem Vals.nil_iff {xs:List V}{us:List Value} (r:Vals xs us):us=[]↔xs=[]:=by
 cases r with
 | nil=>simp
 | cons _ _=>simp
theorem pt':OpR X (binaryOp .Add) (rCatT X.K):=by
 intro aa s U H x y v u Q I rx ry h
 obtain ⟨a,b,xs,ys,rfl,rfl,ha,hb,hx,hz,q1,q2⟩:=h
 cases rx
 cases ry
 obtain ⟨ac,r1,p1,_⟩:=I.tuple ha
 obtain ⟨bO,r2,p2,_⟩:=I.tuple hb
 refine HT.sy' p1 p2 (λz=>hx (r1.nil_iff.mp z)) (λz=>⟨.ref a,H,I,rfl,q1 (r2.nil_iff.mp z)⟩) (λz=>?_) (by rw [← r1.length,← r2.length];exact hz)
 refine ⟨.ref s.heap.objs.size,_,I.laid (t':=s.toks) (o:=.tup (xs++ys)) (λb ob q=>get?_push_of_some _ q) (le_refl _) ?_,rfl,q2 (λw=>z (r2.nil_iff.mpr w)) _ (I.hok.fresh (le_refl _))⟩
 exact ⟨by rw [length_append];exact hz,_,r1.append r2,IsTup.new _ _⟩
end
noncomputable def ixN (n:Nat) (i:Int):Option Nat:=if 0<=i then (if i < n then some i.toNat else none) else if -(n:Int)<=i then some (i+n).toNat else none
noncomputable def atI {α:Type} (xs:List α) (i:Int):Option α:=(ixN xs.length i).bind λj=>xs[j]?
theorem k9' {n:Nat}{i:Int}{j:Nat} (h:ixN n i=some j):seqIndex? i n=some j/\j < n/\-(n:Int)<=i/\i < n:=by
 unfold ixN at h
 by_cases h0:0<=i
 ·rw [if_pos h0] at h
  by_cases h1:i < n
  ·rw [if_pos h1] at h
   have e:i.toNat=j:=Option.some.inj h
   exact ⟨by rw [seqIndex_of h0 h1,e],by omega,by omega,h1⟩
  ·rw [if_neg h1] at h;cases h
 ·rw [if_neg h0] at h
  by_cases h1:-(n:Int)<=i
  ·rw [if_pos h1] at h
   have e:(i+n).toNat=j:=Option.some.inj h
   exact ⟨by rw [seqIndex_neg (by omega) h1,e],by omega,h1,by omega⟩
  ·rw [if_neg h1] at h;cases h
theorem la' {α:Type}{xs:List α}{i:Int}{v:α} (h:atI xs i=some v):∃ j,seqIndex? i xs.length=some j/\xs[j]?=some v/\j < xs.length/\-(xs.length:Int)<=i/\i < xs.length:=by
 unfold atI at h
 cases e:ixN xs.length i with
 | none=>rw [e] at h;cases h
 | some j =>
  rw [e] at h
  obtain ⟨h1,h2,h3,h4⟩:=k9' e
  exact ⟨j,h1,h,h2,h3,h4⟩
def PlainIx (b:Expr):Prop:=∀ o i,subscripted b false o i=operate [o,i] (getItem o i)
def IxR (X:Cx) (r:R2):Prop :=
 ∀ (value bQ:Expr) (aa:List (Addr×Obj)) (s:Shared) (U:St) (H:Hp) (x y:V) (v u:Value) (Q:VK),Inv X aa U H s->RelV x v->RelV y u->r x y H Q →
  subscripted bQ false v u=operate [v,u] (getItem v u)->wpAny (model X.prog X.w) X.A (subscriptTail value bQ v u) (EP X aa U Q) X.xe s
def MtR (X:Cx) (id:String) (r:V->List V->Hp->VK->Prop):Prop :=
 ∀ (aa:List (Addr×Obj)) (s:Shared) (U:St) (H:Hp) (x:V) (xs:List V) (v:Value) (us:List Value) (Q:VK),Inv X aa U H s->RelV x v->Vals xs us->r x xs H Q →
  wpAny (model X.prog X.w) X.A (call (.builtin id) (v::us)) (EP X aa U Q) X.xe s
section
variable {X:Cx}{a b:Expr}{ta tb:TE}{pos:Pos}
theorem IxR.or {r r':R2} (h:IxR X r) (h':IxR X r'):IxR X (λx y H Q=>r x y H Q\/r' x y H Q):=by
 intro value bQ aa s U H x y v u Q I rx ry q hs
 rcases q with q | q
 ·exact h value bQ aa s U H x y v u Q I rx ry q hs
 ·exact h' value bQ aa s U H x y v u Q I rx ry q hs
theorem o2' {r:R2} (hr:IxR X r) (ha:PE X a ta) (hb:PE X b tb) (hs:PlainIx b):PE X (.Subscript a b pos) (tOp r ta tb):=by
 intro aa s U H Q I h
 exact Subscript_ (binT ha hb I h λv u s2 x y H2 I2 rx ry q=>hr a b aa s2 U H2 x y v u Q I2 rx ry q (hs _ _))
noncomputable def rIxL (K:PySem.W.Frag):R2:=λx y H Q=>∃ p xs i v,x=.ref p/\y=.int i/\SqL K H p xs/\atI xs i=some v/\Q v H
noncomputable def rIxT (K:PySem.W.Frag):R2:=λx y H Q=>∃ p xs i v,x=.ref p/\y=.int i/\SqT K H p xs/\atI xs i=some v/\Q v H
theorem lb':IxR X (rIxL X.K):=by
 intro value bQ aa s U H x y v u Q I rx ry h hs
 obtain ⟨p,xs,i,z,rfl,rfl,hq,he,q⟩:=h
 cases rx
 obtain ⟨t,rfl⟩:=ry
 obtain ⟨ac,r,pl,hz⟩:=I.list hq
 obtain ⟨j,h1,h2,h3,h4,h5⟩:=la' he
 obtain ⟨w,ew,kt⟩:=r.get h2
 have hl:=r.length
 have hn:=line63
 have fin:EP X aa U Q w s:=⟨z,H,I,kt,q⟩
 by_cases h0:0<=i
 ·have hj:i.toNat=j:=by
   rw [seqIndex_of h0 h5] at h1
   exact Option.some.inj h1
  exact item_listR pl.isList h0 (by omega) (by rw [hj];simpa using ew) fin hs
 ·have hj:(i+(ac.toArray.size:Int)).toNat=j:=by
   rw [seqIndex_neg (by omega) h4] at h1
   rw [size_toArray,← hl]
   exact Option.some.inj h1
  exact subscriptTail_builtinR (x:=w) pl.isList.typeIs slot_list_getitem.lookup
   (wpAny_getItem_list_neg (Q:=λr s'=>r=w/\EP X aa U Q r s') pl.isList (by omega) (by rw [size_toArray]<;>omega) (by omega) (by rw [hj];simpa using ew) ⟨rfl,fin⟩) hs
theorem qJ':IxR X (rIxT X.K):=by
 intro value bQ aa s U H x y v u Q I rx ry h hs
 obtain ⟨p,xs,i,z,rfl,rfl,hq,he,q⟩:=h
 cases rx
 obtain ⟨t,rfl⟩:=ry
 obtain ⟨ac,r,pl,hz⟩:=I.tuple hq
 obtain ⟨j,h1,h2,h3,h4,h5⟩:=la' he
 obtain ⟨w,ew,kt⟩:=r.get h2
 have hl:=r.length
 have hn:=line63
 have fin:EP X aa U Q w s:=⟨z,H,I,kt,q⟩
 exact subscriptTail_builtinR (x:=w) pl.typeIs slot_tuple_getitem.lookup
  (getItem_tuple (j:=j) (Q:=λr s'=>r=w/\EP X aa U Q r s') pl (by omega) (by omega) (by rw [size_toArray,← hl];exact h1) (by simpa using ew) ⟨rfl,fin⟩) hs
theorem lZ' (ac:List Value) (n j:Nat) (u:Value):mapSeq (·.setIfInBounds j u) { cls:=.type "list", data:=.seq ac.toArray n }={ cls:=.type "list", data:=.seq (ac.set j u).toArray n }:=by
 simp [mapSeq]
theorem Inv.lst {aa:List (Addr×Obj)}{U:St}{H:Hp}{s:Shared}{p:Addr}{xs:List V} (I:Inv X aa U H s) (h:H p=some (.lst xs)) :
  ∃ (ac:List Value) (n:Nat),Vals xs ac/\s.heap.get? p=some { cls:=.type "list", data:=.seq ac.toArray n }/\xs.length<=sizeLine:=by
 obtain ⟨z,ac,n,r,e⟩:=I.hok p _ h
 exact ⟨ac,n,r,e,z⟩
theorem Inv.lstUpd {aa:List (Addr×Obj)}{U:St}{H:Hp}{s:Shared}{p:Addr}{xs ys:List V}{ac its':List Value}{n n':Nat}{f:Obj->Obj} (I:Inv X aa U H s) (h:H p=some (.lst xs))
  (ho:s.heap.get? p=some { cls:=.type "list", data:=.seq ac.toArray n }) (hf:f { cls:=.type "list", data:=.seq ac.toArray n }={ cls:=.type "list", data:=.seq its'.toArray n' }) (r:Vals ys its') (hz:ys.length<=sizeLine) (t:Nat) :
  Inv X aa U (upd H p (.lst ys)) { s with heap:=s.heap.update p f,toks:=t }:=by
 have e:(s.heap.update p f).get? p=some { cls:=.type "list", data:=.seq its'.toArray n' }:=by
  rw [get?_update_self f ho (by rw [hf]<;>rfl),hf]
 refine I.write (x:=p) (e:=p) (by rw [h];trivial) (.inl rfl) (λb u hb q=>(get?_update_other _ _ (Ne.symm hb)).trans q) ⟨_,e⟩ ?_
 exact ⟨hz,its',n',r,e⟩
def rSetL:V->V->V->Hp->(Hp->Prop)->Prop:=λo i v H Q=>∃ p xs k j,o=.ref p/\i=.int k/\H p=some (.lst xs)/\ixN xs.length k=some j/\Q (upd H p (.lst (xs.set j v)))
theorem oa':PSet X rSetL:=by
 intro aa s U H o i v ov iv u Q I ro ri rv h
 obtain ⟨p,xs,k,j,rfl,rfl,hp,hj,q⟩:=h
 cases ro
 obtain ⟨t,rfl⟩:=ri
 obtain ⟨ac,n,r,ho,hz⟩:=I.lst hp
 obtain ⟨h1,h2,h3,h4⟩:=k9' hj
 have hl:=r.length
 have hn:=line63
 have I':Inv X aa U (upd H p (.lst (xs.set j v))) { s with heap:=s.heap.update p (mapSeq (·.setIfInBounds j u)) } :=
  I.lstUpd hp ho (lZ' ac n j u) (r.set rv j) (by rw [length_set];exact hz) s.toks
 by_cases h0:0<=k
 ·have hk:k.toNat=j:=by
   rw [seqIndex_of h0 h4] at h1
   exact Option.some.inj h1
  exact PySem.W.ki_setAt ho h0 (by omega) (by rw [size_toArray,← hl];exact h4) (by rw [hk];exact ⟨_,I',q⟩)
 ·have hk:(k+(ac.toArray.size:Int)).toNat=j:=by
   rw [seqIndex_neg (by omega) h3] at h1
   rw [size_toArray,← hl]
   exact Option.some.inj h1
  exact PySem.W.ki_setBack ho (by omega) (by rw [size_toArray,← hl];exact h3) (by omega) (by rw [hk];exact ⟨_,I',q⟩)
theorem jb' (lo hi:Option Int) (n:Nat):(sliceBounds lo hi none n).1=((HT.sIx n 0 lo:Nat):Int)/\(sliceBounds lo hi none n).2.1=((HT.sIx n n hi:Nat):Int)/\(sliceBounds lo hi none n).2.2=1:=by
 refine ⟨?_,?_,rfl⟩
 ·cases lo with
  | none=>simp [sliceBounds,HT.sIx]
  | some i =>
   simp only [sliceBounds,HT.sIx,getD_none,show (1:Int) > 0 by decide,if_true]
   by_cases h:i < 0
   ·simp only [h,if_true]<;>omega
   ·simp only [h,if_false]<;>omega
 ·cases hi with
  | none=>simp [sliceBounds,HT.sIx]
  | some i =>
   simp only [sliceBounds,HT.sIx,getD_none,show (1:Int) > 0 by decide,if_true]
   by_cases h:i < 0
   ·simp only [h,if_true]<;>omega
   ·simp only [h,if_false]<;>omega
theorem iI' (ac:List Value) (lo hi:Option Int):slicePick ac.toArray lo hi none=((ac.drop (HT.sIx ac.length 0 lo)).take (HT.sIx ac.length ac.length hi - HT.sIx ac.length 0 lo)).toArray:=by
 obtain ⟨h1,h2,h3⟩:=jb' lo hi ac.toArray.size
 unfold slicePick
 rw [h1,h2,h3]
 simp only [sliceRange_one,pick_run,size_toArray]<;>rfl
def rSlL (K:PySem.W.Frag):V->Option Int->Option Int->Hp->VK->Prop:=λx lo hi H Q=>∃ a xs,x=.ref a/\SqL K H a xs/\∀ p,H p=none->Q (.ref p) (upd H p (.lst (cutV xs lo hi)))
theorem pu':SlR X (rSlL X.K):=by
 intro aa s U H x v vl vu lo hi sl Q I rx hs pl pu h
 obtain ⟨a,xs,rfl,hx,q⟩:=h
 cases rx
 obtain ⟨ac,r,ht,hz⟩:=I.list hx
 have aF:=r.length
 refine ⟨"list", _,slot_list_getitem.lookup,ht.isList.typeIs,?_⟩
 refine wpAny_getItem_list_slice ht.isList hs pl pu .none (by simp) ?_ (by rw [size_toArray]<;>omega)
 rw [iI',← aF]
 refine ⟨.ref s.heap.objs.size,_,I.laid (t':=s.toks) (o:=.lst (cutV xs lo hi)) (λb ob q=>get?_push_of_some _ q) (le_refl _) ?_,rfl,q _ (I.hok.fresh (le_refl _))⟩
 exact ⟨le_trans (f8' xs lo hi) hz,_,0,(r.drop (HT.sIx xs.length 0 lo)).take (HT.sIx xs.length xs.length hi - HT.sIx xs.length 0 lo),get?_push_size _ rfl⟩
theorem fi':CallR X (.builtin "len") (λxs H Q=>∃ p ys,xs=[.ref p]/\(SqL X.K H p ys\/SqT X.K H p ys)/\Q (.int ys.length) H):=by
 intro aa s U H xs us Q I r h
 obtain ⟨p,ys,rfl,hq,q⟩:=h
 obtain ⟨u,rfl,rx⟩:=vals1 r
 cases rx
 have hn:=line63
 rcases hq with hq | hq
 ·obtain ⟨ac,r',pl,hz⟩:=I.list hq
  have aF:=r'.length
  exact Calls.call_len_list pl.isList (by simp only [size_toArray]<;>omega) ⟨.int ys.length,H,I.tok _,⟨s.toks+1,by rw [size_toArray,aF]⟩,q⟩
 ·obtain ⟨ac,r',pl,hz⟩:=I.tuple hq
  have aF:=r'.length
  exact len_tuple pl (by simp only [size_toArray]<;>omega) ⟨.int ys.length,H,I.tok _,⟨s.toks+1,by rw [size_toArray,aF]⟩,q⟩
theorem jc':CallR X (.type "list") (λxs H Q=>∃ p ys,xs=[.ref p]/\(SqL X.K H p ys\/SqT X.K H p ys)/\∀ l,H l=none->Q (.ref l) (upd H l (.lst ys))):=by
 intro aa s U H xs us Q I r h
 obtain ⟨p,ys,rfl,hq,q⟩:=h
 obtain ⟨u,rfl,rx⟩:=vals1 r
 cases rx
 have fin:∀ (ac:List Value),Vals ys ac->ys.length<=sizeLine->∀ (h':Heap) (c':Nat),(∀ b o',s.heap.get? b=some o'->h'.get? b=some o') →
   h'.get? s.heap.objs.size=some { cls:=.type "list", dict:=none,data:=.seq ac.toArray c',slots:=#[] }->EP X aa U Q (.ref s.heap.objs.size) { s with heap:=h' }:=λac r' hz h' c' kp e =>
  ⟨.ref s.heap.objs.size,_,I.laid (t':=s.toks) kp (le_refl _) (show ObjOk X.prog X.w _ h' _ (.lst ys) from ⟨hz,ac,c',r',e⟩),rfl,q _ (I.hok.fresh (le_refl _))⟩
 rcases hq with hq | hq
 ·obtain ⟨ac,r',pl,hz⟩:=I.list hq
  have aF:=r'.length
  obtain ⟨o,ho,hc,n,hd⟩:=pl.isList
  exact call_list_seq p (.inl rfl) ho hc hd (λh' c' kp e=>fin ac r' hz h' c' kp e) (by simp only [size_toArray]<;>omega)
 ·obtain ⟨ac,r',pl,hz⟩:=I.tuple hq
  have aF:=r'.length
  obtain ⟨o,ho,hc,n,hd⟩:=pl
  exact call_list_seq p (.inr rfl) ho hc hd (λh' c' kp e=>fin ac r' hz h' c' kp e) (by simp only [size_toArray]<;>omega)
theorem iJ':CallR X (.type "tuple") (λxs H Q=>∃ p ys,xs=[.ref p]/\((SqL X.K H p ys/\∀ l,H l=none->Q (.ref l) (upd H l (.tup ys)))\/(SqT X.K H p ys/\Q (.ref p) H))):=by
 intro aa s U H xs us Q I r h
 obtain ⟨p,ys,rfl,h⟩:=h
 obtain ⟨u,rfl,rx⟩:=vals1 r
 cases rx
 rcases h with ⟨hq,q⟩ | ⟨hq,q⟩
 ·obtain ⟨ac,r',pl,hz⟩:=I.list hq
  have aF:=r'.length
  refine call_tuple_list pl.isList (λh' kp=>?_) (by simp only [size_toArray]<;>omega)
  have I1:Inv X aa U H { s with heap:=h' }:=I.kept (t':=s.toks) kp
  have I2:Inv X aa U (upd H h'.objs.size (.tup ys)) { s with heap:=h'.push { cls:=.type "tuple", data:=.seq ac.toArray } } :=
   I1.laid (t':=s.toks) (λb o e=>get?_push_of_some _ e) (le_refl _) (show ObjOk X.prog X.w _ _ _ (.tup ys) from ⟨hz,ac,r',IsTup.new _ _⟩)
  exact ⟨.ref h'.objs.size,_,I2,rfl,q _ (I1.hok.fresh (le_refl _))⟩
 ·obtain ⟨ac,r',pl,hz⟩:=I.tuple hq
  exact call_tuple_same pl ⟨.ref p,H,I,rfl,q⟩
def tyV (K:PySem.W.Frag) (T:String) (x:V) (H:Hp):Prop:=match x with
 | .str _=>T = "str"
 | .int _=>T = "int"
 | .ref p=>(T = "list"/\∃ xs,SqL K H p xs)\/(T = "tuple"/\∃ o,K.lookup p=some o/\o.cls=.type "tuple"/\o.dict=none) ∨
   (T = "dict"/\((∃ aH,H p=some (.dK aH))\/∃ aH,H p=some (.dT aH)))\/(T = "set"/\∃ S n,H p=some (.set S n))
 | _=>False
theorem qK' {aa:List (Addr×Obj)}{U:St}{H:Hp}{s:Shared}{T:String}{x:V}{v:Value} (I:Inv X aa U H s) (r:RelV x v) (ty:tyV X.K T x H) :
  s.TypeIs v T/\∀ a,v=.ref a->∃ ob,s.heap.get? a=some ob/\ob.dict=none:=by
 cases x with
 | str z =>
  obtain ⟨t,rfl⟩:=r
  cases (show T = "str" from ty)
  exact ⟨typeIs_str s z t,λ_ e=>nomatch e⟩
 | int i =>
  obtain ⟨t,rfl⟩:=r
  cases (show T = "int" from ty)
  exact ⟨typeIs_int s i t,λ_ e=>nomatch e⟩
 | ref p =>
  cases r
  rcases ty with ⟨rfl,xs,hq⟩ | ⟨rfl,o,hk,hc,hd⟩ | ⟨rfl,hk⟩ | ⟨rfl,S,n,hk⟩
  ·obtain ⟨ac,_,pl,_⟩:=I.list hq
   refine ⟨pl.isList.typeIs,λa e=>?_⟩
   cases e
   obtain ⟨o,n,e,c,hd,_⟩:=pl
   exact ⟨o,e,hd⟩
  ·refine ⟨⟨o,I.kIn p o hk,hc⟩,λa e=>?_⟩
   cases e
   exact ⟨o,I.kIn _ o hk,hd⟩
  ·have z:∃ o,s.heap.get? p=some o/\o.ExactDict:=by
    rcases hk with ⟨aH,hk⟩ | ⟨aH,hk⟩
    ·obtain ⟨_,_,_,_,o,_,_,e,ex,_⟩:=I.hok p _ hk
     exact ⟨o,e,ex⟩
    ·obtain ⟨_,_,_,_,o,_,_,e,ex,_⟩:=I.hok p _ hk
     exact ⟨o,e,ex⟩
   obtain ⟨o,e,ex⟩:=z
   refine ⟨⟨o,e,ex.1⟩,λa e2=>?_⟩
   cases e2
   exact ⟨o,e,ex.2.1⟩
  ·obtain ⟨o,_,_,_,e,ex,_⟩:=I.hok p _ hk
   refine ⟨⟨o,e,ex.1⟩,λa e2=>?_⟩
   cases e2
   exact ⟨o,e,ex.2.1⟩
 | _=>exact elim ty
noncomputable def tBM (K:PySem.W.Frag) (T:String) (r:V->List V->Hp->VK->Prop) (to:TE) (t:TA):TE:=λU H Q=>to U H λx H1=>tyV K T x H1/\t U H1 λxs H2=>r x xs H2 Q
variable {o e:Expr}{es:List Expr}{to:TE}{t:TA}{name:Str}{ba az:Pos}{T id:String}{r:V->List V->Hp->VK->Prop}
theorem o3' (pa:PlainAttrs T) (slot:Slot T name id) (u8:typeOf (.builtin id)=pure (.type "method_descriptor")) (hm:MtR X id r) (ho:PE X o to) (ha:PA X (e::es) t)
  (cM:attributeBase o name X.env (eval o X.env)=eval o X.env:=by rfl)
  (bV:((backTo az (starEach (e::es) X.env)).all (λx=>!x.1)&&(backToKw az (keywordEach [] X.env)).all (λx=>x.1.isSome)
   &&decide ((e::es).length+([]:List Keyword).length+(if ([]:List Keyword).isEmpty then 0 else 1) < 30))=true:=by rfl)
  (cN:(ba.endLine == az.line)=true:=by rfl) (hs:starEach (e::es) X.env=(false,eval e X.env)::starEach es X.env:=by rfl) (bW:(backTo az (starEach es X.env)).any (·.1)=false:=by rfl) :
  PE X (.Call (.Attribute o name ba) (e::es) [] az) (tBM X.K T r to t):=by
 intro aa s U H Q I h
 refine wpAny_Call_method_late cM bV cN rfl (thn (ho aa s U H _ I h) λv s1 ⟨x,H1,I1,r1,ty,q1⟩=>?_)
 obtain ⟨h1,h2⟩:=qK' I1 r1 ty
 refine ⟨T,id,pa,slot,u8,h1,h2,?_⟩
 have hA:=ha az aa s1 U H1 _ I1 q1
 rw [hs] at hA ⊢
 refine Calls.callWith_builtin (by show (false||(backTo az (starEach es X.env)).any (·.1))=false;rw [bW]<;>rfl) (Calls.evalArgs_plain ?_)
 exact thn hA λus s2 ⟨vs,H2,I2,r2,q2⟩=>hm aa s2 U H2 x vs v us Q I2 r1 r2 q2
end
def MtM (X:Cx) (id:String) (r:V->List V->Hp->VK->Prop):Prop :=
 ∀ (aa:List (Addr×Obj)) (s:Shared) (U:St) (H:Hp) (x:V) (xs:List V) (v:Value) (us:List Value) (Q:VK),Inv X aa U H s->RelV x v->Vals xs us->r x xs H Q →
  wpAny (model X.prog X.w) X.A (call (.builtin id) (v::us)) (EP X aa U Q) X.xe s
theorem Vals.one:∀ {x:V}{us:List Value},Vals [x] us->∃ u,us=[u]/\RelV x u
 | _,_,.cons r .nil=>⟨_,rfl,r⟩
theorem Vals.two:∀ {x y:V}{us:List Value},Vals [x,y] us->∃ u v,us=[u,v]/\RelV x u/\RelV y v
 | _,_,_,.cons r (.cons q .nil)=>⟨_,_,rfl,r,q⟩
section
variable {X:Cx}{aa:List (Addr×Obj)}{U:St}{H:Hp}{s:Shared}{l b:Addr}{xs ys zs:List V}
theorem Inv.lset {ac its':List Value}{n:Nat}{f:Array Value->Array Value}{t':Nat} (I:Inv X aa U H s) (hH:H l=some (.lst xs))
  (e:s.heap.get? l=some { cls:=.type "list", data:=.seq ac.toArray n }) (hf:f ac.toArray=its'.toArray) (hv:Vals ys its') (hz:ys.length<=sizeLine) :
  Inv X aa U (upd H l (.lst ys)) { s with heap:=s.heap.update l (mapSeq f),toks:=t' }:=by
 have q:=PySem.IsL.update e f
 rw [hf] at q
 refine I.write (x:=l) (e:=l) (by rw [hH];exact trivial) (.inl rfl) (λb' u hb hu=>(get?_update_other s.heap (mapSeq f) (Ne.symm hb)).trans hu) ⟨_,q⟩ ?_
 exact ⟨hz,its',_,hv,q⟩
theorem Inv.lnew {ac:List Value}{t':Nat} (I:Inv X aa U H s) (hv:Vals ys ac) (hz:ys.length<=sizeLine) :
  Inv X aa U (upd H s.heap.objs.size (.lst ys)) { s with heap:=s.heap.push { cls:=.type "list", data:=.seq ac.toArray },toks:=t' } :=
 I.laid (λ_ _ q=>get?_push_of_some _ q) (le_refl _) ⟨hz,ac,0,hv,get?_push_size _ rfl⟩
theorem Inv.fresh (I:Inv X aa U H s):H s.heap.objs.size=none:=I.hok.fresh (le_refl _)
theorem Inv.lstM (I:Inv X aa U H s) (hH:H l=some (.lst xs)):xs.length<=sizeLine/\∃ (ac:List Value) (n:Nat),Vals xs ac/\xs.length=ac.length/\s.heap.get? l=some { cls:=.type "list", data:=.seq ac.toArray n }:=by
 obtain ⟨z,ac,n,r,e⟩:=I.hok l _ hH
 exact ⟨z,ac,n,r,r.length,e⟩
theorem notLongL {n:Nat} (h:n<=sizeLine):listTooLong n=false:=by
 unfold listTooLong
 exact decide_eq_false (by omega)
end
section
variable {X:Cx}
def rAppend:V->List V->Hp->VK->Prop:=λx vs H Q=>∃ l xs y,x=.ref l/\vs=[y]/\H l=some (.lst xs)/\xs.length < sizeLine/\Q .non (upd H l (.lst (xs++[y])))
theorem h9':MtM X "list.append" rAppend:=by
 intro aa s U H x vs v us Q I rx rv h
 obtain ⟨l,xs,y,rfl,rfl,hH,hz,q⟩:=h
 cases rx
 obtain ⟨u,rfl,ru⟩:=rv.one
 obtain ⟨z,ac,n,r,hl,e⟩:=I.lstM hH
 refine call_meets F.slot_list_append ⟨_,e,rfl⟩ F.entry_list_append (F.args_list_append_2 _ _) (PySem.list_append l ac.toArray n u (by rw [size_toArray];omega)) ⟨e,?_⟩
 refine ⟨.non,_,I.lset (its':=ac++[u]) hH e (by simp) (r.append (.cons ru .nil)) ?_,rfl,q⟩
 rw [length_append,List.length_singleton]
 omega
end
end L2
namespace Att
open PySem PySem.W PySem.Calls PyProof.Rows
theorem gJ' {P:Params}{h:Heap}:∀ (ns:List Int) (vs:List Value),WellAll P h vs (ns.map WData.int)->IntsAre vs ns:=by
 intro ns
 induction ns with
 | nil =>
  intro vs w
  rw [List.map_nil] at w
  cases w
  exact .nil
 | cons n ns ih =>
  intro vs w
  rw [map_cons] at w
  cases w with
  | cons a b =>
   cases a
   exact .cons _ _ (ih _ b)
theorem mH' {l:OpenLaw}{n:Nat} (hn:l.most=some n){P:Params}{h:Heap}{args:List WData}{gC:List Value}
  (fA:l.row.toRowW.claim.pre args=true) (kx:WellAll P h gC args) :
  ∃ a vs ns,gC=[Value.ref a]/\args=[WData.list (ns.map WData.int)]/\h.get? a=some { cls:=.type "list", data:=.seq vs.toArray }/\IntsAre vs ns/\ns.length<=n:=by
 have u9:WShape.hasAll [] args [.list .int]=true:=(pre_splitW fA).1
 have hc:l.pre.holds [] { args:=args }=true:=(pre_splitW fA).2
 obtain ⟨d,r,rfl,h1,h2⟩:=hasAllW_cons u9
 obtain rfl:=hasAllW_nil h2
 obtain ⟨xs,rfl,h3⟩:=hasW_list h1
 obtain ⟨ns,rfl⟩:=items_int h3
 have aF:ns.length<=n:=by
  unfold OpenLaw.pre at hc
  have h4:(WTm.not (.lt (.lit (.int (n:Int))) (.len (.arg 0)))).holds [] { args:=[.list (ns.map .int)] }=true:=by
   have h4:=(holds_andW hc).1
   rw [hn] at h4
   exact h4
  have h5:=condW_of h4 (w_not (w_lt w_lit (w_len_list (w_arg rfl))))
  rw [length_map] at h5
  refine Nat.le_of_not_lt λq=>?_
  have q':(n:Int) < ((ns.length:Nat):Int):=by omega
  first
   | (rw [decide_eq_true q'] at h5;exact absurd h5 (by decide))
   | (simp at h5;omega)
 cases kx with
 | cons w1 w2 =>
  cases w2
  cases w1 with
  | list ho gD=>exact ⟨_,_,ns,rfl,rfl,ho,gJ' ns _ gD,aF⟩
theorem mI' (l:OpenLaw) (args:List WData):l.row.toRowW.claim.post args (.bool true) args=true :=
 postW_of (r:=l.row.toRowW) (X:=(true == true))
  (show WShape.has [] (.bool true) .bool=true by first | rfl | decide | simp [WShape.has,WShape.arms,WShape.armsAll])
  (show (WTm.eq .res (.lit (.bool true))).value [] { args:=args,res:=some (.bool true),after:=args }=some (.bool (true == true)) from w_eq_bool (w_res rfl) w_lit) rfl
theorem rt' {l:OpenLaw}{n:Nat}{q:Program}{bY:List Str}{XP:(Str->Option Value)->Heap->Prop}{YP:World->Heap->Prop}{d:DefRec}
  (hn:l.most=some n) (gE:d.params.defaults=[])
  (call:∀ (w:World) (s₀ am:Shared) (mg mb:Str->Option Value) (fa:Addr) (o:Obj) (pm cd bF:Value) (a:Addr) (vs:List Value) (ns:List Int),
   Ground q bY [] XP w s₀ mg mb am.heap->YP w am.heap →
   am.heap.get? fa=some o->o.data=.func (docDef d.name d.params d.body d.scope pm cd bF)->am.heap.CodeRec cd d.name->mg d.name=some (.ref fa) →
   am.heap.get? a=some { cls:=.type "list", data:=.seq vs.toArray }->IntsAre vs ns->ns.length<=n->am.gens=#[] →
   codeAny (model l.prog w) callerA (.call (.ref fa) ⟨[.ref a],[]⟩) (λr s'=>r=.ok (.ret (.bool true))/\OldK am.heap s'.heap/\s'.os=am.os/\AllBare s'.gens) am) :
  WalkO q bY XP YP l.row.toRowW d [] (λf vs=>PySem.call f vs):=by
 intro w s₀ am mg mb G zJ fa o pm cd bF dV kV ho hd aU hD gF hg args gC as fA yT pw kx px
 obtain rfl:dV=.none:=Dflts.none hD gE
 obtain rfl:kV=.none:=Dflts.noKw hD
 obtain ⟨a,vs,ns,rfl,rfl,gG,eF,aF⟩:=mH' hn fA kx
 refine enter_call (codeAny_mono (call w s₀ am mg mb fa o pm cd bF a vs ns G zJ ho (fd_plain hd) aU gF gG eF aF hg) λr s' hq=>?_)
 obtain ⟨rfl,h2,h3,h4⟩:=hq
 exact ⟨.inl ⟨.bool true,.bool true,[],rfl,λ_=>rfl,.bool true,mI' l _,λ_=>⟨List.Pairwise.nil,λ_ hm=>(nomatch hm)⟩⟩,h2,h3,h4⟩
end Att
namespace L2
open PySem PySem.Spec PyProof.Rows
theorem ia':∀ {vs:List Value}{ns:List Int},IntsAre vs ns->Vals (ns.map V.int) vs
 | _,_,.nil=>.nil
 | _,_,.cons n t h=>.cons ⟨t,rfl⟩ (ia' h)
def Only (H:Hp):Prop:=∀ b,H b=none\/∃ o xs,H b=some (.frz o (.lst xs))
noncomputable def defArgs (s:Stmt):Arguments:=match s with
 | .FunctionDef _ a _ _ _ _ _ _ _ _=>a
 | _=>{ posonlyargs:=[],args:=[],vararg:=none,kwonlyargs:=[],kw_defaults:=[],kwarg:=none,defaults:=[] }
noncomputable def defBody (s:Stmt):List Stmt:=match s with
 | .FunctionDef _ _ b _ _ _ _ _ _ _=>b
 | _=>[]
noncomputable def defScope (s:Stmt):Scope:=match s with
 | .FunctionDef _ _ _ _ _ _ sc _ _ _=>sc
 | _=>{ kind:=.function,names:=[],isGenerator:=false,isCoroutine:=false }
noncomputable abbrev CX0:CXT:=λ_ _ _ _ _ _=>False
noncomputable abbrev E0:XK:=λ_ _ _=>False
theorem pass0 {X:Cx}:Passes CX0 X E0:=λ_ _ _ _ _ _ _ h=>h.elim
structure Fun (K:PySem.W.Frag) (x qual:Str) (st:Stmt) (f:Addr) (fd:FuncData):Prop where
 ex:∃ (oc:Value) (od:Option Addr) (kV bF pm:Value) (an:Option Addr) (ao ct:Value) (cH:Array (Option Value)),
  fd=fnOf x qual (defArgs st) (defBody st) (defScope st) .none kV bF pm an ao ct/\K.lookup f=some ⟨oc,od,.func fd,cH⟩/\codeIn K ao qual=true
 kp:keepIn K (.ref f)=true
section
variable {P:Program}{w:World}{K:PySem.W.Frag}{mg:Str->Option Value}{base:Heap}
theorem Fun.ok {x qual:Str}{st:Stmt}{f:Addr}{fd:FuncData}{N ps:List Str}{k:Nat}{sp:Sp} (F:Fun K x qual st f fd) (S:FnScope N ps (defScope st)) (len:∀ vs H Q E,sp vs H Q E->vs.length=ps.length)
  (cJ:∀ (ao:Value) (A:Around) (outer:List Env) (s:Shared) (H:Hp) (vs:List V) (Q:VK) (E:XK),Room k (A.deeper (envOfC qual (defScope st) s.heap.objs.size f ao))->sp vs H Q E →
   ∃ t,PSs (cxOf CX0 P w K mg base N qual (defScope st) f ao A outer s H E).nox (defBody st) t/\t { nx:=λ_ H'=>Q .non H',rt:=Q } (start N vs) H):FnOk P w K mg base CX0 (k+1) f fd ps sp:=by
 obtain ⟨oc,od,kV,bF,pm,an,ao,ct,cH,rfl,lk,aU⟩:=F.ex
 refine o1' lk aU S len λA outer s H vs Q E hr cZ=>?_
 obtain ⟨t,h,q⟩:=cJ ao A outer s H vs Q E hr cZ
 exact ⟨t,h.nox,q⟩
theorem Fun.binds {x qual:Str}{st:Stmt}{f:Addr}{fd:FuncData}{ps:List Str} (F:Fun K x qual st f fd)
  (h:∀ (kV bF pm:Value) (an:Option Addr) (ao ct:Value) (us:List Value),us.length=ps.length->bindArgs (fnOf x qual (defArgs st) (defBody st) (defScope st) .none kV bF pm an ao ct) ⟨us,[]⟩=pure (ps.zip us)):Binds K fd ps []:=by
 obtain ⟨oc,od,kV,bF,pm,an,ao,ct,cH,rfl,lk,aU⟩:=F.ex
 exact .all (h kV bF pm an ao ct)
theorem aF' {x qual:Str}{st:Stmt}{f:Addr}{oc:Value}{od an:Option Addr}{cH:Array (Option Value)}{kV bF pm ao ct:Value} (l:K.lookup f=some ⟨oc,od,.func (fnOf x qual (defArgs st) (defBody st) (defScope st) .none kV bF pm an ao ct),cH⟩)
  (c:codeIn K ao qual=true) (k:keepIn K (.ref f)=true):Fun K x qual st f (fnOf x qual (defArgs st) (defBody st) (defScope st) .none kV bF pm an ao ct):=⟨⟨oc,od,kV,bF,pm,an,ao,ct,cH,rfl,l,c⟩,k⟩
end
section
variable {X:Cx}
theorem pv (i:Nat){x:Str}{pos:Pos} (hN:X.N[i]?=some x:=by rfl) (hv:visB X.env.scope x=true:=by rfl) (hd:(x == ("__debug__":Str))=false:=by decide)
  (aU:(x == ("__classdict__":Str))=false:=by decide):PE X (.Name x pos) (tVar i):=qk' hN (visI hv) hd aU
end
theorem iteF {A B:Prop} (h:B):if false=true then A else B:=by
 rw [if_neg Bool.false_ne_true]
 exact h
theorem iteT {A B:Prop} (h:A):if true=true then A else B:=by
 rw [if_pos rfl]
 exact h
def Same (H H':Hp):Prop:=∀ b o,H b=some o->H' b=some o
theorem Same.refl (H:Hp):Same H H:=λ_ _ h=>h
theorem Same.trans {H H1 H2:Hp} (a:Same H H1) (b:Same H1 H2):Same H H2:=λc o h=>b c o (a c o h)
theorem Same.free {H H':Hp} (e:Same H H'){l:Addr} (h:H' l=Option.none):H l=Option.none:=by
 cases q:H l with
 | none=>rfl
 | some o =>
  rw [e l o q] at h
  cases h
structure M1 (X:Cx) (o:Expr) (m:Str) (ba:Pos) (e:Expr) (az:Pos):Prop where
 base:attributeBase o m X.env (eval o X.env)=eval o X.env
 few:((backTo az (starEach [e] X.env)).all (λx=>!x.1)&&(backToKw az (keywordEach [] X.env)).all (λx=>x.1.isSome)
  &&decide (([e]:List Expr).length+([]:List Keyword).length+(if ([]:List Keyword).isEmpty then 0 else 1) < 30))=true
 line:(ba.endLine == az.line)=true
 trees:backTo az (starEach [e] X.env)=[(false,eval e X.env)]
structure M2 (X:Cx) (o:Expr) (m:Str) (ba:Pos) (e f:Expr) (az:Pos):Prop where
 base:attributeBase o m X.env (eval o X.env)=eval o X.env
 few:((backTo az (starEach [e,f] X.env)).all (λx=>!x.1)&&(backToKw az (keywordEach [] X.env)).all (λx=>x.1.isSome)
  &&decide (([e,f]:List Expr).length+([]:List Keyword).length+(if ([]:List Keyword).isEmpty then 0 else 1) < 30))=true
 line:(ba.endLine == az.line)=true
 trees:backTo az (starEach [e,f] X.env)=[(false,eval e X.env),(false,eval f X.env)]
end L2
set_option maxHeartbeats 4000000
namespace DL
open PySem PySem.Spec PyProof.Rows L2
inductive D where
 | non | bl (b:Bool) | int (i:Int) | str (x:Str) | tup (xs:List D) | lst (xs:List D)
def RdK (K:PySem.W.Frag) (I:Hp) (a:Addr) (xs:List V):Prop:=Rd I a (.lst xs)\/∃ (ac:List Value) (n:Nat),K.lookup a=some { cls:=.type "list", data:=.seq ac.toArray n }/\Vals xs ac/\ac.length<=sizeLine
theorem RdK.of {K:PySem.W.Frag}{I:Hp}{a:Addr}{xs:List V} (h:I a=some (.lst xs)):RdK K I a xs:=.inl (.inl h)
theorem RdK.sq {K:PySem.W.Frag}{I:Hp}{a:Addr}{xs:List V} (h:RdK K I a xs):SqL K I a xs:=by
 rcases h with h | ⟨ac,n,h1,h2,h3⟩
 ·exact .inl h
 ·exact .inr ⟨_,ac.toArray,n,h1,rfl,rfl,rfl,by simpa using h3,by simpa using h2⟩
mutual
def Is (K:PySem.W.Frag) (I:Hp):D->V->Prop
 | .non,v=>v=.non
 | .bl b,v=>v=.bl b
 | .int i,v=>v=.int i
 | .str x,v=>v=.str x
 | .tup ds,v=>∃ a xs,v=.ref a/\SqT K I a xs/\IsA K I ds xs
 | .lst ds,v=>∃ a xs,v=.ref a/\RdK K I a xs/\IsA K I ds xs
def IsA (K:PySem.W.Frag) (I:Hp):List D->List V->Prop
 | [],xs=>xs=[]
 | d::ds,xs=>∃ x r,xs=x::r/\Is K I d x/\IsA K I ds r
end
section
variable {K:PySem.W.Frag}{I I' H:Hp}
theorem Same.rd {a:Addr}{o:HO} (e:Same I I') (h:Rd I a o):Rd I' a o:=by
 rcases h with h | ⟨u,h⟩
 ·exact .inl (e _ _ h)
 ·exact .inr ⟨u,e _ _ h⟩
theorem Same.rdK {a:Addr}{xs:List V} (e:Same I I') (h:RdK K I a xs):RdK K I' a xs:=by
 rcases h with h | h
 ·exact .inl (Same.rd e h)
 ·exact .inr h
theorem Same.sqT {a:Addr}{xs:List V} (e:Same I I') (h:SqT K I a xs):SqT K I' a xs:=by
 rcases h with h | h
 ·exact .inl (Same.rd e h)
 ·exact .inr h
mutual
theorem Is.mono (e:Same I I'):∀ {d:D}{v:V},Is K I d v->Is K I' d v
 | .non,_,h=>by rw [Is] at h ⊢;exact h
 | .bl _,_,h=>by rw [Is] at h ⊢;exact h
 | .int _,_,h=>by rw [Is] at h ⊢;exact h
 | .str _,_,h=>by rw [Is] at h ⊢;exact h
 | .tup ds,v,h=>by
  rw [Is] at h ⊢
  obtain ⟨a,xs,e1,e2,e3⟩:=h
  exact ⟨a,xs,e1,Same.sqT e e2,IsA.mono e e3⟩
 | .lst ds,v,h=>by
  rw [Is] at h ⊢
  obtain ⟨a,xs,e1,e2,e3⟩:=h
  exact ⟨a,xs,e1,Same.rdK e e2,IsA.mono e e3⟩
theorem IsA.mono (e:Same I I'):∀ {ds:List D}{xs:List V},IsA K I ds xs->IsA K I' ds xs
 | [],_,h=>by rw [IsA] at h ⊢;exact h
 | d::ds,xs,h=>by
  rw [IsA] at h ⊢
  obtain ⟨x,r,e1,e2,e3⟩:=h
  exact ⟨x,r,e1,Is.mono e e2,IsA.mono e e3⟩
end
theorem IsA.nil:IsA K I [] []:=by rw [IsA]
theorem IsA.cons {d:D}{ds:List D}{x:V}{xs:List V} (h:Is K I d x) (t:IsA K I ds xs):IsA K I (d::ds) (x::xs):=by
 rw [IsA];exact ⟨x,xs,rfl,h,t⟩
theorem IsA.nil_inv {xs:List V} (h:IsA K I [] xs):xs=[]:=by rw [IsA] at h;exact h
theorem IsA.cons_inv {d:D}{ds:List D}{xs:List V} (h:IsA K I (d::ds) xs):∃ x r,xs=x::r/\Is K I d x/\IsA K I ds r:=by rw [IsA] at h;exact h
theorem IsA.length:∀ {ds:List D}{xs:List V},IsA K I ds xs->ds.length=xs.length
 | [],xs,h=>by rw [h.nil_inv]<;>rfl
 | d::ds,xs,h=>by
  obtain ⟨x,r,rfl,_,t⟩:=h.cons_inv
  simp [IsA.length t]
theorem IsA.get:∀ {ds:List D}{xs:List V}{i:Nat}{d:D},IsA K I ds xs->ds[i]?=some d->∃ x,xs[i]?=some x/\Is K I d x
 | [],xs,i,d,h,e=>by simp at e
 | c::ds,xs,0,d,h,e=>by
  obtain ⟨x,r,rfl,hx,t⟩:=h.cons_inv
  simp at e;subst e
  exact ⟨x,rfl,hx⟩
 | c::ds,xs,i+1,d,h,e=>by
  obtain ⟨x,r,rfl,hx,t⟩:=h.cons_inv
  obtain ⟨y,e1,e2⟩:=IsA.get (i:=i) t (by simpa using e)
  exact ⟨y,by simpa using e1,e2⟩
theorem IsA.append:∀ {ds es:List D}{xs ys:List V},IsA K I ds xs->IsA K I es ys->IsA K I (ds++es) (xs++ys)
 | [],es,xs,ys,h,t=>by rw [h.nil_inv];exact t
 | d::ds,es,xs,ys,h,t=>by
  obtain ⟨x,r,rfl,hx,h'⟩:=h.cons_inv
  exact IsA.cons hx (IsA.append h' t)
theorem IsA.take:∀ {ds:List D}{xs:List V} (n:Nat),IsA K I ds xs->IsA K I (ds.take n) (xs.take n)
 | ds,xs,0,h=>by rw [List.take_zero,List.take_zero];exact IsA.nil
 | [],xs,n+1,h=>by rw [h.nil_inv];exact IsA.nil
 | d::ds,xs,n+1,h=>by
  obtain ⟨x,r,rfl,hx,h'⟩:=h.cons_inv
  rw [List.take_succ_cons,List.take_succ_cons]
  exact IsA.cons hx (IsA.take n h')
theorem IsA.drop:∀ {ds:List D}{xs:List V} (n:Nat),IsA K I ds xs->IsA K I (ds.drop n) (xs.drop n)
 | ds,xs,0,h=>by rw [List.drop_zero,List.drop_zero];exact h
 | [],xs,n+1,h=>by rw [h.nil_inv];exact IsA.nil
 | d::ds,xs,n+1,h=>by
  obtain ⟨x,r,rfl,hx,h'⟩:=h.cons_inv
  rw [drop_succ_cons,drop_succ_cons]
  exact IsA.drop n h'
theorem IsA.set {d:D}{x:V} (q:Is K I d x):∀ {ds:List D}{xs:List V} (n:Nat),IsA K I ds xs->IsA K I (ds.set n d) (xs.set n x)
 | [],xs,n,h=>by rw [h.nil_inv];exact IsA.nil
 | c::ds,xs,0,h=>by
  obtain ⟨y,r,rfl,hx,h'⟩:=h.cons_inv
  exact IsA.cons q h'
 | c::ds,xs,n+1,h=>by
  obtain ⟨y,r,rfl,hx,h'⟩:=h.cons_inv
  exact IsA.cons hx (IsA.set q n h')
theorem IsA.reverse:∀ {ds:List D}{xs:List V},IsA K I ds xs->IsA K I ds.reverse xs.reverse
 | [],xs,h=>by rw [h.nil_inv];exact IsA.nil
 | d::ds,xs,h=>by
  obtain ⟨x,r,rfl,hx,h'⟩:=h.cons_inv
  rw [reverse_cons,reverse_cons]
  exact IsA.append (IsA.reverse h') (IsA.cons hx IsA.nil)
theorem IsA.one {d:D}{xs:List V} (h:IsA K I [d] xs):∃ x,xs=[x]/\Is K I d x:=by
 obtain ⟨x,r,rfl,hx,t⟩:=h.cons_inv
 rw [t.nil_inv]
 exact ⟨x,rfl,hx⟩
theorem IsA.two {d e:D}{xs:List V} (h:IsA K I [d,e] xs):∃ x y,xs=[x,y]/\Is K I d x/\Is K I e y:=by
 obtain ⟨x,r,rfl,hx,t⟩:=h.cons_inv
 obtain ⟨y,rfl,hy⟩:=t.one
 exact ⟨x,y,rfl,hx,hy⟩
theorem an' {i:Int}{v:V} (h:Is K I (.int i) v):v=.int i:=by rw [Is] at h;exact h
theorem bG' {i:Bool}{v:V} (h:Is K I (.bl i) v):v=.bl i:=by rw [Is] at h;exact h
theorem b9' {i:Str}{v:V} (h:Is K I (.str i) v):v=.str i:=by rw [Is] at h;exact h
theorem ca' {v:V} (h:Is K I .non v):v=.non:=by rw [Is] at h;exact h
theorem au' {ds:List D}{v:V} (h:Is K I (.tup ds) v):∃ a xs,v=.ref a/\SqT K I a xs/\IsA K I ds xs:=by rw [Is] at h;exact h
theorem ax' {ds:List D}{v:V} (h:Is K I (.lst ds) v):∃ a xs,v=.ref a/\RdK K I a xs/\IsA K I ds xs:=by rw [Is] at h;exact h
theorem Is.int (i:Int):Is K I (.int i) (.int i):=by rw [Is]
theorem Is.bl (i:Bool):Is K I (.bl i) (.bl i):=by rw [Is]
theorem Is.str (i:Str):Is K I (.str i) (.str i):=by rw [Is]
theorem Is.non:Is K I .non .non:=by rw [Is]
theorem Is.tup {ds:List D}{a:Addr}{xs:List V} (h:SqT K I a xs) (t:IsA K I ds xs):Is K I (.tup ds) (.ref a):=by rw [Is];exact ⟨a,xs,rfl,h,t⟩
theorem Is.lst {ds:List D}{a:Addr}{xs:List V} (h:RdK K I a xs) (t:IsA K I ds xs):Is K I (.lst ds) (.ref a):=by rw [Is];exact ⟨a,xs,rfl,h,t⟩
end
inductive R where
 | val (d:D) | own (ds:List D) | bor (ds:List D) | fro (ds:List D) | dic (aH:List (Int×D))
noncomputable def R.mut:R->Bool
 | .val _=>false
 | .own _=>true
 | .bor _=>true
 | .fro _=>false
 | .dic _=>false
noncomputable def R.ptr:R->Bool
 | .val _=>false
 | .own _=>true
 | .bor _=>true
 | .fro _=>false
 | .dic _=>true
abbrev Gm:=List (Option R)
def Mt (K:PySem.W.Frag) (G I H:Hp) (ds:List D) (v:V):Prop:=∃ p xs,v=.ref p/\H p=some (.lst xs)/\I p=none/\G p=none/\IsA K I ds xs
def IsK (K:PySem.W.Frag) (I:Hp) (aH:List (Int×D)) (xs:List (Key×V)):Prop:=xs.map (·.1)=aH.map (λq=>inl q.1)/\IsA K I (aH.map (·.2)) (xs.map (·.2))
theorem IsK.mono {K:PySem.W.Frag}{I I':Hp}{aH:List (Int×D)}{xs:List (Key×V)} (e:Same I I') (h:IsK K I aH xs):IsK K I' aH xs:=⟨h.1,h.2.mono e⟩
def MtK (K:PySem.W.Frag) (G I H:Hp) (aH:List (Int×D)) (v:V):Prop:=∃ p xs,v=.ref p/\H p=some (.dK xs)/\I p=none/\G p=none/\IsK K I aH xs
def SlotOk (K:PySem.W.Frag) (G I H:Hp):R->V->Prop
 | .val d,v=>Is K I d v
 | .own ds,v=>Mt K G I H ds v
 | .bor ds,v=>Mt K G I H ds v
 | .fro ds,v=>∃ p xs,v=.ref p/\I p=some (.lst xs)/\G p=none/\IsA K I ds xs
 | .dic aH,v=>MtK K G I H aH v
theorem SlotOk.mt {K:PySem.W.Frag}{G I H:Hp}{r:R}{v:V} (h:SlotOk K G I H r v) (m:r.ptr=true):∃ p xs,v=.ref p/\H p=some xs/\I p=none/\G p=none:=by
 cases r with
 | val d=>cases m
 | own ds=>obtain ⟨p,xs,e1,e2,e3,e4,_⟩:=h;exact ⟨p,_,e1,e2,e3,e4⟩
 | bor ds=>obtain ⟨p,xs,e1,e2,e3,e4,_⟩:=h;exact ⟨p,_,e1,e2,e3,e4⟩
 | fro ds=>cases m
 | dic ds=>obtain ⟨p,xs,e1,e2,e3,e4,_⟩:=h;exact ⟨p,_,e1,e2,e3,e4⟩
structure Rep (K:PySem.W.Frag) (B:Nat->Option (Option V)) (G I H:Hp) (U:L2.St) (Y:Gm):Prop where
 iH:Same I H
 gH:Same G H
 len:U.length=Y.length
 slot:∀ (i:Nat) (r:R),Y[i]?=some (some r)->∃ v,U[i]?=some (some v)/\SlotOk K G I H r v
 dist:∀ (i j:Nat) (r r':R) (v:V),Y[i]?=some (some r)->Y[j]?=some (some r')->r.ptr=true->r'.ptr=true->U[i]?=some (some v)->U[j]?=some (some v)->i=j
 bor:∀ (i:Nat) (ds:List D),Y[i]?=some (some (.bor ds))->U[i]?=B i
structure Grow (G I I':Hp):Prop where
 up:Same I I'
 new:∀ b o,I' b=some o->I b=some o\/G b=none
theorem Grow.refl (G I:Hp):Grow G I I:=⟨Same.refl _,λ_ _ h=>.inl h⟩
theorem Grow.trans {G I I1 I2:Hp} (a:Grow G I I1) (b:Grow G I1 I2):Grow G I I2:=⟨a.up.trans b.up,λc o h=>by
 rcases b.new c o h with h1 | h1
 ·exact a.new c o h1
 ·exact .inr h1⟩
section
variable {K:PySem.W.Frag}{B:Nat->Option (Option V)}{G I I' H H':Hp}{U:L2.St}{Y:Gm}
theorem Rep.ext (r:Rep K B G I H U Y) (hI:Same I I') (hH:Same H H') (iH:Same I' H') (new:∀ b o,I' b=some o->I b=some o\/H b=none):Rep K B G I' H' U Y where
 iH:=iH
 gH:=r.gH.trans hH
 len:=r.len
 slot:=λi q e=>by
  obtain ⟨v,e1,e2⟩:=r.slot i q e
  refine ⟨v,e1,?_⟩
  have mt:∀ ds,Mt K G I H ds v->Mt K G I' H' ds v:=λds h=>by
   obtain ⟨p,xs,h1,h2,h3,h4,h5⟩:=h
   refine ⟨p,xs,h1,hH _ _ h2,?_,h4,h5.mono hI⟩
   cases z:I' p with
   | none=>rfl
   | some o =>
    rcases new p o z with z1 | z1
    ·rw [h3] at z1;cases z1
    ·rw [h2] at z1;cases z1
  cases q with
  | val d=>exact Is.mono hI e2
  | dic ds =>
   obtain ⟨p,xs,h1,h2,h3,h4,h5⟩:=e2
   refine ⟨p,xs,h1,hH _ _ h2,?_,h4,h5.mono hI⟩
   cases z:I' p with
   | none=>rfl
   | some o =>
    rcases new p o z with z1 | z1
    ·rw [h3] at z1;cases z1
    ·rw [h2] at z1;cases z1
  | own ds=>exact mt ds e2
  | bor ds=>exact mt ds e2
  | fro ds=>obtain ⟨p,xs,f1,f2,f3,f4⟩:=e2;exact ⟨p,xs,f1,hI _ _ f2,f3,f4.mono hI⟩
 dist:=r.dist
 bor:=r.bor
theorem aL' {H:Hp}{p:Addr} (h:H p=none) (o:HO):Same H (upd H p o):=λb u q=>by rw [ai' (aY' q h)];exact q
theorem ib' {I H:Hp}{p:Addr} (h:Same I H) (o:HO):Same (upd I p o) (upd H p o):=λb u q=>by
 by_cases e:b=p
 ·subst e;rw [ap'] at q ⊢;exact q
 ·rw [ai' e] at q ⊢;exact h b u q
theorem Rep.iFree (r:Rep K B G I H U Y){p:Addr} (h:H p=none):I p=none:=r.iH.free h
theorem Rep.gFree (r:Rep K B G I H U Y){p:Addr} (h:H p=none):G p=none:=r.gH.free h
theorem Rep.alloc (r:Rep K B G I H U Y){p:Addr} (h:H p=none) (o:HO):Rep K B G (upd I p o) (upd H p o) U Y :=
 r.ext (aL' (r.iFree h) o) (aL' h o) (ib' r.iH o) λb u q=>by
  by_cases e:b=p
  ·subst e;exact .inr h
  ·rw [ai' e] at q;exact .inl q
theorem Rep.growAlloc (r:Rep K B G I H U Y){p:Addr} (h:H p=none) (o:HO):Grow G I (upd I p o):=⟨aL' (r.iFree h) o,λb u q=>by
 by_cases e:b=p
 ·subst e;exact .inr (r.gFree h)
 ·rw [ai' e] at q;exact .inl q⟩
theorem Rep.fresh (r:Rep K B G I H U Y){p:Addr} (h:H p=none) (o:HO):Rep K B G I (upd H p o) U Y :=
 r.ext (Same.refl _) (aL' h o) (r.iH.trans (aL' h o)) λb u q=>.inl q
def Apart (U:L2.St) (Y:Gm) (p:Addr):Prop:=∀ (j:Nat) (r:R),Y[j]?=some (some r)->r.ptr=true->U[j]?≠some (some (.ref p))
theorem Rep.apart (r:Rep K B G I H U Y){p:Addr} (h:H p=none):Apart U Y p:=λj q e m z=>by
 obtain ⟨v,e1,e2⟩:=r.slot j q e
 obtain ⟨p',xs,h1,h2,_,_⟩:=e2.mt m
 rw [e1] at z
 subst h1
 cases z
 rw [h] at h2;cases h2
theorem Rep.freeze (r:Rep K B G I H U Y){p:Addr}{xs:List V} (h:H p=some (.lst xs)) (hi:I p=none) (a:Apart U Y p):Rep K B G (upd I p (.lst xs)) H U Y where
 iH:=λb u q=>by
  by_cases e:b=p
  ·subst e;rw [ap'] at q;cases q;exact h
  ·rw [ai' e] at q;exact r.iH b u q
 gH:=r.gH
 len:=r.len
 slot:=λi q e=>by
  obtain ⟨v,e1,e2⟩:=r.slot i q e
  refine ⟨v,e1,?_⟩
  have up:=aL' hi (.lst xs)
  have mt:q.ptr=true->∀ ds,Mt K G I H ds v->Mt K G (upd I p (.lst xs)) H ds v:=λm ds h=>by
   obtain ⟨p',bG,h1,h2,h3,h4,h5⟩:=h
   refine ⟨p',bG,h1,h2,?_,h4,h5.mono up⟩
   have ne:p'≠p:=λz=>a i q e m (by rw [e1,h1,z])
   rw [ai' ne];exact h3
  cases q with
  | val d=>exact Is.mono up e2
  | dic ds =>
   obtain ⟨p',bG,h1,h2,h3,h4,h5⟩:=e2
   refine ⟨p',bG,h1,h2,?_,h4,h5.mono up⟩
   have ne:p'≠p:=λz=>a i _ e rfl (by rw [e1,h1,z])
   rw [ai' ne];exact h3
  | own ds=>exact mt rfl ds e2
  | bor ds=>exact mt rfl ds e2
  | fro ds=>obtain ⟨p,xs,f1,f2,f3,f4⟩:=e2;exact ⟨p,xs,f1,up _ _ f2,f3,f4.mono up⟩
 dist:=r.dist
 bor:=r.bor
theorem growFreeze {G I:Hp}{p:Addr}{xs:List V} (hi:I p=none) (hg:G p=none):Grow G I (upd I p (.lst xs)):=⟨aL' hi _,λb u q=>by
 by_cases e:b=p
 ·subst e;exact .inr hg
 ·rw [ai' e] at q;exact .inl q⟩
theorem aO' {α:Type}{l:List α}{i j:Nat}{a b:α} (h:(l.set i a)[j]?=some b):(j=i/\b=a/\i < l.length)\/(j≠i/\l[j]?=some b):=by
 by_cases e:j=i
 ·subst e
  by_cases hl:j < l.length
  ·rw [List.getElem?_set_self hl] at h;cases h;exact .inl ⟨rfl,rfl,hl⟩
  ·rw [List.getElem?_eq_none (by rw [length_set];omega)] at h;cases h
 ·rw [getElem?_set_ne (Ne.symm e)] at h;exact .inr ⟨e,h⟩
theorem Rep.forget (r:Rep K B G I H U Y) (i:Nat):Rep K B G I H U (Y.set i none) where
 iH:=r.iH
 gH:=r.gH
 len:=by rw [length_set];exact r.len
 slot:=λj q e=>by
  rcases aO' e with ⟨_,z,_⟩ | ⟨_,z⟩
  ·cases z
  ·exact r.slot j q z
 dist:=λj k q q' v e e'=>by
  rcases aO' e with ⟨_,z,_⟩ | ⟨_,z⟩
  ·cases z
  rcases aO' e' with ⟨_,z',_⟩ | ⟨_,z'⟩
  ·cases z'
  exact r.dist j k q q' v z z'
 bor:=λj ds e=>by
  rcases aO' e with ⟨_,z,_⟩ | ⟨_,z⟩
  ·cases z
  ·exact r.bor j ds z
theorem Rep.learn (r:Rep K B G I H U Y){i:Nat}{q:R}{v:V} (hv:U[i]?=some (some v)) (ok:SlotOk K G I H q v) (ha:q.ptr=true->∀ p,v=.ref p->∀ (j:Nat) (r:R),j≠i->Y[j]?=some (some r)->r.ptr=true->U[j]?≠some (some (.ref p)))
  (hb:∀ ds,q=.bor ds->U[i]?=B i):Rep K B G I H U (Y.set i (some q)) where
 iH:=r.iH
 gH:=r.gH
 len:=by rw [length_set];exact r.len
 slot:=λj q' e=>by
  rcases aO' e with ⟨rfl,z,_⟩ | ⟨_,z⟩
  ·cases z;exact ⟨v,hv,ok⟩
  ·exact r.slot j q' z
 dist:=λj k q1 q2 w e e' m1 m2 s1 s2=>by
  rcases aO' e with ⟨rfl,z,_⟩ | ⟨n1,z⟩
  ·cases z
   rcases aO' e' with ⟨rfl,z',_⟩ | ⟨n2,z'⟩
   ·rfl
   ·obtain ⟨p,xs,e1,_⟩:=ok.mt m1
    rw [hv] at s1;cases s1
    exact absurd (e1▸s2) (ha m1 p e1 k q2 n2 z' m2)
  ·rcases aO' e' with ⟨rfl,z',_⟩ | ⟨n2,z'⟩
   ·cases z'
    obtain ⟨p,xs,e1,_⟩:=ok.mt m2
    rw [hv] at s2;cases s2
    exact absurd (e1▸s1) (ha m2 p e1 j q1 n1 z m1)
   ·exact r.dist j k q1 q2 w z z' m1 m2 s1 s2
 bor:=λj ds e=>by
  rcases aO' e with ⟨rfl,z,_⟩ | ⟨_,z⟩
  ·cases z;exact hb ds rfl
  ·exact r.bor j ds z
theorem Rep.store (r:Rep K B G I H U Y){i:Nat}{q:R}{v:V} (hi:i < U.length) (ok:SlotOk K G I H q v) (ha:q.ptr=true->∀ p,v=.ref p->Apart U Y p) (hb:∀ ds,q≠.bor ds):Rep K B G I H (U.set i (some v)) (Y.set i (some q)):=by
 have r1:Rep K B G I H (U.set i (some v)) (Y.set i none):={
  iH:=r.iH,gH:=r.gH,len:=by rw [length_set,length_set];exact r.len
  slot:=λj q' e=>by
   rcases aO' e with ⟨_,z,_⟩ | ⟨n,z⟩
   ·cases z
   ·rw [getElem?_set_ne (Ne.symm n)];exact r.slot j q' z
  dist:=λj k q1 q2 w e e' m1 m2 s1 s2=>by
   rcases aO' e with ⟨_,z,_⟩ | ⟨n1,z⟩
   ·cases z
   rcases aO' e' with ⟨_,z',_⟩ | ⟨n2,z'⟩
   ·cases z'
   rw [getElem?_set_ne (Ne.symm n1)] at s1
   rw [getElem?_set_ne (Ne.symm n2)] at s2
   exact r.dist j k q1 q2 w z z' m1 m2 s1 s2
  bor:=λj ds e=>by
   rcases aO' e with ⟨_,z,_⟩ | ⟨n,z⟩
   ·cases z
   ·rw [getElem?_set_ne (Ne.symm n)];exact r.bor j ds z }
 have r2:=r1.learn (i:=i) (q:=q) (v:=v) (by rw [List.getElem?_set_self hi]) ok (λm p e j q' n z m' s=>by
  rcases aO' z with ⟨_,z',_⟩ | ⟨_,z'⟩
  ·cases z'
  ·rw [getElem?_set_ne (Ne.symm n)] at s
   exact ha m p e j q' z' m' s) (λds e=>absurd e (hb ds))
 rw [set_set] at r2
 exact r2
theorem Rep.write (r:Rep K B G I H U Y){i:Nat}{q q':R}{p:Addr}{xs ys:List V}{ds:List D} (hq:Y[i]?=some (some q)) (hm:q.ptr=true) (hs:U[i]?=some (some (.ref p))) (h:H p=some (.lst xs)) (gI:q'=.own ds\/(q'=.bor ds/\∃ es,q=.bor es)) (hd:IsA K I ds ys) :
  Rep K B G I (upd H p (.lst ys)) U (Y.set i (some q')):=by
 obtain ⟨v,e1,e2⟩:=r.slot i q hq
 obtain ⟨p',bG,h1,h2,h3,h4⟩:=e2.mt hm
 have hp:p'=p:=by rw [hs] at e1;subst h1;cases e1;rfl
 subst hp
 have eG:∀ (j:Nat) (r':R),j≠i->Y[j]?=some (some r')->r'.ptr=true->U[j]?≠some (some (.ref p')):=λj r' n z m s=>n (r.dist j i r' q _ z hq m hm s hs)
 have sI:Same I (upd H p' (.lst ys)):=λb u z=>by
  have ne:b≠p':=λe=>by subst e;rw [h3] at z;cases z
  rw [ai' ne];exact r.iH b u z
 have sG:Same G (upd H p' (.lst ys)):=λb u z=>by
  have ne:b≠p':=λe=>by subst e;rw [h4] at z;cases z
  rw [ai' ne];exact r.gH b u z
 have r1:Rep K B G I (upd H p' (.lst ys)) U (Y.set i none):={
  iH:=sI,gH:=sG,len:=by rw [length_set];exact r.len
  slot:=λj q1 e=>by
   rcases aO' e with ⟨_,z,_⟩ | ⟨n,z⟩
   ·cases z
   obtain ⟨w,e3,e4⟩:=r.slot j q1 z
   refine ⟨w,e3,?_⟩
   have mt:q1.ptr=true->∀ ds,Mt K G I H ds w->Mt K G I (upd H p' (.lst ys)) ds w:=λm ds hh=>by
    obtain ⟨p2,kA,g1,g2,g3,g4,g5⟩:=hh
    refine ⟨p2,kA,g1,?_,g3,g4,g5⟩
    have ne:p2≠p':=λz2=>eG j q1 n z m (by rw [e3,g1,z2])
    rw [ai' ne];exact g2
   cases q1 with
   | val d=>exact e4
   | dic ds =>
    obtain ⟨p2,kA,g1,g2,g3,g4,g5⟩:=e4
    refine ⟨p2,kA,g1,?_,g3,g4,g5⟩
    have ne:p2≠p':=λz2=>eG j _ n z rfl (by rw [e3,g1,z2])
    rw [ai' ne];exact g2
   | own ds=>exact mt rfl ds e4
   | bor ds=>exact mt rfl ds e4
   | fro ds=>exact e4
  dist:=(r.forget i).dist
  bor:=(r.forget i).bor }
 have pz:Mt K G I (upd H p' (.lst ys)) ds (.ref p'):=⟨p',ys,rfl,ap',h3,h4,hd⟩
 have r2:=r1.learn (i:=i) (q:=q') (v:=.ref p') hs (by rcases gI with rfl | ⟨rfl,_⟩<;>exact pz) (λm p2 e j r' n z m' s=>by
  cases e
  rcases aO' z with ⟨_,z',_⟩ | ⟨_,z'⟩
  ·cases z'
  ·exact eG j r' n z' m' s) (λes e=>by
  rcases gI with rfl | ⟨rfl,es',rfl⟩
  ·cases e
  ·exact r.bor i es' hq)
 rw [set_set] at r2
 exact r2
end
end DL
namespace DL
open PySem PySem.Spec PyProof.Rows L2
noncomputable abbrev M (α:Type):=Gm->Option (α×Gm)
noncomputable def ret {α:Type} (a:α):M α:=λY=>some (a,Y)
noncomputable def bnd {α Z:Type} (m:M α) (f:α->M Z):M Z:=λY=>match m Y with
 | some (a,ab)=>f a ab
 | none=>none
noncomputable def lft {α:Type} (o:Option α):M α:=λY=>match o with
 | some a=>some (a,Y)
 | none=>none
theorem af' {α Z:Type}{m:M α}{f:α->M Z}{Y:Gm}{b:Z}{ae:Gm} (h:bnd m f Y=some (b,ae)):∃ a ab,m Y=some (a,ab)/\f a ab=some (b,ae):=by
 unfold bnd at h
 cases e:m Y with
 | none=>rw [e] at h;cases h
 | some q=>obtain ⟨a,ab⟩:=q;rw [e] at h;exact ⟨a,ab,rfl,h⟩
theorem ay' {α:Type}{o:Option α}{Y ae:Gm}{a:α} (h:lft o Y=some (a,ae)):o=some a/\ae=Y:=by
 unfold lft at h
 cases o with
 | none=>cases h
 | some b=>cases h;exact ⟨rfl,rfl⟩
section
variable (K:PySem.W.Frag) (B:Nat->Option (Option V))
def KD (G I:Hp) (U:L2.St) (ae:Gm) (d:D) (Q:VK):Prop:=∀ v H' I',Rep K B G I' H' U ae->Grow G I I'->Is K I' d v->Q v H'
def KO (G I:Hp) (U:L2.St) (ae:Gm) (ds:List D) (Q:VK):Prop:=∀ p xs H' I',Rep K B G I' H' U ae->Grow G I I'->H' p=some (.lst xs)->I' p=none->G p=none->Apart U ae p->IsA K I' ds xs->Q (.ref p) H'
def KT (G I:Hp) (U:L2.St) (ae:Gm) (b:Bool) (Q:Bool->Hp->Prop):Prop:=∀ H' I',Rep K B G I' H' U ae->Grow G I I'->Q b H'
def KA (G I:Hp) (U:L2.St) (ae:Gm) (ds:List D) (Q:List V->Hp->Prop):Prop:=∀ vs H' I',Rep K B G I' H' U ae->Grow G I I'->IsA K I' ds vs->Q vs H'
noncomputable def tD (g:M D):TE:=λU H Q=>∃ G I Y d ae,Rep K B G I H U Y/\g Y=some (d,ae)/\KD K B G I U ae d Q
noncomputable def tO (g:M (List D)):TE:=λU H Q=>∃ G I Y ds ae,Rep K B G I H U Y/\g Y=some (ds,ae)/\KO K B G I U ae ds Q
noncomputable def tTD (g:M Bool):TT:=λU H Q=>∃ G I Y b ae,Rep K B G I H U Y/\g Y=some (b,ae)/\KT K B G I U ae b Q
noncomputable def tAD (g:M (List D)):TA:=λU H Q=>∃ G I Y ds ae,Rep K B G I H U Y/\g Y=some (ds,ae)/\KA K B G I U ae ds Q
end
abbrev BB:=Nat->Option (Option V)
def ED (X:Cx) (B:BB) (e:Expr) (g:M D):Prop:=PE X e (tD X.K B g)
def EO (X:Cx) (B:BB) (e:Expr) (g:M (List D)):Prop:=PE X e (tO X.K B g)
def TD (X:Cx) (B:BB) (e:Expr) (g:M Bool):Prop:=PT X e (tTD X.K B g)
def TW (X:Cx) (B:BB) (e:Expr) (g:M Bool):Prop:=PW X e (tTD X.K B g)
def AD (X:Cx) (B:BB) (es:List Expr) (g:M (List D)):Prop:=PA X es (tAD X.K B g)
section
variable {X:Cx}{e:Expr}
theorem PE.imp {t t':TE} (h:PE X e t) (f:∀ U H Q,t' U H Q->t U H Q):PE X e t':=λaa s U H Q I q=>h aa s U H Q I (f U H Q q)
theorem PT.imp {t t':TT} (h:PT X e t) (f:∀ U H Q,t' U H Q->t U H Q):PT X e t':=λaa s U H Q I q=>h aa s U H Q I (f U H Q q)
theorem PW.imp {t t':TT} (h:PW X e t) (f:∀ U H Q,t' U H Q->t U H Q):PW X e t':=λwh aa s U H Q I q=>h wh aa s U H Q I (f U H Q q)
theorem PA.imp {es:List Expr}{t t':TA} (h:PA X es t) (f:∀ U H Q,t' U H Q->t U H Q):PA X es t':=λpos aa s U H Q I q=>h pos aa s U H Q I (f U H Q q)
end
section
variable {K:PySem.W.Frag}{B:BB}{G I I1 I2 H H1:Hp}{U:L2.St}{Y ab ae:Gm}{d:D}{ds:List D}{Q:VK}
theorem KD.now (k:KD K B G I U Y d Q) (r:Rep K B G I H U Y){v:V} (h:Is K I d v):Q v H:=k v H I r (Grow.refl _ _) h
theorem KD.after (k:KD K B G I U ae d Q) (g:Grow G I I1):KD K B G I1 U ae d Q:=λv H' I' r g' h=>k v H' I' r (g.trans g') h
theorem KO.after (k:KO K B G I U ae ds Q) (g:Grow G I I1):KO K B G I1 U ae ds Q:=λp xs H' I' r g'=>k p xs H' I' r (g.trans g')
theorem KT.after {b:Bool}{Q:Bool->Hp->Prop} (k:KT K B G I U ae b Q) (g:Grow G I I1):KT K B G I1 U ae b Q:=λH' I' r g'=>k H' I' r (g.trans g')
theorem KD.tup (k:KD K B G I U Y (.tup ds) Q) (r:Rep K B G I H U Y){p:Addr}{xs:List V} (hp:H p=none) (h:IsA K I ds xs):Q (.ref p) (upd H p (.tup xs)) :=
 k _ _ _ (r.alloc hp _) (r.growAlloc hp _) (Is.tup (SqT.of ap') (h.mono (aL' (r.iFree hp) _)))
theorem KO.new (k:KO K B G I U Y ds Q) (r:Rep K B G I H U Y){p:Addr}{xs:List V} (hp:H p=none) (h:IsA K I ds xs):Q (.ref p) (upd H p (.lst xs)) :=
 k p xs _ I (r.fresh hp _) (Grow.refl _ _) ap' (r.iFree hp) (r.gFree hp) (r.apart hp) h
end
section
variable {X:Cx}{B:BB}{a b c e:Expr}{es:List Expr}{pos:Pos}{ga gb gc:M D}
noncomputable def frz (g:M (List D)):M D:=bnd g λds=>ret (.lst ds)
theorem am' {g:M (List D)} (h:EO X B e g):ED X B e (frz g):=PE.imp h λU H Q q=>by
 obtain ⟨G,I,Y,d,ae,r,e1,k⟩:=q
 obtain ⟨ds,ab,e2,e3⟩:=af' e1
 cases e3
 refine ⟨G,I,Y,ds,_,r,e2,λp xs H' I' r' g h1 h2 h3 h4 h5=>?_⟩
 exact k _ _ _ (r'.freeze h1 h2 h4) (g.trans (growFreeze h2 h3)) (Is.lst (RdK.of ap') (h5.mono (aL' h2 _)))
noncomputable def nm (i:Nat):M D:=λY=>match Y[i]? with
 | some (some (.val d))=>some (d,Y)
 | some (some (.own ds))=>some (.lst ds,Y.set i (some (.val (.lst ds))))
 | some (some (.fro ds))=>some (.lst ds,Y)
 | _=>none
theorem o4' {i:Nat}{x:Str} (h:PE X (.Name x pos) (tVar i)):ED X B (.Name x pos) (nm i):=PE.imp h λU H Q q=>by
 obtain ⟨G,I,Y,d,ae,r,e1,k⟩:=q
 unfold nm at e1
 cases e:Y[i]? with
 | none=>rw [e] at e1;cases e1
 | some o =>
  cases o with
  | none=>rw [e] at e1;cases e1
  | some q =>
   obtain ⟨v,h1,h2⟩:=r.slot i q e
   cases q with
   | val d'=>rw [e] at e1;cases e1;exact ⟨v,h1,k.now r h2⟩
   | bor ds=>rw [e] at e1;cases e1
   | dic ds=>rw [e] at e1;cases e1
   | fro ds=>rw [e] at e1;cases e1;obtain ⟨p,xs,rfl,f1,f2,f3⟩:=h2;exact ⟨_,h1,k.now r (Is.lst (RdK.of f1) f3)⟩
   | own ds =>
    rw [e] at e1;cases e1
    obtain ⟨p,xs,rfl,g1,g2,g3,g4⟩:=h2
    refine ⟨_,h1,k _ _ (upd I p (.lst xs)) ?_ (growFreeze g2 g3) (Is.lst (RdK.of ap') (g4.mono (aL' g2 _)))⟩
    have ap:Apart U (Y.set i none) p:=λj q' z m s=>by
     rcases aO' z with ⟨_,z',_⟩ | ⟨n,z'⟩
     ·cases z'
     ·exact n (r.dist j i q' (.own ds) _ z' e m rfl s h1)
    have r1:=(r.forget i).freeze g1 g2 ap
    have r2:=r1.learn (i:=i) (q:=.val (.lst ds)) h1 (Is.lst (RdK.of ap') (g4.mono (aL' g2 _))) (λm=>nomatch m) (λ_ z=>nomatch z)
    rw [set_set] at r2
    exact r2
theorem ed_c {d:D}{v:V} (h:PE X e (tC v)) (hd:∀ I,Is X.K I d v):ED X B e (ret d):=PE.imp h λU H Q q=>by
 obtain ⟨G,I,Y,d',ae,r,e1,k⟩:=q
 cases e1
 exact k.now r (hd I)
theorem ac' {i j}:ED X B (.Constant (.int i) j pos) (ret (.int i)):=ed_c ql' λ_=>Is.int i
theorem cC' {b j}:ED X B (.Constant (.bool b) j pos) (ret (.bl b)):=ed_c ru' λ_=>Is.bl b
theorem eH' {j}:ED X B (.Constant .none j pos) (ret .non):=ed_c qm' λ_=>Is.non
theorem a3' {x j}:ED X B (.Constant (.str x) j pos) (ret (.str x)):=ed_c qn' λ_=>Is.str x
noncomputable def nilA:M (List D):=ret []
noncomputable def consA (g:M D) (t:M (List D)):M (List D):=bnd g λd=>bnd t λds=>ret (d::ds)
theorem ab':AD X B [] nilA:=PA.imp gH' λU H Q q=>by
 obtain ⟨G,I,Y,d,ae,r,e1,k⟩:=q
 cases e1
 exact k _ _ _ r (Grow.refl _ _) IsA.nil
theorem pv' {g:M D}{t:M (List D)} (ha:ED X B e g) (hr:AD X B es t) (hs:starEach (e::es) X.env=(false,eval e X.env)::starEach es X.env:=by rfl):AD X B (e::es) (consA g t) :=
 PA.imp (eG' ha hr hs) λU H Q q=>by
  obtain ⟨G,I,Y,d,ae,r,e1,k⟩:=q
  obtain ⟨d1,ab,e2,e3⟩:=af' e1
  obtain ⟨d2,ah,e4,e5⟩:=af' e3
  cases e5
  exact ⟨G,I,Y,d1,ab,r,e2,λv H1 I1 r1 g1 h1=>⟨G,I1,ab,d2,_,r1,e4,λvs H2 I2 r2 g2 h2=>k _ _ _ r2 (g1.trans g2) (IsA.cons (h1.mono g2.up) h2)⟩⟩
noncomputable def lim:Nat:=1000000
theorem dQ' {n:Nat} (h:n<=lim):n<=sizeLine:=le_trans h (by rw [sizeLine_eq];decide)
noncomputable def tupA (t:M (List D)):M D:=bnd t λds=>lft (if ds.length<=lim then some (.tup ds) else none)
noncomputable def lstA (t:M (List D)):M (List D):=bnd t λds=>lft (if ds.length<=lim then some ds else none)
theorem aG' {α:Type}{c:Prop} [Decidable c]{a b:α} (h:(if c then some a else none)=some b):c/\b=a:=by
 by_cases hc:c
 ·rw [if_pos hc] at h;exact ⟨hc,(Option.some.inj h).symm⟩
 ·rw [if_neg hc] at h;cases h
theorem aJ' {x1}{t:M (List D)} (h:AD X B es t):ED X B (.Tuple es x1 pos) (tupA t):=PE.imp (qE' h) λU H Q q=>by
 obtain ⟨G,I,Y,d,ae,r,e1,k⟩:=q
 obtain ⟨d1,ab,e2,e3⟩:=af' e1
 obtain ⟨e4,rfl⟩:=ay' e3
 obtain ⟨hl,rfl⟩:=aG' e4
 refine ⟨G,I,Y,d1,_,r,e2,λvs H1 I1 r1 g1 h1=>⟨?_,λp hp=>(k.after g1).tup r1 hp h1⟩⟩
 rw [← h1.length];exact dQ' hl
theorem aC' {t:M (List D)} (h:AD X B es t):EO X B (.List es pos) (lstA t):=PE.imp (qF' h) λU H Q q=>by
 obtain ⟨G,I,Y,d,ae,r,e1,k⟩:=q
 obtain ⟨d1,ab,e2,e3⟩:=af' e1
 obtain ⟨e4,rfl⟩:=ay' e3
 obtain ⟨hl,rfl⟩:=aG' e4
 refine ⟨G,I,Y,_,_,r,e2,λvs H1 I1 r1 g1 h1=>⟨?_,λp hp=>(k.after g1).new r1 hp h1⟩⟩
 rw [← h1.length];exact dQ' hl
def OpD (K:PySem.W.Frag) (r:R2) (F:D->D->Option D):Prop:=∀ a b d,F a b=some d->∀ (B:BB) (G I H:Hp) (U:L2.St) (Y:Gm) (x y:V) (Q:VK),Rep K B G I H U Y->Is K I a x->Is K I b y->KD K B G I U Y d Q->r x y H Q
def OpO (K:PySem.W.Frag) (r:R2) (F:D->D->Option (List D)):Prop:=∀ a b d,F a b=some d->∀ (B:BB) (G I H:Hp) (U:L2.St) (Y:Gm) (x y:V) (Q:VK),Rep K B G I H U Y->Is K I a x->Is K I b y->KO K B G I U Y d Q->r x y H Q
def CallD (K:PySem.W.Frag) (r:List V->Hp->VK->Prop) (F:List D->Option D):Prop:=∀ ds d,F ds=some d->∀ (B:BB) (G I H:Hp) (U:L2.St) (Y:Gm) (xs:List V) (Q:VK),Rep K B G I H U Y->IsA K I ds xs->KD K B G I U Y d Q->r xs H Q
def CallO (K:PySem.W.Frag) (r:List V->Hp->VK->Prop) (F:List D->Option (List D)):Prop:=∀ ds d,F ds=some d->∀ (B:BB) (G I H:Hp) (U:L2.St) (Y:Gm) (xs:List V) (Q:VK),Rep K B G I H U Y->IsA K I ds xs->KO K B G I U Y d Q->r xs H Q
noncomputable def op2 {α:Type} (F:D->D->Option α) (ga gb:M D):M α:=bnd ga λx=>bnd gb λy=>lft (F x y)
noncomputable def fn1 {α:Type} (F:List D->Option α) (t:M (List D)):M α:=bnd t λds=>lft (F ds)
theorem t_op {r:R2}{F:D->D->Option D}{K:PySem.W.Frag} (h:OpD K r F):∀ U H Q,tD K B (op2 F ga gb) U H Q->tOp r (tD K B ga) (tD K B gb) U H Q:=λU H Q q=>by
 obtain ⟨G,I,Y,d,ae,r,e1,k⟩:=q
 obtain ⟨d1,ab,e2,e3⟩:=af' e1
 obtain ⟨d2,ah,e4,e5⟩:=af' e3
 obtain ⟨e6,rfl⟩:=ay' e5
 exact ⟨G,I,Y,d1,ab,r,e2,λv H1 I1 r1 g1 h1=>⟨G,I1,ab,d2,_,r1,e4,λw H2 I2 r2 g2 h2=>h _ _ _ e6 B G I2 H2 U _ v w Q r2 (h1.mono g2.up) h2 (k.after (g1.trans g2))⟩⟩
theorem o5' {r:R2}{F:D->D->Option (List D)}{K:PySem.W.Frag} (h:OpO K r F):∀ U H Q,tO K B (op2 F ga gb) U H Q->tOp r (tD K B ga) (tD K B gb) U H Q:=λU H Q q=>by
 obtain ⟨G,I,Y,d,ae,r,e1,k⟩:=q
 obtain ⟨d1,ab,e2,e3⟩:=af' e1
 obtain ⟨d2,ah,e4,e5⟩:=af' e3
 obtain ⟨e6,rfl⟩:=ay' e5
 exact ⟨G,I,Y,d1,ab,r,e2,λv H1 I1 r1 g1 h1=>⟨G,I1,ab,d2,_,r1,e4,λw H2 I2 r2 g2 h2=>h _ _ _ e6 B G I2 H2 U _ v w Q r2 (h1.mono g2.up) h2 (k.after (g1.trans g2))⟩⟩
theorem fN' {op:Operator}{r:R2}{F:D->D->Option D} (ho:OpR X (binaryOp op) r) (h:OpD X.K r F) (ha:ED X B a ga) (hb:ED X B b gb):ED X B (.BinOp a op b pos) (op2 F ga gb):=PE.imp (o0' ho ha hb) (t_op h)
theorem rC' {op:Operator}{r:R2}{F:D->D->Option (List D)} (ho:OpR X (binaryOp op) r) (h:OpO X.K r F) (ha:ED X B a ga) (hb:ED X B b gb):EO X B (.BinOp a op b pos) (op2 F ga gb):=PE.imp (o0' ho ha hb) (o5' h)
theorem gK' {op:CmpOp}{r:R2}{F:D->D->Option D} (ho:OpR X (compareOp op) r) (h:OpD X.K r F) (ha:ED X B a ga) (hb:ED X B b gb) (hm:behindInMarks op b=false:=by first | exact nomark _ | rfl):ED X B (.Compare a [op] [b] pos) (op2 F ga gb):=PE.imp (pp' ho ha hb hm) (t_op h)
theorem rD' {r:R2}{F:D->D->Option D} (ho:IxR X r) (h:OpD X.K r F) (ha:ED X B a ga) (hb:ED X B b gb) (hs:PlainIx b:=by exact λ_ _=>rfl):ED X B (.Subscript a b pos) (op2 F ga gb):=PE.imp (o2' ho ha hb hs) (t_op h)
noncomputable def asB (d:D):Option Bool:=match d with
 | .bl b=>some b
 | _=>none
theorem hC' {d:D}{b:Bool} (h:asB d=some b):d=.bl b:=by
 cases d<;>simp [asB] at h
 rw [h]
noncomputable def tst (g:M D):M Bool:=bnd g λd=>lft (asB d)
theorem l0' {K:PySem.W.Frag}{g:M D}{t:TE} (ht:∀ U H Q,tD K B g U H Q->t U H Q):∀ U H Q,tTD K B (tst g) U H Q->tTest t U H Q:=λU H Q q=>by
 obtain ⟨G,I,Y,d,ae,r,e1,k⟩:=q
 obtain ⟨d1,ab,e2,e3⟩:=af' e1
 obtain ⟨e4,rfl⟩:=ay' e3
 have:=hC' e4
 subst this
 exact ht _ _ _ ⟨G,I,Y,_,_,r,e2,λv H1 I1 r1 g1 h1=>⟨d,bG' h1,k _ _ r1 g1⟩⟩
theorem cR' {op:CmpOp}{r:R2}{F:D->D->Option D} (ho:OpR X (compareOp op) r) (h:OpD X.K r F) (ha:ED X B a ga) (hb:ED X B b gb) (hm:behindInMarks op b=false:=by first | exact nomark _ | rfl):TD X B (.Compare a [op] [b] pos) (tst (op2 F ga gb)):=PT.imp (k7' ho ha hb hm) (l0' (t_op h))
theorem jd' (ha:ED X B a ga) (he:∀ bE,isTrue a X.env bE=(do let v ← bE;standAt a.pos;holding [v] (truthy v)):=by intro _;rfl):TD X B a (tst ga):=PT.imp (qo' ha he) (l0' λ_ _ _ z=>z)
noncomputable def chn (F F':D->D->Option D) (ga gb gc:M D):M D:=bnd ga λx=>bnd gb λy=>bnd (lft (F x y)) λz=>bnd (lft (asB z)) λk=>if k then bnd gc λw=>lft (F' y w) else ret (.bl false)
theorem rE' {r r':R2}{F F':D->D->Option D}{K:PySem.W.Frag} (h:OpD K r F) (h':OpD K r' F'):∀ U H Q,tD K B (chn F F' ga gb gc) U H Q->tChain r r' (tD K B ga) (tD K B gb) (tD K B gc) U H Q:=λU H Q q=>by
 obtain ⟨G,I,Y,d,ae,r,e1,k⟩:=q
 obtain ⟨d1,ab,e2,e3⟩:=af' e1
 obtain ⟨d2,ah,e4,e5⟩:=af' e3
 obtain ⟨d3,aQ,e6,e7⟩:=af' e5
 obtain ⟨e8,rfl⟩:=ay' e6
 obtain ⟨k1,aM,e9,f1⟩:=af' e7
 obtain ⟨f2,rfl⟩:=ay' e9
 have:=hC' f2
 subst this
 refine ⟨G,I,Y,d1,ab,r,e2,λv H1 I1 r1 g1 h1=>⟨G,I1,ab,d2,aM,r1,e4,λw H2 I2 r2 g2 h2=>h _ _ _ e8 B G I2 H2 U aM v w _ r2 (h1.mono g2.up) h2 λu H3 I3 r3 g3 h3=>⟨k1,bG' h3,?_⟩⟩⟩
 cases k1 with
 | false=>cases f1;exact iteF (k _ _ _ r3 (g1.trans (g2.trans g3)) (Is.bl false))
 | true =>
  obtain ⟨d4,gJ,f3,f4⟩:=af' f1
  obtain ⟨f5,rfl⟩:=ay' f4
  exact iteT ⟨G,I3,aM,d4,_,r3,f3,λz H4 I4 r4 g4 h4=>h' _ _ _ f5 B G I4 H4 U _ w z Q r4 (h2.mono (g3.trans g4).up) h4 (k.after (g1.trans (g2.trans (g3.trans g4))))⟩
theorem qL' {op eC:CmpOp}{r r':R2}{F F':D->D->Option D} (ho:OpR X (compareOp op) r) (h:OpD X.K r F) (cB:OpR X (compareOp eC) r') (h':OpD X.K r' F') (ha:ED X B a ga) (hb:ED X B b gb) (hc:ED X B c gc)
  (hm:lastMarks [op,eC] [b,c]=false:=by with_unfolding_all rfl):ED X B (.Compare a [op,eC] [b,c] pos) (chn F F' ga gb gc):=PE.imp (n7' ho cB ha hb hc hm) (rE' h h')
noncomputable def andT (a b:M Bool):M Bool:=bnd a λk=>if k then b else ret false
noncomputable def orT (a b:M Bool):M Bool:=bnd a λk=>if k then ret true else b
noncomputable def notT (a:M Bool):M Bool:=bnd a λk=>ret (!k)
noncomputable def andV (a b:M D):M D:=bnd a λd=>bnd (lft (asB d)) λk=>if k then b else ret (.bl false)
variable {ta tb:M Bool}{ay:List Expr}
theorem hD' (ha:TD X B a ta):TW X B (.BoolOp .And [a] pos) ta:=pj' ha
theorem fj' (ha:TD X B a ta):TW X B (.BoolOp .Or [a] pos) ta:=qp' ha
theorem gL' (ha:TD X B a ta) (hb:TW X B (.BoolOp .And (b::ay) pos) tb):TW X B (.BoolOp .And (a::b::ay) pos) (andT ta tb):=PW.imp (qq' ha hb) λU H Q q=>by
 obtain ⟨G,I,Y,d,ae,r,e1,k⟩:=q
 obtain ⟨d1,ab,e2,e3⟩:=af' e1
 refine ⟨G,I,Y,d1,ab,r,e2,λH1 I1 r1 g1=>?_⟩
 cases d1 with
 | true=>exact iteT ⟨G,I1,ab,d,ae,r1,e3,k.after g1⟩
 | false=>cases e3;exact iteF (k _ _ r1 g1)
theorem gM' (ha:TD X B a ta) (hb:TW X B (.BoolOp .Or (b::ay) pos) tb):TW X B (.BoolOp .Or (a::b::ay) pos) (orT ta tb):=PW.imp (rv' ha hb) λU H Q q=>by
 obtain ⟨G,I,Y,d,ae,r,e1,k⟩:=q
 obtain ⟨d1,ab,e2,e3⟩:=af' e1
 refine ⟨G,I,Y,d1,ab,r,e2,λH1 I1 r1 g1=>?_⟩
 cases d1 with
 | false=>exact iteF ⟨G,I1,ab,d,ae,r1,e3,k.after g1⟩
 | true=>cases e3;exact iteT (k _ _ r1 g1)
theorem TW.td (h:TW X B e ta):TD X B e ta:=h _
theorem qM' (ha:TD X B a ta):TD X B (.UnaryOp .Not a pos) (notT ta):=PT.imp (qs' ha) λU H Q q=>by
 obtain ⟨G,I,Y,d,ae,r,e1,k⟩:=q
 obtain ⟨d1,ab,e2,e3⟩:=af' e1
 cases e3
 exact ⟨G,I,Y,d1,_,r,e2,λH1 I1 r1 g1=>k _ _ r1 g1⟩
theorem je' {op} (h:ED X B a ga):ED X B (.BoolOp op [a] pos) ga:=qt' h
theorem jf' (ha:ED X B a ga) (hb:ED X B (.BoolOp .And (b::ay) pos) gb):ED X B (.BoolOp .And (a::b::ay) pos) (andV ga gb):=PE.imp (qu' ha hb) λU H Q q=>by
 obtain ⟨G,I,Y,d,ae,r,e1,k⟩:=q
 obtain ⟨d1,ab,e2,e3⟩:=af' e1
 obtain ⟨k1,ah,e4,e5⟩:=af' e3
 obtain ⟨e6,rfl⟩:=ay' e4
 have:=hC' e6
 subst this
 refine ⟨G,I,Y,_,_,r,e2,λv H1 I1 r1 g1 h1=>⟨k1,bG' h1,?_⟩⟩
 cases k1 with
 | true=>exact iteT ⟨G,I1,_,d,ae,r1,e5,k.after g1⟩
 | false=>cases e5;exact iteF (k _ _ _ r1 g1 (Is.bl false))
variable {x:Str}{p:Pos}{id T:String}{r:List V->Hp->VK->Prop}{t:M (List D)}
theorem t_fn {F:List D->Option D}{K:PySem.W.Frag} (h:CallD K r F):∀ U H Q,tD K B (fn1 F t) U H Q->tCB r (tAD K B t) U H Q:=λU H Q q=>by
 obtain ⟨G,I,Y,d,ae,r,e1,k⟩:=q
 obtain ⟨d1,ab,e2,e3⟩:=af' e1
 obtain ⟨e4,rfl⟩:=ay' e3
 exact ⟨G,I,Y,d1,_,r,e2,λvs H1 I1 r1 g1 h1=>h _ _ e4 B G I1 H1 U _ vs Q r1 h1 (k.after g1)⟩
theorem l1' {F:List D->Option (List D)}{K:PySem.W.Frag} (h:CallO K r F):∀ U H Q,tO K B (fn1 F t) U H Q->tCB r (tAD K B t) U H Q:=λU H Q q=>by
 obtain ⟨G,I,Y,d,ae,r,e1,k⟩:=q
 obtain ⟨d1,ab,e2,e3⟩:=af' e1
 obtain ⟨e4,rfl⟩:=ay' e3
 exact ⟨G,I,Y,d1,_,r,e2,λvs H1 I1 r1 g1 h1=>h _ _ e4 B G I1 H1 U _ vs Q r1 h1 (k.after g1)⟩
theorem dR' {F:List D->Option D} (hc:CallR X (.builtin id) r) (h:CallD X.K r F) (hg:Gl X x) (hm:X.mg x=none) (hv:bootBuiltins x=some (.builtin id)) (ha:AD X B (e::es) t) (hn:x ≠ "__name__":=by decide) (bb:(x == ("__debug__":Str))=false:=by decide)
  (he:starEach (e::es) X.env=(false,eval e X.env)::starEach es X.env:=by rfl) (au:(backTo pos (starEach es X.env)).any (·.1)=false:=by rfl):ED X B (.Call (.Name x p) (e::es) [] pos) (fn1 F t):=PE.imp (ge' hc hg hm hv ha hn bb he au) (t_fn h)
theorem qN' {F:List D->Option (List D)} (hc:CallR X (.builtin id) r) (h:CallO X.K r F) (hg:Gl X x) (hm:X.mg x=none) (hv:bootBuiltins x=some (.builtin id)) (ha:AD X B (e::es) t) (hn:x ≠ "__name__":=by decide) (bb:(x == ("__debug__":Str))=false:=by decide)
  (he:starEach (e::es) X.env=(false,eval e X.env)::starEach es X.env:=by rfl) (au:(backTo pos (starEach es X.env)).any (·.1)=false:=by rfl):EO X B (.Call (.Name x p) (e::es) [] pos) (fn1 F t):=PE.imp (ge' hc hg hm hv ha hn bb he au) (l1' h)
theorem qO' {F:List D->Option D} (hc:CallR X (.type T) r) (h:CallD X.K r F) (hg:Gl X x) (hm:X.mg x=none) (hv:bootBuiltins x=some (.type T)) (ha:AD X B (e::es) t) (hn:x ≠ "__name__":=by decide) (bb:(x == ("__debug__":Str))=false:=by decide)
  (he:starEach (e::es) X.env=(false,eval e X.env)::starEach es X.env:=by rfl) (au:(backTo pos (starEach es X.env)).any (·.1)=false:=by rfl):ED X B (.Call (.Name x p) (e::es) [] pos) (fn1 F t):=PE.imp (h8' hc hg hm hv ha hn bb he au) (t_fn h)
theorem qP' {F:List D->Option (List D)} (hc:CallR X (.type T) r) (h:CallO X.K r F) (hg:Gl X x) (hm:X.mg x=none) (hv:bootBuiltins x=some (.type T)) (ha:AD X B (e::es) t) (hn:x ≠ "__name__":=by decide) (bb:(x == ("__debug__":Str))=false:=by decide)
  (he:starEach (e::es) X.env=(false,eval e X.env)::starEach es X.env:=by rfl) (au:(backTo pos (starEach es X.env)).any (·.1)=false:=by rfl):EO X B (.Call (.Name x p) (e::es) [] pos) (fn1 F t):=PE.imp (h8' hc hg hm hv ha hn bb he au) (l1' h)
end
inductive Fl where
 | nx | rt (r:R) | bk | ct
def ResOk (K:PySem.W.Frag) (G I H:Hp) (U:L2.St) (Y:Gm):R->V->Prop
 | .val d,v=>Is K I d v
 | .own ds,v=>∃ p xs,v=.ref p/\H p=some (.lst xs)/\I p=none/\G p=none/\Apart U Y p/\IsA K I ds xs
 | .bor _,_=>False
 | .fro ds,v=>∃ p xs,v=.ref p/\I p=some (.lst xs)/\G p=none/\IsA K I ds xs
 | .dic aH,v=>∃ p xs,v=.ref p/\H p=some (.dK xs)/\I p=none/\G p=none/\Apart U Y p/\IsK K I aH xs
def EndAt (K:PySem.W.Frag) (G I H:Hp) (U:L2.St) (Y:Gm) (E:Ends):Fl->Prop
 | .nx=>E.nx U H
 | .bk=>E.bk U H
 | .ct=>E.ct U H
 | .rt r=>∀ v,ResOk K G I H U Y r v->E.rt v H
section
variable (K:PySem.W.Frag) (B:BB)
def KS (G I:Hp) (ae:Gm) (f:Fl) (E:Ends):Prop:=∀ aj H' I',Rep K B G I' H' aj ae->Grow G I I'->EndAt K G I' H' aj ae E f
noncomputable def tS (g:M Fl):TS:=λE U H=>∃ G I Y f ae,Rep K B G I H U Y/\g Y=some (f,ae)/\KS K B G I ae f E
def KG (m:Nat) (U:L2.St) (G I:Hp) (ae:Gm) (Q:L2.St->Hp->Prop):Prop:=∀ aj H' I',Rep K B G I' H' aj ae->Grow G I I'->aj.drop m=U.drop m->Q aj H'
noncomputable def tGD (m:Nat) (f:D->M Unit):TG:=λv U H Q=>∃ G I Y d ae,Rep K B G I H U Y/\Is K I d v/\f d Y=some ((),ae)/\KG K B m U G I ae Q
noncomputable def tGs (m:Nat) (f:List D->M Unit):TGs:=λvs U H Q=>∃ G I Y ds ae,Rep K B G I H U Y/\IsA K I ds vs/\f ds Y=some ((),ae)/\KG K B m U G I ae Q
end
def SD (X:Cx) (B:BB) (st:Stmt) (g:M Fl):Prop:=PS X st (tS X.K B g)
def SDs (X:Cx) (B:BB) (st:List Stmt) (g:M Fl):Prop:=PSs X st (tS X.K B g)
def GD (X:Cx) (B:BB) (m:Nat) (tg:Expr) (f:D->M Unit):Prop:=PG X tg (tGD X.K B m f)
def GDs (X:Cx) (B:BB) (m:Nat) (iI:List Expr) (f:List D->M Unit):Prop:=PGs X iI (tGs X.K B m f)
section
variable {X:Cx}
theorem PS.imp {st:Stmt}{t t':TS} (h:PS X st t) (f:∀ E U H,t' E U H->t E U H):PS X st t':=λaa s U H E I q=>h aa s U H E I (f E U H q)
theorem PSs.imp {st:List Stmt}{t t':TS} (h:PSs X st t) (f:∀ E U H,t' E U H->t E U H):PSs X st t':=λaa s U H E I q=>h aa s U H E I (f E U H q)
theorem PG.imp {tg:Expr}{t t':TG} (h:PG X tg t) (f:∀ v U H Q,t' v U H Q->t v U H Q):PG X tg t':=λaa s U H v u Q I r q=>h aa s U H v u Q I r (f v U H Q q)
theorem PGs.imp {iI:List Expr}{t t':TGs} (h:PGs X iI t) (f:∀ v U H Q,t' v U H Q->t v U H Q):PGs X iI t':=λaa s U H v u Q I r q=>h aa s U H v u Q I r (f v U H Q q)
theorem PI.imp {tg iter:Expr}{t t':TI} (h:PI X tg iter t) (f:∀ U H Q,t' U H Q->t U H Q):PI X tg iter t':=λaa s U H R I q=>h aa s U H R I (f U H R q)
end
section
variable {K:PySem.W.Frag}{B:BB}{G I I1 H:Hp}{Y ae:Gm}{f:Fl}{E:Ends}
theorem KS.after (k:KS K B G I ae f E) (g:Grow G I I1):KS K B G I1 ae f E:=λaj H' I' r g'=>k aj H' I' r (g.trans g')
theorem KG.after {m:Nat}{U bU:L2.St}{Q:L2.St->Hp->Prop} (k:KG K B m U G I ae Q) (g:Grow G I I1) (hs:bU.drop m=U.drop m):KG K B m bU G I1 ae Q:=λaj H' I' r g' z=>k aj H' I' r (g.trans g') (z.trans hs)
end
section
variable {X:Cx}{B:BB}{a b c e:Expr}{es:List Expr}{pos:Pos}{ga gb gc:M D}{st:Stmt}{ay:List Stmt}{g h:M Fl}
noncomputable def seqS (g h:M Fl):M Fl:=bnd g λf=>match f with
 | .nx=>h
 | .rt r=>ret (.rt r)
 | .bk=>ret .bk
 | .ct=>ret .ct
theorem pw':SDs X B [] (ret .nx):=PSs.imp pk' λE U H q=>by
 obtain ⟨G,I,Y,f,ae,r,e1,k⟩:=q
 cases e1
 exact k U H I r (Grow.refl _ _)
theorem px' (h:SD X B st g):SDs X B [st] g:=pl' h
theorem ob' (h1:SD X B st g) (h2:SDs X B ay h):SDs X B (st::ay) (seqS g h):=PSs.imp (n2' h1 h2) λE U H q=>by
 obtain ⟨G,I,Y,f,ae,r,e1,k⟩:=q
 obtain ⟨f1,ab,e2,e3⟩:=af' e1
 refine ⟨G,I,Y,f1,ab,r,e2,λbU H1 I1 r1 g1=>?_⟩
 cases f1 with
 | nx=>exact ⟨G,I1,ab,f,ae,r1,e3,k.after g1⟩
 | bk=>cases e3;exact k bU H1 I1 r1 g1
 | ct=>cases e3;exact k bU H1 I1 r1 g1
 | rt v=>cases e3;exact k bU H1 I1 r1 g1
theorem od':SD X B st (λ_=>none):=PS.imp n3' λE U H q=>by
 obtain ⟨G,I,Y,f,ae,r,e1,k⟩:=q
 cases e1
noncomputable def dropS (g:M D):M Fl:=bnd g λ_=>ret .nx
theorem dM' (he:ED X B e ga) (hs:swapsWith e none pos.line X.env=pure false:=by rfl):SD X B (.Expr e pos) (dropS ga):=PS.imp (hA' he hs) λE U H q=>by
 obtain ⟨G,I,Y,f,ae,r,e1,k⟩:=q
 obtain ⟨d1,ab,e2,e3⟩:=af' e1
 cases e3
 exact ⟨G,I,Y,d1,_,r,e2,λv H1 I1 r1 g1 h1=>k U H1 I1 r1 g1⟩
noncomputable def retS (g:M D):M Fl:=bnd g λd=>ret (.rt (.val d))
theorem ao' (he:ED X B e ga):SD X B (.Return (some e) pos) (retS ga):=PS.imp (i9' he) λE U H q=>by
 obtain ⟨G,I,Y,f,ae,r,e1,k⟩:=q
 obtain ⟨d1,ab,e2,e3⟩:=af' e1
 cases e3
 exact ⟨G,I,Y,d1,_,r,e2,λv H1 I1 r1 g1 h1=>k U H1 I1 r1 g1 v h1⟩
noncomputable def retO (g:M (List D)):M Fl:=bnd g λd=>ret (.rt (.own d))
theorem hE' {g:M (List D)} (he:EO X B e g):SD X B (.Return (some e) pos) (retO g):=PS.imp (i9' he) λE U H q=>by
 obtain ⟨G,I,Y,f,ae,r,e1,k⟩:=q
 obtain ⟨d1,ab,e2,e3⟩:=af' e1
 cases e3
 exact ⟨G,I,Y,d1,_,r,e2,λp xs H1 I1 r1 g1 h1 h2 h3 h4 h5=>k U H1 I1 r1 g1 _ ⟨p,xs,rfl,h1,h2,h3,h4,h5⟩⟩
noncomputable def ifS (c:M Bool) (a b:M Fl):M Fl:=bnd c λk=>if k then a else b
theorem rF' {tc:M Bool}{sa sb:List Stmt} (hc:TD X B c tc) (ha:SDs X B sa g) (hb:SDs X B sb h):SD X B (.If c sa sb pos) (ifS tc g h):=PS.imp (rx' hc ha hb) λE U H q=>by
 obtain ⟨G,I,Y,f,ae,r,e1,k⟩:=q
 obtain ⟨d1,ab,e2,e3⟩:=af' e1
 refine ⟨G,I,Y,d1,ab,r,e2,λH1 I1 r1 g1=>?_⟩
 cases d1 with
 | true=>exact iteT ⟨G,I1,ab,f,ae,r1,e3,k.after g1⟩
 | false=>exact iteF ⟨G,I1,ab,f,ae,r1,e3,k.after g1⟩
noncomputable def putS (i:Nat) (q:R):M Unit:=λY=>if i < Y.length then some ((),Y.set i (some q)) else none
noncomputable def tgN (i:Nat) (d:D):M Unit:=putS i (.val d)
theorem c9' {i:Nat}{q:R}{Y ae:Gm}{u:Unit} (h:putS i q Y=some (u,ae)):i < Y.length/\ae=Y.set i (some q):=by
 unfold putS at h
 obtain ⟨h1,h2⟩:=aG' h
 cases h2
 exact ⟨h1,rfl⟩
theorem jg' {α:Type}:∀ {l:List α}{i m:Nat}{a:α},i < m->(l.set i a).drop m=l.drop m
 | [],_,_,_,_=>rfl
 | _::_,0,m+1,_,_=>rfl
 | _::r,i+1,m+1,a,h=>by
  rw [List.set_cons_succ,drop_succ_cons,drop_succ_cons]
  exact jg' (Nat.lt_of_succ_lt_succ h)
theorem gd_n {i m:Nat}{x:Str} (hN:X.N.Nodup) (hi:X.N[i]?=some x:=by rfl) (hx:locB X.env.scope x=true:=by rfl) (hf:fnB X x=true:=by rfl) (va:i < m:=by decide):GD X B m (.Name x pos) (tgN i) :=
 PG.imp (pm' hN hi (locI hx) (fnI hf)) λv U H Q q=>by
  obtain ⟨G,I,Y,d,ae,r,hd,e1,k⟩:=q
  obtain ⟨hl,rfl⟩:=c9' e1
  exact k _ _ I (r.store (by rw [r.len];exact hl) hd (λm=>nomatch m) (λ_ z=>nomatch z)) (Grow.refl _ _) (jg' va)
noncomputable def tgNil (ds:List D):M Unit:=match ds with
 | []=>ret ()
 | _=>λ_=>none
noncomputable def tgCons (f:D->M Unit) (t:List D->M Unit) (ds:List D):M Unit:=match ds with
 | d::r=>bnd (f d) λ_=>t r
 | []=>λ_=>none
theorem cG' {m:Nat}:GDs X B m [] tgNil:=PGs.imp pn' λv U H Q q=>by
 obtain ⟨G,I,Y,ds,ae,r,hd,e1,k⟩:=q
 cases ds with
 | nil=>cases e1;exact ⟨hd.nil_inv,k _ _ I r (Grow.refl _ _) rfl⟩
 | cons d t=>cases e1
theorem aP' {m:Nat}{f:D->M Unit}{t:List D->M Unit} (h1:GD X B m e f) (h2:GDs X B m es t) (hs:(assignEach (e::es) X.env).map (·.2)=assign e X.env::(assignEach es X.env).map (·.2):=by rfl):GDs X B m (e::es) (tgCons f t):=PGs.imp (n4' h1 h2 hs) λv U H Q q=>by
 obtain ⟨G,I,Y,ds,ae,r,hd,e1,k⟩:=q
 cases ds with
 | nil=>cases e1
 | cons d t =>
  obtain ⟨x,xs,rfl,h1,h2⟩:=hd.cons_inv
  obtain ⟨u,ab,e2,e3⟩:=af' e1
  exact ⟨x,xs,rfl,G,I,Y,d,ab,r,h1,e2,λbU H1 I1 r1 g1 z=>⟨G,I1,ab,t,ae,r1,h2.mono g1.up,e3,k.after g1 z⟩⟩
noncomputable def tgTup (n:Nat) (t:List D->M Unit) (d:D):M Unit:=match d with
 | .tup ds=>if ds.length=n then t ds else λ_=>none
 | _=>λ_=>none
theorem dn' {k m:Nat}{t:List D->M Unit}{n:Nat} (hc:X.calm=true) (h:GDs X B m es t) (hn:(assignEach es X.env).length=n:=by rfl) (gy:(assignEach es X.env).findIdx? (·.1)=none:=by rfl):GD X B m (.Tuple es k pos) (tgTup n t) :=
 PG.imp (qv' hc h hn gy) λv U H Q q=>by
  obtain ⟨G,I,Y,d,ae,r,hd,e1,k⟩:=q
  cases d with
  | tup ds =>
   obtain ⟨a,xs,rfl,h1,h2⟩:=au' hd
   unfold tgTup at e1
   by_cases hl:ds.length=n
   ·simp only [hl,if_true] at e1
    exact ⟨a,xs,rfl,Same.sqT r.iH h1,by rw [← h2.length];exact hl,G,I,Y,ds,ae,r,h2,e1,k⟩
   ·simp only [hl,if_false] at e1;cases e1
  | _=>cases e1
noncomputable def asgS (g:M D) (f:D->M Unit):M Fl:=bnd g λd=>bnd (f d) λ_=>ret .nx
theorem mJ' {m:Nat}{tg:Expr}{f:D->M Unit} (he:ED X B e ga) (hg:GD X B m tg f) (hs:swapsWithSole [tg] e pos.line X.env=pure false:=by rfl) (hw:swappedStores [tg] e X.env=pure none:=by rfl)
  (h1:(assignEach [tg] X.env).map (·.2)=[assign tg X.env]:=by rfl):SD X B (.Assign [tg] e pos) (asgS ga f):=PS.imp (my' he hg hs hw h1) λE U H q=>by
 obtain ⟨G,I,Y,f,ae,r,e1,k⟩:=q
 obtain ⟨d1,ab,e2,e3⟩:=af' e1
 obtain ⟨d2,ah,e4,e5⟩:=af' e3
 cases e5
 exact ⟨G,I,Y,d1,ab,r,e2,λv H1 I1 r1 g1 h1=>⟨G,I1,ab,d1,_,r1,h1,e4,λaP H2 I2 r2 g2 _=>k aP H2 I2 r2 (g1.trans g2)⟩⟩
noncomputable def setV (i:Nat) (g:M D):M Fl:=bnd g λd=>bnd (putS i (.val d)) λ_=>ret .nx
noncomputable def setO (i:Nat) (g:M (List D)):M Fl:=bnd g λd=>bnd (putS i (.own d)) λ_=>ret .nx
theorem qQ' {K:PySem.W.Frag}{i:Nat}:∀ E U H,tS K B (setV i ga) E U H->tAsg (tD K B ga) (gName i) E U H:=λE U H q=>by
 obtain ⟨G,I,Y,f,ae,r,e1,k⟩:=q
 obtain ⟨d1,ab,e2,e3⟩:=af' e1
 obtain ⟨d2,ah,e4,e5⟩:=af' e3
 cases e5
 obtain ⟨hl,rfl⟩:=c9' e4
 exact ⟨G,I,Y,d1,ab,r,e2,λv H1 I1 r1 g1 h1=>k _ H1 I1 (r1.store (by rw [r1.len];exact hl) h1 (λm=>nomatch m) (λ_ z=>nomatch z)) g1⟩
theorem qR' {K:PySem.W.Frag}{i:Nat}{g:M (List D)}:∀ E U H,tS K B (setO i g) E U H->tAsg (tO K B g) (gName i) E U H:=λE U H q=>by
 obtain ⟨G,I,Y,f,ae,r,e1,k⟩:=q
 obtain ⟨d1,ab,e2,e3⟩:=af' e1
 obtain ⟨d2,ah,e4,e5⟩:=af' e3
 cases e5
 obtain ⟨hl,rfl⟩:=c9' e4
 exact ⟨G,I,Y,d1,ab,r,e2,λp xs H1 I1 r1 g1 h1 h2 h3 h4 h5=>k _ H1 I1 (r1.store (by rw [r1.len];exact hl) ⟨p,xs,rfl,h1,h2,h3,h5⟩ (λ_ p' z=>by cases z;exact h4) (λ_ z=>nomatch z)) g1⟩
theorem qS' {i:Nat}{x:Str}{ax:Pos} (hN:X.N.Nodup) (he:ED X B e ga) (hi:X.N[i]?=some x:=by rfl) (hx:locB X.env.scope x=true:=by rfl) (hs:swapsWith e (some (.Name x ax)) pos.line X.env=pure false:=by rfl)
  (hf:fnB X x=true:=by rfl):SD X B (.Assign [.Name x ax] e pos) (setV i ga):=PS.imp (gG' hN hi (locI hx) he hs (fnI hf)) qQ'
theorem cj' {i:Nat}{x:Str}{ax:Pos}{g:M (List D)} (hN:X.N.Nodup) (he:EO X B e g) (hi:X.N[i]?=some x:=by rfl) (hx:locB X.env.scope x=true:=by rfl) (hs:swapsWith e (some (.Name x ax)) pos.line X.env=pure false:=by rfl)
  (hf:fnB X x=true:=by rfl):SD X B (.Assign [.Name x ax] e pos) (setO i g):=PS.imp (gG' hN hi (locI hx) he hs (fnI hf)) qR'
noncomputable def isMut (Y:Gm) (i:Nat):Bool:=match Y[i]? with
 | some (some r)=>r.mut
 | _=>false
noncomputable def wr (i:Nat) (F:List D->Option (List D)):M Unit:=λY=>match Y[i]? with
 | some (some (.own ds))=>match F ds with
  | some es=>some ((),Y.set i (some (.own es)))
  | none=>none
 | some (some (.bor ds))=>match F ds with
  | some es=>some ((),Y.set i (some (.bor es)))
  | none=>none
 | _=>none
theorem cH' {K:PySem.W.Frag}{G I H:Hp}{U:L2.St}{Y:Gm}{i:Nat} (h:isMut Y i=true) (r:Rep K B G I H U Y):∃ p xs,U[i]?=some (some (.ref p))/\H p=some (.lst xs):=by
 unfold isMut at h
 cases e:Y[i]? with
 | none=>rw [e] at h;cases h
 | some o =>
  cases o with
  | none=>rw [e] at h;cases h
  | some q =>
   rw [e] at h
   obtain ⟨v,h1,h2⟩:=r.slot i q e
   cases q with
   | val d=>cases h
   | fro d=>cases h
   | dic d=>cases h
   | own d=>obtain ⟨p,xs,rfl,h3,_⟩:=h2;exact ⟨p,xs,h1,h3⟩
   | bor d=>obtain ⟨p,xs,rfl,h3,_⟩:=h2;exact ⟨p,xs,h1,h3⟩
theorem jh' {K:PySem.W.Frag}{G I H:Hp}{U:L2.St}{Y ae:Gm}{i:Nat}{F:List D->Option (List D)}{u:Unit} (h:wr i F Y=some (u,ae)) (r:Rep K B G I H U Y) :
  ∃ p xs ds es,U[i]?=some (some (.ref p))/\H p=some (.lst xs)/\IsA K I ds xs/\F ds=some es/\∀ ys,IsA K I es ys->Rep K B G I (upd H p (.lst ys)) U ae:=by
 unfold wr at h
 cases e:Y[i]? with
 | none=>rw [e] at h;cases h
 | some o =>
  cases o with
  | none=>rw [e] at h;cases h
  | some q =>
   obtain ⟨v,h1,h2⟩:=r.slot i q e
   cases q with
   | val d=>rw [e] at h;cases h
   | fro d=>rw [e] at h;cases h
   | dic d=>rw [e] at h;cases h
   | own ds =>
    rw [e] at h
    obtain ⟨p,xs,rfl,g1,g2,g3,g4⟩:=h2
    cases hf:F ds with
    | none=>simp only [hf] at h;cases h
    | some es =>
     simp only [hf] at h;cases h
     exact ⟨p,xs,ds,es,h1,g1,g4,hf,λys hy=>r.write e rfl h1 g1 (.inl rfl) hy⟩
   | bor ds =>
    rw [e] at h
    obtain ⟨p,xs,rfl,g1,g2,g3,g4⟩:=h2
    cases hf:F ds with
    | none=>simp only [hf] at h;cases h
    | some es =>
     simp only [hf] at h;cases h
     exact ⟨p,xs,ds,es,h1,g1,g4,hf,λys hy=>r.write e rfl h1 g1 (.inr ⟨rfl,ds,rfl⟩) hy⟩
noncomputable def mutS {α:Type} (i:Nat) (m:M α):M α:=λY=>if isMut Y i then m Y else none
theorem da' {α:Type}{i:Nat}{m:M α}{Y:Gm}{r:α×Gm} (h:mutS i m Y=some r):isMut Y i=true/\m Y=some r:=by
 unfold mutS at h
 by_cases hc:isMut Y i=true
 ·rw [if_pos hc] at h;exact ⟨hc,h⟩
 ·rw [if_neg hc] at h;cases h
noncomputable def appF (d:D) (ds:List D):Option (List D):=if ds.length < lim then some (ds++[d]) else none
noncomputable def extF (d:D) (ds:List D):Option (List D):=match d with
 | .lst es=>if ds.length+es.length<=lim then some (ds++es) else none
 | _=>none
noncomputable def appS (i:Nat) (g:M D):M Fl:=mutS i (bnd g λd=>bnd (wr i (appF d)) λ_=>ret .nx)
noncomputable def extS (i:Nat) (g:M D):M Fl:=mutS i (bnd g λd=>bnd (wr i (extF d)) λ_=>ret .nx)
theorem hF' {aa:List (Addr×Obj)}{U:L2.St}{H:Hp}{s:Shared}{l:Addr}{xs:List V} (I:Inv X aa U H s) (hH:RdK X.K H l xs):xs.length<=sizeLine/\∃ (ac:List Value) (n:Nat),Vals xs ac/\xs.length=ac.length/\s.heap.get? l=some { cls:=.type "list", data:=.seq ac.toArray n }:=by
 rcases hH with hH | ⟨ac,n,h1,h2,h3⟩
 ·obtain ⟨z,ac,n,r,e⟩:=hH.ok I.hok
  exact ⟨z,ac,n,r,r.length,e⟩
 ·exact ⟨by rw [h2.length];exact h3,ac,n,h2,h2.length,I.kIn l _ h1⟩
def rExtendR (K:PySem.W.Frag):V->List V->Hp->VK->Prop:=λx vs H Q=>∃ l b xs zs,x=.ref l/\vs=[.ref b]/\H l=some (.lst xs)/\RdK K H b zs/\xs.length+zs.length<=sizeLine/\Q .non (upd H l (.lst (xs++zs)))
theorem l2':MtM X "list.extend" (rExtendR X.K):=by
 intro aa s U H x vs v us Q I rx rv h
 obtain ⟨l,b,xs,zs,rfl,rfl,hH,hB,hz,q⟩:=h
 cases rx
 obtain ⟨u,rfl,ru⟩:=rv.one
 cases ru
 obtain ⟨z,ac,n,r,hl,e⟩:=I.lstM hH
 obtain ⟨z2,bO,n2,r2,dz,e2⟩:=hF' I hB
 have iE:ac.toArray.size+bO.toArray.size<=sizeLine:=by rw [size_toArray,size_toArray];omega
 have kB:¬ (!ac.toArray.isEmpty&&listTooLong (ac.toArray.size+bO.toArray.size))=true:=by
  rw [notLongL iE,Bool.and_false]
  exact Bool.false_ne_true
 refine call_meets F.slot_list_extend ⟨_,e,rfl⟩ F.entry_list_extend (F.args_list_extend_2 _ _)
  (AutoSeq1.list_extend_list_list_0 l ac.toArray n b bO.toArray n2 kB (by rw [size_toArray];omega) (by omega)) ⟨e,e2,?_⟩
 refine ⟨.non,_,I.lset (its':=ac++bO) hH e (by simp) (r.append r2) ?_,rfl,q⟩
 rw [length_append]
 omega
theorem dS' {i:Nat}{x:Str}{p1 ba az:Pos} (hv:PE X (.Name x p1) (tVar i)) (ha:ED X B e ga) (hs:swapsWith (.Call (.Attribute (.Name x p1) "append" ba) [e] [] az) none pos.line X.env=pure false:=by rfl)
  (gK:starEach [e] X.env=(false,eval e X.env)::starEach [] X.env:=by rfl)
  (cM:attributeBase (.Name x p1) "append" X.env (eval (.Name x p1) X.env)=eval (.Name x p1) X.env:=by rfl)
  (bV:((backTo az (starEach [e] X.env)).all (λx=>!x.1)&&(backToKw az (keywordEach [] X.env)).all (λx=>x.1.isSome)
   &&decide ([e].length+([]:List Keyword).length+(if ([]:List Keyword).isEmpty then 0 else 1) < 30))=true:=by rfl)
  (cN:(ba.endLine == az.line)=true:=by rfl) (bW:(backTo az (starEach [] X.env)).any (·.1)=false:=by rfl) :
  SD X B (.Expr (.Call (.Attribute (.Name x p1) "append" ba) [e] [] az) pos) (appS i ga) :=
 PS.imp (hA' (o3' PySem.F.plainAttrs_list PySem.F.slot_list_append PySem.F.type_list_append h9' hv (eG' ha gH' gK) cM bV cN gK bW) hs) λE U H q=>by
  obtain ⟨G,I,Y,f,ae,r,e1,k⟩:=q
  obtain ⟨hm,e1⟩:=da' e1
  obtain ⟨d1,ab,e2,e3⟩:=af' e1
  obtain ⟨d2,ah,e4,e5⟩:=af' e3
  cases e5
  obtain ⟨p,xs,h1,h2⟩:=cH' hm r
  refine ⟨_,h1,.inl ⟨rfl,xs,SqL.of h2⟩,G,I,Y,d1,ab,r,e2,λv H1 I1 r1 g1 hd=>?_⟩
  obtain ⟨p',bG,ds,es,h3,h4,h5,h6,h7⟩:=jh' e4 r1
  have hp:p'=p:=by rw [h1] at h3;cases h3;rfl
  subst hp
  obtain ⟨hl,rfl⟩:=aG' h6
  refine ⟨p',bG,v,rfl,rfl,h4,?_,k U _ I1 (h7 _ (IsA.append h5 (IsA.cons hd IsA.nil))) g1⟩
  rw [← h5.length]
  exact lt_of_lt_of_le hl (dQ' (le_refl _))
theorem qT' {i:Nat}{x:Str}{p1 ba az:Pos} (hv:PE X (.Name x p1) (tVar i)) (ha:ED X B e ga) (hs:swapsWith (.Call (.Attribute (.Name x p1) "extend" ba) [e] [] az) none pos.line X.env=pure false:=by rfl)
  (gK:starEach [e] X.env=(false,eval e X.env)::starEach [] X.env:=by rfl)
  (cM:attributeBase (.Name x p1) "extend" X.env (eval (.Name x p1) X.env)=eval (.Name x p1) X.env:=by rfl)
  (bV:((backTo az (starEach [e] X.env)).all (λx=>!x.1)&&(backToKw az (keywordEach [] X.env)).all (λx=>x.1.isSome)
   &&decide ([e].length+([]:List Keyword).length+(if ([]:List Keyword).isEmpty then 0 else 1) < 30))=true:=by rfl)
  (cN:(ba.endLine == az.line)=true:=by rfl) (bW:(backTo az (starEach [] X.env)).any (·.1)=false:=by rfl) :
  SD X B (.Expr (.Call (.Attribute (.Name x p1) "extend" ba) [e] [] az) pos) (extS i ga) :=
 PS.imp (hA' (o3' PySem.F.plainAttrs_list PySem.F.slot_list_extend PySem.F.type_list_extend l2' hv (eG' ha gH' gK) cM bV cN gK bW) hs) λE U H q=>by
  obtain ⟨G,I,Y,f,ae,r,e1,k⟩:=q
  obtain ⟨hm,e1⟩:=da' e1
  obtain ⟨d1,ab,e2,e3⟩:=af' e1
  obtain ⟨d2,ah,e4,e5⟩:=af' e3
  cases e5
  obtain ⟨p,xs,h1,h2⟩:=cH' hm r
  refine ⟨_,h1,.inl ⟨rfl,xs,SqL.of h2⟩,G,I,Y,d1,ab,r,e2,λv H1 I1 r1 g1 hd=>?_⟩
  obtain ⟨p',bG,ds,es,h3,h4,h5,h6,h7⟩:=jh' e4 r1
  have hp:p'=p:=by rw [h1] at h3;cases h3;rfl
  subst hp
  cases d1 with
  | lst zs =>
   obtain ⟨a,ys,rfl,i1,i2⟩:=ax' hd
   obtain ⟨hl,rfl⟩:=aG' h6
   refine ⟨p',a,bG,ys,rfl,rfl,h4,Same.rdK r1.iH i1,?_,k U _ I1 (h7 _ (IsA.append h5 i2)) g1⟩
   rw [← h5.length,← i2.length]
   exact dQ' hl
  | _=>cases h6
noncomputable def asI (d:D):Option Int:=match d with
 | .int i=>some i
 | _=>none
theorem lc' {d:D}{i:Int} (h:asI d=some i):d=.int i:=by
 cases d<;>simp [asI] at h
 rw [h]
noncomputable def stF (k:Int) (d:D) (ds:List D):Option (List D):=(ixN ds.length k).map λj=>ds.set j d
noncomputable def stS (i:Nat) (gi gv:M D):M Fl:=bnd gv λd=>mutS i (bnd gi λn=>bnd (lft (asI n)) λk=>bnd (wr i (stF k d)) λ_=>ret .nx)
theorem i3' {i:Nat}{x:Str}{p1 p2:Pos}{ie:Expr}{gi:M D} (hv:PE X (.Name x p1) (tVar i)) (hi:ED X B ie gi) (he:ED X B e ga)
  (ha:∀ v,assign (.Subscript (.Name x p1) ie p2) X.env v=(do
   let ov ← holding [v] (eval (.Name x p1) X.env)
   let iv ← holding [v,ov] (eval ie X.env)
   standAt p2
   holding [v,ov,iv] (setItem ov iv v)
   release [v,ov,iv] []):=by intro _;rfl)
  (hs:swapsWithSole [.Subscript (.Name x p1) ie p2] e pos.line X.env=pure false:=by rfl) (hw:swappedStores [.Subscript (.Name x p1) ie p2] e X.env=pure none:=by rfl)
  (h1:(assignEach [.Subscript (.Name x p1) ie p2] X.env).map (·.2)=[assign (.Subscript (.Name x p1) ie p2) X.env]:=by rfl) :
  SD X B (.Assign [.Subscript (.Name x p1) ie p2] e pos) (stS i gi ga):=PS.imp (my' he (qw' hv hi oa' ha) hs hw h1) λE U H q=>by
 obtain ⟨G,I,Y,f,ae,r,e1,k⟩:=q
 obtain ⟨d,ab,e2,e3⟩:=af' e1
 obtain ⟨hm,e3⟩:=da' e3
 obtain ⟨n,ah,e4,e5⟩:=af' e3
 obtain ⟨z,aQ,e6,e7⟩:=af' e5
 obtain ⟨e8,rfl⟩:=ay' e6
 obtain ⟨u,aM,f1,f2⟩:=af' e7
 cases f2
 have:=lc' e8
 subst this
 refine ⟨G,I,Y,d,ab,r,e2,λv H1 I1 r1 g1 hd=>?_⟩
 obtain ⟨p,xs,h1,h2⟩:=cH' hm r1
 refine ⟨_,h1,G,I1,ab,_,_,r1,e4,λw H2 I2 r2 g2 hw=>?_⟩
 obtain ⟨p',bG,ds,es,h3,h4,h5,h6,h7⟩:=jh' f1 r2
 have hp:p'=p:=by rw [h1] at h3;cases h3;rfl
 subst hp
 unfold stF at h6
 cases hj:ixN ds.length z with
 | none=>rw [hj] at h6;cases h6
 | some j =>
  rw [hj] at h6
  cases h6
  exact ⟨p',bG,z,j,rfl,an' hw,h4,by rw [← h5.length];exact hj,k U _ I2 (h7 _ (IsA.set (hd.mono g2.up) j h5)) (g1.trans g2)⟩
def Yields (K:PySem.W.Frag) (I:Hp) (ds:List D) (J:It):Prop:=∀ (i:Nat) (H1:Hp),Same I H1 →
 (∀ d,ds[i]?=some d->J.go i H1/\∀ x H2,J.yld i H1 x H2->(H2=H1/\Is K I d x)\/(∃ p es xs,d=.tup es/\x=.ref p/\H1 p=none/\H2=upd H1 p (.tup xs)/\IsA K I es xs))/\(ds.length<=i->J.stop i H1)
noncomputable def tI (K:PySem.W.Frag) (B:BB) (g:M (List D)):TI:=λU H R=>∃ G I Y ds ae,Rep K B G I H U Y/\g Y=some (ds,ae)/\∀ J H' I',Rep K B G I' H' U ae->Grow G I I'->Yields K I' ds J->R J H'
def ITD (X:Cx) (B:BB) (tg iter:Expr) (g:M (List D)):Prop:=PI X tg iter (tI X.K B g)
theorem qU' {tg l:Expr}{tl:TE} (hl:PE X l tl):PI X tg l (λU H R=>tl U H λx H1=>(∃ a,x=.ref a/\(∃ xs,SqL X.K H1 a xs)/\R (Itl X.K a) H1)\/(∃ a,x=.ref a/\(∃ xs,SqT X.K H1 a xs)/\R (Itt X.K a) H1)):=by
 intro aa s U H R I h
 refine thn (hl aa s U H _ I h) λv s1 ⟨x,H1,I1,r1,q1⟩=>?_
 rcases q1 with ⟨a,e,⟨xs,hq⟩,q⟩ | ⟨a,e,⟨xs,hq⟩,q⟩
 ·subst e
  cases r1
  obtain ⟨ac,rv,p,hz⟩:=I1.list hq
  refine wpAny_pyIter_list p.isList ?_
  refine ⟨s1.heap.objs.size,[s1.heap.objs.size],_,_,H1,rfl,I1.kept (t':=s1.toks) λb o e=>get?_push_of_some _ e,mz' a _,⟨_,get?_push_size _ rfl,rfl,rfl⟩,λb hb=>?_,q⟩
  have e:b=s1.heap.objs.size:=by simpa using hb
  subst e
  exact I1.fpOk (le_refl _) (I1.hok.fresh (le_refl _))
 ·subst e
  cases r1
  obtain ⟨ac,rv,p,hz⟩:=I1.tuple hq
  refine wpAny_pyIter_tuple (show s1.heap.IsTuple a ac.toArray from p) ?_
  refine ⟨s1.heap.objs.size,[s1.heap.objs.size],_,_,H1,rfl,I1.kept (t':=s1.toks) λb o e=>get?_push_of_some _ e,lT' a _,⟨_,get?_push_size _ rfl,rfl,rfl⟩,λb hb=>?_,q⟩
  have e:b=s1.heap.objs.size:=by simpa using hb
  subst e
  exact I1.fpOk (le_refl _) (I1.hok.fresh (le_refl _))
noncomputable def seqI (d:D):Option (List D):=match d with
 | .lst ds=>some ds
 | .tup ds=>some ds
 | _=>none
noncomputable def itS (g:M D):M (List D):=bnd g λd=>lft (seqI d)
theorem aB' {tg:Expr} (ha:ED X B a ga):ITD X B tg a (itS ga):=PI.imp (qU' ha) λU H R q=>by
 obtain ⟨G,I,Y,ds,ae,r,e1,k⟩:=q
 obtain ⟨d,ab,e2,e3⟩:=af' e1
 obtain ⟨e4,rfl⟩:=ay' e3
 refine ⟨G,I,Y,d,_,r,e2,λv H1 I1 r1 g1 hd=>?_⟩
 cases d with
 | lst es =>
  cases e4
  obtain ⟨l,xs,rfl,h1,h2⟩:=ax' hd
  refine .inl ⟨l,rfl,⟨xs,(Same.rdK r1.iH h1).sq⟩,k _ _ _ r1 g1 λi H2 s2=>⟨λd hd=>?_,λhi=>⟨xs,(Same.rdK s2 h1).sq,by rw [← h2.length];exact hi⟩⟩⟩
  obtain ⟨x,e5,e6⟩:=h2.get hd
  refine ⟨⟨xs,x,(Same.rdK s2 h1).sq,e5⟩,λy H3 hy=>.inl ⟨hy.1,?_⟩⟩
  have:=hy.2 xs ((Same.rdK s2 h1).sq)
  rw [e5] at this;cases this
  exact e6
 | tup es =>
  cases e4
  obtain ⟨l,xs,rfl,h1,h2⟩:=au' hd
  refine .inr ⟨l,rfl,⟨xs,Same.sqT r1.iH h1⟩,k _ _ _ r1 g1 λi H2 s2=>⟨λd hd=>?_,λhi=>⟨xs,Same.sqT s2 h1,by rw [← h2.length];exact hi⟩⟩⟩
  obtain ⟨x,e5,e6⟩:=h2.get hd
  refine ⟨⟨xs,x,Same.sqT s2 h1,e5⟩,λy H3 hy=>.inl ⟨hy.1,?_⟩⟩
  have:=hy.2 xs (Same.sqT s2 h1)
  rw [e5] at this;cases this
  exact e6
 | _=>cases e4
noncomputable def rngD (lo:Int) (n:Nat):List D:=(range n).map λ(k:Nat)=>D.int (lo+(k:Int))
theorem l3' {K:PySem.W.Frag}{I:Hp} (lo:Int) (n:Nat):Yields K I (rngD lo n) (Itr lo n):=λi H1 s1=>by
 refine ⟨λd hd=>?_,λhi=>?_⟩
 ·unfold rngD at hd
  rw [getElem?_map] at hd
  cases e:(range n)[i]? with
  | none=>rw [e] at hd;cases hd
  | some j =>
   rw [e] at hd
   cases hd
   obtain ⟨h1,h2⟩:=List.getElem?_eq_some_iff.mp e
   rw [getElem_range] at h2
   rw [length_range] at h1
   subst h2
   refine ⟨h1,λx H2 hy=>.inl ⟨hy.1,?_⟩⟩
   rw [hy.2]
   exact Is.int _
 ·unfold rngD at hi
  rw [length_map,length_range] at hi
  exact hi
noncomputable def rngI1 (ds:List D):Option (List D):=match ds with
 | [.int j]=>if -1000000<=j/\j<=1000000 then some (rngD 0 j.toNat) else none
 | _=>none
theorem ic' {ds es:List D} (h:rngI1 ds=some es):∃ j:Int,ds=[.int j]/\(-1000000<=j/\j<=1000000)/\es=rngD 0 j.toNat:=by
 unfold rngI1 at h
 split at h
 ·obtain ⟨h1,h2⟩:=aG' h
  exact ⟨_,rfl,h1,h2⟩
 ·cases h
theorem gg' {tg:Expr}{p:Pos}{t:M (List D)} (hg:Gl X "range") (hm:X.mg "range"=none) (ha:AD X B [a] t) (hs:starEach [a] X.env=[(false,eval a X.env)]:=by rfl):ITD X B tg (.Call (.Name "range" p) [a] [] pos) (fn1 rngI1 t) :=
 PI.imp (mA' hg hm ha hs) λU H R q=>by
  obtain ⟨G,I,Y,ds,ae,r,e1,k⟩:=q
  obtain ⟨d,ab,e2,e3⟩:=af' e1
  obtain ⟨e4,rfl⟩:=ay' e3
  obtain ⟨j,rfl,⟨h1,h2⟩,rfl⟩:=ic' e4
  refine ⟨G,I,Y,_,_,r,e2,λvs H1 I1 r1 g1 hd=>?_⟩
  obtain ⟨x,rfl,hx⟩:=hd.one
  exact ⟨j,by rw [an' hx],by omega,by omega,k _ _ _ r1 g1 (l3' _ _)⟩
noncomputable def forM (aq:D->M Unit) (body:M Fl):List D->M Fl
 | []=>ret .nx
 | d::ds=>bnd (aq d) λ_=>bnd body λf=>match f with
  | .nx=>forM aq body ds
  | .ct=>forM aq body ds
  | .bk=>ret .nx
  | .rt r=>ret (.rt r)
noncomputable def forS (it:M (List D)) (aq:D->M Unit) (body:M Fl):M Fl:=bnd it λds=>forM aq body ds
theorem qV' {m:Nat}{iter tg:Expr}{body:List Stmt}{it:M (List D)}{aq:D->M Unit} (hp:PassesOwn (model X.prog X.w) X.A X.env X.xe) (hc:X.calm=true) (hi:ITD X B tg iter it) (hg:GD X B m tg aq) (hb:SDs X B body g)
  (hs:∀ x,foldedSetIterable iter X.env x=pure x:=by intro _;rfl):SD X B (.For tg iter body [] pos) (forS it aq g):=PS.imp (qx' hp hc hi hg hb hs) λE U H q=>by
 obtain ⟨G,I,Y,f,ae,r,e1,k⟩:=q
 obtain ⟨ds,ab,e2,e3⟩:=af' e1
 refine ⟨G,I,Y,ds,ab,r,e2,λJ H1 I1 r1 g1 y=>?_⟩
 refine ⟨λi m U H=>∃ I2 ah,Rep X.K B G I2 H U ah/\Grow G I1 I2/\forM aq g (ds.drop i) ah=some (f,ae)/\i<=ds.length/\m=ds.length - i,⟨ds.length,I1,ab,r1,Grow.refl _ _,by simpa using e3,zero_le _,rfl⟩,?_⟩
 rintro i m' aP H2 ⟨I2,ah,r2,g2,e4,bc,rfl⟩
 obtain ⟨yg,ys⟩:=y i H2 (g2.up.trans r2.iH)
 by_cases bM:i < ds.length
 ·have hd:ds.drop i=ds[i]::ds.drop (i+1):=drop_eq_getElem_cons bM
  obtain ⟨go,yld⟩:=yg ds[i] (getElem?_eq_getElem bM)
  rw [hd] at e4
  obtain ⟨u,aQ,e5,e6⟩:=af' e4
  obtain ⟨fl,aM,e7,e8⟩:=af' e6
  refine .inr ⟨go,λaj H'=>∃ I3,Rep X.K B G I3 H' aj aM/\Grow G I1 I3/\(fl=.nx\/fl=.ct),λaj H' ⟨I3,r3,g3,hf⟩=>⟨ds.length - (i+1),by omega,I3,aM,r3,g3,?_,bM,rfl⟩,λx H3 hy=>?_⟩
  ·rcases hf with rfl | rfl<;>exact e8
  ·have pA:∀ I3,Rep X.K B G I3 H3 aP ah->Grow G I2 I3->Is X.K I3 ds[i] x->tGD X.K B m aq x aP H3 λaP H2=>tS X.K B g { E with nx:=λaj H'=>∃ I3,Rep X.K B G I3 H' aj aM/\Grow G I1 I3/\(fl=.nx\/fl=.ct),ct:=λaj H'=>∃ I3,Rep X.K B G I3 H' aj aM/\Grow G I1 I3/\(fl=.nx\/fl=.ct),bk:=E.nx } aP H2:=by
    intro I3 r3 g3 hx
    refine ⟨G,I3,ah,ds[i],aQ,r3,hx,e5,λpB H4 I4 r4 g4 _=>⟨G,I4,aQ,fl,aM,r4,e7,λda H5 I5 r5 g5=>?_⟩⟩
    have gg:Grow G I1 I5:=g2.trans (g3.trans (g4.trans g5))
    cases fl with
    | nx=>exact ⟨I5,r5,gg,.inl rfl⟩
    | ct=>exact ⟨I5,r5,gg,.inr rfl⟩
    | bk=>cases e8;exact k da H5 I5 r5 (g1.trans gg)
    | rt v=>cases e8;exact k da H5 I5 r5 (g1.trans gg)
   rcases yld x H3 hy with ⟨rfl,hx⟩ | ⟨p,es,xs,dr,rfl,eJ,rfl,hx⟩
   ·exact pA I2 r2 (Grow.refl _ _) (hx.mono g2.up)
   ·refine pA _ (r2.alloc eJ _) (r2.growAlloc eJ _) ?_
    rw [dr]
    exact Is.tup (SqT.of ap') ((hx.mono g2.up).mono (aL' (r2.iFree eJ) _))
 ·have cw:i=ds.length:=by omega
  subst cw
  rw [List.drop_length] at e4
  cases e4
  exact .inl ⟨ys (le_refl _),k aP H2 I2 r2 (g1.trans g2)⟩
end
noncomputable def fin:List R->Gm->Option (List R)
 | [],_=>some []
 | .val d::rs,_::Y=>match fin rs Y with
  | some l=>some (.val d::l)
  | none=>none
 | .bor _::rs,some (.bor ds)::Y=>match fin rs Y with
  | some l=>some (.bor ds::l)
  | none=>none
 | _,_=>none
noncomputable def flR:Fl->Option R
 | .rt r=>some r
 | .nx=>some (.val .non)
 | _=>none
noncomputable def fnD1 (n:Nat) (body:M Fl) (rs:List R):Option (R×List R) :=
 match body (rs.map some++replicate (n - rs.length) none) with
 | some (f,ae)=>match flR f with
  | some r=>match fin rs ae with
   | some l=>some (r,l)
   | none=>none
  | none=>none
 | none=>none
noncomputable def fnD (n ar:Nat) (body:M Fl) (rs:List R):Option (R×List R):=if rs.length=ar then fnD1 n body rs else none
noncomputable def noOwn:R->Bool
 | .own _=>false
 | _=>true
noncomputable def vB (vs:List V):BB:=λi=>(vs.map some)[i]?
noncomputable def spD (K:PySem.W.Frag) (g:List R->Option (R×List R)):Sp:=λvs H Q _=>∃ (G I:Hp) (rs:List R) (r:R) (aR:List R),Rep K (vB vs) G I H (vs.map some) (rs.map some)/\rs.all noOwn=true/\g rs=some (r,aR) ∧
 ∀ v H' I',Rep K (vB vs) G I' H' (vs.map some) (aR.map some)->Grow G I I'->ResOk K G I' H' (vs.map some) (aR.map some) r v->Q v H'
theorem fO':∀ {rs l:List R}{Y:Gm},fin rs Y=some l->l.length=rs.length/\∀ (i:Nat) (r:R),l[i]?=some r->(∃ d,r=.val d/\rs[i]?=some (.val d))\/(∃ ds,r=.bor ds/\Y[i]?=some (some (.bor ds)))
 | [],l,Y,h=>by
  rw [fin] at h;cases h
  exact ⟨rfl,λi r e=>by simp at e⟩
 | .val d::rs,l,[],h=>by simp [fin] at h
 | .bor d::rs,l,[],h=>by simp [fin] at h
 | .own d::rs,l,Y,h=>by cases Y<;>simp [fin] at h
 | .fro d::rs,l,Y,h=>by cases Y<;>simp [fin] at h
 | .dic d::rs,l,Y,h=>by cases Y<;>simp [fin] at h
 | .val d::rs,l,o::Y,h=>by
  rw [fin] at h
  cases e:fin rs Y with
  | none=>rw [e] at h;cases h
  | some l' =>
   rw [e] at h;cases h
   obtain ⟨h1,h2⟩:=fO' e
   refine ⟨by simp [h1],λi r er=>?_⟩
   cases i with
   | zero=>simp at er;subst er;exact .inl ⟨d,rfl,rfl⟩
   | succ i =>
    rcases h2 i r (by simpa using er) with ⟨d',e1,e2⟩ | ⟨ds,e1,e2⟩
    ·exact .inl ⟨d',e1,by simpa using e2⟩
    ·exact .inr ⟨ds,e1,by simpa using e2⟩
 | .bor d::rs,l,none::Y,h=>by simp [fin] at h
 | .bor d::rs,l,some (.val x)::Y,h=>by simp [fin] at h
 | .bor d::rs,l,some (.own x)::Y,h=>by simp [fin] at h
 | .bor d::rs,l,some (.fro x)::Y,h=>by simp [fin] at h
 | .bor d::rs,l,some (.dic x)::Y,h=>by simp [fin] at h
 | .bor d::rs,l,some (.bor x)::Y,h=>by
  rw [fin] at h
  cases e:fin rs Y with
  | none=>rw [e] at h;cases h
  | some l' =>
   rw [e] at h;cases h
   obtain ⟨h1,h2⟩:=fO' e
   refine ⟨by simp [h1],λi r er=>?_⟩
   cases i with
   | zero=>simp at er;subst er;exact .inr ⟨x,rfl,rfl⟩
   | succ i =>
    rcases h2 i r (by simpa using er) with ⟨d',e1,e2⟩ | ⟨ds,e1,e2⟩
    ·exact .inl ⟨d',e1,by simpa using e2⟩
    ·exact .inr ⟨ds,e1,by simpa using e2⟩
theorem getMap {α Z:Type}{f:α->Z}{l:List α}{i:Nat}{b:Z} (h:(l.map f)[i]?=some b):∃ a,l[i]?=some a/\b=f a:=by
 rw [getElem?_map] at h
 cases e:l[i]? with
 | none=>rw [e] at h;cases h
 | some a=>rw [e] at h;exact ⟨a,rfl,(Option.some.inj h).symm⟩
theorem cI' {α:Type}{l:List α}{n i:Nat}{a:α} (h:(l.map some++replicate n (none:Option α))[i]?=some (some a)):l[i]?=some a:=by
 by_cases hi:i < (l.map some).length
 ·rw [getElem?_append_left hi] at h
  obtain ⟨b,e1,e2⟩:=getMap h
  cases e2;exact e1
 ·rw [getElem?_append_right (by omega),List.getElem?_replicate] at h
  split at h<;>cases h
section
variable {P:Program}{w:World}{K:PySem.W.Frag}{mg:Str->Option Value}{base:Heap}
theorem aV' {x qual:Str}{st:Stmt}{f:Addr}{fd:FuncData}{N ps:List Str}{k:Nat} (F:Fun K x qual st f fd) (S:FnScope N ps (defScope st)) (g:M Fl)
  (hb:∀ (ao:Value) (A:Around) (outer:List Env) (s:Shared) (H:Hp) (E:XK) (B:BB),Room k (A.deeper (envOfC qual (defScope st) s.heap.objs.size f ao)) →
   SDs (cxOf CX0 P w K mg base N qual (defScope st) f ao A outer s H E).nox B (defBody st) g):FnOk P w K mg base CX0 (k+1) f fd ps (spD K (fnD N.length ps.length g)):=by
 refine F.ok S (λvs H Q E h=>?_) (λao A outer s H vs Q E hr h=>?_)
 ·obtain ⟨_,_,rs,_,_,h1,_,h2,_⟩:=h
  unfold fnD at h2
  by_cases hc:rs.length=ps.length
  ·rw [← hc];simpa using h1.len
  ·rw [if_neg hc] at h2;cases h2
 ·obtain ⟨G,I,rs,r,aR,h2,h3,h4,h5⟩:=h
  have hl:vs.length=rs.length:=by simpa using h2.len
  refine ⟨_,hb ao A outer s H E (λi=>(L2.start N vs)[i]?) hr,?_⟩
  unfold fnD at h4
  have hc:rs.length=ps.length:=by
   by_cases hc:rs.length=ps.length
   ·exact hc
   ·rw [if_neg hc] at h4;cases h4
  rw [if_pos hc] at h4
  unfold fnD1 at h4
  cases e1:g (rs.map some++replicate (N.length - rs.length) none) with
  | none=>rw [e1] at h4;cases h4
  | some q =>
   obtain ⟨fl,ae⟩:=q
   rw [e1] at h4
   dsimp only at h4
   cases e2:flR fl with
   | none=>rw [e2] at h4;cases h4
   | some rr =>
    rw [e2] at h4
    dsimp only at h4
    cases e3:fin rs ae with
    | none=>rw [e3] at h4;cases h4
    | some l =>
     rw [e3] at h4
     obtain ⟨rfl,rfl⟩:rr=r/\l=aR:=by cases h4;exact ⟨rfl,rfl⟩
     have dA:∀ {i:Nat}{v:V},vs[i]?=some v->(L2.start N vs)[i]?=some (some v):=λ{i v} e=>by
      unfold L2.start
      rw [getElem?_append_left (by rw [length_map];exact (List.getElem?_eq_some_iff.mp e).1),getElem?_map,e];rfl
     have eK:∀ {i:Nat}{v:V},(L2.start N vs)[i]?=some (some v)->vs[i]?=some v:=λ{i v} e=>cI' e
     have gL:Rep K (λi=>(L2.start N vs)[i]?) G I H (L2.start N vs) (rs.map some++replicate (N.length - rs.length) none):={
      iH:=h2.iH,gH:=h2.gH
      len:=by unfold L2.start;rw [length_append,length_append,length_map,length_map,length_replicate,length_replicate,hl]
      slot:=λi q e=>by
       have e':=cI' e
       obtain ⟨v,e4,e5⟩:=h2.slot i q (by rw [getElem?_map,e'];rfl)
       obtain ⟨v',e6,e7⟩:=getMap e4
       cases e7
       exact ⟨v,dA e6,e5⟩
      dist:=λi j q q' v e e' m m' s1 s2=>h2.dist i j q q' v (by rw [getElem?_map,cI' e];rfl) (by rw [getElem?_map,cI' e'];rfl) m m' (by rw [getElem?_map,eK s1];rfl) (by rw [getElem?_map,eK s2];rfl)
      bor:=λi ds e=>rfl }
     obtain ⟨f1,f2⟩:=fO' e3
     -- behind the body
     have cP:∀ {aj:L2.St}{H' I':Hp},Rep K (λi=>(L2.start N vs)[i]?) G I' H' aj ae->Grow G I I'->Rep K (vB vs) G I' H' (vs.map some) (l.map some):=λ{aj H' I'} r' g'=>{
      iH:=r'.iH,gH:=r'.gH
      len:=by rw [length_map,length_map,f1,hl]
      slot:=λi q e=>by
       obtain ⟨q',e4,e5⟩:=getMap e
       cases e5
       rcases f2 i q e4 with ⟨d,rfl,e6⟩ | ⟨ds,rfl,e6⟩
       ·obtain ⟨v,e7,e8⟩:=h2.slot i (.val d) (by rw [getElem?_map,e6];rfl)
        exact ⟨v,e7,Is.mono g'.up e8⟩
       ·obtain ⟨v,e7,e8⟩:=r'.slot i _ e6
        have e9:=r'.bor i ds e6
        rw [e7] at e9
        exact ⟨v,by rw [getElem?_map,eK e9.symm];rfl,e8⟩
      dist:=λi j q q' v e e' m m' s1 s2=>by
       obtain ⟨_,e4,e5⟩:=getMap e
       cases e5
       obtain ⟨_,e6,e7⟩:=getMap e'
       cases e7
       rcases f2 i q e4 with ⟨d,rfl,_⟩ | ⟨ds,rfl,e8⟩
       ·cases m
       rcases f2 j q' e6 with ⟨d,rfl,_⟩ | ⟨dB,rfl,e9⟩
       ·cases m'
       obtain ⟨v1,a1,_⟩:=getMap s1
       obtain ⟨v2,a2,a3⟩:=getMap s2
       have b1:=r'.bor i ds e8
       have b2:=r'.bor j dB e9
       rename_i b3
       cases b3
       cases a3
       rw [dA a1] at b1
       rw [dA a2] at b2
       exact r'.dist i j _ _ v e8 e9 rfl rfl b1 b2
      bor:=λi ds e=>rfl }
     have ap:∀ {aj:L2.St}{H' I':Hp}{p:Addr},Rep K (λi=>(L2.start N vs)[i]?) G I' H' aj ae->Apart aj ae p->Apart (vs.map some) (l.map some) p:=λ{aj H' I' p} r' a i q e m z=>by
      obtain ⟨_,e4,e5⟩:=getMap e
      cases e5
      rcases f2 i q e4 with ⟨d,rfl,_⟩ | ⟨ds,rfl,e8⟩
      ·cases m
      obtain ⟨v1,a1,a2⟩:=getMap z
      cases a2
      exact a i _ e8 rfl ((r'.bor i ds e8).trans (dA a1))
     refine ⟨G,I,_,fl,ae,gL,e1,λaj H' I' r' g'=>?_⟩
     cases fl with
     | nx=>cases e2;exact h5 _ H' I' (cP r' g') g' (show Is K I' D.non V.non from Is.non)
     | bk=>cases e2
     | ct=>cases e2
     | rt r0 =>
      cases e2
      intro v hv
      refine h5 v H' I' (cP r' g') g' ?_
      cases rr with
      | val d=>exact hv
      | bor d=>exact hv
      | fro d=>exact hv
      | dic d =>
       obtain ⟨p,xs,b1,b2,b3,b4,b5,b6⟩:=hv
       exact ⟨p,xs,b1,b2,b3,b4,ap r' b5,b6⟩
      | own d =>
       obtain ⟨p,xs,b1,b2,b3,b4,b5,b6⟩:=hv
       exact ⟨p,xs,b1,b2,b3,b4,ap r' b5,b6⟩
end
mutual
noncomputable def noL:D->Bool
 | .tup ds=>noLA ds
 | .lst _=>false
 | _=>true
noncomputable def noLA:List D->Bool
 | []=>true
 | d::ds=>noL d&&noLA ds
end
noncomputable def tupOf (I0 I:Hp):Hp:=λb=>match I0 b with
 | some o=>some o
 | none=>match I b with
  | some (.lst _)=>none
  | o=>o
theorem ji' {I0 I:Hp}:Same I0 (tupOf I0 I):=λb o e=>by unfold tupOf;rw [e]
theorem gh' {I0 I:Hp}{b:Addr}{o:HO} (h:tupOf I0 I b=some o):I0 b=some o\/(I0 b=none/\I b=some o/\∀ xs,o≠.lst xs):=by
 unfold tupOf at h
 cases e:I0 b with
 | some o'=>rw [e] at h;cases h;exact .inl rfl
 | none =>
  rw [e] at h
  cases e1:I b with
  | none=>rw [e1] at h;cases h
  | some o' =>
   rw [e1] at h
   cases o'<;>first | (cases h;exact .inr ⟨rfl,rfl,λxs z=>by cases z⟩) | cases h
theorem jj' {I0 I:Hp} (s:Same I0 I){b:Addr}{o:HO} (h:I b=some o) (n:∀ xs,o≠.lst xs):tupOf I0 I b=some o:=by
 unfold tupOf
 cases e:I0 b with
 | some o'=>rw [s b o' e] at h;exact h
 | none =>
  simp only [h]
  split
  ·rename_i z
   cases z
   exact absurd rfl (n _)
  ·rfl
mutual
theorem oe' {K:PySem.W.Frag}{I0 I:Hp} (s:Same I0 I):∀ (d:D) (v:V),noL d=true->Is K I d v->Is K (tupOf I0 I) d v
 | .non,_,_,h=>by rw [Is] at h ⊢;exact h
 | .bl _,_,_,h=>by rw [Is] at h ⊢;exact h
 | .int _,_,_,h=>by rw [Is] at h ⊢;exact h
 | .str _,_,_,h=>by rw [Is] at h ⊢;exact h
 | .lst _,_,n,_=>by simp [noL] at n
 | .tup ds,v,n,h=>by
  rw [noL] at n
  obtain ⟨a,xs,rfl,h1,h2⟩:=au' h
  refine Is.tup ?_ (fk' s ds xs n h2)
  rcases h1 with (h1 | ⟨o,h1⟩) | h1
  ·exact .inl (.inl (jj' s h1 λxs z=>by cases z))
  ·exact .inl (.inr ⟨o,jj' s h1 λxs z=>by cases z⟩)
  ·exact .inr h1
theorem fk' {K:PySem.W.Frag}{I0 I:Hp} (s:Same I0 I):∀ (ds:List D) (xs:List V),noLA ds=true->IsA K I ds xs->IsA K (tupOf I0 I) ds xs
 | [],xs,_,h=>by rw [h.nil_inv];exact IsA.nil
 | d::ds,xs,n,h=>by
  rw [noLA,and_eq_true] at n
  obtain ⟨x,r,rfl,h1,h2⟩:=h.cons_inv
  exact IsA.cons (oe' s d x n.1 h1) (fk' s ds r n.2 h2)
end
section
variable {X:Cx}{B:BB}{e:Expr}{es:List Expr}{pos p:Pos}{x:Str}{k:Nat}{f:Addr}{fd:FuncData}{ps:List Str}{g:List R->Option (R×List R)}{t:M (List D)}
noncomputable def cvF (g:List R->Option (R×List R)) (ds:List D):Option D:=match g (ds.map .val) with
 | some (.val d,_)=>some d
 | some (.fro d,_)=>some (.lst d)
 | _=>none
noncomputable def coF (g:List R->Option (R×List R)) (ds:List D):Option (List D):=match g (ds.map .val) with
 | some (.own d,_)=>some d
 | some (.fro d,_)=>if noLA d=true then some d else none
 | _=>none
theorem dT' {K:PySem.W.Frag}{G I H:Hp}{U:L2.St}{Y:Gm}{ds:List D}{vs:List V} (r:Rep K B G I H U Y) (h:IsA K I ds vs):Rep K (vB vs) H I H (vs.map some) ((ds.map R.val).map some) where
 iH:=r.iH
 gH:=Same.refl _
 len:=by rw [length_map,length_map,length_map,h.length]
 slot:=λi q e=>by
  obtain ⟨_,e1,e2⟩:=getMap e
  cases e2
  obtain ⟨d,e3,rfl⟩:=getMap e1
  obtain ⟨v,e4,e5⟩:=h.get e3
  exact ⟨v,by rw [getElem?_map,e4];rfl,e5⟩
 dist:=λi j q q' v e e' m=>by
  obtain ⟨_,e1,e2⟩:=getMap e
  cases e2
  obtain ⟨d,e3,rfl⟩:=getMap e1
  cases m
 bor:=λi ds e=>rfl
theorem cS' (ds:List D):(ds.map R.val).all noOwn=true:=by
 induction ds with
 | nil=>rfl
 | cons d r ih=>rw [map_cons,all_cons,ih];rfl
theorem eP' {K:PySem.W.Frag}{B':BB}{G I I' H H':Hp}{U aj:L2.St}{Y ae:Gm} (r:Rep K B G I H U Y) (r':Rep K B' H I' H' aj ae) (g':Grow H I I'):Rep K B G I' H' U Y/\Grow G I I' :=
 ⟨r.ext g'.up r'.gH r'.iH g'.new,g'.up,λb o e=>(g'.new b o e).imp (λz=>z) λz=>r.gFree z⟩
theorem t_cv {K:PySem.W.Frag}{E:XK}:∀ U H Q,tD K B (fn1 (cvF g) t) U H Q->tCall (spD K g) [] E (tAD K B t) U H Q:=λU H Q q=>by
 obtain ⟨G,I,Y,d,ae,r,e1,kk⟩:=q
 obtain ⟨ds,ab,e2,e3⟩:=af' e1
 obtain ⟨e4,rfl⟩:=ay' e3
 refine ⟨G,I,Y,ds,_,r,e2,λvs H1 I1 r1 g1 h1=>?_⟩
 show spD K g (vs++[]) H1 Q E
 rw [append_nil]
 unfold cvF at e4
 cases e5:g (ds.map .val) with
 | none=>rw [e5] at e4;cases e4
 | some q =>
  obtain ⟨rr,aR⟩:=q
  rw [e5] at e4
  cases rr with
  | val d' =>
   cases e4
   refine ⟨H1,I1,ds.map .val,.val d,aR,dT' r1 h1,cS' ds,e5,λv H' I' r' g' hv=>?_⟩
   obtain ⟨r2,g2⟩:=eP' r1 r' g'
   exact kk v H' I' r2 (g1.trans g2) hv
  | fro d' =>
   cases e4
   refine ⟨H1,I1,ds.map .val,.fro d',aR,dT' r1 h1,cS' ds,e5,λv H' I' r' g' hv=>?_⟩
   obtain ⟨r2,g2⟩:=eP' r1 r' g'
   obtain ⟨p,xs,rfl,f1,_,f3⟩:=hv
   exact kk _ H' I' r2 (g1.trans g2) (Is.lst (RdK.of f1) f3)
  | own _=>cases e4
  | bor _=>cases e4
  | dic _=>cases e4
theorem t_co {K:PySem.W.Frag}{E:XK}:∀ U H Q,tO K B (fn1 (coF g) t) U H Q->tCall (spD K g) [] E (tAD K B t) U H Q:=λU H Q q=>by
 obtain ⟨G,I,Y,d,ae,r,e1,kk⟩:=q
 obtain ⟨ds,ab,e2,e3⟩:=af' e1
 obtain ⟨e4,rfl⟩:=ay' e3
 refine ⟨G,I,Y,ds,_,r,e2,λvs H1 I1 r1 g1 h1=>?_⟩
 show spD K g (vs++[]) H1 Q E
 rw [append_nil]
 unfold coF at e4
 cases e5:g (ds.map .val) with
 | none=>rw [e5] at e4;cases e4
 | some q =>
  obtain ⟨rr,aR⟩:=q
  rw [e5] at e4
  cases rr with
  | own d' =>
   cases e4
   refine ⟨H1,I1,ds.map .val,.own d,aR,dT' r1 h1,cS' ds,e5,λv H' I' r' g' hv=>?_⟩
   obtain ⟨r2,g2⟩:=eP' r1 r' g'
   obtain ⟨q,xs,rfl,b2,b3,b4,b5,b6⟩:=hv
   exact kk q xs H' I' r2 (g1.trans g2) b2 b3 (r1.gFree b4) (r1.apart b4) b6
  | fro d' =>
   obtain ⟨nl,e4⟩:=aG' e4
   subst e4
   refine ⟨H1,I1,ds.map .val,.fro d,aR,dT' r1 h1,cS' ds,e5,λv H' I' r' g' hv=>?_⟩
   obtain ⟨p,xs,rfl,f1,f2,f3⟩:=hv
   have new:∀ b o,tupOf I1 I' b=some o->I1 b=some o\/H1 b=none:=λb o e=>by
    rcases gh' e with z | ⟨_,z,_⟩
    ·exact .inl z
    ·exact g'.new b o z
   have r2:Rep K B G (tupOf I1 I') H' U _:=r1.ext ji' r'.gH (λb o e=>by
    rcases gh' e with z | ⟨_,z,_⟩
    ·exact r'.iH b o (g'.up b o z)
    ·exact r'.iH b o z) new
   refine kk p xs H' (tupOf I1 I') r2 (g1.trans ⟨ji',λb o e=>(new b o e).imp (λz=>z) λz=>r1.gFree z⟩) (r'.iH p _ f1) ?_ (r1.gFree f2) (r1.apart f2) (fk' g'.up _ _ nl f3)
   cases e:tupOf I1 I' p with
   | none=>rfl
   | some o =>
    rcases gh' e with z | ⟨_,z,zn⟩
    ·rw [r1.iFree f2] at z;cases z
    ·rw [f1] at z;cases z;exact absurd rfl (zn _)
  | val _=>cases e4
  | bor _=>cases e4
  | dic _=>cases e4
variable {za:Nat}{b:Expr}
theorem bI' (F:FnOk X.prog X.w X.K X.mg X.base CX0 k f fd ps (spD X.K g)) (hr:Room k X.A) (hg:Gl X x) (hm:X.mg x=some (.ref f)) (hk:keepIn X.K (.ref f)=true) (hb:Binds X.K fd ps []) (ha:AD X B (e::es) t)
  (bb:(x == ("__debug__":Str))=false:=by decide) (he:starEach (e::es) X.env=(false,eval e X.env)::starEach es X.env:=by rfl) (au:(backTo pos (starEach es X.env)).any (·.1)=false:=by rfl) :
  ED X B (.Call (.Name x p) (e::es) [] pos) (fn1 (cvF g) t):=PE.imp (hB' F hr hg hm hk hb .nil pass0 ha bb he au) t_cv
theorem fP' (F:FnOk X.prog X.w X.K X.mg X.base CX0 k f fd ps (spD X.K g)) (hr:Room k X.A) (hg:Gl X x) (hm:X.mg x=some (.ref f)) (hk:keepIn X.K (.ref f)=true) (hb:Binds X.K fd ps []) (ha:AD X B (e::es) t)
  (bb:(x == ("__debug__":Str))=false:=by decide) (he:starEach (e::es) X.env=(false,eval e X.env)::starEach es X.env:=by rfl) (au:(backTo pos (starEach es X.env)).any (·.1)=false:=by rfl) :
  EO X B (.Call (.Name x p) (e::es) [] pos) (fn1 (coF g) t):=PE.imp (hB' F hr hg hm hk hb .nil pass0 ha bb he au) t_co
noncomputable def hide (H:Hp) (p:Addr):Hp:=λb=>if b=p then none else H b
theorem ie' {H:Hp}{p:Addr}:hide H p p=none:=by unfold hide;rw [if_pos rfl]
theorem db' {H:Hp}{p b:Addr} (h:b≠p):hide H p b=H b:=by unfold hide;rw [if_neg h]
theorem mK' {H:Hp}{p:Addr}:Same (hide H p) H:=λb o e=>by
 by_cases h:b=p
 ·subst h;rw [ie'] at e;cases e
 ·rw [db' h] at e;exact e
noncomputable def bcF (g:List R->Option (R×List R)) (c ds:List D):Option (R×List D):=match g (.bor c::ds.map .val) with
 | some (r,.bor c'::_)=>some (r,c')
 | _=>none
noncomputable def callB (i:Nat) (g:List R->Option (R×List R)) (t:M (List D)):M R:=mutS i (bnd t λds=>λab=>match ab[i]? with
 | some (some (.own c))=>match bcF g c ds with
  | some (r,c')=>some (r,ab.set i (some (.own c')))
  | none=>none
 | some (some (.bor c))=>match bcF g c ds with
  | some (r,c')=>some (r,ab.set i (some (.bor c')))
  | none=>none
 | _=>none)
noncomputable def asV (r:R):Option D:=match r with
 | .val d=>some d
 | _=>none
noncomputable def asO (r:R):Option (List D):=match r with
 | .own d=>some d
 | _=>none
noncomputable def cbV (i:Nat) (g:List R->Option (R×List R)) (t:M (List D)):M D:=bnd (callB i g t) λr=>lft (asV r)
theorem Rep.extBut {K:PySem.W.Frag}{G I I' H H':Hp}{U:L2.St}{Y:Gm} (r:Rep K B G I H U Y){q:Addr} (ap:Apart U Y q) (gq:G q=none) (iq:I q=none) (zc:I' q=none) (hI:Same I I') (hH:∀ b o,H b=some o->b≠q->H' b=some o) (iH:Same I' H')
  (new:∀ b o,I' b=some o->I b=some o\/H b=none\/b=q):Rep K B G I' H' U Y where
 iH:=iH
 gH:=λb o e=>hH b o (r.gH b o e) (λz=>by subst z;rw [gq] at e;cases e)
 len:=r.len
 slot:=λi qr e=>by
  obtain ⟨v,e1,e2⟩:=r.slot i qr e
  refine ⟨v,e1,?_⟩
  have mt:qr.ptr=true->∀ ds,Mt K G I H ds v->Mt K G I' H' ds v:=λm ds h=>by
   obtain ⟨p2,xs,h1,h2,h3,h4,h5⟩:=h
   have ne:p2≠q:=λz=>ap i qr e m (by rw [e1,h1,z])
   refine ⟨p2,xs,h1,hH _ _ h2 ne,?_,h4,h5.mono hI⟩
   cases z:I' p2 with
   | none=>rfl
   | some o =>
    rcases new p2 o z with z1 | z1 | z1
    ·rw [h3] at z1;cases z1
    ·rw [h2] at z1;cases z1
    ·exact absurd z1 ne
  cases qr with
  | val d=>exact Is.mono hI e2
  | dic ds =>
   obtain ⟨p2,xs,h1,h2,h3,h4,h5⟩:=e2
   have ne:p2≠q:=λz=>ap i _ e rfl (by rw [e1,h1,z])
   refine ⟨p2,xs,h1,hH _ _ h2 ne,?_,h4,h5.mono hI⟩
   cases z:I' p2 with
   | none=>rfl
   | some o =>
    rcases new p2 o z with z1 | z1 | z1
    ·rw [h3] at z1;cases z1
    ·rw [h2] at z1;cases z1
    ·exact absurd z1 ne
  | own ds=>exact mt rfl ds e2
  | bor ds=>exact mt rfl ds e2
  | fro ds=>obtain ⟨p,xs,f1,f2,f3,f4⟩:=e2;exact ⟨p,xs,f1,hI _ _ f2,f3,f4.mono hI⟩
 dist:=r.dist
 bor:=r.bor
theorem borrow {K:PySem.W.Frag}{G I H:Hp}{U:L2.St}{Y:Gm}{i:Nat}{q q':R}{c c' ds:List D}{rr:R}{ws:List V}{Q:VK}{E:XK} (r:Rep K B G I H U Y) (hq:Y[i]?=some (some q)) (hc:(q=.own c/\q'=.own c')\/(q=.bor c/\q'=.bor c')) (hd:IsA K I ds ws){v0:V} (gM:U[i]?=some (some v0))
  (hg:bcF g c ds=some (rr,c')) (k:∀ v H' I',Rep K B G I' H' U (Y.set i (some q'))->Grow G I I'->ResOk K G I' H' U (Y.set i (some q')) rr v->Q v H'):spD K g (v0::ws) H Q E:=by
 obtain ⟨v,e1,e2⟩:=r.slot i q hq
 rw [gM] at e1
 cases e1
 have hm:q.ptr=true:=by rcases hc with ⟨rfl,_⟩ | ⟨rfl,_⟩<;>rfl
 have mt:Mt K G I H c v0:=by rcases hc with ⟨rfl,_⟩ | ⟨rfl,_⟩<;>exact e2
 obtain ⟨a,xs,rfl,h1,h2,h3,h4⟩:=mt
 unfold bcF at hg
 cases e3:g (.bor c::ds.map .val) with
 | none=>rw [e3] at hg;cases hg
 | some z =>
  obtain ⟨r0,aR⟩:=z
  rw [e3] at hg
  cases aR with
  | nil=>cases hg
  | cons y aR =>
   cases y with
   | val _=>cases hg
   | own _=>cases hg
   | fro _=>cases hg
   | dic _=>cases hg
   | bor c2 =>
    cases hg
    refine ⟨hide H a,I,.bor c::ds.map .val,rr,.bor c'::aR,?_,by rw [all_cons,cS'];rfl,e3,λv H' I' r' g' hv=>?_⟩
    ·have rv:=dT' r hd
     exact {
      iH:=r.iH,gH:=mK'
      len:=by rw [map_cons,map_cons,length_cons,length_cons,rv.len]
      slot:=λj qr e=>by
       cases j with
       | zero=>cases e;exact ⟨_,rfl,a,xs,rfl,h1,h2,ie',h4⟩
       | succ j =>
        obtain ⟨w,e4,e5⟩:=rv.slot j qr (by simpa using e)
        refine ⟨w,by simpa using e4,?_⟩
        have e9:((ds.map R.val).map some)[j]?=some (some qr):=e
        obtain ⟨z,f1,f2⟩:=getMap e9
        cases f2
        obtain ⟨d,f3,rfl⟩:=getMap f1
        exact e5
      dist:=λj l qr zd w e e' m m' s1 s2=>by
       have only:∀ {j:Nat}{qr:R},((R.bor c::ds.map R.val).map some)[j]?=some (some qr)->qr.ptr=true->j=0:=λ{j qr} e m=>by
        cases j with
        | zero=>rfl
        | succ j =>
         have e9:((ds.map R.val).map some)[j]?=some (some qr):=e
         obtain ⟨z,f1,f2⟩:=getMap e9
         cases f2
         obtain ⟨d,f3,rfl⟩:=getMap f1
         cases m
       rw [only e m,only e' m']
      bor:=λj es e=>rfl }
    ·obtain ⟨w,e4,e5⟩:=r'.slot 0 (.bor c') rfl
     cases e4
     obtain ⟨a',bG,e6,f1,f2,f3,f4⟩:=e5
     cases e6
     have fR:Apart U (Y.set i none) a:=λj r1 z m s=>by
      rcases aO' z with ⟨_,z',_⟩ | ⟨n,z'⟩
      ·cases z'
      ·exact n (r.dist j i r1 q _ z' hq m hm s gM)
     have r1:=(r.forget i).extBut (q:=a) fR h3 h2 f2 g'.up (λb o e n=>r'.gH b o (by rw [db' n];exact e)) r'.iH (λb o e=>by
      rcases g'.new b o e with z | z
      ·exact .inl z
      ·by_cases n:b=a
       ·exact .inr (.inr n)
       ·rw [db' n] at z;exact .inr (.inl z))
     have r2:=r1.learn (i:=i) (q:=q') (v:=.ref a) gM (by rcases hc with ⟨_,rfl⟩ | ⟨_,rfl⟩<;>exact ⟨a,bG,rfl,f1,f2,h3,f4⟩) (λm p2 e j r' n z m' s=>by
      cases e
      exact fR j r' z m' s) (λes z=>by
      rcases hc with ⟨_,rfl⟩ | ⟨rfl,rfl⟩
      ·cases z
      ·exact r.bor i c hq)
     rw [set_set] at r2
     have g2:Grow G I I':=⟨g'.up,λb o e=>by
      rcases g'.new b o e with z | z
      ·exact .inl z
      ·by_cases n:b=a
       ·subst n;exact .inr h3
       ·rw [db' n] at z;exact .inr (r.gFree z)⟩
     refine k v H' I' r2 g2 ?_
     cases rr with
     | val d=>exact hv
     | bor d=>exact hv
     | fro d =>
      obtain ⟨p2,ys,b1,b2,b3,b4⟩:=hv
      have ne:p2≠a:=λz=>by rw [z,f2] at b2;cases b2
      rw [db' ne] at b3
      exact ⟨p2,ys,b1,b2,r.gFree b3,b4⟩
     | dic d =>
      obtain ⟨p2,ys,b1,b2,b3,b4,b5,b6⟩:=hv
      have ne:p2≠a:=λz=>b5 0 (.bor c') rfl rfl (by rw [z];rfl)
      rw [db' ne] at b4
      refine ⟨p2,ys,b1,b2,b3,r.gFree b4,λj r3 z m s=>?_,b6⟩
      rcases aO' z with ⟨rfl,z',_⟩ | ⟨n,z'⟩
      ·rw [gM] at s;cases s;exact ne rfl
      ·exact r.apart b4 j r3 z' m s
     | own d =>
      obtain ⟨p2,ys,b1,b2,b3,b4,b5,b6⟩:=hv
      have ne:p2≠a:=λz=>b5 0 (.bor c') rfl rfl (by rw [z];rfl)
      rw [db' ne] at b4
      refine ⟨p2,ys,b1,b2,b3,r.gFree b4,λj r3 z m s=>?_,b6⟩
      rcases aO' z with ⟨rfl,z',_⟩ | ⟨n,z'⟩
      ·rw [gM] at s;cases s;exact ne rfl
      ·exact r.apart b4 j r3 z' m s
theorem mL' {i:Nat}{t:M (List D)}{Y ae:Gm}{rr:R} (h:callB i g t Y=some (rr,ae)):isMut Y i=true/\∃ ds ab q q' c c',t Y=some (ds,ab)/\ab[i]?=some (some q)/\((q=.own c/\q'=.own c')\/(q=.bor c/\q'=.bor c'))/\bcF g c ds=some (rr,c')/\ae=ab.set i (some q'):=by
 obtain ⟨hm,h⟩:=da' h
 obtain ⟨ds,ab,e1,e2⟩:=af' h
 refine ⟨hm,ds,ab,?_⟩
 cases e:ab[i]? with
 | none=>simp only [e] at e2;cases e2
 | some o =>
  cases o with
  | none=>simp only [e] at e2;cases e2
  | some q =>
   cases q with
   | val d=>simp only [e] at e2;cases e2
   | fro d=>simp only [e] at e2;cases e2
   | dic d=>simp only [e] at e2;cases e2
   | own c =>
    simp only [e] at e2
    cases e3:bcF g c ds with
    | none=>simp only [e3] at e2;cases e2
    | some z =>
     obtain ⟨r0,c'⟩:=z
     simp only [e3] at e2
     cases e2
     exact ⟨.own c,.own c',c,c',e1,rfl,.inl ⟨rfl,rfl⟩,e3,rfl⟩
   | bor c =>
    simp only [e] at e2
    cases e3:bcF g c ds with
    | none=>simp only [e3] at e2;cases e2
    | some z =>
     obtain ⟨r0,c'⟩:=z
     simp only [e3] at e2
     cases e2
     exact ⟨.bor c,.bor c',c,c',e1,rfl,.inr ⟨rfl,rfl⟩,e3,rfl⟩
theorem rG' {K:PySem.W.Frag}{E:XK}{i:Nat}:∀ U H Q,tD K B (cbV i g t) U H Q->tCall (spD K g) [] E (tCons (tVar i) (tAD K B t)) U H Q:=λU H Q q=>by
 obtain ⟨G,I,Y,d,ae,r,e1,kk⟩:=q
 obtain ⟨rr,ze,e2,e3⟩:=af' e1
 obtain ⟨e4,rfl⟩:=ay' e3
 obtain ⟨hm,ds,ab,q,q',c,c',f1,f2,f3,f4,rfl⟩:=mL' e2
 obtain ⟨a,xs,h1,h2⟩:=cH' hm r
 refine ⟨_,h1,G,I,Y,ds,ab,r,f1,λws H1 I1 r1 g1 hd=>?_⟩
 show spD K g ((.ref a::ws)++[]) H1 Q E
 rw [append_nil]
 refine borrow r1 f2 f3 hd h1 f4 λv H' I' r' g' hv=>?_
 cases rr with
 | val d'=>cases e4;exact kk v H' I' r' (g1.trans g') hv
 | own _=>cases e4
 | bor _=>cases e4
 | fro _=>cases e4
 | dic _=>cases e4
theorem of' {i:Nat}{y:Str}{py:Pos} (F:FnOk X.prog X.w X.K X.mg X.base CX0 k f fd ps (spD X.K g)) (hr:Room k X.A) (hg:Gl X x) (hm:X.mg x=some (.ref f)) (hk:keepIn X.K (.ref f)=true) (hb:Binds X.K fd ps []) (hv:PE X (.Name y py) (tVar i)) (ha:AD X B es t)
  (bb:(x == ("__debug__":Str))=false:=by decide) (he:starEach (.Name y py::es) X.env=(false,eval (.Name y py) X.env)::starEach es X.env:=by rfl) (au:(backTo pos (starEach es X.env)).any (·.1)=false:=by rfl) :
  ED X B (.Call (.Name x p) (.Name y py::es) [] pos) (cbV i g t):=PE.imp (hB' F hr hg hm hk hb .nil pass0 (eG' hv ha he) bb he au) rG'
end
end DL
namespace DL
open PySem PySem.Spec PyProof.Rows L2
noncomputable def relab (sc bZ:Scope):Scope:={ sc with names:=sc.names.map λ(n,k)=>if (k == .free&&bZ.kind == .function&&bZ.names.lookup n == some .cell) then (n,.cell) else (n,k) }
noncomputable def clo (cells:List (Str×Addr)):List (Str×NameKind)->List (Str×Addr)->List (Str×Addr)
 | [],ag=>ag
 | (n,k)::r,ag=>if k == .free then clo cells r ((n,(cells.lookup n).getD 0)::ag) else clo cells r ag
theorem if' {env:Env} (f:Str×NameKind->List (Str×Addr)->Sem (ForInStep (List (Str×Addr))))
  (hf:∀ name kind cs,f (name,kind) cs=if kind == .free then (do let a ← cellOf env name;pure (.yield ((name,a)::cs))) else pure (.yield cs)) :
  ∀ (names:List (Str×NameKind)) (ag:List (Str×Addr)),(∀ n,(n,NameKind.free)∈names->∃ c,env.cells.lookup n=some c)->(forIn names ag f:Sem _)=pure (clo env.cells names ag)
 | [],ag,_=>by rw [forIn_nil];rfl
 | (n,k)::r,ag,h=>by
  rw [forIn_cons,hf]
  unfold clo
  have ih:=λpC=>if' f hf r pC (λn hn=>h n (mem_cons_of_mem _ hn))
  by_cases hk:(k == NameKind.free)=true
  ·rw [if_pos hk,if_pos hk]
   have bx:k=.free:=by simpa using hk
   subst bx
   obtain ⟨c,hc⟩:=h n mem_cons_self
   have e:cellOf env n=pure c:=by unfold cellOf;rw [hc]
   rw [e,hc]
   simp only [pure_bind,Option.getD_some]
   exact ih _
  ·rw [if_neg hk,if_neg hk]
   simp only [pure_bind]
   exact ih _
theorem eI' {scope:Scope}{env:Env} (h:∀ n,(n,NameKind.free)∈scope.names->∃ c,env.cells.lookup n=some c):closureFor scope env=pure (clo env.cells scope.names []):=by
 unfold closureFor
 dsimp only
 rw [if' (env:=env) _ (λname kind cs=>by cases hk:kind == NameKind.free<;>simp [hk]) scope.names [] h]
 rfl
theorem fQ' {cells:List (Str×Addr)}:∀ {names:List (Str×NameKind)}{ag:List (Str×Addr)}{x:Str}{c:Addr},(x,c)∈clo cells names ag->(x,c)∈ag\/((x,NameKind.free)∈names/\c=(cells.lookup x).getD 0)
 | [],ag,x,c,h=>.inl h
 | (n,k)::r,ag,x,c,h=>by
  unfold clo at h
  by_cases hk:(k == NameKind.free)=true
  ·rw [if_pos hk] at h
   have bx:k=.free:=by simpa using hk
   subst bx
   rcases fQ' h with z | ⟨z1,z2⟩
   ·rcases mem_cons.mp z with z | z
    ·cases z;exact .inr ⟨mem_cons_self,rfl⟩
    ·exact .inl z
   ·exact .inr ⟨mem_cons_of_mem _ z1,z2⟩
  ·rw [if_neg hk] at h
   rcases fQ' h with z | ⟨z1,z2⟩
   ·exact .inl z
   ·exact .inr ⟨mem_cons_of_mem _ z1,z2⟩
theorem hG' {cells:List (Str×Addr)}:∀ {names:List (Str×NameKind)}{ag:List (Str×Addr)}{x:Str},((x,NameKind.free)∈names\/∃ c,ag.lookup x=some c)->∃ c,(clo cells names ag).lookup x=some c
 | [],ag,x,h=>by
  rcases h with h | h
  ·cases h
  ·exact h
 | (n,k)::r,ag,x,h=>by
  unfold clo
  have push:∀ c0:Addr,(∃ c,ag.lookup x=some c)->∃ c,((n,c0)::ag).lookup x=some c:=λc0 ⟨c,hc⟩=>by
   rw [List.lookup_cons]
   cases x == n
   ·exact ⟨c,hc⟩
   ·exact ⟨c0,rfl⟩
  by_cases hk:(k == NameKind.free)=true
  ·rw [if_pos hk]
   refine hG' ?_
   rcases h with h | h
   ·rcases mem_cons.mp h with z | z
    ·cases z
     exact .inr ⟨_,by rw [List.lookup_cons,beq_self_eq_true]⟩
    ·exact .inl z
   ·exact .inr (push _ h)
  ·rw [if_neg hk]
   refine hG' ?_
   rcases h with h | h
   ·rcases mem_cons.mp h with z | z
    ·cases z;exact absurd (by rfl) hk
    ·exact .inl z
   ·exact .inr h
structure CompScope (bZ sc:Scope) (N N':List Str) (m:Nat):Prop where
 kind:sc.kind=.function
 nocell:∀ y∈sc.names,y.2≠.cell
 locals:∀ y∈sc.names,y.2=.local->sc.names.lookup y.1=some .local
 free:∀ y∈sc.names,y.2=.free->bZ.names.lookup y.1=some .cell\/bZ.names.lookup y.1=some .free
 nd:N'.Nodup
 len:N'.length=m+N.length
 up:∀ p∈(N'.drop m).zip N,((relab sc bZ).names.lookup p.1=none)\/(p.1=p.2/\(relab sc bZ).names.lookup p.1≠some .local)
noncomputable def cxC (X:Cx) (scope:Scope) (N':List Str) (C:Addr) (s:Shared) (H:Hp) (ex:List Addr):Cx :=
 { X with N:=N',s₀:=s,H₀:=H,env:=compEnvC scope (clo X.env.cells scope.names []) C X.env,outer:=X.stack,stack:=X.stack,ex:=ex,fn:=λ_=>false,pn:=[],xe:=λ_ _=>False }
def PTs (X:Cx) (aV:List Expr) (t:TT):Prop :=
 ∀ (aa:List (Addr×Obj)) (s:Shared) (U:L2.St) (H:Hp) (Q:Bool->Hp->Prop),Inv X aa U H s->t U H Q →
  wpAny (model X.prog X.w) X.A (forIn aV true λc r=>if r=true then do let ok ← isTrue c X.env (eval c X.env);pure (yield ok) else pure (yield r)) (TP X aa U Q) X.xe s
theorem py' {X:Cx}:PTs X [] (λ_ H Q=>Q true H):=λaa s U H Q I h=>wpAny_tests_nil ⟨H,I,h⟩
theorem pz' {X:Cx}{c:Expr}{t:TT} (h:PT X c t):PTs X [c] t:=λaa s U H Q I q=>wpAny_tests_one (h aa s U H Q I q)
abbrev calm (P:Program) (w:World) (A:Around){α:Type} (m:Sem α) (Q:α->Shared->Prop) (s:Shared):Prop:=wpAny (model P w) A m Q (λ_ _=>False) s
theorem calm.on {P:Program}{w:World}{A:Around}{α Z:Type}{m:Sem α}{f:α->Sem Z}{Q:α->Shared->Prop}{K:Z->Shared->Prop}{E:Value->Shared->Prop}{s:Shared} (h:calm P w A m Q s) (k:∀ a s',Q a s'->wpAny (model P w) A (f a) K E s'):wpAny (model P w) A (m >>= f) K E s :=
 wpAny_bind (wpAny_mono h k λ_ _ no=>no.elim)
def TurnMeets (P:Program) (w:World) (A:Around) (b9 iJ:Value) (tg bf:Expr) (aV:List Expr) (env:Env) (again aG:Shared->Prop) (s:Shared):Prop :=
 calm P w A (pyNext b9) (λeL s=>match eL with
  | none=>aG s
  | some v=>calm P w A (letOwnedTupleGo tg b9 v) (λ_ s=>calm P w A (assign tg env v) (λ_ s =>
    calm P w A (forIn aV true λc r=>if r=true then do let ok ← isTrue c env (eval c env);pure (yield ok) else pure (yield r)) (λkC s =>
     cond kC (calm P w A (eval bf env) (λx s=>calm P w A (call (.builtin "list.append") [iJ,x]) (λ_ s=>again s) s) s) (again s)) s) s) s) s
theorem l4' {P:Program}{w:World}{A:Around}{aG:Result->Shared->Prop}{s:Shared}{bf tg kD:Expr}{aV:List Expr}{sc:Scope}{aW:Pos}{b9 iJ:Value}{env:Env} (W:Nat->Shared->Prop)
  (cQ:∀ left s,W left s->TurnMeets P w A b9 iJ tg bf aV env (λs'=>∃ less,less < left/\W less s') (aG (.ok .next)) s) (left:Nat) (start:W left s) :
  codeAny (model P w) A (.compLoop (.ListComp bf [⟨tg,kD,aV,0⟩] sc aW) 0 b9 iJ env) aG s:=by
 refine codeAny_loop rfl W (λleft s here=>?_) left start
 have turn:=cQ left s here
 unfold TurnMeets at turn
 refine wpAny_noted ?_
 rw [compTurn_list]
 refine wpAny_bind (wpAny_standAt (turn.on λeL s1 h1=>?_))
 cases eL with
 | none=>exact wpAny_pure h1
 | some v=>exact calm.on h1 λ_ _ h2=>calm.on h2 λ_ _ h3=>calm.on h3 λkC s4 h4=>match kC,h4 with
  | false,h4=>wpAny_pure (And.intro rfl h4)
  | true,h4=>wpAny_bind (calm.on h4 λ_ _ h5=>calm.on h5 λ_ _ h6=>wpAny_pure (wpAny_pure (And.intro rfl h6)))
def Clear (X:Cx) (aa:List (Addr×Obj)) (H:Hp) (C:Addr):Prop:=H C=none/\C≠X.env.locals/\X.s₀.heap.objs.size<=C/\(∀ x c,X.env.cells.lookup x=some c->c≠C)/\∀ p∈X.pn++aa,p.1≠C
theorem Inv.clear {X:Cx}{aa:List (Addr×Obj)}{U:L2.St}{H:Hp}{s:Shared}{h':Heap}{C:Addr} (I:Inv X aa U H s) (c:Clear X aa H C) (hs:Heap.SameBut C s.heap h'):Inv X aa U H { s with heap:=h' } :=
 I.turned (t':=s.toks) (λb o hb e=>(hs.2 b hb).trans e) c.1 c.2.1 (.inr c.2.2.1) c.2.2.2.1 c.2.2.2.2
def CompW (m:Nat) (J:It) (g:TG) (tt:TT) (te:TE) (U:L2.St) (H1:Hp) (p:Addr) (Q:VK):Prop :=
 ∃ W:Nat->Nat->L2.St->Hp->Prop,(∃ n,W 0 n (replicate m none++U) (upd H1 p (.lst [])))/\∀ i n aj H',W i n aj H' →
  (J.stop i H'/\Q (.ref p) H')\/(J.go i H'/\∀ x H2,J.yld i H' x H2->g x aj H2 λaP H3=>tt aP H3 λb H4 =>
   if b=true then te aP H4 λy H5=>∃ ag,H5 p=some (.lst ag)/\ag.length < sizeLine/\∃ n',n' < n/\W (i+1) n' aP (upd H5 p (.lst (ag++[y])))
   else ∃ n',n' < n/\W (i+1) n' aP H4)
section
variable {X:Cx}{tg bf iter:Expr}{aV:List Expr}{scope:Scope}{pos:Pos}{N':List Str}{m:Nat}{g:TG}{tt:TT}{te:TE}
theorem ig' {aa:List (Addr×Obj)}{U:L2.St}{H2:Hp}{s2:Shared}{it:Addr}{fp:List Addr}{tn:Nat->Heap->Prop}{J:It}{Q:VK}{E:Value->Shared->Prop} (S:CompScope X.env.scope scope X.N N' m) (hc:X.calm=true)
  (hg:∀ C s H ex,PG (cxC X scope N' C s H ex) tg g) (ht:∀ C s H ex,PTs (cxC X scope N' C s H ex) aV tt) (he:∀ C s H ex,PE (cxC X scope N' C s H ex) bf te)
  (I2:Inv X aa U H2 s2) (T:Turn X.prog X.w X.K tg J fp it tn) (dP:tn 0 s2.heap) (f2:∀ b∈fp,FpOk X aa H2 b) (hw:∀ p,H2 p=none->CompW m J g tt te U H2 p Q) :
  wpAny (model X.prog X.w) X.A (newList []) (λag s3=>wpAny (model X.prog X.w) X.A (newFunctionEnv scope X.env.globals (clo X.env.cells scope.names []) [] X.env.qual none .none (some X.env)) (λcR s4 =>
   codeAny (model X.prog X.w) X.A (.compStart (.ListComp bf [⟨tg,iter,aV,0⟩] scope pos) 0 (.ref it) ag { cR with scope:=relabel scope X.env })
    (λr s'=>match r with | .ok _=>∃ p H' mm,ag=.ref p/\s'.heap.Ns cR.locals mm/\Inv X aa U H' s'/\Clear X aa H' cR.locals/\Q (.ref p) H' | .error _=>False) s4) E s3) E s2:=by
 refine wpAny_newObj_type (wpAny_newFunctionEnv S.nocell (by intro y hy;simp at hy) (λh1 jw jy=>?_) S.kind)
 dsimp only at jw jy ⊢
 -- the new list
 have hp:H2 s2.heap.objs.size=none:=I2.hok.fresh (le_refl _)
 obtain ⟨W,⟨n0,w0⟩,turn⟩:=hw _ hp
 obtain ⟨p,hP⟩:∃ p,p=s2.heap.objs.size:=⟨_,rfl⟩
 obtain ⟨s3,kE⟩:∃ s3:Shared,s3={ s2 with heap:=s2.heap.push { cls:=.type "list", dict:=none,data:=.seq ([]:List Value).toArray } }:=⟨_,rfl⟩
 obtain ⟨C,hC⟩:∃ C,C=s3.heap.objs.size:=⟨_,rfl⟩
 obtain ⟨H3,kG⟩:∃ H3,H3=upd H2 p (.lst []):=⟨_,rfl⟩
 have h3:s3.heap=s2.heap.push { cls:=.type "list", dict:=none,data:=.seq ([]:List Value).toArray }:=by rw [kE]
 have fS:h1.Ns C (λx=>([]:List (Str×Value)).reverse.lookup x):=by rw [hC,h3];exact jw
 have iK:Heap.SameBut C (s3.heap.push { cls:=.type "dict", data:=.dict #[] }) h1:=by rw [hC,h3];exact jy
 rw [← hP] at hp
 have vd:W 0 n0 (replicate m none++U) H3:=by rw [kG,hP];exact w0
 have kH:∀ i n aj H',W i n aj H'->(J.stop i H'/\Q (.ref p) H')\/(J.go i H'/\∀ x H2,J.yld i H' x H2->g x aj H2 λaP H3=>tt aP H3 λb H4 =>
   if b=true then te aP H4 λy H5=>∃ ag,H5 p=some (.lst ag)/\ag.length < sizeLine/\∃ n',n' < n/\W (i+1) n' aP (upd H5 p (.lst (ag++[y])))
   else ∃ n',n' < n/\W (i+1) n' aP H4):=by rw [hP];exact turn
 have I3:Inv X aa U H3 s3:=by
  rw [kG,kE,hP]
  exact I2.laid (t':=s2.toks) (λb u e=>get?_push_of_some _ e) (le_refl _) ⟨zero_le _,[],0,.nil,get?_push_size _ rfl⟩
 have fM:tn 0 s3.heap:=T.keep _ _ _ dP λb _ o e=>by rw [h3];exact get?_push_of_some _ e
 have f3:∀ b∈fp,FpOk X aa H3 b:=λb hb=>by
  obtain ⟨a0,a1⟩:=f2 b hb
  refine ⟨?_,a1⟩
  obtain ⟨o,e,_⟩:=T.obj _ _ dP b hb
  have ne:b≠p:=λz=>by
   have:=lt_size e
   rw [← hP,z] at this
   exact lt_irrefl _ this
  rw [kG,ai' ne];exact a0
 -- the block's context
 have br:∀ x c,(clo X.env.cells scope.names []).lookup x=some c->X.env.cells.lookup x=some c:=λx c e=>by
  rcases fQ' (mem_of_lookup e) with z | ⟨z1,z2⟩
  ·cases z
  ·obtain ⟨c',aD⟩:=I2.ok.has x (S.free _ z1 rfl)
   rw [aD] at z2
   rw [z2];exact aD
 have fB:Clear X aa H3 C:=by
  refine ⟨?_,?_,?_,λx c e z=>?_,λq hq z=>?_⟩
  ·exact I3.hok.fresh (Nat.le_of_eq hC.symm)
  ·have:=I3.lt;rw [← hC] at this;exact ne_of_gt this
  ·have:=I3.sz;rw [← hC] at this;exact this
  ·obtain ⟨v,q⟩:=I3.cell x c e
   have:=q.lt;rw [← hC,z] at this;exact lt_irrefl _ this
  ·have:=lt_size (I3.pin q hq).1
   rw [← hC,z] at this;exact lt_irrefl _ this
 have old:∀ b o,s3.heap.get? b=some o->h1.get? b=some o:=λb o e=>by
  have ne:b≠C:=λz=>by have:=lt_size e;rw [← hC,z] at this;exact lt_irrefl _ this
  exact (iK.2 b ne).trans (get?_push_of_some _ e)
 have ok:(cxC X scope N' C s3 H3 fp).Ok:=by
  refine ⟨I3.ok.mod,S.kind,I3.ok.glob,I3.ok.blt,Nat.le_of_eq hC.symm,λx y c e1 e2=>I3.ok.inj x y c (br x c e1) (br y c e2),λx hx=>?_,λx c z=>(nomatch z),λz=>I3.ok.hd z,I3.ok.frames,.inl rfl,λb hb=>⟨λz=>?_,λx c e=>(f3 b hb).2.2.2.2.1 x c (br x c e)⟩,I3.bs,le_trans I3.ok.bsz I3.sz,λb o e hb=>?_,λb hb z=>?_,I3.stack,λb hb=>I3.stkFree b hb,λc P h=>I3.base.tbls P _ (I3.ok.tb c P h)⟩
  ·-- has
   have gN:(relab scope X.env.scope).names.lookup x=some .cell\/(relab scope X.env.scope).names.lookup x=some .free:=hx
   have mem:∃ k,(x,k)∈(relab scope X.env.scope).names/\(k=NameKind.cell\/k=NameKind.free):=by
    rcases gN with z | z
    ·exact ⟨_,mem_of_lookup z,.inl rfl⟩
    ·exact ⟨_,mem_of_lookup z,.inr rfl⟩
   obtain ⟨k,hm,hk⟩:=mem
   obtain ⟨⟨n1,k1⟩,hm1,e1⟩:=mem_map.mp hm
   refine hG' (.inl ?_)
   dsimp only at e1
   by_cases hcond:(k1 == NameKind.free&&X.env.scope.kind == ScopeKind.function&&X.env.scope.names.lookup n1 == some NameKind.cell)=true
   ·rw [if_pos hcond] at e1
    cases e1
    have:k1=.free:=by
     simp only [and_eq_true,beq_iff_eq] at hcond
     exact hcond.1.1
    rw [← this];exact hm1
   ·rw [if_neg hcond] at e1
    cases e1
    rcases hk with rfl | rfl
    ·exact absurd rfl (S.nocell _ hm1)
    ·exact hm1
  ·obtain ⟨o,e,_⟩:=T.obj _ _ fM b hb
   have:=lt_size e
   rw [← hC] at this
   have z':b=C:=z
   rw [z'] at this;exact lt_irrefl _ this
  ·obtain ⟨a0,a1,a2,a3,_⟩:=f3 b hb
   rcases a3 with z | z
   ·exact I3.ok.noex b o e z
   ·exact absurd (lt_of_lt_of_le (lt_size e) (le_trans I3.ok.bsz z)) (lt_irrefl _)
  ·have z':=I3.stkSub b z
   obtain ⟨a0,a1,a2,_⟩:=f3 b hb
   rcases mem_cons.mp z' with e | e
   ·exact a1 e
   ·exact a2 e
 -- the block's first state
 have I4:Inv (cxC X scope N' C s3 H3 fp) [] (replicate m none++U) H3 { s3 with heap:=h1,toks:=s3.toks+([]:List (Str×Value)).length }:=by
  obtain ⟨mo,iL,px⟩:=I3.loc
  refine ⟨ok,rfl,I3.bare,Un.kept old,⟨_,fS,λi x v e1 e2 e3=>?_⟩,λx c e=>?_,fB.1,λx c e=>I3.freeC x c (br x c e),λq hq=>absurd (show q∈([]:List (Addr×Obj)) from hq) (by simp),I3.hok.kept old,?_⟩
  ·have hi:m<=i:=by
    by_cases z:m<=i
    ·exact z
    ·rw [getElem?_append_left (by rw [length_replicate];omega),List.getElem?_replicate] at e2
     split at e2<;>cases e2
   rw [getElem?_append_right (by rw [length_replicate];exact hi),length_replicate] at e2
   have dC:N'[i]?=some x:=e1
   have cw:i - m < X.N.length:=by
    have:=(List.getElem?_eq_some_iff.mp dC).1
    rw [S.len] at this
    omega
   have e4:(N'.drop m)[i - m]?=some x:=by rw [getElem?_drop];rw [show m+(i - m)=i from by omega];exact dC
   have e5:X.N[i - m]?=some X.N[i - m]:=getElem?_eq_getElem cw
   have e6:((N'.drop m).zip X.N)[i - m]?=some (x,X.N[i - m]):=by rw [List.getElem?_zip_eq_some];exact ⟨e4,e5⟩
   have pD:Vis (relab scope X.env.scope) x:=e3
   rcases S.up _ (mem_of_getElem? e6) with z | ⟨z1,z2⟩
   ·have z':(relab scope X.env.scope).names.lookup x=none:=z
    rcases pD with y | y | y<;>rw [z'] at y<;>cases y
   ·have ve:x=X.N[i - m]:=z1
    have vf:(relab scope X.env.scope).names.lookup x≠some .local:=z2
    have pE:(relab scope X.env.scope).names.lookup x=some .cell\/(relab scope X.env.scope).names.lookup x=some .free:=by
     rcases pD with y | y | y
     ·exact absurd y vf
     ·exact .inl y
     ·exact .inr y
    obtain ⟨c,ca⟩:=ok.has x pE
    have vg:=br x c ca
    -- the name in the def's own frame
    have mem:(x,NameKind.free)∈scope.names:=by
     rcases fQ' (mem_of_lookup ca) with y | ⟨y,_⟩
     ·cases y
     ·exact y
    have pF:Vis X.env.scope x:=by
     rcases S.free _ mem rfl with y | y
     ·exact .inr (.inl y)
     ·exact .inr (.inr y)
    obtain ⟨u,ru,l⟩:=px (i - m) x v (by rw [e5,← ve]) e2 pF
    refine ⟨u,ru,.inr ⟨pE,c,ca,?_⟩⟩
    rcases l with ⟨k,_⟩ | ⟨_,c',e',z'⟩
    ·have k':X.env.scope.names.lookup x=some .local:=k
     rcases S.free _ mem rfl with y | y<;>(have y':X.env.scope.names.lookup x=_:=y;rw [k'] at y';cases y')
    ·rw [vg] at e';cases e'
     exact z'.keeps old
  ·obtain ⟨v,q⟩:=I3.cell x c (br x c e)
   exact ⟨v,q.keeps old⟩
  ·show (replicate m none++U).length=N'.length
   rw [length_append,length_replicate,S.len,I3.len]
 have cF:∀ {H':Hp},(∀ b∈fp,H' b=none)->∀ b∈fp,FpOk (cxC X scope N' C s3 H3 fp) [] H' b:=λ{H'} hn b hb=>by
  refine ⟨hn b hb,(ok.exf b hb).1,ok.exfs b hb,.inl hb,(ok.exf b hb).2,λq hq=>absurd (show q∈([]:List (Addr×Obj)) from hq) (by simp)⟩
 -- what stands behind the block
 have cP:∀ {aj:L2.St}{H':Hp}{s':Shared},Inv (cxC X scope N' C s3 H3 fp) [] aj H' s'->Inv X aa U H' s'/\Clear X aa H' C:=λ{aj H' s'} J'=>by
  refine ⟨I3.call' J'.os J'.base J'.hok J'.bare λb hb=>?_,J'.free,fB.2⟩
  obtain ⟨a0,a1,a2,a3,a4,a5⟩:=f3 b hb
  exact ⟨a3,a1,a4,a5⟩
 have aO:∀ s4:Shared,s4={ s3 with heap:=h1,toks:=s3.toks+([]:List (Str×Value)).length } →
   codeAny (model X.prog X.w) X.A (.compLoop (.ListComp bf [⟨tg,iter,aV,0⟩] scope pos) 0 (.ref it) (.ref p) (compEnvC scope (clo X.env.cells scope.names []) C X.env))
    (λr s'=>match r with | .ok _=>∃ p' H' mm,Value.ref p=.ref p'/\s'.heap.Ns C mm/\Inv X aa U H' s'/\Clear X aa H' C/\Q (.ref p') H' | .error _=>False) s4:=by
  rintro s4 rfl
  refine l4' (λn s'=>∃ i aj H',Inv (cxC X scope N' C s3 H3 fp) [] aj H' s'/\tn i s'.heap/\(∀ b∈fp,H' b=none)/\W i n aj H') ?_ n0 ⟨0,_,_,I4,T.keep _ _ _ fM λb _ o e=>old b o e,λb hb=>(f3 b hb).1,vd⟩
  rintro n s5 ⟨i,da,H5,I5,fN,iD,w5⟩
  show TurnMeets _ _ _ _ _ _ _ _ _ _ _ _
  unfold TurnMeets
  rcases kH i n da H5 w5 with ⟨stop,qn⟩ | ⟨go,step⟩
  ·refine wpAny_mono (T.done (cxC X scope N' C s3 H3 fp) rfl rfl rfl hc i [] s5 da H5 (λ_ _=>False) I5 (cF iD) fN stop) (λr s6 ⟨hr,I6⟩=>?_) λ_ _ z=>z
   subst hr
   obtain ⟨mm,vh,_⟩:=I6.loc
   obtain ⟨b1,b2⟩:=cP I6
   exact ⟨p,H5,mm,rfl,vh,b1,b2,qn⟩
  ·refine wpAny_mono (T.item (cxC X scope N' C s3 H3 fp) rfl rfl rfl hc i [] s5 da H5 (λ_ _=>False) I5 (cF iD) fN go) (λr s6 ⟨u,hr,h6⟩=>?_) λ_ _ z=>z
   subst hr
   refine wpAny_mono h6 (λ_ s7 ⟨x,H7,I7,r7,y7,kJ,vm⟩=>?_) λ_ _ z=>z
   have vn:=I7.pinned (cF vm) (T.obj _ _ kJ)
   refine wpAny_mono (hg C s3 H3 fp _ s7 da H7 x u _ vn r7 (step x H7 y7)) (λ_ s8 ⟨gO,H8,I8,q8⟩=>?_) λ_ _ z=>z
   refine wpAny_mono (ht C s3 H3 fp _ s8 gO H8 _ I8 q8) (λok s9 ⟨H9,I9,q9⟩=>?_) λ_ _ z=>z
   have again:∀ {pG:L2.St}{Ha:Hp}{sa:Shared},Inv (cxC X scope N' C s3 H3 fp) ([]++pinsAt fp s7.heap) pG Ha sa->tn (i+1) sa.heap/\(∀ b∈fp,Ha b=none):=λ{pG Ha sa} Ia=>by
    refine ⟨T.keep _ _ _ kJ λb hb o e=>(Ia.pin (b,o) (mem_append_right _ (mem_append_right _ (dE' hb e)))).1,λb hb=>?_⟩
    obtain ⟨o,e,d⟩:=T.obj _ _ kJ b hb
    exact (Ia.pin (b,o) (mem_append_right _ (mem_append_right _ (dE' hb e)))).2.1
   cases ok with
   | false =>
    rw [if_neg Bool.false_ne_true] at q9
    obtain ⟨n',gr,w9⟩:=q9
    obtain ⟨a1,a2⟩:=again I9
    exact ⟨n',gr,i+1,gO,H9,I9.unpinned,a1,a2,w9⟩
   | true =>
    rw [if_pos rfl] at q9
    refine wpAny_mono (he C s3 H3 fp _ s9 gO H9 _ I9 q9) (λxv vo ⟨y,pH,vp,vq,ag,pI,hl,n',gr,vt⟩=>?_) λ_ _ z=>z
    refine wpAny_mono (h9' (X:=cxC X scope N' C s3 H3 fp) _ vo gO pH (.ref p) [y] (.ref p) [xv] (λ_ H'=>H'=upd pH p (.lst (ag++[y]))) vp rfl (.cons vq .nil) ⟨p,ag,y,rfl,rfl,pI,hl,rfl⟩) (λ_ zf ⟨zg,zh,pJ,_,vv⟩=>?_) λ_ _ z=>z
    subst vv
    obtain ⟨a1,a2⟩:=again pJ
    exact ⟨n',gr,i+1,gO,_,pJ.unpinned,a1,a2,vt⟩
 subst hC
 subst kE
 subst hP
 refine codeAny_compStart_list ?_ (T.self X.A 0 _ _ _ (T.keep _ _ _ fM λb _ o e=>old b o e) ?_)
 ·exact aO _ rfl
 ·exact aO _ rfl
end
section
variable {X:Cx}{tg bf iter:Expr}{aV:List Expr}{scope:Scope}{pos:Pos}{N':List Str}{m:Nat}{g:TG}{tt:TT}{te:TE}{wi:TI}
noncomputable def tComp (m:Nat) (wi:TI) (g:TG) (tt:TT) (te:TE):TE:=λU H Q=>wi U H λJ H1=>∀ p,H1 p=none->CompW m J g tt te U H1 p Q
theorem pA' (S:CompScope X.env.scope scope X.N N' m) (hc:X.calm=true) (hi:PI X tg iter wi)
  (hg:∀ C s H ex,PG (cxC X scope N' C s H ex) tg g) (ht:∀ C s H ex,PTs (cxC X scope N' C s H ex) aV tt) (he:∀ C s H ex,PE (cxC X scope N' C s H ex) bf te)
  (hs:∀ x,foldedSetIterable iter X.env x=pure x:=by intro _;rfl):PE X (.ListComp bf [⟨tg,iter,aV,0⟩] scope pos) (tComp m wi g tt te):=by
 intro aa s U H Q I h
 rw [eval_ListComp]
 refine wpAny_comprehension_free (use:=none) rfl hs (eI' λn hn=>I.ok.has n (S.free _ hn rfl)) S.kind S.locals (thn (hi aa s U H _ I h) λxv s1 h1=>thn h1 λiC s2 h2=>?_)
 obtain ⟨it,fp,tn,J,H2,e,I2,T,dP,f2,hw⟩:=h2
 subst e
 refine thn (ig' (pos:=pos) (iter:=iter) S hc hg ht he I2 T dP f2 hw) λag s3 h3=>thn h3 λcR s4 h4=>codeAny_mono h4 λr s5 h5=>?_
 cases r with
 | error x=>exact h5.elim
 | ok fl =>
  obtain ⟨p,H5,mm,rfl,hn,I5,cl,q⟩:=h5
  exact ⟨mm,hn,λh' fT=>⟨.ref p,H5,Inv.clear I5 cl fT,rfl,q⟩⟩
theorem gN' {i:Nat}{y:Str}{py cq:Pos} (S:CompScope X.env.scope scope X.N N' m) (hc:X.calm=true) (hN:X.N.Nodup) (bc:X.N[i]?=some y) (hy:X.env.scope.names.lookup y=some .local) (hi:PI X tg iter wi)
  (hg:∀ C s H ex,PG (cxC X scope N' C s H ex) tg g) (ht:∀ C s H ex,PTs (cxC X scope N' C s H ex) aV tt) (he:∀ C s H ex,PE (cxC X scope N' C s H ex) bf te)
  (gP:swapsWith (.ListComp bf [⟨tg,iter,aV,0⟩] scope pos) (some (.Name y py)) cq.line X.env=pure true)
  (hs:∀ x,foldedSetIterable iter X.env x=pure x:=by intro _;rfl):PS X (.Assign [.Name y py] (.ListComp bf [⟨tg,iter,aV,0⟩] scope pos) cq) (tAsg (tComp m wi g tt te) (gName i)):=by
 intro aa s U H D I h
 rw [exec_Assign_Name_used _ _ _ _ gP]
 refine wpAny_bind (wpAny_standAt (wpAny_bind ?_))
 show wpAny _ X.A (do let _ ← comprehension (.ListComp bf [⟨tg,iter,aV,0⟩] scope pos) scope X.env _ (newList []) false (eval iter X.env) (some (assign (.Name y py) X.env))) _ _ s
 refine wpAny_bind (thn (wpAny_comprehension_free (use:=some (assign (.Name y py) X.env)) (Q:=λ_ s'=>SP X aa D .next s') rfl hs (eI' λn hn=>I.ok.has n (S.free _ hn rfl)) S.kind S.locals
  (thn (hi aa s U H _ I h) λxv s1 h1=>thn h1 λiC s2 h2=>?_)) λ_ s' hq=>wpAny_pure (wpAny_pure hq))
 obtain ⟨it,fp,tn,J,H2,e,I2,T,dP,f2,hw⟩:=h2
 subst e
 refine thn (ig' (pos:=pos) (iter:=iter) S hc hg ht he I2 T dP f2 hw) λag s3 h3=>thn h3 λcR s4 h4=>codeAny_mono h4 λr s5 h5=>?_
 cases r with
 | error x=>exact h5.elim
 | ok fl =>
  obtain ⟨p,H5,mm,rfl,hn,I5,cl,q⟩:=h5
  show wpAny _ X.A (assign (.Name y py) X.env (.ref p)) _ _ s5
  refine wpAny_assign_Name (h3' (v:=.ref p) I5 hN bc (.inl hy) rfl (λs6 I6 ⟨a,vw,ha⟩=>?_) (.inr hy))
  have fL:cR.locals≠a:=by
   rcases ha with rfl | ha
   ·exact cl.2.1
   ·exact λz=>cl.2.2.2.1 y a ha z.symm
  refine ⟨mm,hn.sameBut vw fL,λh' fT=>?_⟩
  have vx:Clear X aa H5 cR.locals:=cl
  exact ⟨_,H5,Inv.clear I6 vx fT,q⟩
end
noncomputable def inC {α:Type} (m:Nat) (g:M α):M α:=λY=>match g (replicate m none++Y) with
 | some (a,ae)=>some (a,ae.drop m)
 | none=>none
noncomputable def compM (aq:D->M Unit) (ts:M Bool) (el:M D):List D->M (List D)
 | []=>ret []
 | d::ds=>bnd (aq d) λ_=>bnd ts λb=>if b then bnd el λx=>bnd (compM aq ts el ds) λr=>ret (x::r) else compM aq ts el ds
noncomputable def compO (m:Nat) (it:M (List D)) (aq:D->M Unit) (ts:M Bool) (el:M D):M (List D):=bnd it λds=>if ds.length<=lim then inC m (compM aq ts el ds) else λ_=>none
noncomputable def bUp (m:Nat) (B:BB):BB:=λi=>if i < m then none else B (i - m)
theorem pB' {α:Type}{m:Nat}{g:M α}{Y ae:Gm}{a:α} (h:inC m g Y=some (a,ae)):∃ ab,g (replicate m none++Y)=some (a,ab)/\ae=ab.drop m:=by
 unfold inC at h
 cases e:g (replicate m none++Y) with
 | none=>rw [e] at h;cases h
 | some q=>obtain ⟨b,ab⟩:=q;rw [e] at h;cases h;exact ⟨ab,rfl,rfl⟩
section
variable {K:PySem.W.Frag}{B:BB}{G I H:Hp}{U aj:L2.St}{Y ae:Gm}{m:Nat}
theorem eJ' {α:Type}{l:List (Option α)}{m i:Nat}{a:α} (h:(replicate m (none:Option α)++l)[i]?=some (some a)):m<=i/\l[i - m]?=some (some a):=by
 by_cases hi:m<=i
 ·rw [getElem?_append_right (by rw [length_replicate];exact hi),length_replicate] at h
  exact ⟨hi,h⟩
 ·rw [getElem?_append_left (by rw [length_replicate];omega),List.getElem?_replicate] at h
  split at h<;>cases h
theorem o6' {α:Type}{l:List (Option α)}{m i:Nat} (hi:m<=i):(replicate m (none:Option α)++l)[i]?=l[i - m]?:=by
 rw [getElem?_append_right (by rw [length_replicate];exact hi),length_replicate]
theorem Rep.up (r:Rep K B G I H U Y) (m:Nat):Rep K (bUp m B) G I H (replicate m none++U) (replicate m none++Y) where
 iH:=r.iH
 gH:=r.gH
 len:=by rw [length_append,length_append,length_replicate,length_replicate,r.len]
 slot:=λi q e=>by
  obtain ⟨hi,e1⟩:=eJ' e
  obtain ⟨v,e2,e3⟩:=r.slot _ q e1
  exact ⟨v,by rw [o6' hi];exact e2,e3⟩
 dist:=λi j q q' v e e' mm kK s1 s2=>by
  obtain ⟨hi,e1⟩:=eJ' e
  obtain ⟨hj,e2⟩:=eJ' e'
  have:=r.dist _ _ q q' v e1 e2 mm kK (eJ' s1).2 (eJ' s2).2
  omega
 bor:=λi ds e=>by
  obtain ⟨hi,e1⟩:=eJ' e
  rw [o6' hi,r.bor _ ds e1]
  unfold bUp
  rw [if_neg (by omega)]
theorem Rep.down (r:Rep K (bUp m B) G I H aj ae) (hs:aj.drop m=U):Rep K B G I H U (ae.drop m):=by
 subst hs
 exact {
  iH:=r.iH,gH:=r.gH
  len:=by rw [length_drop,length_drop,r.len]
  slot:=λi q e=>by
   rw [getElem?_drop] at e
   obtain ⟨v,e2,e3⟩:=r.slot _ q e
   exact ⟨v,by rw [getElem?_drop];exact e2,e3⟩
  dist:=λi j q q' v e e' mm kK s1 s2=>by
   rw [getElem?_drop] at e e' s1 s2
   have:=r.dist _ _ q q' v e e' mm kK s1 s2
   omega
  bor:=λi ds e=>by
   rw [getElem?_drop] at e ⊢
   rw [r.bor _ ds e]
   unfold bUp
   rw [if_neg (by omega)]
   congr 1
   omega }
theorem Rep.guard (r:Rep K B G I H U Y){p:Addr} (h:H p=none) (o:HO):Rep K B (upd G p o) I (upd H p o) U Y where
 iH:=r.iH.trans (aL' h o)
 gH:=ib' r.gH o
 len:=r.len
 slot:=λi q e=>by
  obtain ⟨v,e1,e2⟩:=r.slot i q e
  refine ⟨v,e1,?_⟩
  have mt:∀ ds,Mt K G I H ds v->Mt K (upd G p o) I (upd H p o) ds v:=λds hh=>by
   obtain ⟨p2,xs,h1,h2,h3,h4,h5⟩:=hh
   have ne:p2≠p:=aY' h2 h
   exact ⟨p2,xs,h1,by rw [ai' ne];exact h2,h3,by rw [ai' ne];exact h4,h5⟩
  cases q with
  | val d=>exact e2
  | dic ds =>
   obtain ⟨p2,xs,h1,h2,h3,h4,h5⟩:=e2
   have ne:p2≠p:=aY' h2 h
   exact ⟨p2,xs,h1,by rw [ai' ne];exact h2,h3,by rw [ai' ne];exact h4,h5⟩
  | own ds=>exact mt ds e2
  | bor ds=>exact mt ds e2
  | fro ds =>
   obtain ⟨p2,xs,f1,f2,f3,f4⟩:=e2
   have ne:p2≠p:=aY' (r.iH _ _ f2) h
   exact ⟨p2,xs,f1,f2,by rw [ai' ne];exact f3,f4⟩
 dist:=r.dist
 bor:=r.bor
theorem Rep.reguard {p:Addr}{o o':HO} (r:Rep K B (upd G p o) I H U Y) (hi:I p=none):Rep K B (upd G p o') I (upd H p o') U Y where
 iH:=λb u q=>by
  have ne:b≠p:=λz=>by subst z;rw [hi] at q;cases q
  rw [ai' ne];exact r.iH b u q
 gH:=λb u q=>by
  by_cases e:b=p
  ·subst e;rw [ap'] at q ⊢;exact q
  ·rw [ai' e] at q ⊢;exact r.gH b u (by rw [ai' e];exact q)
 len:=r.len
 slot:=λi q e=>by
  obtain ⟨v,e1,e2⟩:=r.slot i q e
  refine ⟨v,e1,?_⟩
  have mt:∀ ds,Mt K (upd G p o) I H ds v->Mt K (upd G p o') I (upd H p o') ds v:=λds hh=>by
   obtain ⟨p2,xs,h1,h2,h3,h4,h5⟩:=hh
   have ne:p2≠p:=λz=>by subst z;rw [ap'] at h4;cases h4
   rw [ai' ne] at h4
   exact ⟨p2,xs,h1,by rw [ai' ne];exact h2,h3,by rw [ai' ne];exact h4,h5⟩
  cases q with
  | val d=>exact e2
  | dic ds =>
   obtain ⟨p2,xs,h1,h2,h3,h4,h5⟩:=e2
   have ne:p2≠p:=λz=>by subst z;rw [ap'] at h4;cases h4
   rw [ai' ne] at h4
   exact ⟨p2,xs,h1,by rw [ai' ne];exact h2,h3,by rw [ai' ne];exact h4,h5⟩
  | own ds=>exact mt ds e2
  | bor ds=>exact mt ds e2
  | fro ds =>
   obtain ⟨p2,xs,f1,f2,f3,f4⟩:=e2
   have ne:p2≠p:=λz=>by rw [z,hi] at f2;cases f2
   rw [ai' ne] at f3
   exact ⟨p2,xs,f1,f2,by rw [ai' ne];exact f3,f4⟩
 dist:=r.dist
 bor:=r.bor
theorem Rep.unguard {p:Addr}{o:HO} (r:Rep K B (upd G p o) I H U Y) (hg:G p=none):Rep K B G I H U Y/\Apart U Y p:=by
 have ap:Apart U Y p:=λj q e mm s=>by
  obtain ⟨v,e1,e2⟩:=r.slot j q e
  obtain ⟨p2,xs,h1,h2,h3,h4⟩:=e2.mt mm
  rw [e1,h1] at s
  cases s
  rw [ap'] at h4;cases h4
 refine ⟨{ iH:=r.iH,gH:=(aL' hg o).trans r.gH,len:=r.len,slot:=λi q e=>?_,dist:=r.dist,bor:=r.bor },ap⟩
 obtain ⟨v,e1,e2⟩:=r.slot i q e
 refine ⟨v,e1,?_⟩
 have mt:∀ ds,Mt K (upd G p o) I H ds v->Mt K G I H ds v:=λds hh=>by
  obtain ⟨p2,xs,h1,h2,h3,h4,h5⟩:=hh
  have ne:p2≠p:=λz=>by subst z;rw [ap'] at h4;cases h4
  rw [ai' ne] at h4
  exact ⟨p2,xs,h1,h2,h3,h4,h5⟩
 cases q with
 | val d=>exact e2
 | dic ds =>
  obtain ⟨p2,xs,h1,h2,h3,h4,h5⟩:=e2
  have ne:p2≠p:=λz=>by subst z;rw [ap'] at h4;cases h4
  rw [ai' ne] at h4
  exact ⟨p2,xs,h1,h2,h3,h4,h5⟩
 | own ds=>exact mt ds e2
 | bor ds=>exact mt ds e2
 | fro ds =>
  obtain ⟨p2,xs,f1,f2,f3,f4⟩:=e2
  have ne:p2≠p:=λz=>by rw [z,ap'] at f3;cases f3
  rw [ai' ne] at f3
  exact ⟨p2,xs,f1,f2,f3,f4⟩
theorem Grow.unguard {I':Hp}{p:Addr}{o:HO} (g:Grow (upd G p o) I I'):Grow G I I':=⟨g.up,λb u q=>by
 rcases g.new b u q with z | z
 ·exact .inl z
 ·by_cases e:b=p
  ·subst e;rw [ap'] at z;cases z
  ·rw [ai' e] at z;exact .inr z⟩
theorem Grow.keepsOut {I':Hp}{p:Addr}{o:HO} (g:Grow (upd G p o) I I') (hi:I p=none):I' p=none:=by
 cases e:I' p with
 | none=>rfl
 | some u =>
  rcases g.new p u e with z | z
  ·rw [hi] at z;cases z
  ·rw [ap'] at z;cases z
end
section
variable {X:Cx}{B:BB}{tg bf iter:Expr}{aV:List Expr}{scope:Scope}{pos:Pos}{N':List Str}{m:Nat}{it:M (List D)}{aq:D->M Unit}{ts:M Bool}{el:M D}
def TDs (X:Cx) (B:BB) (aV:List Expr) (g:M Bool):Prop:=PTs X aV (tTD X.K B g)
theorem bZ':TDs X B [] (ret true):=λaa s U H Q I h=>py' aa s U H Q I (by
 obtain ⟨G,I,Y,b,ae,r,e1,k⟩:=h
 cases e1
 exact k _ _ r (Grow.refl _ _))
theorem cJ' {c:Expr}{g:M Bool} (h:TD X B c g):TDs X B [c] g:=pz' h
theorem jk' {K:PySem.W.Frag}:∀ U H Q,tO K B (compO m it aq ts el) U H Q->tComp m (tI K B it) (tGD K (bUp m B) m aq) (tTD K (bUp m B) ts) (tD K (bUp m B) el) U H Q:=λU H Q q=>by
 obtain ⟨G,I,Y,rs,ae,r,e1,k⟩:=q
 obtain ⟨ds,ab,e2,e3⟩:=af' e1
 by_cases fC:ds.length<=lim
 case neg=>rw [if_neg fC] at e3;cases e3
 rw [if_pos fC] at e3
 obtain ⟨kL,e4,rfl⟩:=pB' e3
 refine ⟨G,I,Y,ds,ab,r,e2,λJ H1 I1 r1 g1 y p hp=>?_⟩
 have gp:=r1.gFree hp
 have ip:=r1.iFree hp
 refine ⟨λi n aj H'=>∃ ag ad I2 ah ay,Rep K (bUp m B) (upd G p (.lst ag)) I2 H' aj ah/\Grow G I1 I2/\I2 p=none/\IsA K I2 ad ag/\aj.drop m=U/\compM aq ts el (ds.drop i) ah=some (ay,kL)/\ad++ay=rs/\ad.length<=i/\i<=ds.length/\n=ds.length - i,
  ⟨ds.length,[],[],I1,_,rs,(r1.up m).guard hp _,Grow.refl _ _,ip,IsA.nil,by rw [List.drop_append_of_le_length (by simp),drop_of_length_le (by simp),nil_append],by simpa using e4,rfl,zero_le _,zero_le _,rfl⟩,?_⟩
 rintro i n aP H2 ⟨ag,ad,I2,ah,ay,r2,g2,kM,ha,hs,e5,rfl,zk,hi,rfl⟩
 obtain ⟨yg,ys⟩:=y i H2 (g2.up.trans r2.iH)
 by_cases bM:i < ds.length
 ·have hd:ds.drop i=ds[i]::ds.drop (i+1):=drop_eq_getElem_cons bM
  obtain ⟨go,yld⟩:=yg ds[i] (getElem?_eq_getElem bM)
  rw [hd,compM] at e5
  obtain ⟨u,aQ,e6,e7⟩:=af' e5
  obtain ⟨b,aM,e8,e9⟩:=af' e7
  refine .inr ⟨go,λx H3 hy=>?_⟩
  have main:∀ I3,Rep K (bUp m B) (upd G p (.lst ag)) I3 H3 aP ah->Grow (upd G p (.lst ag)) I2 I3->Is K I3 ds[i] x->tGD K (bUp m B) m aq x aP H3 λaP H3=>tTD K (bUp m B) ts aP H3 λb H4 =>
    if b=true then tD K (bUp m B) el aP H4 λy H5=>∃ ag,H5 p=some (.lst ag)/\ag.length < sizeLine/\∃ n',n' < ds.length - i/\∃ acc_1 ad_1 I2 ah rest_1,Rep K (bUp m B) (upd G p (.lst acc_1)) I2 (upd H5 p (.lst (ag++[y]))) aP ah/\Grow G I1 I2/\I2 p=none/\IsA K I2 ad_1 acc_1/\aP.drop m=U/\compM aq ts el (ds.drop (i+1)) ah=some (rest_1,kL)/\ad_1++rest_1=ad++ay/\ad_1.length<=i+1/\i+1<=ds.length/\n'=ds.length - (i+1)
    else ∃ n',n' < ds.length - i/\∃ ag ad_1 I2 ah rest_1,Rep K (bUp m B) (upd G p (.lst ag)) I2 H4 aP ah/\Grow G I1 I2/\I2 p=none/\IsA K I2 ad_1 ag/\aP.drop m=U/\compM aq ts el (ds.drop (i+1)) ah=some (rest_1,kL)/\ad_1++rest_1=ad++ay/\ad_1.length<=i+1/\i+1<=ds.length/\n'=ds.length - (i+1):=by
   intro I3 r3 g3 hx
   refine ⟨_,I3,ah,ds[i],aQ,r3,hx,e6,λpB H4 I4 r4 g4 vy=>⟨_,I4,aQ,b,aM,r4,e8,λH5 I5 r5 g5=>?_⟩⟩
   have iM:=g3.trans (g4.trans g5)
   have fT:pB.drop m=U:=vy.trans hs
   cases b with
   | false =>
    refine iteF ⟨ds.length - (i+1),by omega,ag,ad,I5,aM,ay,r5,g2.trans iM.unguard,iM.keepsOut kM,ha.mono iM.up,fT,by simpa using e9,rfl,by omega,bM,rfl⟩
   | true =>
    simp only [if_true] at e9
    obtain ⟨xd,gJ,f1,f2⟩:=af' e9
    obtain ⟨rr,zl,f3,f4⟩:=af' f2
    cases f4
    refine iteT ⟨_,I5,aM,xd,gJ,r5,f1,λyv H6 I6 r6 g6 vz=>⟨ag,r6.gH _ _ ap',?_,ds.length - (i+1),by omega,ag++[yv],ad++[xd],I6,gJ,rr,?_⟩⟩
    ·rw [← ha.length]
     have h1:lim < sizeLine:=by rw [sizeLine_eq];decide
     omega
    ·have kN:=iM.trans g6
     have pK:=kN.keepsOut kM
     exact ⟨r6.reguard pK,g2.trans kN.unguard,pK,IsA.append (ha.mono kN.up) (IsA.cons vz IsA.nil),fT,f3,by rw [append_assoc];rfl,by rw [length_append,List.length_singleton];omega,bM,rfl⟩
  rcases yld x H3 hy with ⟨rfl,hx⟩ | ⟨p2,es,xs,dr,rfl,eJ,rfl,hx⟩
  ·exact main I2 r2 (Grow.refl _ _) (hx.mono g2.up)
  ·refine main _ (r2.alloc eJ _) (r2.growAlloc eJ _) ?_
   rw [dr]
   exact Is.tup (SqT.of ap') ((hx.mono g2.up).mono (aL' (r2.iFree eJ) _))
 ·have cw:i=ds.length:=by omega
  subst cw
  rw [List.drop_length] at e5
  cases e5
  rw [append_nil] at k
  refine .inl ⟨ys (le_refl _),?_⟩
  have rd:=Rep.down r2 hs
  obtain ⟨ru,ap⟩:=rd.unguard gp
  exact k p ag H2 I2 ru (g1.trans g2) (r2.gH _ _ ap') kM gp ap ha
theorem bl' (S:CompScope X.env.scope scope X.N N' m) (hc:X.calm=true) (hi:ITD X B tg iter it)
  (hg:∀ C s H ex,GD (cxC X scope N' C s H ex) (bUp m B) m tg aq) (ht:∀ C s H ex,TDs (cxC X scope N' C s H ex) (bUp m B) aV ts) (he:∀ C s H ex,ED (cxC X scope N' C s H ex) (bUp m B) bf el)
  (hs:∀ x,foldedSetIterable iter X.env x=pure x:=by intro _;rfl):EO X B (.ListComp bf [⟨tg,iter,aV,0⟩] scope pos) (compO m it aq ts el):=PE.imp (pA' (g:=tGD X.K (bUp m B) m aq) (tt:=tTD X.K (bUp m B) ts) (te:=tD X.K (bUp m B) el) S hc hi hg ht he hs) jk'
theorem el' {i:Nat}{y:Str}{py cq:Pos} (S:CompScope X.env.scope scope X.N N' m) (hc:X.calm=true) (hN:X.N.Nodup) (hi:ITD X B tg iter it)
  (hg:∀ C s H ex,GD (cxC X scope N' C s H ex) (bUp m B) m tg aq) (ht:∀ C s H ex,TDs (cxC X scope N' C s H ex) (bUp m B) aV ts) (he:∀ C s H ex,ED (cxC X scope N' C s H ex) (bUp m B) bf el)
  (bc:X.N[i]?=some y:=by rfl) (hy:X.env.scope.names.lookup y=some .local:=by rfl) (gP:swapsWith (.ListComp bf [⟨tg,iter,aV,0⟩] scope pos) (some (.Name y py)) cq.line X.env=pure true:=by rfl)
  (hs:∀ x,foldedSetIterable iter X.env x=pure x:=by intro _;rfl):SD X B (.Assign [.Name y py] (.ListComp bf [⟨tg,iter,aV,0⟩] scope pos) cq) (setV i (frz (compO m it aq ts el))):=PS.imp (gN' (g:=tGD X.K (bUp m B) m aq) (tt:=tTD X.K (bUp m B) ts) (te:=tD X.K (bUp m B) el) S hc hN bc hy hi hg ht he gP hs) λE U H q=>by
 obtain ⟨G,I,Y,f,ae,r,e1,k⟩:=q
 obtain ⟨d1,ab,e2,e3⟩:=af' e1
 obtain ⟨d2,ah,e4,e5⟩:=af' e3
 cases e5
 obtain ⟨hl,rfl⟩:=c9' e4
 obtain ⟨ds,aQ,e6,e7⟩:=af' e2
 cases e7
 refine jk' U H _ ⟨G,I,Y,ds,_,r,e6,λp xs H1 I1 r1 g1 h1 h2 h3 h4 h5=>?_⟩
 refine k _ H1 _ ((r1.freeze h1 h2 h4).store (by rw [r1.len];exact hl) (Is.lst (RdK.of ap') (h5.mono (aL' h2 _))) (λm=>nomatch m) (λ_ z=>nomatch z)) (g1.trans (growFreeze h2 h3))
end
mutual
noncomputable def deq:D->D->Bool
 | .non,.non=>true
 | .bl a,.bl b=>a == b
 | .bl a,.int j=>(if a then (1:Int) else 0) == j
 | .int i,.bl b=>i == (if b then (1:Int) else 0)
 | .int i,.int j=>i == j
 | .str x,.str y=>x == y
 | .tup xs,.tup ys=>deqA xs ys
 | .lst xs,.lst ys=>deqA xs ys
 | _,_=>false
noncomputable def deqA:List D->List D->Bool
 | [],[]=>true
 | x::xs,y::ys=>deq x y&&deqA xs ys
 | _,_=>false
end
mutual
noncomputable def dep:D->Nat
 | .tup xs=>depA xs+1
 | .lst xs=>depA xs+1
 | _=>0
noncomputable def depA:List D->Nat
 | []=>0
 | x::xs=>max (dep x) (depA xs)
end
mutual
theorem gi':∀ a:D,deq a a=true
 | .non=>by rw [deq]
 | .bl b=>by rw [deq];exact beq_self_eq_true b
 | .int b=>by rw [deq];exact beq_self_eq_true b
 | .str b=>by rw [deq];exact beq_self_eq_true b
 | .tup xs=>by rw [deq];exact do' xs
 | .lst xs=>by rw [deq];exact do' xs
theorem do':∀ a:List D,deqA a a=true
 | []=>by rw [deqA]
 | x::xs=>by rw [deqA,gi' x,do' xs];rfl
end
theorem b1':∀ {xs:List D}{x:D},x∈xs->dep x<=depA xs
 | y::ys,x,h=>by
  rw [depA]
  rcases mem_cons.mp h with rfl | h
  ·omega
  ·have:=b1' h;omega
theorem dF':∀ (xs ys:List D),((range (min xs.length ys.length)).all (λj=>deq (xs.getD j .non) (ys.getD j .non))&&(xs.length == ys.length))=deqA xs ys
 | [],[]=>by rw [deqA];rfl
 | [],y::ys=>by rw [deqA]<;>simp
 | x::xs,[]=>by rw [deqA]<;>simp
 | x::xs,y::ys=>by
  have ih:=dF' xs ys
  have e:min (x::xs).length (y::ys).length=min xs.length ys.length+1:=by simp only [length_cons];omega
  rw [deqA,← ih,e,range_succ_eq_map,all_cons,List.all_map]
  have e2:((x::xs).length == (y::ys).length)=(xs.length == ys.length):=by
   simp only [length_cons]
   cases h:xs.length == ys.length
   ·simp at h ⊢;omega
   ·simp at h ⊢;omega
  rw [e2,Bool.and_assoc]
  rfl
theorem og' {xs ys:List D} (h:xs.length≠ys.length):deqA xs ys=false:=by
 rw [← dF']
 have:(xs.length == ys.length)=false:=by simpa using h
 rw [this,Bool.and_false]
section
variable {X:Cx}{aa:List (Addr×Obj)}{U:L2.St}{H:Hp}{s:Shared}
theorem IsA.getU {K:PySem.W.Frag}{I:Hp}{ds:List D}{xs:List V}{us:List Value} (h:IsA K I ds xs) (r:Vals xs us){j:Nat} (hj:j < us.toArray.size):∃ v,RelV v us.toArray[j]/\Is K I (ds.getD j .non) v:=by
 have h1:=h.length
 have h2:=r.length
 have bz:j < us.length:=by simpa using hj
 have hd:ds[j]?=some ds[j]:=getElem?_eq_getElem (by omega)
 obtain ⟨v,e1,e2⟩:=h.get hd
 obtain ⟨u,e3,e4⟩:=r.get e1
 have e5:us.toArray[j]=u:=by
  rw [getElem?_eq_getElem bz] at e3
  simpa using e3
 refine ⟨v,by rw [e5];exact e4,?_⟩
 rw [getD_eq_getElem?_getD,hd]
 exact e2
theorem rdL {a:Addr}{xs:List V}{K:PySem.W.Frag} (h:RdK K H a xs):SqL K H a xs:=h.sq
mutual
theorem fl' (I:Inv X aa U H s):∀ {a b:D}{v:V},Is X.K H a v->Is X.K H b v->a=b
 | .non,b,v,h,h'=>by
  have e:=ca' h;subst e
  cases b<;>first | rfl | (rw [Is] at h';obtain ⟨_,_,e,_⟩:=h';cases e) | (rw [Is] at h';cases h')
 | .bl x,b,v,h,h'=>by
  have e:=bG' h;subst e
  cases b<;>first | (rw [Is] at h';obtain ⟨_,_,e,_⟩:=h';cases e) | (rw [Is] at h';cases h';rfl) | (rw [Is] at h';cases h')
 | .int x,b,v,h,h'=>by
  have e:=an' h;subst e
  cases b<;>first | (rw [Is] at h';obtain ⟨_,_,e,_⟩:=h';cases e) | (rw [Is] at h';cases h';rfl) | (rw [Is] at h';cases h')
 | .str x,b,v,h,h'=>by
  have e:=b9' h;subst e
  cases b<;>first | (rw [Is] at h';obtain ⟨_,_,e,_⟩:=h';cases e) | (rw [Is] at h';cases h';rfl) | (rw [Is] at h';cases h')
 | .tup ds,b,v,h,h'=>by
  obtain ⟨p,xs,rfl,h1,h2⟩:=au' h
  cases b with
  | tup es =>
   obtain ⟨p',bG,e,h3,h4⟩:=au' h'
   cases e
   have:=I.tuple_inj h1 h3
   subst this
   rw [hH' I h2 h4]
  | lst es =>
   obtain ⟨p',bG,e,h3,h4⟩:=ax' h'
   cases e
   obtain ⟨i1,_,t1,_⟩:=I.tuple h1
   obtain ⟨i2,_,t2,_⟩:=I.list (rdL h3)
   exact absurd rfl (ne_of_list_tuple t2.isList t1)
  | _=>rw [Is] at h';cases h'
 | .lst ds,b,v,h,h'=>by
  obtain ⟨p,xs,rfl,h1,h2⟩:=ax' h
  cases b with
  | lst es =>
   obtain ⟨p',bG,e,h3,h4⟩:=ax' h'
   cases e
   have:=I.list_inj (rdL h1) (rdL h3)
   subst this
   rw [hH' I h2 h4]
  | tup es =>
   obtain ⟨p',bG,e,h3,h4⟩:=au' h'
   cases e
   obtain ⟨i1,_,t1,_⟩:=I.tuple h3
   obtain ⟨i2,_,t2,_⟩:=I.list (rdL h1)
   exact absurd rfl (ne_of_list_tuple t2.isList t1)
  | _=>rw [Is] at h';cases h'
theorem hH' (I:Inv X aa U H s):∀ {a b:List D}{v:List V},IsA X.K H a v->IsA X.K H b v->a=b
 | [],b,v,h,h'=>by
  have e:=h.nil_inv;subst e
  cases b with
  | nil=>rfl
  | cons d r=>obtain ⟨_,_,e,_⟩:=h'.cons_inv;cases e
 | d::ds,b,v,h,h'=>by
  obtain ⟨x,r,rfl,h1,h2⟩:=h.cons_inv
  cases b with
  | nil=>have:=h'.nil_inv;cases this
  | cons e es =>
   obtain ⟨x',r',e',h3,h4⟩:=h'.cons_inv
   cases e'
   rw [fl' I h1 h3,hH' I h2 h4]
end
open PySem.SeqAt in
theorem mM' (I:Inv X aa U H s){A:Around} (hu:A.units < cLine){a b:D}{x y:V}{u v:Value} (ha:Is X.K H a x) (hb:Is X.K H b y) (ru:RelV x u) (rv:RelV y v)
  (ht:∀ xs ys,a=.tup xs->b=.tup ys->RcAt A s u v (deq a b)/\EqAt A s u v (deq a b)/\RcNeAt A s u v (!deq a b))
  (hl:∀ xs ys,a=.lst xs->b=.lst ys->RcAt A s u v (deq a b)/\EqAt A s u v (deq a b)/\RcNeAt A s u v (!deq a b)):RcAt A s u v (deq a b)/\EqAt A s u v (deq a b)/\RcNeAt A s u v (!deq a b):=by
 cases a with
 | non =>
  have e:=ca' ha;subst e;cases ru
  cases b with
  | non=>have e:=ca' hb;subst e;cases rv;rw [deq];exact ⟨.none_none,.same _,.none_none⟩
  | bl j=>have e:=bG' hb;subst e;cases rv;rw [deq]<;>first | exact ⟨.none_bool _,.none_bool _,.none_bool _⟩ | (intros;contradiction)
  | int j=>have e:=an' hb;subst e;obtain ⟨t,rfl⟩:=rv;rw [deq]<;>first | exact ⟨.none_int _ _,.none_int _ _,.none_int _ _⟩ | (intros;contradiction)
  | str j=>have e:=b9' hb;subst e;obtain ⟨t,rfl⟩:=rv;rw [deq]<;>first | exact ⟨.none_str _ _,.none_str _ _,.none_str _ _⟩ | (intros;contradiction)
  | tup j =>
   obtain ⟨p,xs,rfl,h1,h2⟩:=au' hb;cases rv
   obtain ⟨ac,_,t,_⟩:=I.tuple h1
   rw [deq]<;>first | exact ⟨.none_tuple t hu,.none_tuple t hu,.none_tuple t hu⟩ | (intros;contradiction)
  | lst j =>
   obtain ⟨p,xs,rfl,h1,h2⟩:=ax' hb;cases rv
   obtain ⟨ac,_,t,_⟩:=I.list (rdL h1)
   have t:=t.isList
   rw [deq]<;>first | exact ⟨.none_list t hu,.none_list t hu,.none_list t hu⟩ | (intros;contradiction)
 | bl i =>
  have e:=bG' ha;subst e;cases ru
  cases b with
  | non=>have e:=ca' hb;subst e;cases rv;rw [deq]<;>first | exact ⟨.bool_none _,.bool_none _,.bool_none _⟩ | (intros;contradiction)
  | bl j=>have e:=bG' hb;subst e;cases rv;rw [deq];exact ⟨.bool_bool _ _,.bool_bool _ _,.bool_bool _ _⟩
  | int j=>have e:=an' hb;subst e;obtain ⟨t,rfl⟩:=rv;rw [deq];exact ⟨.bool_int _ _ _,.bool_int _ _ _,.bool_int _ _ _⟩
  | str j=>have e:=b9' hb;subst e;obtain ⟨t,rfl⟩:=rv;rw [deq]<;>first | exact ⟨.bool_str _ _ _,.bool_str _ _ _,.bool_str _ _ _⟩ | (intros;contradiction)
  | tup j =>
   obtain ⟨p,xs,rfl,h1,h2⟩:=au' hb;cases rv
   obtain ⟨ac,_,t,_⟩:=I.tuple h1
   rw [deq]<;>first | exact ⟨.bool_tuple _ t hu,.bool_tuple _ t hu,.bool_tuple _ t hu⟩ | (intros;contradiction)
  | lst j =>
   obtain ⟨p,xs,rfl,h1,h2⟩:=ax' hb;cases rv
   obtain ⟨ac,_,t,_⟩:=I.list (rdL h1)
   have t:=t.isList
   rw [deq]<;>first | exact ⟨.bool_list _ t hu,.bool_list _ t hu,.bool_list _ t hu⟩ | (intros;contradiction)
 | int i =>
  have e:=an' ha;subst e;obtain ⟨t0,rfl⟩:=ru
  cases b with
  | non=>have e:=ca' hb;subst e;cases rv;rw [deq]<;>first | exact ⟨.int_none _ _,.int_none _ _,.int_none _ _⟩ | (intros;contradiction)
  | bl j=>have e:=bG' hb;subst e;cases rv;rw [deq];exact ⟨.int_bool _ _ _,.int_bool _ _ _,.int_bool _ _ _⟩
  | int j=>have e:=an' hb;subst e;obtain ⟨t,rfl⟩:=rv;rw [deq];exact ⟨.int_int _ _ _ _,.int_int _ _ _ _,.int_int _ _ _ _⟩
  | str j=>have e:=b9' hb;subst e;obtain ⟨t,rfl⟩:=rv;rw [deq]<;>first | exact ⟨.int_str _ _ _ _,.int_str _ _ _ _,.int_str _ _ _ _⟩ | (intros;contradiction)
  | tup j =>
   obtain ⟨p,xs,rfl,h1,h2⟩:=au' hb;cases rv
   obtain ⟨ac,_,t,_⟩:=I.tuple h1
   rw [deq]<;>first | exact ⟨.int_tuple _ _ t hu,.int_tuple _ _ t hu,.int_tuple _ _ t hu⟩ | (intros;contradiction)
  | lst j =>
   obtain ⟨p,xs,rfl,h1,h2⟩:=ax' hb;cases rv
   obtain ⟨ac,_,t,_⟩:=I.list (rdL h1)
   have t:=t.isList
   rw [deq]<;>first | exact ⟨.int_list _ _ t hu,.int_list _ _ t hu,.int_list _ _ t hu⟩ | (intros;contradiction)
 | str i =>
  have e:=b9' ha;subst e;obtain ⟨t0,rfl⟩:=ru
  cases b with
  | non=>have e:=ca' hb;subst e;cases rv;rw [deq]<;>first | exact ⟨.str_none _ _,.str_none _ _,.str_none _ _⟩ | (intros;contradiction)
  | bl j=>have e:=bG' hb;subst e;cases rv;rw [deq]<;>first | exact ⟨.str_bool _ _ _,.str_bool _ _ _,.str_bool _ _ _⟩ | (intros;contradiction)
  | int j=>have e:=an' hb;subst e;obtain ⟨t,rfl⟩:=rv;rw [deq]<;>first | exact ⟨.str_int _ _ _ _,.str_int _ _ _ _,.str_int _ _ _ _⟩ | (intros;contradiction)
  | str j=>have e:=b9' hb;subst e;obtain ⟨t,rfl⟩:=rv;rw [deq];exact ⟨.str_str _ _ _ _,.str_str _ _ _ _,.str_str _ _ _ _⟩
  | tup j =>
   obtain ⟨p,xs,rfl,h1,h2⟩:=au' hb;cases rv
   obtain ⟨ac,_,t,_⟩:=I.tuple h1
   rw [deq]<;>first | exact ⟨.str_tuple _ _ t hu,.str_tuple _ _ t hu,.str_tuple _ _ t hu⟩ | (intros;contradiction)
  | lst j =>
   obtain ⟨p,xs,rfl,h1,h2⟩:=ax' hb;cases rv
   obtain ⟨ac,_,t,_⟩:=I.list (rdL h1)
   have t:=t.isList
   rw [deq]<;>first | exact ⟨.str_list _ _ t hu,.str_list _ _ t hu,.str_list _ _ t hu⟩ | (intros;contradiction)
 | tup i =>
  obtain ⟨q,ys,rfl,g1,g2⟩:=au' ha;cases ru
  obtain ⟨bj,_,t',_⟩:=I.tuple g1
  cases b with
  | non=>have e:=ca' hb;subst e;cases rv;rw [deq]<;>first | exact ⟨.tuple_none t' hu,.tuple_none t' hu,.tuple_none t' hu⟩ | (intros;contradiction)
  | bl j=>have e:=bG' hb;subst e;cases rv;rw [deq]<;>first | exact ⟨.tuple_bool _ t' hu,.tuple_bool _ t' hu,.tuple_bool _ t' hu⟩ | (intros;contradiction)
  | int j=>have e:=an' hb;subst e;obtain ⟨t,rfl⟩:=rv;rw [deq]<;>first | exact ⟨.tuple_int _ _ t' hu,.tuple_int _ _ t' hu,.tuple_int _ _ t' hu⟩ | (intros;contradiction)
  | str j=>have e:=b9' hb;subst e;obtain ⟨t,rfl⟩:=rv;rw [deq]<;>first | exact ⟨.tuple_str _ _ t' hu,.tuple_str _ _ t' hu,.tuple_str _ _ t' hu⟩ | (intros;contradiction)
  | tup j=>exact ht _ _ rfl rfl
  | lst j =>
   obtain ⟨p,xs,rfl,h1,h2⟩:=ax' hb;cases rv
   obtain ⟨ac,_,t,_⟩:=I.list (rdL h1)
   have t:=t.isList
   rw [deq]<;>first | exact ⟨.tuple_list t' t hu,.tuple_list t' t hu,.tuple_list t' t hu⟩ | (intros;contradiction)
 | lst i =>
  obtain ⟨q,ys,rfl,g1,g2⟩:=ax' ha;cases ru
  obtain ⟨bj,_,t',_⟩:=I.list (rdL g1)
  have t':=t'.isList
  cases b with
  | non=>have e:=ca' hb;subst e;cases rv;rw [deq]<;>first | exact ⟨.list_none t' hu,.list_none t' hu,.list_none t' hu⟩ | (intros;contradiction)
  | bl j=>have e:=bG' hb;subst e;cases rv;rw [deq]<;>first | exact ⟨.list_bool _ t' hu,.list_bool _ t' hu,.list_bool _ t' hu⟩ | (intros;contradiction)
  | int j=>have e:=an' hb;subst e;obtain ⟨t,rfl⟩:=rv;rw [deq]<;>first | exact ⟨.list_int _ _ t' hu,.list_int _ _ t' hu,.list_int _ _ t' hu⟩ | (intros;contradiction)
  | str j=>have e:=b9' hb;subst e;obtain ⟨t,rfl⟩:=rv;rw [deq]<;>first | exact ⟨.list_str _ _ t' hu,.list_str _ _ t' hu,.list_str _ _ t' hu⟩ | (intros;contradiction)
  | lst j=>exact hl _ _ rfl rfl
  | tup j =>
   obtain ⟨p,xs,rfl,h1,h2⟩:=au' hb;cases rv
   obtain ⟨ac,_,t,_⟩:=I.tuple h1
   rw [deq]<;>first | exact ⟨.list_tuple t' t hu,.list_tuple t' t hu,.list_tuple t' t hu⟩ | (intros;contradiction)
open PySem.SeqAt in
theorem fR' (I:Inv X aa U H s):∀ (n:Nat) (A:Around),A.units+n < cLine->∀ (a b:D) (x y:V) (u v:Value),dep a<=n\/dep b<=n->Is X.K H a x->Is X.K H b y->RelV x u->RelV y v->RcAt A s u v (deq a b)/\EqAt A s u v (deq a b)/\RcNeAt A s u v (!deq a b):=by
 intro n
 induction n with
 | zero =>
  intro A hu a b x y u v hd ha hb ru rv
  refine mM' I (by omega) ha hb ru rv (λxs ys e1 e2=>?_) (λxs ys e1 e2=>?_)<;>(subst e1;subst e2;rw [dep,dep] at hd;omega)
 | succ n ih =>
  intro A hu a b x y u v hd ha hb ru rv
  have eM:A.in1.units+n < cLine:=by show A.units+1+n < cLine;omega
  refine mM' I (by omega) ha hb ru rv (λds es e1 e2=>?_) (λds es e1 e2=>?_)
  ·subst e1;subst e2
   obtain ⟨p,xs,rfl,h1,h2⟩:=au' ha
   obtain ⟨q,ys,rfl,h3,h4⟩:=au' hb
   cases ru;cases rv
   obtain ⟨ac,r1,t1,_⟩:=I.tuple h1
   obtain ⟨bj,r2,t2,_⟩:=I.tuple h3
   have l1:ac.toArray.size=ds.length:=by rw [size_toArray,← r1.length,h2.length]
   have l2:bj.toArray.size=es.length:=by rw [size_toArray,← r2.length,h4.length]
   have hk:∀ j (g1:j < ac.toArray.size) (g2:j < bj.toArray.size),EqAt A.in1 s ac.toArray[j] bj.toArray[j] (deq (ds.getD j .non) (es.getD j .non)):=λj g1 g2=>by
    obtain ⟨v1,q1,q2⟩:=h2.getU r1 g1
    obtain ⟨v2,q3,q4⟩:=h4.getU r2 g2
    refine (ih A.in1 eM _ _ _ _ _ _ ?_ q2 q4 q1 q3).2.1
    have m1:ds.getD j .non∈ds:=by
     rw [getD_eq_getElem?_getD,getElem?_eq_getElem (by omega)]
     exact getElem_mem _
    have m2:es.getD j .non∈es:=by
     rw [getD_eq_getElem?_getD,getElem?_eq_getElem (by omega)]
     exact getElem_mem _
    have k1:=b1' m1
    have k2:=b1' m2
    rw [dep,dep] at hd
    omega
   have re:((range (min ac.toArray.size bj.toArray.size)).all (λj=>deq (ds.getD j .non) (es.getD j .non))&&ac.toArray.size == bj.toArray.size)=deqA ds es:=by
    rw [l1,l2];exact dF' ds es
   have R1:=RcAt.tuples (A:=A) t1 t2 (by omega) hk
   have R3:=RcNeAt.tuples (A:=A) t1 t2 (by omega) hk
   rw [re] at R1 R3
   have ed:deq (.tup ds) (.tup es)=deqA ds es:=by rw [deq]
   rw [ed]
   refine ⟨R1,?_,R3⟩
   by_cases hpq:p=q
   ·subst hpq
    have:=fl' I ha hb
    cases this
    rw [do']
    exact .same _
   ·exact .of_refs hpq R1
  ·subst e1;subst e2
   obtain ⟨p,xs,rfl,h1,h2⟩:=ax' ha
   obtain ⟨q,ys,rfl,h3,h4⟩:=ax' hb
   cases ru;cases rv
   obtain ⟨ac,r1,t1,_⟩:=I.list (rdL h1)
   obtain ⟨bj,r2,t2,_⟩:=I.list (rdL h3)
   have t1:=t1.isList
   have t2:=t2.isList
   have l1:ac.toArray.size=ds.length:=by rw [size_toArray,← r1.length,h2.length]
   have l2:bj.toArray.size=es.length:=by rw [size_toArray,← r2.length,h4.length]
   have ed:deq (.lst ds) (.lst es)=deqA ds es:=by rw [deq]
   rw [ed]
   have fin:RcAt A s (.ref p) (.ref q) (deqA ds es)/\RcNeAt A s (.ref p) (.ref q) (!deqA ds es):=by
    by_cases hl:ds.length=es.length
    ·have hk:∀ j (g1:j < ac.toArray.size) (g2:j < bj.toArray.size),EqAt A.in1 s ac.toArray[j] bj.toArray[j] (deq (ds.getD j .non) (es.getD j .non)):=λj g1 g2=>by
      obtain ⟨v1,q1,q2⟩:=h2.getU r1 g1
      obtain ⟨v2,q3,q4⟩:=h4.getU r2 g2
      refine (ih A.in1 eM _ _ _ _ _ _ ?_ q2 q4 q1 q3).2.1
      have m1:ds.getD j .non∈ds:=by
       rw [getD_eq_getElem?_getD,getElem?_eq_getElem (by omega)]
       exact getElem_mem _
      have m2:es.getD j .non∈es:=by
       rw [getD_eq_getElem?_getD,getElem?_eq_getElem (by omega)]
       exact getElem_mem _
      have k1:=b1' m1
      have k2:=b1' m2
      rw [dep,dep] at hd
      omega
     have re:(range ac.toArray.size).all (λj=>deq (ds.getD j .non) (es.getD j .non))=deqA ds es:=by
      rw [← dF' ds es,l1,hl,Nat.min_self,beq_self_eq_true,Bool.and_true]
     have R1:=RcAt.lists (A:=A) t1 t2 (by omega) (by omega) hk
     have R3:=RcNeAt.lists (A:=A) t1 t2 (by omega) (by omega) hk
     rw [re] at R1 R3
     exact ⟨R1,R3⟩
    ·rw [og' hl]
     have dD:(ac.toArray.size != bj.toArray.size)=true:=by rw [l1,l2];simpa using hl
     exact ⟨.lists_lengths t1 t2 dD (by omega),.lists_lengths t1 t2 dD (by omega)⟩
   refine ⟨fin.1,?_,fin.2⟩
   by_cases hpq:p=q
   ·subst hpq
    have:=fl' I ha hb
    cases this
    rw [do']
    exact .same _
   ·exact .of_refs hpq fin.1
noncomputable def rEqD (K:PySem.W.Frag) (neg:Bool):R2:=λx y H Q=>∃ a b,Is K H a x/\Is K H b y/\(dep a<=100\/dep b<=100)/\Q (.bl (if neg then !deq a b else deq a b)) H
theorem mN' (hu:X.A.units+100 < cLine):OpR X (compareOp .Eq) (rEqD X.K false):=by
 intro aa s U H x y v u Q I rx ry h
 obtain ⟨a,b,h1,h2,h3,q⟩:=h
 exact (fR' I 100 X.A hu a b x y v u h3 h1 h2 rx ry).1 _ _ _ _ ⟨.bl (deq a b),H,I,rfl,q⟩
theorem jl' (hu:X.A.units+100 < cLine):OpR X (compareOp .NotEq) (rEqD X.K true):=by
 intro aa s U H x y v u Q I rx ry h
 obtain ⟨a,b,h1,h2,h3,q⟩:=h
 exact (fR' I 100 X.A hu a b x y v u h3 h1 h2 rx ry).2.2 _ _ _ _ ⟨.bl (!deq a b),H,I,rfl,q⟩
noncomputable def rInD (K:PySem.W.Frag) (neg:Bool):R2:=λx y H Q=>∃ a ds,Is K H a x/\(Is K H (.lst ds) y\/Is K H (.tup ds) y)/\(dep a<=99)/\Q (.bl (if neg then !ds.any (λd=>deq d a) else ds.any λd=>deq d a)) H
theorem oh' {K:PySem.W.Frag}{ds:List D}{xs:List V}{us:List Value}{f:D->Bool}{e:Value->Bool} (h:IsA K H ds xs) (r:Vals xs us) (hf:∀ d v u,d∈ds->Is K H d v->RelV v u->e u=f d):us.any e=ds.any f:=by
 induction ds generalizing xs us with
 | nil=>have:=h.nil_inv;subst this;cases r;rfl
 | cons d ds ih =>
  obtain ⟨x,xr,rfl,h1,h2⟩:=h.cons_inv
  cases r with
  | cons r1 r2 =>
   rw [any_cons,any_cons,hf d _ _ mem_cons_self h1 r1,ih h2 r2 λd v u hd=>hf d v u (mem_cons_of_mem _ hd)]
theorem pC' (hu:X.A.units+100 < cLine){neg:Bool}{aa:List (Addr×Obj)}{U:L2.St}{H:Hp}{s:Shared}{x y:V}{v u:Value}{Q:VK} (I:Inv X aa U H s) (rx:RelV x v) (ry:RelV y u) (h:rInD X.K neg x y H Q) :
  ∃ (ac:Array Value) (e:Value->Bool) (l:Addr),u=.ref l/\(s.heap.IsList l ac\/s.heap.IsTuple l ac)/\(∀ z,z∈ac->PySem.SeqAt.EqAt X.A.in1 s z v (e z))/\Q (.bl (if neg then !ac.any e else ac.any e)) H:=by
 obtain ⟨a,ds,h1,h2,h3,q⟩:=h
 have eM:X.A.in1.units+99 < cLine:=by show X.A.units+1+99 < cLine;omega
 -- every item has ac data: e reads it kO
 have aI:∀ (xs:List V) (ac:List Value),IsA X.K H ds xs->Vals xs ac->∃ e:Value->Bool,(∀ z,z∈ac.toArray->PySem.SeqAt.EqAt X.A.in1 s z v (e z))/\ac.toArray.any e=ds.any λd=>deq d a:=by
  intro xs ac ha r
  have ex:∀ z:Value,∃ b:Bool,∀ d w,d∈ds->Is X.K H d w->RelV w z->b=deq d a:=λz=>by
   by_cases hz:∃ d w,d∈ds/\Is X.K H d w/\RelV w z
   ·obtain ⟨d,w,hd,hi,hr⟩:=hz
    refine ⟨deq d a,λd' w' bD bc vA=>?_⟩
    have:=RelV.inj hr vA
    subst this
    rw [fl' I hi bc]
   ·exact ⟨false,λd w hd hi hr=>absurd ⟨d,w,hd,hi,hr⟩ hz⟩
  refine ⟨λz=>(ex z).choose,λz hz=>?_,?_⟩
  ·have vC:z∈ac:=by simpa using hz
   obtain ⟨j,hj,ej⟩:=List.mem_iff_getElem.mp vC
   obtain ⟨w,q1,q2⟩:=ha.getU r (j:=j) (by simpa using hj)
   have pL:RelV w z:=by
    have:ac.toArray[j]'(by simpa using hj)=z:=by simpa using ej
    rw [← this];exact q1
   have hm:ds.getD j .non∈ds:=by
    have l1:=ha.length
    have l2:=r.length
    rw [getD_eq_getElem?_getD,getElem?_eq_getElem (by omega)]
    exact getElem_mem _
   show PySem.SeqAt.EqAt X.A.in1 s z v (ex z).choose
   rw [(ex z).choose_spec _ w hm q2 pL]
   exact (fR' I 99 X.A.in1 eM _ a w x z v (.inr h3) q2 h1 pL rx).2.1
  ·have:ac.toArray.any (λz=>(ex z).choose)=ac.any (λz=>(ex z).choose):=by simp
   rw [this]
   exact oh' ha r λd w z hd hi hr=>(ex z).choose_spec d w hd hi hr
 rcases h2 with h2 | h2
 ·obtain ⟨l,xs,rfl,g1,g2⟩:=ax' h2
  cases ry
  obtain ⟨ac,r,t,_⟩:=I.list (rdL g1)
  obtain ⟨e,k1,k2⟩:=aI xs ac g2 r
  exact ⟨ac.toArray,e,l,rfl,.inl t.isList,k1,by rw [k2];exact q⟩
 ·obtain ⟨l,xs,rfl,g1,g2⟩:=au' h2
  cases ry
  obtain ⟨ac,r,t,_⟩:=I.tuple g1
  obtain ⟨e,k1,k2⟩:=aI xs ac g2 r
  exact ⟨ac.toArray,e,l,rfl,.inr t,k1,by rw [k2];exact q⟩
theorem qW' (hu:X.A.units+100 < cLine):OpR X (compareOp .In) (rInD X.K false):=by
 intro aa s U H x y v u Q I rx ry h
 obtain ⟨ac,e,l,rfl,hl,he,q⟩:=pC' hu I rx ry h
 rcases hl with hl | hl
 ·exact PySem.SeqAt.in_listAt e hl he ⟨.bl (ac.any e),H,I,rfl,q⟩
 ·exact PySem.SeqAt.in_tupleAt e hl he ⟨.bl (ac.any e),H,I,rfl,q⟩
end
end DL
set_option exponentiation.threshold 2000
namespace DL
open PySem PySem.Spec PyProof.Rows L2
noncomputable def intF (C:Int->Int->Bool) (g:Int->Int->D) (a b:D):Option D:=match a,b with
 | .int i,.int j=>if C i j then some (g i j) else none
 | _,_=>none
theorem gj' {C:Int->Int->Bool}{g:Int->Int->D}{a b d:D} (h:intF C g a b=some d):∃ i j,a=.int i/\b=.int j/\C i j=true/\d=g i j:=by
 unfold intF at h
 split at h
 ·obtain ⟨h1,h2⟩:=aG' h
  exact ⟨_,_,rfl,rfl,h1,h2⟩
 ·cases h
noncomputable def tt2 (_ _:Int):Bool:=true
theorem od_I {K:PySem.W.Frag}{C:Int->Int->Prop}{c:Int->Int->Bool}{g:Int->Int->Int} (hc:∀ i j,c i j=true->C i j):OpD K (rI C λi j=>.int (g i j)) (intF c λi j=>.int (g i j)):=λa b d e B G I H U Y x y Q r hx hy k=>by
 obtain ⟨i,j,rfl,rfl,h,rfl⟩:=gj' e
 exact ⟨i,j,an' hx,an' hy,hc i j h,k.now r (Is.int _)⟩
theorem rH' {K:PySem.W.Frag}{g:Int->Int->Int}:OpD K (rI0 λi j=>.int (g i j)) (intF tt2 λi j=>.int (g i j)):=λa b d e B G I H U Y x y Q r hx hy k=>by
 obtain ⟨i,j,rfl,rfl,h,rfl⟩:=gj' e
 exact ⟨i,j,an' hx,an' hy,k.now r (Is.int _)⟩
theorem fS' {K:PySem.W.Frag}{g:Int->Int->Bool}:OpD K (rI0 λi j=>.bl (g i j)) (intF tt2 λi j=>.bl (g i j)):=λa b d e B G I H U Y x y Q r hx hy k=>by
 obtain ⟨i,j,rfl,rfl,h,rfl⟩:=gj' e
 exact ⟨i,j,an' hx,an' hy,k.now r (Is.bl _)⟩
noncomputable def subI:D->D->Option D:=intF tt2 λi j=>.int (i - j)
noncomputable def mulI:D->D->Option D:=intF (λi j=>decide ((-(2 ^ 64) < i/\i < 2 ^ 64)\/(-(2 ^ 64) < j/\j < 2 ^ 64))) λi j=>.int (i*j)
noncomputable def modI:D->D->Option D:=intF (λ_ j=>decide (0 < j)) λi j=>.int (i % j)
noncomputable def divI:D->D->Option D:=intF (λ_ j=>decide (0 < j/\j < 2 ^ 200)) λi j=>.int (i / j)
noncomputable def powI:D->D->Option D:=intF (λi j=>decide (0<=j/\j<=1000000/\i.natAbs < 2 ^ 64)) λi j=>.int (i ^ j.toNat)
noncomputable def ltI:D->D->Option D:=intF tt2 λi j=>.bl (decide (i < j))
noncomputable def leI:D->D->Option D:=intF tt2 λi j=>.bl (decide (i<=j))
noncomputable def gtI:D->D->Option D:=intF tt2 λi j=>.bl (decide (j < i))
noncomputable def geI:D->D->Option D:=intF tt2 λi j=>.bl (decide (j<=i))
section
variable {X:Cx}{B:BB}{a b c e:Expr}{es:List Expr}{pos:Pos}{ga gb gc:M D}
theorem dp' (ha:ED X B a ga) (hb:ED X B b gb):ED X B (.BinOp a .Sub b pos) (op2 subI ga gb):=fN' qz' rH' ha hb
theorem cb' (ha:ED X B a ga) (hb:ED X B b gb):ED X B (.BinOp a .Mult b pos) (op2 mulI ga gb):=fN' qA' (od_I (C:=CMul) λi j h=>(of_decide_eq_true h:_\/_)) ha hb
theorem cv' (ha:ED X B a ga) (hb:ED X B b gb):ED X B (.BinOp a .Mod b pos) (op2 modI ga gb):=fN' qB' (od_I λi j h=>of_decide_eq_true h) ha hb
theorem jm' (ha:ED X B a ga) (hb:ED X B b gb):ED X B (.BinOp a .Pow b pos) (op2 powI ga gb):=fN' qC' (od_I (C:=CPow) λi j h=>(of_decide_eq_true h:_/\_/\_)) ha hb
def CDivW (i j:Int):Prop:=0 < j/\j < 2 ^ 200
theorem oi':OpR X (binaryOp .FloorDiv) (rI CDivW λi j=>.int (i / j)):=opI λi j _ _ _ _ _ hc q=>by
 have h1:(0:Int) < j:=hc.1
 have h2:j.natAbs < 2 ^ 200:=by
  have:=hc.2
  omega
 have h4:j.natAbs.log2 < 9000:=by
  have h5:j.natAbs.log2 < 200:=(Nat.log2_lt (by omega)).mpr h2
  omega
 refine floordiv_int (by omega) ?_ (.inl (PyProof.noPylong_of_log2 h4))
 rw [Int.fdiv_eq_ediv_of_nonneg _ (Int.le_of_lt h1)]
 exact q
theorem qX' (ha:ED X B a ga) (hb:ED X B b gb):ED X B (.BinOp a .FloorDiv b pos) (op2 divI ga gb):=fN' oi' (od_I (C:=CDivW) λi j h=>(of_decide_eq_true h:_/\_)) ha hb
theorem o7' (ha:ED X B a ga) (hb:ED X B b gb):ED X B (.Compare a [.LtE] [b] pos) (op2 leI ga gb):=gK' lV' fS' ha hb
theorem gO' (ha:ED X B a ga) (hb:ED X B b gb):TD X B (.Compare a [.Lt] [b] pos) (tst (op2 ltI ga gb)):=cR' rz' fS' ha hb
theorem gP' (ha:ED X B a ga) (hb:ED X B b gb):TD X B (.Compare a [.Gt] [b] pos) (tst (op2 gtI ga gb)):=cR' rA' fS' ha hb
theorem rI' (ha:ED X B a ga) (hb:ED X B b gb):TD X B (.Compare a [.GtE] [b] pos) (tst (op2 geI ga gb)):=cR' rB' fS' ha hb
theorem pD' (ha:ED X B a ga) (hb:ED X B b gb) (hc:ED X B c gc) (hm:lastMarks [.LtE,.LtE] [b,c]=false:=by with_unfolding_all rfl):ED X B (.Compare a [.LtE,.LtE] [b,c] pos) (chn leI leI ga gb gc):=qL' lV' fS' lV' fS' ha hb hc hm
noncomputable def eqF (neg:Bool) (a b:D):Option D:=if dep a<=100\/dep b<=100 then some (.bl (if neg then !deq a b else deq a b)) else none
theorem i4' {K:PySem.W.Frag}{neg:Bool}:OpD K (rEqD K neg) (eqF neg):=λa b d e B G I H U Y x y Q r hx hy k=>by
 obtain ⟨h1,rfl⟩:=aG' e
 exact ⟨a,b,hx.mono r.iH,hy.mono r.iH,h1,k.now r (Is.bl _)⟩
variable {kr:Nat}
theorem hu100 {A:Around}{k:Nat} (hr:Room k A):A.units+100 < cLine:=by have:=hr.un;omega
theorem rJ' (hr:Room kr X.A) (ha:ED X B a ga) (hb:ED X B b gb):ED X B (.Compare a [.Eq] [b] pos) (op2 (eqF false) ga gb):=gK' (mN' (hu100 hr)) i4' ha hb
theorem rK' (hr:Room kr X.A) (ha:ED X B a ga) (hb:ED X B b gb):ED X B (.Compare a [.NotEq] [b] pos) (op2 (eqF true) ga gb):=gK' (jl' (hu100 hr)) i4' ha hb
theorem bH' (hr:Room kr X.A) (ha:ED X B a ga) (hb:ED X B b gb):TD X B (.Compare a [.Eq] [b] pos) (tst (op2 (eqF false) ga gb)):=cR' (mN' (hu100 hr)) i4' ha hb
theorem cT' (hr:Room kr X.A) (ha:ED X B a ga) (hb:ED X B b gb):TD X B (.Compare a [.NotEq] [b] pos) (tst (op2 (eqF true) ga gb)):=cR' (jl' (hu100 hr)) i4' ha hb
noncomputable def inF (neg:Bool) (a b:D):Option D:=match seqI b with
 | some ds=>if dep a<=99 then some (.bl (if neg then !ds.any (λd=>deq d a) else ds.any λd=>deq d a)) else none
 | none=>none
theorem rL' {K:PySem.W.Frag}{neg:Bool}:OpD K (rInD K neg) (inF neg):=λa b d e B G I H U Y x y Q r hx hy k=>by
 unfold inF at e
 cases b with
 | lst ds =>
  obtain ⟨h1,rfl⟩:=aG' e
  exact ⟨a,ds,hx.mono r.iH,.inl (hy.mono r.iH),h1,k.now r (Is.bl _)⟩
 | tup ds =>
  obtain ⟨h1,rfl⟩:=aG' e
  exact ⟨a,ds,hx.mono r.iH,.inr (hy.mono r.iH),h1,k.now r (Is.bl _)⟩
 | _=>cases e
theorem rM' (hr:Room kr X.A) (ha:ED X B a ga) (hb:ED X B b gb) (hm:behindInMarks .In b=false:=by rfl):TD X B (.Compare a [.In] [b] pos) (tst (op2 (inF false) ga gb)):=cR' (qW' (hu100 hr)) rL' ha hb hm
noncomputable def rCatTT (K:PySem.W.Frag):R2:=λx y H Q=>∃ a b xs ys,x=.ref a/\y=.ref b/\SqT K H a xs/\SqT K H b ys/\xs.length+ys.length<=sizeLine ∧
 (xs=[]->Q (.ref b) H)/\(xs≠[]->ys=[]->Q (.ref a) H)/\(xs≠[]->ys≠[]->∀ p,H p=none->Q (.ref p) (upd H p (.tup (xs++ys))))
theorem oj':OpR X (binaryOp .Add) (rCatTT X.K):=by
 intro aa s U H x y v u Q I rx ry h
 obtain ⟨a,b,xs,ys,rfl,rfl,ha,hb,hz,q0,q1,q2⟩:=h
 cases rx
 cases ry
 obtain ⟨ac,r1,p1,_⟩:=I.tuple ha
 obtain ⟨bO,r2,p2,_⟩:=I.tuple hb
 by_cases hx:xs=[]
 ·subst hx
  cases r1
  obtain ⟨⟨cls,dd,data,sl⟩,ho,hc,n,hd⟩:=id p1
  obtain ⟨⟨pq,iF,data2,fP⟩,eE,cL,n2,dr⟩:=id p2
  simp only at hc hd cL dr
  subst hc hd cL dr
  exact concat_meets ⟨_,ho,rfl⟩ ⟨_,eE,rfl⟩ noFill_tuple_add seq_tuple_add slot_tuple_add entry_tuple_add (args_tuple_add_2 _ _)
   (tuple_addW0 a b _ bO.toArray n n2 dd iF sl fP (by simp)) ⟨ho,eE,⟨.ref b,H,I,rfl,q0 rfl⟩⟩
 ·exact pt' aa s U H (.ref a) (.ref b) _ _ Q I rfl rfl ⟨a,b,xs,ys,rfl,rfl,ha,hb,hx,hz,q1 hx,q2 hx⟩
noncomputable def addF (a b:D):Option D:=match a,b with
 | .int i,.int j=>some (.int (i+j))
 | .tup xs,.tup ys=>if xs.length+ys.length<=lim then some (.tup (xs++ys)) else none
 | .str x,.str y=>if x.length+y.length<=lim then some (.str (x++y)) else none
 | _,_=>none
theorem IsA.ne_nil {K:PySem.W.Frag}{I:Hp}{ds:List D}{xs:List V} (h:IsA K I ds xs):xs=[]↔ds=[]:=by
 have:=h.length
 constructor
 ·intro e;subst e;exact length_eq_zero_iff.mp this
 ·intro e;subst e;exact length_eq_zero_iff.mp this.symm
theorem aA' (ha:ED X B a ga) (hb:ED X B b gb):ED X B (.BinOp a .Add b pos) (op2 addF ga gb):=fN' ((qy'.or oj').or lW') (λa b d e B G I H U Y x y Q r hx hy k=>by
 unfold addF at e
 split at e
 ·cases e
  exact .inl (.inl ⟨_,_,an' hx,an' hy,k.now r (Is.int _)⟩)
 ·obtain ⟨hl,rfl⟩:=aG' e
  obtain ⟨p,xs,rfl,h1,h2⟩:=au' hx
  obtain ⟨q,ys,rfl,h3,h4⟩:=au' hy
  refine .inl (.inr ⟨p,q,xs,ys,rfl,rfl,Same.sqT r.iH h1,Same.sqT r.iH h3,by rw [← h2.length,← h4.length];exact dQ' hl,λz=>?_,λ_ z=>?_,λ_ _ p' hp=>k.tup r hp (IsA.append h2 h4)⟩)
  ·have:=h2.ne_nil.mp z
   subst this
   exact k.now r (Is.tup h3 h4)
  ·have:=h4.ne_nil.mp z
   subst this
   rw [append_nil] at k
   exact k.now r (Is.tup h1 h2)
 ·obtain ⟨hl,rfl⟩:=aG' e
  exact .inr ⟨_,_,b9' hx,b9' hy,dQ' hl,k.now r (Is.str _)⟩
 ·cases e) ha hb
noncomputable def rCatR (K:PySem.W.Frag):R2:=λx y H Q=>∃ l b xs zs,x=.ref l/\y=.ref b/\RdK K H l xs/\RdK K H b zs/\xs.length+zs.length<=sizeLine/\∀ p,H p=none->Q (.ref p) (upd H p (.lst (xs++zs)))
theorem pE':OpR X (binaryOp .Add) (rCatR X.K):=by
 intro aa s U H x y v u Q I rx ry h
 obtain ⟨l,b,xs,zs,rfl,rfl,hH,hB,hz,q⟩:=h
 cases rx
 cases ry
 obtain ⟨z,ac,n,r,hl,e⟩:=hF' I hH
 obtain ⟨z2,bO,n2,r2,dz,e2⟩:=hF' I hB
 refine PySem.P.add_list e e2 ?_ (by rw [size_toArray,size_toArray];omega)
 have ea:ac.toArray++bO.toArray=(ac++bO).toArray:=by simp
 rw [ea]
 exact ⟨.ref _,_,I.lnew (t':=s.toks) (r.append r2) (by rw [length_append];omega),rfl,q _ I.fresh⟩
noncomputable def catF (a b:D):Option (List D):=match a,b with
 | .lst xs,.lst ys=>if xs.length+ys.length<=lim then some (xs++ys) else none
 | _,_=>none
theorem dU' (ha:ED X B a ga) (hb:ED X B b gb):EO X B (.BinOp a .Add b pos) (op2 catF ga gb):=rC' pE' (λa b d e B G I H U Y x y Q r hx hy k=>by
 unfold catF at e
 split at e
 ·obtain ⟨hl,rfl⟩:=aG' e
  obtain ⟨p,xs,rfl,h1,h2⟩:=ax' hx
  obtain ⟨q,ys,rfl,h3,h4⟩:=ax' hy
  exact ⟨p,q,xs,ys,rfl,rfl,Same.rdK r.iH h1,Same.rdK r.iH h3,by rw [← h2.length,← h4.length];exact dQ' hl,λp' hp=>k.new r hp (IsA.append h2 h4)⟩
 ·cases e) ha hb
theorem IsA.at {K:PySem.W.Frag}{I:Hp}{ds:List D}{xs:List V}{i:Int}{d:D} (h:IsA K I ds xs) (e:atI ds i=some d):∃ x,atI xs i=some x/\Is K I d x:=by
 unfold atI at e ⊢
 rw [← h.length]
 cases hj:ixN ds.length i with
 | none=>rw [hj] at e;cases e
 | some j =>
  rw [hj] at e
  exact h.get e
noncomputable def ixF (a b:D):Option D:=match seqI a,asI b with
 | some ds,some i=>atI ds i
 | _,_=>none
theorem ld' {a b d:D} (h:ixF a b=some d):∃ ds i,(a=.lst ds\/a=.tup ds)/\b=.int i/\atI ds i=some d:=by
 unfold ixF at h
 cases a<;>cases b<;>simp [seqI,asI] at h
 ·exact ⟨_,_,.inr rfl,rfl,h⟩
 ·exact ⟨_,_,.inl rfl,rfl,h⟩
theorem ak' (ha:ED X B a ga) (hb:ED X B b gb) (hs:PlainIx b:=by exact λ_ _=>rfl):ED X B (.Subscript a b pos) (op2 ixF ga gb):=rD' (lb'.or qJ') (λa b d e B G I H U Y x y Q r hx hy k=>by
 obtain ⟨ds,i,h1,rfl,h2⟩:=ld' e
 rcases h1 with rfl | rfl
 ·obtain ⟨p,xs,rfl,h3,h4⟩:=ax' hx
  obtain ⟨v,e5,e6⟩:=h4.at h2
  exact .inl ⟨p,xs,i,v,rfl,an' hy,(Same.rdK r.iH h3).sq,e5,k.now r e6⟩
 ·obtain ⟨p,xs,rfl,h3,h4⟩:=au' hx
  obtain ⟨v,e5,e6⟩:=h4.at h2
  exact .inr ⟨p,xs,i,v,rfl,an' hy,Same.sqT r.iH h3,e5,k.now r e6⟩) ha hb hs
noncomputable def look (i:Nat):M D:=λY=>match Y[i]? with
 | some (some (.own ds))=>some (.lst ds,Y)
 | some (some (.bor ds))=>some (.lst ds,Y)
 | _=>none
theorem gk' {K:PySem.W.Frag}{G I H:Hp}{U:L2.St}{Y ae:Gm}{i:Nat}{d:D} (h:look i Y=some (d,ae)) (r:Rep K B G I H U Y):ae=Y/\∃ p xs ds,d=.lst ds/\U[i]?=some (some (.ref p))/\H p=some (.lst xs)/\IsA K I ds xs:=by
 unfold look at h
 cases e:Y[i]? with
 | none=>rw [e] at h;cases h
 | some o =>
  cases o with
  | none=>rw [e] at h;cases h
  | some q =>
   rw [e] at h
   obtain ⟨v,h1,h2⟩:=r.slot i q e
   cases q with
   | val _=>cases h
   | own ds=>cases h;obtain ⟨p,xs,rfl,g1,_,_,g4⟩:=h2;exact ⟨rfl,p,xs,ds,rfl,h1,g1,g4⟩
   | fro ds=>cases h
   | dic ds=>cases h
   | bor ds=>cases h;obtain ⟨p,xs,rfl,g1,_,_,g4⟩:=h2;exact ⟨rfl,p,xs,ds,rfl,h1,g1,g4⟩
noncomputable def atN (i:Nat) (g:M D):M D:=mutS i (bnd g λn=>bnd (look i) λl=>lft (ixF l n))
theorem bX' {i:Nat}{x:Str}{p1:Pos} (hv:PE X (.Name x p1) (tVar i)) (hb:ED X B b gb) (hs:PlainIx b:=by exact λ_ _=>rfl):ED X B (.Subscript (.Name x p1) b pos) (atN i gb):=PE.imp (o2' lb' hv hb hs) λU H Q q=>by
 obtain ⟨G,I,Y,d,ae,r,e1,k⟩:=q
 obtain ⟨hm,e1⟩:=da' e1
 obtain ⟨n,ab,e2,e3⟩:=af' e1
 obtain ⟨l,ah,e4,e5⟩:=af' e3
 obtain ⟨e6,rfl⟩:=ay' e5
 obtain ⟨p,xs,h1,h2⟩:=cH' hm r
 refine ⟨_,h1,G,I,Y,n,ab,r,e2,λv H1 I1 r1 g1 hn=>?_⟩
 obtain ⟨rfl,p',bG,ds,rfl,f1,f2,f3⟩:=gk' e4 r1
 have hp:p'=p:=by rw [h1] at f1;cases f1;rfl
 subst hp
 obtain ⟨dB,j,g2,rfl,g3⟩:=ld' e6
 rcases g2 with g2 | g2
 ·cases g2
  obtain ⟨y,e7,e8⟩:=f3.at g3
  exact ⟨p',bG,j,y,rfl,an' hn,SqL.of f2,e7,(k.after g1).now r1 e8⟩
 ·cases g2
noncomputable def lenF (ds:List D):Option D:=match ds with
 | [.lst xs]=>some (.int xs.length)
 | [.tup xs]=>some (.int xs.length)
 | _=>none
theorem ok' {ds:List D}{d:D} (h:lenF ds=some d):∃ xs,(ds=[.lst xs]\/ds=[.tup xs])/\d=.int xs.length:=by
 unfold lenF at h
 split at h
 ·cases h;exact ⟨_,.inl rfl,rfl⟩
 ·cases h;exact ⟨_,.inr rfl,rfl⟩
 ·cases h
theorem be' {p:Pos}{t:M (List D)} (hg:Gl X "len") (hm:X.mg "len"=none) (ha:AD X B [e] t) (he:starEach [e] X.env=(false,eval e X.env)::starEach [] X.env:=by rfl) (au:(backTo pos (starEach [] X.env)).any (·.1)=false:=by rfl) :
  ED X B (.Call (.Name "len" p) [e] [] pos) (fn1 lenF t):=dR' fi' (λds d e B G I H U Y xs Q r h k=>by
 obtain ⟨ys,h1,rfl⟩:=ok' e
 rcases h1 with rfl | rfl
 ·obtain ⟨x,rfl,hx⟩:=h.one
  obtain ⟨q,zs,rfl,h3,h4⟩:=ax' hx
  exact ⟨q,zs,rfl,.inl ((Same.rdK r.iH h3).sq),by rw [h4.length] at k;exact k.now r (Is.int _)⟩
 ·obtain ⟨x,rfl,hx⟩:=h.one
  obtain ⟨q,zs,rfl,h3,h4⟩:=au' hx
  exact ⟨q,zs,rfl,.inr (Same.sqT r.iH h3),by rw [h4.length] at k;exact k.now r (Is.int _)⟩) hg hm PySem.boot_len ha (by decide) (by decide) he au
noncomputable def lenN (i:Nat):M D:=bnd (look i) λl=>lft (lenF [l])
theorem le' {i:Nat}{x:Str}{p p1:Pos} (hg:Gl X "len") (hm:X.mg "len"=none) (hv:PE X (.Name x p1) (tVar i)) (he:starEach [.Name x p1] X.env=(false,eval (.Name x p1) X.env)::starEach [] X.env:=by rfl) (au:(backTo pos (starEach [] X.env)).any (·.1)=false:=by rfl) :
  ED X B (.Call (.Name "len" p) [.Name x p1] [] pos) (lenN i):=PE.imp (ge' fi' hg hm PySem.boot_len (eG' hv gH' he) (by decide) (by decide) he au) λU H Q q=>by
 obtain ⟨G,I,Y,d,ae,r,e1,k⟩:=q
 obtain ⟨l,ab,e2,e3⟩:=af' e1
 obtain ⟨e4,rfl⟩:=ay' e3
 obtain ⟨rfl,q,xs,ds,rfl,f1,f2,f3⟩:=gk' e2 r
 cases e4
 exact ⟨_,f1,q,xs,rfl,.inl (SqL.of f2),by rw [f3.length] at k;exact k.now r (Is.int _)⟩
noncomputable def cmpN (neg:Bool) (i:Nat) (g:M D):M D:=mutS i (bnd g λd=>bnd (look i) λl=>lft (eqF neg l d))
theorem qY' {K:PySem.W.Frag}{neg:Bool}{i:Nat}:∀ U H Q,tD K B (cmpN neg i gb) U H Q->tOp (rEqD K neg) (tVar i) (tD K B gb) U H Q:=λU H Q q=>by
 obtain ⟨G,I,Y,d,ae,r,e1,k⟩:=q
 obtain ⟨hm,e1⟩:=da' e1
 obtain ⟨n,ab,e2,e3⟩:=af' e1
 obtain ⟨l,ah,e4,e5⟩:=af' e3
 obtain ⟨e6,rfl⟩:=ay' e5
 obtain ⟨p,xs,h1,h2⟩:=cH' hm r
 refine ⟨_,h1,G,I,Y,n,ab,r,e2,λv H1 I1 r1 g1 hn=>?_⟩
 obtain ⟨rfl,p',bG,ds,rfl,f1,f2,f3⟩:=gk' e4 r1
 have hp:p'=p:=by rw [h1] at f1;cases f1;rfl
 subst hp
 obtain ⟨hd,rfl⟩:=aG' e6
 exact ⟨.lst ds,n,Is.lst (RdK.of f2) (f3.mono r1.iH),hn.mono r1.iH,hd,(k.after g1).now r1 (Is.bl _)⟩
theorem mO' {i:Nat}{x:Str}{p1:Pos} (hr:Room kr X.A) (hv:PE X (.Name x p1) (tVar i)) (hb:ED X B b gb):TD X B (.Compare (.Name x p1) [.NotEq] [b] pos) (tst (cmpN true i gb)):=PT.imp (k7' (jl' (hu100 hr)) hv hb (nomark _)) (l0' qY')
def partD (e:Option Expr) (X:Cx) (B:BB) (g:M (Option Int)):Prop:=PO X e (λU H Q=>∃ G I Y o ae,Rep X.K B G I H U Y/\g Y=some (o,ae)/\∀ H' I',Rep X.K B G I' H' U ae->Grow G I I'->Q o H')
theorem eK':partD none X B (ret none):=λaa s U H Q I h=>pq' aa s U H Q I (by
 obtain ⟨G,I,Y,o,ae,r,e1,k⟩:=h
 cases e1
 exact k _ _ r (Grow.refl _ _))
noncomputable def prt (g:M D):M (Option Int):=bnd g λd=>bnd (lft (asI d)) λi=>ret (some i)
theorem dc' (ha:ED X B a ga):partD (some a) X B (prt ga):=λaa s U H Q I h=>pr' ha aa s U H Q I (by
 obtain ⟨G,I,Y,o,ae,r,e1,k⟩:=h
 obtain ⟨d,ab,e2,e3⟩:=af' e1
 obtain ⟨i,ah,e4,e5⟩:=af' e3
 cases e5
 obtain ⟨e6,rfl⟩:=ay' e4
 have:=lc' e6
 subst this
 exact ⟨G,I,Y,_,_,r,e2,λv H1 I1 r1 g1 hv=>⟨i,an' hv,k _ _ r1 g1⟩⟩)
noncomputable def cutD (ds:List D) (lo hi:Option Int):List D:=(ds.drop (HT.sIx ds.length 0 lo)).take (HT.sIx ds.length ds.length hi - HT.sIx ds.length 0 lo)
theorem IsA.cut {K:PySem.W.Frag}{I:Hp}{ds:List D}{xs:List V} (h:IsA K I ds xs) (lo hi:Option Int):IsA K I (cutD ds lo hi) (cutV xs lo hi):=by
 unfold cutD cutV
 rw [← h.length]
 exact (h.drop _).take _
noncomputable def slF (d:D) (lo hi:Option Int):Option D:=match d with
 | .lst ds=>some (.lst (cutD ds lo hi))
 | .tup ds=>if HT.sIx ds.length 0 lo=0/\HT.sIx ds.length ds.length hi=ds.length then none else some (.tup (cutD ds lo hi))
 | _=>none
noncomputable def sl3 {α:Type} (F:D->Option Int->Option Int->Option α) (g:M D) (gl gh:M (Option Int)):M α:=bnd g λd=>bnd gl λl=>bnd gh λh=>lft (F d l h)
theorem fT' {lo hi:Option Expr}{p2:Pos}{gl gh:M (Option Int)} (ha:ED X B a ga) (hl:partD lo X B gl) (hh:partD hi X B gh):ED X B (.Subscript a (.Slice lo hi none p2) pos) (sl3 slF ga gl gh):=PE.imp (n9' (pu'.or qI') ha hl hh) λU H Q q=>by
 obtain ⟨G,I,Y,d,ae,r,e1,k⟩:=q
 obtain ⟨c,ab,e2,e3⟩:=af' e1
 obtain ⟨l,ah,e4,e5⟩:=af' e3
 obtain ⟨h,aQ,e6,e7⟩:=af' e5
 obtain ⟨e8,rfl⟩:=ay' e7
 refine ⟨G,I,Y,c,ab,r,e2,λv H1 I1 r1 g1 hv=>⟨G,I1,ab,l,ah,r1,e4,λH2 I2 r2 g2=>⟨G,I2,ah,h,_,r2,e6,λH3 I3 r3 g3=>?_⟩⟩⟩
 have gg:=g1.trans (g2.trans g3)
 have pM:=hv.mono (g2.trans g3).up
 cases c with
 | lst ds =>
  cases e8
  obtain ⟨p,xs,rfl,h3,h4⟩:=ax' pM
  refine .inl ⟨p,xs,rfl,(Same.rdK r3.iH h3).sq,λp' hp=>?_⟩
  exact (k.after gg) _ _ _ (r3.alloc hp _) (r3.growAlloc hp _) (Is.lst (RdK.of ap') ((h4.cut l h).mono (aL' (r3.iFree hp) _)))
 | tup ds =>
  unfold slF at e8
  by_cases hw:HT.sIx ds.length 0 l=0/\HT.sIx ds.length ds.length h=ds.length
  ·simp only [hw,and_self,if_true] at e8;cases e8
  ·simp only [if_neg hw] at e8;cases e8
   obtain ⟨p,xs,rfl,h3,h4⟩:=au' pM
   exact .inr ⟨p,xs,rfl,Same.sqT r3.iH h3,by rw [← h4.length];exact hw,λp' hp=>(k.after gg).tup r3 hp (h4.cut l h)⟩
 | _=>cases e8
noncomputable def minF (ds:List D):Option D:=match ds with
 | [.int i,.int j]=>some (.int (if j < i then j else i))
 | _=>none
noncomputable def maxF (ds:List D):Option D:=match ds with
 | [.int i,.int j]=>some (.int (if j > i then j else i))
 | _=>none
theorem fm' {p:Pos}{t:M (List D)} (hc:X.calm=true) (hg:Gl X "min") (hm:X.mg "min"=none) (ha:AD X B (e::es) t) (he:starEach (e::es) X.env=(false,eval e X.env)::starEach es X.env:=by rfl) (au:(backTo pos (starEach es X.env)).any (·.1)=false:=by rfl) :
  ED X B (.Call (.Name "min" p) (e::es) [] pos) (fn1 minF t):=dR' (mF' hc) (λds d e B G I H U Y xs Q r h k=>by
 unfold minF at e
 split at e
 ·cases e
  obtain ⟨x,y,rfl,hx,hy⟩:=h.two
  exact ⟨_,_,by rw [an' hx,an' hy],k.now r (Is.int _)⟩
 ·cases e) hg hm boot_min ha (by decide) (by decide) he au
theorem gQ' {p:Pos}{t:M (List D)} (hc:X.calm=true) (hg:Gl X "max") (hm:X.mg "max"=none) (ha:AD X B (e::es) t) (he:starEach (e::es) X.env=(false,eval e X.env)::starEach es X.env:=by rfl) (au:(backTo pos (starEach es X.env)).any (·.1)=false:=by rfl) :
  ED X B (.Call (.Name "max" p) (e::es) [] pos) (fn1 maxF t):=dR' (mE' hc) (λds d e B G I H U Y xs Q r h k=>by
 unfold maxF at e
 split at e
 ·cases e
  obtain ⟨x,y,rfl,hx,hy⟩:=h.two
  exact ⟨_,_,by rw [an' hx,an' hy],k.now r (Is.int _)⟩
 ·cases e) hg hm boot_max ha (by decide) (by decide) he au
noncomputable def tupF (ds:List D):Option D:=match ds with
 | [.lst xs]=>some (.tup xs)
 | [.tup xs]=>some (.tup xs)
 | _=>none
noncomputable def lstF (ds:List D):Option (List D):=match ds with
 | [.lst xs]=>some xs
 | [.tup xs]=>some xs
 | _=>none
theorem eQ' {p:Pos}{t:M (List D)} (hg:Gl X "tuple") (hm:X.mg "tuple"=none) (ha:AD X B [e] t) (he:starEach [e] X.env=(false,eval e X.env)::starEach [] X.env:=by rfl) (au:(backTo pos (starEach [] X.env)).any (·.1)=false:=by rfl) :
  ED X B (.Call (.Name "tuple" p) [e] [] pos) (fn1 tupF t):=qO' iJ' (λds d e B G I H U Y xs Q r h k=>by
 unfold tupF at e
 split at e
 ·cases e
  obtain ⟨x,rfl,hx⟩:=h.one
  obtain ⟨q,zs,rfl,h3,h4⟩:=ax' hx
  exact ⟨q,zs,rfl,.inl ⟨(Same.rdK r.iH h3).sq,λp' hp=>k.tup r hp h4⟩⟩
 ·cases e
  obtain ⟨x,rfl,hx⟩:=h.one
  obtain ⟨q,zs,rfl,h3,h4⟩:=au' hx
  exact ⟨q,zs,rfl,.inr ⟨Same.sqT r.iH h3,k.now r (Is.tup h3 h4)⟩⟩
 ·cases e) hg hm boot_tuple ha (by decide) (by decide) he au
theorem lf' {p:Pos}{t:M (List D)} (hg:Gl X "list") (hm:X.mg "list"=none) (ha:AD X B [e] t) (he:starEach [e] X.env=(false,eval e X.env)::starEach [] X.env:=by rfl) (au:(backTo pos (starEach [] X.env)).any (·.1)=false:=by rfl) :
  EO X B (.Call (.Name "list" p) [e] [] pos) (fn1 lstF t):=qP' jc' (λds d e B G I H U Y xs Q r h k=>by
 unfold lstF at e
 split at e
 ·cases e
  obtain ⟨x,rfl,hx⟩:=h.one
  obtain ⟨q,zs,rfl,h3,h4⟩:=ax' hx
  exact ⟨q,zs,rfl,.inl ((Same.rdK r.iH h3).sq),λp' hp=>k.new r hp h4⟩
 ·cases e
  obtain ⟨x,rfl,hx⟩:=h.one
  obtain ⟨q,zs,rfl,h3,h4⟩:=au' hx
  exact ⟨q,zs,rfl,.inr (Same.sqT r.iH h3),λp' hp=>k.new r hp h4⟩
 ·cases e) hg hm boot_list ha (by decide) (by decide) he au
noncomputable def isN (d:D):Bool:=match d with
 | .non=>true
 | _=>false
noncomputable def isNF (neg:Bool) (a b:D):Option D:=match b with
 | .non=>some (.bl (if neg then !isN a else isN a))
 | _=>none
theorem mP' {K:PySem.W.Frag}{I:Hp}{a:D}{x:V} (h:Is K I a x):decide (x=V.non)=isN a:=by
 cases a with
 | non=>rw [ca' h];rfl
 | bl _=>rw [bG' h];rfl
 | int _=>rw [an' h];rfl
 | str _=>rw [b9' h];rfl
 | tup _=>obtain ⟨_,_,rfl,_⟩:=au' h;rfl
 | lst _=>obtain ⟨_,_,rfl,_⟩:=ax' h;rfl
theorem mQ' {K:PySem.W.Frag}:OpD K (λx y H Q=>y=.non/\Q (.bl (decide (x=.non))) H) (isNF false):=λa b d e B G I H U Y x y Q r hx hy k=>by
 unfold isNF at e
 split at e
 ·cases e;exact ⟨ca' hy,by rw [mP' hx];exact k.now r (Is.bl _)⟩
 ·cases e
theorem pF' {K:PySem.W.Frag}:OpD K (λx y H Q=>y=.non/\Q (.bl (!decide (x=.non))) H) (isNF true):=λa b d e B G I H U Y x y Q r hx hy k=>by
 unfold isNF at e
 split at e
 ·cases e;exact ⟨ca' hy,by rw [mP' hx];exact k.now r (Is.bl _)⟩
 ·cases e
theorem qZ' (ha:ED X B a ga) (hb:ED X B b gb):ED X B (.Compare a [.Is] [b] pos) (op2 (isNF false) ga gb):=gK' mD' mQ' ha hb
theorem q0' (ha:ED X B a ga) (hb:ED X B b gb):TD X B (.Compare a [.Is] [b] pos) (tst (op2 (isNF false) ga gb)):=cR' mD' mQ' ha hb
theorem pG' (ha:ED X B a ga) (hb:ED X B b gb):TD X B (.Compare a [.IsNot] [b] pos) (tst (op2 (isNF true) ga gb)):=cR' po' pF' ha hb
noncomputable def isBF (neg:Bool) (a b:D):Option D:=match a,b with
 | .bl c,.bl d=>some (.bl (if neg then c != d else c == d))
 | _,_=>none
theorem ol':OpR X (compareOp .IsNot) (λx y H Q=>∃ c d,x=.bl c/\y=.bl d/\Q (.bl (c != d)) H):=by
 intro aa s U H x y v u Q I rx ry h
 obtain ⟨c,d,rfl,rfl,q⟩:=h
 cases rx;cases ry
 exact isnot_bool ⟨.bl _,H,I,rfl,q⟩
theorem om' {K:PySem.W.Frag}:OpD K (λx y H Q=>∃ c d,x=.bl c/\y=.bl d/\Q (.bl (c != d)) H) (isBF true):=λa b d e B G I H U Y x y Q r hx hy k=>by
 unfold isBF at e
 split at e
 ·cases e;exact ⟨_,_,bG' hx,bG' hy,k.now r (Is.bl _)⟩
 ·cases e
theorem on' (ha:ED X B a ga) (hb:ED X B b gb):TD X B (.Compare a [.IsNot] [b] pos) (tst (op2 (isBF true) ga gb)):=cR' ol' om' ha hb
end
structure Kd where
 it:Heap->Addr->Addr->Nat->Prop
 sq:Heap->Addr->Array Value->Prop
 nm:String
structure KdOk (k:Kd):Prop where
 itAt:∀ {h h':Heap}{i l:Addr}{n:Nat},k.it h i l n->(∀ o,h.get? i=some o->h'.get? i=some o)->k.it h' i l n
 sqAt:∀ {h h':Heap}{l:Addr}{xs:Array Value},k.sq h l xs->(∀ o,h.get? l=some o->h'.get? l=some o)->k.sq h' l xs
 itLt:∀ {h:Heap}{i l:Addr}{n:Nat},k.it h i l n->i < h.objs.size
 sqLt:∀ {h:Heap}{l:Addr}{xs:Array Value},k.sq h l xs->l < h.objs.size
 itObj:∀ {h:Heap}{i l:Addr}{n:Nat},k.it h i l n->∃ o,h.get? i=some o/\∀ v,o.data≠.cell v
 iter:∀ {prog:Program}{w:World}{A:Around}{E:Value->Shared->Prop}{s:Shared}{l:Addr}{xs:Array Value}{Q:Value->Shared->Prop},k.sq s.heap l xs →
  Q (.ref s.heap.objs.size) { s with heap:=s.heap.push { cls:=.type k.nm,data:=.fields #[.ref l,.int 0 0] } }->wpAny (model prog w) A (pyIter (.ref l)) Q E s
 new:∀ {h:Heap}{l:Addr},k.it (h.push { cls:=.type k.nm,data:=.fields #[.ref l,.int 0 0] }) h.objs.size l 0
 item:∀ {prog:Program}{w:World}{A:Around}{E:Value->Shared->Prop}{s:Shared}{i l:Addr}{n:Nat}{xs:Array Value}{x:Value}{Q:Value->Shared->Prop},k.it s.heap i l n->k.sq s.heap l xs->xs[n]?=some x →
  (∀ h',k.it h' i l (n+1)->Heap.SameBut i s.heap h'->Q x { s with heap:=h' })->wpAny (model prog w) A (nextOf (.ref i)) Q E s
 stop:∀ {prog:Program}{w:World}{A:Around}{E:Value->Shared->Prop}{s:Shared}{i l:Addr}{n:Nat}{xs:Array Value}{Q:Value->Shared->Prop},A.handled=none->k.it s.heap i l n->k.sq s.heap l xs->xs[n]?=none →
  (∀ h' e,Heap.ExtBut i s.heap h'->(∃ o,h'.get? e=some o/\o.cls=.type "StopIteration")->E (.ref e) { s with heap:=h' })->wpAny (model prog w) A (nextOf (.ref i)) Q E s
noncomputable def kdL:Kd:=⟨λh i l n=>h.IsListIter i l n,λh l xs=>h.IsList l xs, "list_iterator"⟩
noncomputable def kdT:Kd:=⟨λh i l n=>h.IsTupleIter i l n,λh l xs=>h.IsTuple l xs, "tuple_iterator"⟩
theorem mR':KdOk kdL where
 itAt:=λh k=>h.at k
 sqAt:=λh k=>h.at k
 itLt:=λh=>by obtain ⟨_,e,_⟩:=h;exact lt_size e
 sqLt:=λh=>by obtain ⟨_,e,_⟩:=h;exact lt_size e
 itObj:=λh=>by obtain ⟨o,e,_,d⟩:=h;exact ⟨o,e,λv z=>by rw [d] at z;cases z⟩
 iter:=λh q=>wpAny_pyIter_list h q
 new:=⟨_,get?_push_size _ rfl,rfl,rfl⟩
 item:=λh1 h2 h3 q=>wpAny_nextOf_list_item h1 h2 h3 q
 stop:=λhh h1 h2 h3 q=>wpAny_nextOf_list_end hh h1 h2 h3 q
section
variable {prog:Program}{w:World}{A:Around}{E:Value->Shared->Prop}{s:Shared}
theorem oo' {α:Type}{Q:α->Shared->Prop} (hh:A.handled=none)
  (k:∀ (g:Heap) (x:Addr),(∀ b o,s.heap.get? b=some o->g.get? b=some o)->(∃ o,g.get? x=some o/\o.cls=.type "StopIteration")->E (.ref x) { s with heap:=g }) :
  wpAny (model prog w) A (stopIteration (α:=α)) Q E s:=by
 unfold stopIteration newExc newTuple
 refine wpAny_bind (wpAny_bind (wpAny_newObj_type (wpAny_bind (wpAny_of_eq (a:=Value.none) (by first | rfl | (simp only [firstArgMember];rfl)) (wpAny_newObj_type ?_ (by size_fits)))) (by size_fits)))
 unfold raiseNew
 refine wpAny_bind (wpAny_handled ?_)
 rw [hh]
 exact wpAny_bind (wpAny_pure (wpAny_throw (k _ _ (λb o e=>get?_push_of_some _ (get?_push_of_some _ e)) ⟨_,get?_push_size _ rfl,rfl⟩)))
theorem jn' {aW tp:Addr}{i:Nat}{cells:Array Value}{Q:Value->Shared->Prop} (hi:s.heap.IsTupleIter aW tp i) (hT:s.heap.IsTuple tp cells)
  (one:∀ v,cells[i]?=some v->∀ g:Heap,g.IsTupleIter aW tp (i+1)->Heap.SameBut aW s.heap g->Q v { s with heap:=g })
  (non:cells[i]?=none->A.handled=none/\∀ (g:Heap) (x:Addr),Heap.ExtBut aW s.heap g->(∃ o,g.get? x=some o/\o.cls=.type "StopIteration")->E (.ref x) { s with heap:=g }) :
  wpAny (model prog w) A (nextOf (.ref aW)) Q E s:=by
 have ty:=hi.typeIs
 obtain ⟨oi,gi,ci,di⟩:=hi
 obtain ⟨ot,gt,ct,nt,dt⟩:=hT
 unfold nextOf
 refine wpAny_bind (wpAny_callSpecial?_slot (name:=ofString "__next__") ty F.slot_tuple_iterator_next (wpAny_call_entry F.slot_tuple_iterator_next ty F.entry_tuple_iterator_next ?_ (F.args_tuple_iterator_next_1 _)))
 refine wpAny_bind (wpAny_of_eq (a:=(Value.ref aW,[])) rfl ?_)
 refine wpAny_bind (wpAny_field (i:=0) gi di (x:=.ref tp) rfl (wpAny_ite_split (λno=>absurd no Bool.false_ne_true) λ_=>?_))
 refine wpAny_bind (wpAny_field (i:=1) gi di (x:=.int i 0) rfl (wpAny_bind (wpAny_seqItems gt dt ?_)))
 dsimp only
 rw [Int.toNat_natCast]
 cases hv:cells[i]? with
 | some v =>
  refine wpAny_bind (wpAny_setField gi di (by simp) (wpAny_pure ⟨v,rfl,wpAny_pure (one v hv _ ?_ (Heap.SameBut.update ..))⟩))
  have low:=data_mapFields di
  exact ⟨_,get?_update_self _ gi (Obj.isFreed_of_fields (low _)),(Obj.cls_mapFields ..).trans ci,by rw [low];simp [rawInt]⟩
 | none =>
  obtain ⟨hh,k⟩:=non hv
  refine wpAny_bind (wpAny_rule (wpAny_bind (wpAny_setField gi di (by simp) (oo' hh λg x keep is=>k g x (λb o ne e=>keep b o ((Heap.SameBut.update ..).extBut b o ne e)) is))))
end
theorem mS':KdOk kdT where
 itAt:=λh k=>by obtain ⟨o,e,r⟩:=h;exact ⟨o,k o e,r⟩
 sqAt:=λh k=>by obtain ⟨o,e,r⟩:=h;exact ⟨o,k o e,r⟩
 itLt:=λh=>by obtain ⟨_,e,_⟩:=h;exact lt_size e
 sqLt:=λh=>by obtain ⟨_,e,_⟩:=h;exact lt_size e
 itObj:=λh=>by obtain ⟨o,e,_,d⟩:=h;exact ⟨o,e,λv z=>by rw [d] at z;cases z⟩
 iter:=λh q=>wpAny_pyIter_tuple h q
 new:=⟨_,get?_push_size _ rfl,rfl,rfl⟩
 item:=λh1 h2 h3 q=>jn' h1 h2 (λv e g=>by rw [h3] at e;cases e;exact q g) λe=>by rw [h3] at e;cases e
 stop:=λhh h1 h2 h3 q=>jn' h1 h2 (λv e=>by rw [h3] at e;cases e) λ_=>⟨hh,q⟩
theorem jo' {X:Cx}{aa:List (Addr×Obj)}{U:L2.St}{H:Hp}{s:Shared}{h':Heap}{t':Nat}{ch:List Addr}{T:Addr}{o:HO} (I:Inv X aa U H s) (bi:∀ b∈ch,FpOk X aa H b) (k:∀ b u,b∉ch->s.heap.get? b=some u->h'.get? b=some u)
  (hT:s.heap.objs.size<=T) (new:ObjOk X.prog X.w (upd H T o) h' T o):Inv X aa U (upd H T o) { s with heap:=h',toks:=t' }:=by
 have hf:=I.hok.fresh hT
 have ne:∀ {b u},H b=some u->b≠T:=λ{b u} e=>aY' e hf
 have cC:∀ {b u},H b=some u->b∉ch:=λ{b u} e z=>by have:=(bi b z).1;rw [e] at this;cases this
 refine I.step (g':=s.gens) (d':=s.drawn) (ch:=ch) (λb hb=>⟨(bi b hb).2.2.2.1,(bi b hb).2.1,(bi b hb).2.2.2.2.1,(bi b hb).2.2.2.2.2⟩) (λb u _ _ hc e _=>k b u hc e) (λb u _ _ hc e _=>⟨u.slots,k b u hc e⟩) (λb u hc e n=>?_)
  (λb u hc e=>⟨u,k b u hc e⟩) (λb xs e=>by rw [ai' (ne e)];exact e) (λb u v e=>by rw [ai' (ne e)];exact e) (λb q e=>by rw [ai' (ne e)];exact e) (λm hm=>?_) (λb u e=>?_) I.bare
 ·have nb:b≠T:=λz=>by have:=lt_size e;rw [z] at this;exact absurd (lt_of_lt_of_le this hT) (lt_irrefl _)
  rw [ai' nb];exact n
 ·obtain ⟨ob,es,ep,ho,r⟩:=hm
  exact ⟨ob,es,ep,k _ ob (λz=>(bi _ z).2.1 rfl) ho,r⟩
 ·by_cases hb:b=T
  ·subst hb;rw [ap'] at e;cases e;exact new
  ·rw [ai' hb] at e
   refine (I.hok b u e).stay (λc v hc q=>k c v ?_ q) (λc q=>by rw [ai' (ne q)];exact q) (λc xs q=>by rw [ai' (ne q)];exact q) λc o u q=>by rw [ai' (ne q)];exact q
   rcases hc with z | z
   ·rw [z];exact cC e
   ·exact cC z
theorem cK' {X:Cx}{aa:List (Addr×Obj)}{U:L2.St}{H:Hp}{s:Shared}{h':Heap}{t':Nat}{ch:List Addr} (I:Inv X aa U H s) (bi:∀ b∈ch,FpOk X aa H b) (k:∀ b u,b∉ch->s.heap.get? b=some u->h'.get? b=some u):Inv X aa U H { s with heap:=h',toks:=t' }:=by
 have cC:∀ {b u},H b=some u->b∉ch:=λ{b u} e z=>by have:=(bi b z).1;rw [e] at this;cases this
 refine I.step (g':=s.gens) (d':=s.drawn) (ch:=ch) (λb hb=>⟨(bi b hb).2.2.2.1,(bi b hb).2.1,(bi b hb).2.2.2.2.1,(bi b hb).2.2.2.2.2⟩) (λb u _ _ hc e _=>k b u hc e) (λb u _ _ hc e _=>⟨u.slots,k b u hc e⟩) (λb u hc e n=>n)
  (λb u hc e=>⟨u,k b u hc e⟩) (λb xs e=>e) (λb u v e=>e) (λ_ _ e=>e) (λm hm=>?_) (λb u e=>?_) I.bare
 ·obtain ⟨ob,es,ep,ho,r⟩:=hm
  exact ⟨ob,es,ep,k _ ob (λz=>(bi _ z).2.1 rfl) ho,r⟩
 ·refine (I.hok b u e).stay (λc v hc q=>k c v ?_ q) (λc q=>q) (λc xs q=>q) λc o u q=>q
  rcases hc with z | z
  ·rw [z];exact cC e
  ·exact cC z
section
variable {prog:Program}{w:World}{A:Around}{E:Value->Shared->Prop}{s:Shared}{k:Kd}
theorem jp' (ok:KdOk k){z ta bA p q u v:Addr}{m n:Nat}{xs ys:Array Value}{c0 c1:Value}{Q:PySem.Fin->Shared->Prop} (D:ZipApart z ta bA p q u v) (zK:IsZip s.heap z ta bA .none) (Ta:IsPair s.heap ta (.ref p) (.ref q))
  (To:IsPair s.heap bA c0 c1) (P:k.it s.heap p u m) (P':k.it s.heap q v n) (zI:k.sq s.heap u xs) (U':k.sq s.heap v ys)
  (jz:∀ x y,xs[m]?=some x->ys[n]?=some y->∀ g:Heap,g.objs.size=s.heap.objs.size+1/\IsPair g s.heap.objs.size x y->IsZip g z ta bA (rawInt s.heap.objs.size)->IsPair g bA x y->k.it g p u (m+1)/\k.it g q v (n+1) →
   (∀ c o,(c≠z/\c≠bA/\c≠p/\c≠q)->s.heap.get? c=some o->g.get? c=some o)->Q (.done (.ret (.ref s.heap.objs.size))) { s with heap:=g })
  (jA:(xs[m]?=none\/ys[n]?=none)->A.handled=none/\∀ (g:Heap) (x:Addr),(∀ c o,(c≠z/\c≠bA/\c≠p/\c≠q)->s.heap.get? c=some o->g.get? c=some o)->(∃ o,g.get? x=some o/\o.cls=.type "StopIteration")->E (.ref x) { s with heap:=g }) :
  wpAny (model prog w) A (Builtin.«zip.__next__» ⟨[.ref z],[]⟩) Q E s:=by
 refine wpAny_bind (wpAny_of_eq (a:=(Value.ref z,[])) rfl (wpAny_bind (wpAny_field (i:=2) zK rfl (x:=.bool false) rfl (wpAny_bind (wpAny_field (i:=3) zK rfl (x:=.ref ta) rfl (wpAny_bind (wpAny_seqItems Ta rfl ?_)))))))
 refine wpAny_bind (m:=Builtin.SmallTypes.ownedTupleIsFree (.ref z)) (wpAny_bind (wpAny_field (i:=0) zK rfl (x:=.none) rfl (wpAny_pure ?_)))
 rw [if_pos rfl]
 refine wpAny_bind (wpAny_rule (wpAny_bind (wpAny_field (i:=4) zK rfl (x:=.ref bA) rfl (wpAny_bind (wpAny_setField_rec zK (by simp) λg1 Z1 b1=>?_)))))
 replace Z1:IsZip g1 z ta bA .ellipsis:=Z1
 have kO:∀ (g:Heap) (x:Addr),IsZip g z ta bA .ellipsis->(∃ o,g.get? x=some o/\o.cls=.type "StopIteration")->(∀ g':Heap,Heap.SameBut z g g'->(∃ o,g'.get? x=some o/\o.cls=.type "StopIteration")->E (.ref x) { s with heap:=g' }) →
   wpAny (model prog w) A (setField (.ref z) 0 .none) (λ_ s'=>E (.ref x) s') E { s with heap:=g }:=λg x Zg is kk=>by
  obtain ⟨o,e1,e2⟩:=is
  refine wpAny_setField_rec Zg (by simp) λg' _ b'=>kk g' b' ⟨o,b'.extBut _ _ (λsame=>?_) e1,e2⟩
  rw [same,Zg] at e1
  cases e1
  simp at e2
 have f1:∀ c o,c≠z->s.heap.get? c=some o->g1.get? c=some o:=λc o ne e=>b1.extBut _ _ ne e
 refine wpAny_bind ?_
 rw [List.zipIdx_cons,List.zipIdx_cons,List.zipIdx_nil,forIn_cons]
 refine wpAny_bind (wpAny_bind (wpAny_onRaise (wpAny_bind (m:=nextOf (.ref p)) ?_)))
 have P1:=ok.itAt P λo e=>f1 _ o D.i1z e
 have U1:=ok.sqAt zI λo e=>f1 _ o D.l1z e
 cases hx:xs[m]? with
 | none =>
  obtain ⟨hh,aG⟩:=jA (.inl hx)
  exact ok.stop hh P1 U1 hx λg2 x b2 is=>kO g2 x (b2 _ _ D.i1z.symm Z1) is λg' b' eN=>aG g' x (λc o ne e=>b'.extBut _ _ ne.1 (b2 _ _ ne.2.2.1 (f1 c o ne.1 e))) eN
 | some x =>
  refine ok.item P1 U1 hx λg2 P2 b2=>wpAny_pure ?_
  have pN:IsPair g2 bA c0 c1:=b2.extBut _ _ D.TOi1 (f1 _ _ D.TOz To)
  refine wpAny_bind (wpAny_seqItems pN rfl (wpAny_bind (wpAny_updateSeq_pair pN λg3 kP b3=>wpAny_bind (wpAny_letGo (wpAny_pure ?_)))))
  replace kP:IsPair g3 bA x c1:=kP
  have f3:∀ c o,c≠bA->c≠p->g1.get? c=some o->g3.get? c=some o:=λc o n1 n2 e=>b3.extBut _ _ n1 (b2.extBut _ _ n2 e)
  have Z3:IsZip g3 z ta bA .ellipsis:=f3 _ _ D.TOz.symm D.i1z.symm Z1
  dsimp only
  rw [forIn_cons]
  refine wpAny_bind (wpAny_bind (wpAny_onRaise (wpAny_bind (m:=nextOf (.ref q)) ?_)))
  have Q3:=ok.itAt P' λo e=>f3 _ o D.TOi2.symm D.i12.symm (f1 _ o D.i2z e)
  have V3:=ok.sqAt U' λo e=>f3 _ o D.l2TO D.l2i1 (f1 _ o D.l2z e)
  cases hy:ys[n]? with
  | none =>
   obtain ⟨hh,aG⟩:=jA (.inr hy)
   exact ok.stop hh Q3 V3 hy λg4 x b4 is=>kO g4 x (b4 _ _ D.i2z.symm Z3) is λg' b' eN=>aG g' x (λc o ne e=>b'.extBut _ _ ne.1 (b4 _ _ ne.2.2.2 (f3 c o ne.2.1 ne.2.2.1 (f1 c o ne.1 e)))) eN
  | some y =>
   refine ok.item Q3 V3 hy λg4 Q4 b4=>wpAny_pure ?_
   have pO:IsPair g4 bA x c1:=b4.extBut _ _ D.TOi2 kP
   refine wpAny_bind (wpAny_seqItems pO rfl (wpAny_bind (wpAny_updateSeq_pair pO λg5 iN b5=>wpAny_bind (wpAny_letGo (wpAny_pure ?_)))))
   replace iN:IsPair g5 bA x y:=iN
   have f5:∀ c o,c≠bA->c≠q->g3.get? c=some o->g5.get? c=some o:=λc o n1 n2 e=>b5.extBut _ _ n1 (b4.extBut _ _ n2 e)
   dsimp only
   rw [forIn_nil]
   refine wpAny_pure (wpAny_bind (wpAny_seqItems iN rfl (wpAny_bind (wpAny_newTuple ?_))))
   have same:g5.objs.size=s.heap.objs.size:=b5.1.trans (b4.1.trans (b3.1.trans (b2.1.trans b1.1)))
   have Z5:IsZip g5 z ta bA .ellipsis:=f5 _ _ D.TOz.symm D.i2z.symm Z3
   have eO:g5.objs.size≠z:=ne_of_gt (lt_size Z5)
   have Z6:IsZip (g5.push { cls:=.type "tuple", data:=.seq #[x,y] }) z ta bA .ellipsis:=get?_push_of_some _ Z5
   refine wpAny_bind (m:=Builtin.SmallTypes.ownedTupleHandOut (.ref z) (.ref g5.objs.size)) (wpAny_bind (wpAny_setField_rec Z6 (by simp) λg7 Z7 b7=>?_))
   refine wpAny_setField_rec Z7 (by simp) λg8 Z8 b8=>wpAny_pure ?_
   replace Z8:IsZip g8 z ta bA (rawInt g5.objs.size):=Z8
   have f8:∀ c o,c≠z->g5.get? c=some o->g8.get? c=some o:=λc o ne e=>b8.extBut _ _ ne (b7.extBut _ _ ne (get?_push_of_some _ e))
   have T8:IsPair g8 g5.objs.size x y:=b8.extBut _ _ eO (b7.extBut _ _ eO (get?_push_size _ rfl))
   have gQ:g8.objs.size=g5.objs.size+1:=b8.1.trans (b7.1.trans (size_push ..))
   show Q (.done (.ret (.ref g5.objs.size))) { s with heap:=g8 }
   rw [same] at Z8 T8 gQ ⊢
   exact jz x y hx hy g8 ⟨gQ,T8⟩ Z8 (f8 _ _ D.TOz iN) ⟨ok.itAt P2 λo e=>f8 _ o D.i1z (f5 _ o D.TOi1.symm D.i12 (b3.extBut _ _ D.TOi1.symm e)),ok.itAt Q4 λo e=>f8 _ o D.i2z (b5.extBut _ _ D.TOi2.symm e)⟩
    λc o ne e=>f8 c o ne.1 (f5 c o ne.2.1 ne.2.2.2 (f3 c o ne.2.1 ne.2.2.1 (f1 c o ne.1 e)))
noncomputable abbrev zk1 (k:Kd) (h:Heap) (l1:Addr):Heap:=h.push { cls:=.type k.nm,data:=.fields #[.ref l1,.int 0 0] }
noncomputable abbrev zk2 (k:Kd) (h:Heap) (l1 l2:Addr):Heap:=(zk1 k h l1).push { cls:=.type k.nm,data:=.fields #[.ref l2,.int 0 0] }
noncomputable abbrev zk3 (k:Kd) (h:Heap) (l1 l2:Addr):Heap:=(zk2 k h l1 l2).push { cls:=.type "tuple", data:=.seq #[.ref h.objs.size,.ref (zk1 k h l1).objs.size] }
noncomputable abbrev zk4 (k:Kd) (h:Heap) (l1 l2:Addr):Heap:=(zk3 k h l1 l2).push { cls:=.type "tuple", data:=.seq #[.none,.none] }
noncomputable abbrev zk5 (k:Kd) (h:Heap) (l1 l2:Addr):Heap:=(zk4 k h l1 l2).push { cls:=.type "zip", data:=.fields #[.none,.bool false,.bool false,.ref (zk2 k h l1 l2).objs.size,.ref (zk3 k h l1 l2).objs.size] }
theorem l5' (ok:KdOk k) (l1 l2:Addr) (xs ys:Array Value) :
  Meets (Builtin.«zip.__new__» ⟨[.type "zip", .ref l1,.ref l2],[]⟩) (λ_ R s=>k.sq s.heap l1 xs/\k.sq s.heap l2 ys ∧
   ∀ h',IsZip h' (s.heap.objs.size+4) (s.heap.objs.size+2) (s.heap.objs.size+3) .none->IsPair h' (s.heap.objs.size+2) (.ref s.heap.objs.size) (.ref (s.heap.objs.size+1)) →
    IsPair h' (s.heap.objs.size+3) .none .none->k.it h' s.heap.objs.size l1 0->k.it h' (s.heap.objs.size+1) l2 0->(∀ c o,s.heap.get? c=some o->h'.get? c=some o)->R (.ok (.ret (.ref (s.heap.objs.size+4)))) { s with heap:=h' }) :=
 .of_wp λprog w A R s h=>by
  obtain ⟨hp,gn,dw,tk,os⟩:=s
  obtain ⟨cS,dz,h⟩:=h
  have gR:=sub_zip
  have vD:k.sq (Shared.heap ⟨hp,gn,dw,tk,os⟩) l1 xs:=cS
  have vE:k.sq (Shared.heap ⟨zk1 k hp l1,gn,dw,tk,os⟩) l2 ys:=ok.sqAt dz λo e=>get?_push_of_some _ e
  wp_walk using ok.iter vD,ok.iter vE
  refine ⟨_,rfl,?_⟩
  have z1:(zk1 k hp l1).objs.size=hp.objs.size+1:=size_push ..
  have z2:(zk2 k hp l1 l2).objs.size=hp.objs.size+2:=by rw [size_push,z1]
  have z3:(zk3 k hp l1 l2).objs.size=hp.objs.size+3:=by rw [size_push,z2]
  have z4:(zk4 k hp l1 l2).objs.size=hp.objs.size+4:=by rw [size_push,z3]
  have g5:(zk5 k hp l1 l2).get? (zk4 k hp l1 l2).objs.size=some { cls:=.type "zip", data:=.fields #[.none,.bool false,.bool false,.ref (zk2 k hp l1 l2).objs.size,.ref (zk3 k hp l1 l2).objs.size] }:=get?_push_size _ rfl
  have g4:(zk5 k hp l1 l2).get? (zk3 k hp l1 l2).objs.size=some { cls:=.type "tuple", data:=.seq #[.none,.none] }:=get?_push_of_some _ (get?_push_size _ rfl)
  have g3:(zk5 k hp l1 l2).get? (zk2 k hp l1 l2).objs.size=some { cls:=.type "tuple", data:=.seq #[.ref hp.objs.size,.ref (zk1 k hp l1).objs.size] }:=get?_push_of_some _ (get?_push_of_some _ (get?_push_size _ rfl))
  have n2:k.it (zk2 k hp l1 l2) (zk1 k hp l1).objs.size l2 0:=ok.new
  have n1:k.it (zk1 k hp l1) hp.objs.size l1 0:=ok.new
  have i2:k.it (zk5 k hp l1 l2) (zk1 k hp l1).objs.size l2 0:=ok.itAt n2 λo e=>get?_push_of_some _ (get?_push_of_some _ (get?_push_of_some _ e))
  have i1:k.it (zk5 k hp l1 l2) hp.objs.size l1 0:=ok.itAt n1 λo e=>get?_push_of_some _ (get?_push_of_some _ (get?_push_of_some _ (get?_push_of_some _ e)))
  show R (.ok (.ret (.ref (zk4 k hp l1 l2).objs.size))) { heap:=zk5 k hp l1 l2,gens:=gn,drawn:=dw,toks:=tk,os:=os }
  rw [z2,z3,z4] at g5
  rw [z1,z2] at g3
  rw [z3] at g4
  rw [z1] at i2
  rw [z4]
  exact h (zk5 k hp l1 l2) g5 g3 g4 i1 i2 λc o e=>get?_push_of_some _ (get?_push_of_some _ (get?_push_of_some _ (get?_push_of_some _ (get?_push_of_some _ e))))
theorem mT' (ok:KdOk k){l1 l2:Addr}{xs ys:Array Value}{Q:Value->Shared->Prop} (cS:k.sq s.heap l1 xs) (dz:k.sq s.heap l2 ys)
  (made:∀ n h',n=s.heap.objs.size->IsZip h' (n+4) (n+2) (n+3) .none->IsPair h' (n+2) (.ref n) (.ref (n+1))->IsPair h' (n+3) .none .none->k.it h' n l1 0->k.it h' (n+1) l2 0->(∀ c o,s.heap.get? c=some o->h'.get? c=some o)->Q (.ref (n+4)) { s with heap:=h' }) :
  wpAny (model prog w) A (call (type "zip") ([l1,l2].map Value.ref)) Q E s :=
 callType_new F.called_zip (by decide) (F.typeCall_zip_2 _ _) (F.newCall_zip_2 _ _) (λobj=>F.args_object_init_3 obj _ _) F.entry_zip_new (l5' ok l1 l2 xs ys) ⟨cS,dz,λh' b1 b2 b3 b4 b5 b6=>⟨⟨_,b1,rfl⟩,made _ h' rfl b1 b2 b3 b4 b5 b6⟩⟩
end
section
variable {X:Cx}{k:Kd}
noncomputable def Itz (rd:Hp->Addr->List V->Prop) (l1 l2:Addr):It :=
 ⟨λi H=>∃ xs ys x y,rd H l1 xs/\rd H l2 ys/\xs[i]?=some x/\ys[i]?=some y,
  λi H v H'=>∃ p x y,H p=none/\v=.ref p/\H'=upd H p (.tup [x,y])/\(∀ xs,rd H l1 xs->xs[i]?=some x)/\(∀ ys,rd H l2 ys->ys[i]?=some y),
  λi H=>∃ xs ys,rd H l1 xs/\rd H l2 ys/\(xs.length<=i\/ys.length<=i)⟩
structure KdRd (K:PySem.W.Frag) (k:Kd) (rd:Hp->Addr->List V->Prop):Prop where
 of:∀ {X:Cx}{aa:List (Addr×Obj)}{U:L2.St}{H:Hp}{s:Shared}{a:Addr}{xs:List V},X.K=K->Inv X aa U H s->rd H a xs->∃ ac:List Value,Vals xs ac/\k.sq s.heap a ac.toArray
 inj:∀ {X:Cx}{aa:List (Addr×Obj)}{U:L2.St}{H:Hp}{s:Shared}{a:Addr}{xs ys:List V},X.K=K->Inv X aa U H s->rd H a xs->rd H a ys->xs=ys
theorem o8' (K:PySem.W.Frag):KdRd K kdL (λH a xs=>SqL K H a xs) where
 of:=λe I h=>by subst e;obtain ⟨ac,r,t,_⟩:=I.list h;exact ⟨ac,r,t.isList⟩
 inj:=λe I h h'=>by subst e;exact I.list_inj h h'
theorem o9' (K:PySem.W.Frag):KdRd K kdT (λH a xs=>SqT K H a xs) where
 of:=λe I h=>by subst e;obtain ⟨ac,r,t,_⟩:=I.tuple h;exact ⟨ac,r,t⟩
 inj:=λe I h h'=>by subst e;exact I.tuple_inj h h'
theorem oq' {P:Program}{w:World}{K:PySem.W.Frag}{bu:List Expr}{x1:Nat}{tp:Pos}{rd:Hp->Addr->List V->Prop} (ok:KdOk k) (kr:KdRd K k rd){z TI TO i1 i2 l1 l2:Addr} (D:ZipApart z TI TO i1 i2 l1 l2) :
  Turn P w K (.Tuple bu x1 tp) (Itz rd l1 l2) [z,TI,TO,i1,i2] z (λi h=>IsZip h z TI TO .none/\IsPair h TI (.ref i1) (.ref i2)/\(∃ a b,IsPair h TO a b)/\k.it h i1 l1 i/\k.it h i2 l2 i) where
 mem:=by simp
 obj:=λi h st b hb=>by
  obtain ⟨a1,a2,⟨x,y,a3⟩,a4,a5⟩:=st
  rw [mem_cons,mem_cons,mem_cons,mem_cons,mem_singleton] at hb
  rcases hb with rfl | rfl | rfl | rfl | rfl
  ·exact ⟨_,a1,λv q=>by cases (show fields _=Data.cell v from q)⟩
  ·exact ⟨_,a2,λv q=>by cases (show seq _ _=Data.cell v from q)⟩
  ·exact ⟨_,a3,λv q=>by cases (show seq _ _=Data.cell v from q)⟩
  ·exact ok.itObj a4
  ·exact ok.itObj a5
 keep:=λi h h' st kk=>by
  obtain ⟨a1,a2,⟨x,y,a3⟩,a4,a5⟩:=st
  exact ⟨kk _ (by simp) _ a1,kk _ (by simp) _ a2,⟨x,y,kk _ (by simp) _ a3⟩,ok.itAt a4 λo e=>kk _ (by simp) o e,ok.itAt a5 λo e=>kk _ (by simp) o e⟩
 item:=by
  intro X hP hw hK hc i aa s U H E I hf st hg
  subst hP hw
  obtain ⟨a1,a2,⟨av,bv,a3⟩,a4,a5⟩:=st
  obtain ⟨xs,ys,x,y,g1,g2,g3,g4⟩:=hg
  obtain ⟨ac,r1,t1⟩:=kr.of hK I g1
  obtain ⟨bj,r2,t2⟩:=kr.of hK I g2
  obtain ⟨u1,e1,e2⟩:=r1.get g3
  obtain ⟨u2,e3,e4⟩:=r2.get g4
  have hT:s.TypeIs (.ref z) "zip":=⟨_,a1,rfl⟩
  unfold pyNext
  refine wpAny_bind (wpAny_attempt (wpAny_callSpecial?_slot (name:=ofString "__next__") hT F.slot_zip_next (wpAny_call_entry F.slot_zip_next hT F.entry_zip_next (jp' ok D a1 a2 a3 a4 a5 t1 t2 ?_ ?_) (F.args_zip_next_1 _))))
  case refine_2 =>
   intro non
   have f1:ac.toArray[i]?=some u1:=by simpa using e1
   have f2:bj.toArray[i]?=some u2:=by simpa using e3
   rw [f1,f2] at non
   rcases non with non | non<;>cases non
  intro y1 y2 k1 k2 h' ⟨_,b5⟩ b1 b2 ⟨b3,b4⟩ b7
  have f1:ac.toArray[i]?=some u1:=by simpa using e1
  have f2:bj.toArray[i]?=some u2:=by simpa using e3
  rw [f1] at k1;cases k1
  rw [f2] at k2;cases k2
  refine ⟨_,rfl,wpAny_pure ⟨.ref s.heap.objs.size,rfl,wpAny_letOwnedTupleGo_zip b1 λh2 c1 c2=>?_⟩⟩
  have lt:∀ {b o},s.heap.get? b=some o->b≠s.heap.objs.size:=λ{b o} e=>ne_of_lt (lt_size e)
  have gS:=lt a1
  have pP:=lt a2
  have pQ:=lt a3
  have kk:∀ b u,b∉[z,TI,TO,i1,i2]->s.heap.get? b=some u->h2.get? b=some u:=λb u hb e=>by
   simp only [mem_cons,not_mem_nil,or_false,not_or] at hb
   exact c2.extBut _ _ hb.1 (b7 b u ⟨hb.1,hb.2.2.1,hb.2.2.2.1,hb.2.2.2.2⟩ e)
  have pT:IsPair h2 s.heap.objs.size u1 u2:=c2.extBut _ _ (Ne.symm gS) b5
  have I1:Inv X aa U (upd H s.heap.objs.size (.tup [x,y])) { s with heap:=h2 }:=jo' (t':=s.toks) I hf kk (le_refl _) ⟨by show 2<=sizeLine;rw [sizeLine_eq];decide,[u1,u2],.cons e2 (.cons e4 .nil),⟨_,pT,rfl,_,rfl⟩⟩
  have fr:=I.hok.fresh (le_refl s.heap.objs.size)
  refine ⟨.ref s.heap.objs.size,_,I1,rfl,⟨s.heap.objs.size,x,y,fr,rfl,rfl,λzs hz=>by rw [kr.inj hK I hz g1];exact g3,λzs hz=>by rw [kr.inj hK I hz g2];exact g4⟩,⟨c1,c2.extBut _ _ D.TIz (b7 _ _ ⟨D.TIz,D.TITO,D.TIi1,D.TIi2⟩ a2),⟨u1,u2,c2.extBut _ _ D.TOz b2⟩,ok.itAt b3 λo e=>c2.extBut _ _ D.i1z e,ok.itAt b4 λo e=>c2.extBut _ _ D.i2z e⟩,λb hb=>?_⟩
  have kQ:=(hf b hb).1
  have nb:b≠s.heap.objs.size:=by
   rw [mem_cons,mem_cons,mem_cons,mem_cons,mem_singleton] at hb
   rcases hb with rfl | rfl | rfl | rfl | rfl
   ·exact gS
   ·exact pP
   ·exact pQ
   ·exact ne_of_lt (ok.itLt a4)
   ·exact ne_of_lt (ok.itLt a5)
  rw [ai' nb];exact kQ
 done:=by
  intro X hP hw hK hc i aa s U H E I hf st hg
  subst hP hw
  obtain ⟨a1,a2,⟨av,bv,a3⟩,a4,a5⟩:=st
  obtain ⟨xs,ys,g1,g2,g3⟩:=hg
  obtain ⟨ac,r1,t1⟩:=kr.of hK I g1
  obtain ⟨bj,r2,t2⟩:=kr.of hK I g2
  have cS:=r1.length
  have dz:=r2.length
  have hT:s.TypeIs (.ref z) "zip":=⟨_,a1,rfl⟩
  unfold pyNext
  refine wpAny_bind (wpAny_attempt (wpAny_callSpecial?_slot (name:=ofString "__next__") hT F.slot_zip_next (wpAny_call_entry F.slot_zip_next hT F.entry_zip_next (jp' ok D a1 a2 a3 a4 a5 t1 t2 ?_ λ_=>⟨I.ok.hd hc,λh' e hk he=>?_⟩) (F.args_zip_next_1 _))))
  ·intro y1 y2 k1 k2
   have m1:=(Array.getElem?_eq_some_iff.mp k1).1
   have m2:=(Array.getElem?_eq_some_iff.mp k2).1
   simp at m1 m2
   omega
  ·obtain ⟨o,ho,kT⟩:=he
   refine wpAny_bind (wpAny_isInstance (T := "StopIteration") (b:=true) ⟨o,ho,kT⟩ isSubtype_stop ?_)
   refine wpAny_pure ⟨rfl,cK' (t':=s.toks) I hf λb u hb e=>?_⟩
   simp only [mem_cons,not_mem_nil,or_false,not_or] at hb
   exact hk b u ⟨hb.1,hb.2.2.1,hb.2.2.2.1,hb.2.2.2.2⟩ e
 self:=λ_ _ _ _ _ st h=>wpAny_pyIter_zip st.1 h
end
section
variable {X:Cx}{B:BB}{a b c e:Expr}{es:List Expr}{pos:Pos}{ga gb gc:M D}
noncomputable def iZip (K:PySem.W.Frag) (ta:TA):TI:=λU H R=>ta U H λvs H1=>(∃ l1 l2 xs ys,vs=[.ref l1,.ref l2]/\SqL K H1 l1 xs/\SqL K H1 l2 ys/\R (Itz (λH a xs=>SqL K H a xs) l1 l2) H1)\/(∃ l1 l2 xs ys,vs=[.ref l1,.ref l2]/\SqT K H1 l1 xs/\SqT K H1 l2 ys/\R (Itz (λH a xs=>SqT K H a xs) l1 l2) H1)
theorem mU' {k:Kd}{rd:Hp->Addr->List V->Prop} (ok:KdOk k) (kr:KdRd X.K k rd){bu:List Expr}{x1:Nat}{tp:Pos}{aa:List (Addr×Obj)}{U:L2.St}{H:Hp}{s:Shared}{R:It->Hp->Prop}{l1 l2:Addr}{xs ys:List V} (I:Inv X aa U H s) (h1:rd H l1 xs) (h2:rd H l2 ys) (q:R (Itz rd l1 l2) H) :
  wpAny (model X.prog X.w) X.A (call (.type "zip") [.ref l1,.ref l2]) (λv s1=>wpAny (model X.prog X.w) X.A (pyIter v) (PIE X aa U (.Tuple bu x1 tp) R) X.xe s1) X.xe s:=by
 obtain ⟨ac,r1,t1⟩:=kr.of rfl I h1
 obtain ⟨bj,r2,t2⟩:=kr.of rfl I h2
 refine mT' ok t1 t2 λn h' hn a1 a2 a3 a4 a5 a6=>wpAny_pyIter_zip a1 ?_
 subst hn
 have I1:Inv X aa U H { s with heap:=h' }:=I.kept (t':=s.toks) a6
 refine ⟨s.heap.objs.size+4,[s.heap.objs.size+4,s.heap.objs.size+2,s.heap.objs.size+3,s.heap.objs.size,s.heap.objs.size+1],_,_,H,rfl,I1,oq' ok kr (zipApart_new (ok.sqLt t1) (ok.sqLt t2)),⟨a1,a2,⟨_,_,a3⟩,a4,a5⟩,λb hb=>?_,q⟩
 rw [mem_cons,mem_cons,mem_cons,mem_cons,mem_singleton] at hb
 have up:∀ n,FpOk X aa H (s.heap.objs.size+n):=λn=>I.fpOk (le_add_right _ _) (I.hok.fresh (le_add_right _ _))
 rcases hb with rfl | rfl | rfl | rfl | rfl
 ·exact up 4
 ·exact up 2
 ·exact up 3
 ·exact up 0
 ·exact up 1
theorem q2' {bu:List Expr}{x1:Nat}{tp p:Pos}{ta:TA} (hg:Gl X "zip") (hm:X.mg "zip"=none) (ha:PA X [a,b] ta) (hs:starEach [a,b] X.env=[(false,eval a X.env),(false,eval b X.env)]:=by rfl) (dE:starEach [b] X.env=[(false,eval b X.env)]:=by rfl) :
  PI X (.Tuple bu x1 tp) (.Call (.Name "zip" p) [a,b] [] pos) (iZip X.K ta):=by
 intro aa s U H R I h
 refine Call_ (cu' I hg hm boot_zip (PyProof.Rows.callWith_type1 (thn (ha pos aa s U H _ I h) λus s1 ⟨vs,H1,I1,r1,q1⟩=>?_) (by rw [hs,dE]) (by rw [dE];rfl)))
 rcases q1 with ⟨l1,l2,xs,ys,e,h1,h2,q⟩ | ⟨l1,l2,xs,ys,e,h1,h2,q⟩
 ·subst e
  obtain ⟨u1,u2,rfl,e1,e2⟩:=r1.two
  cases e1;cases e2
  exact mU' mR' (o8' _) I1 h1 h2 q
 ·subst e
  obtain ⟨u1,u2,rfl,e1,e2⟩:=r1.two
  cases e1;cases e2
  exact mU' mS' (o9' _) I1 h1 h2 q
noncomputable def pairsD (xs ys:List D):List D:=(xs.zip ys).map λp=>.tup [p.1,p.2]
noncomputable def zipI (ds:List D):Option (List D):=match ds with
 | [.lst xs,.lst ys]=>some (pairsD xs ys)
 | [.tup xs,.tup ys]=>some (pairsD xs ys)
 | _=>none
theorem gR' {K:PySem.W.Frag}{I:Hp}{rd:Hp->Addr->List V->Prop}{l1 l2:Addr}{xs ys:List V}{ds es:List D} (mono:∀ {H a xs},Same I H->rd I a xs->rd H a xs) (inj:∀ {H},Same I H->(∀ zs,rd H l1 zs->zs=xs)/\(∀ zs,rd H l2 zs->zs=ys)\/True) (h1:rd I l1 xs) (h2:rd I l2 ys) (i1:IsA K I ds xs) (i2:IsA K I es ys):Yields K I (pairsD ds es) (Itz rd l1 l2):=λi H s=>by
 have L1:=i1.length
 have L2:=i2.length
 refine ⟨λd hd=>?_,λhi=>⟨xs,ys,mono s h1,mono s h2,?_⟩⟩
 ·unfold pairsD at hd
  obtain ⟨q,e1,rfl⟩:=getMap hd
  obtain ⟨e2,e3⟩:=List.getElem?_zip_eq_some.mp e1
  obtain ⟨x,f1,f2⟩:=i1.get e2
  obtain ⟨y,f3,f4⟩:=i2.get e3
  refine ⟨⟨xs,ys,x,y,mono s h1,mono s h2,f1,f3⟩,λv H2 hy=>?_⟩
  obtain ⟨p,x',y',g1,g2,g3,g4,g5⟩:=hy
  have k1:=g4 xs (mono s h1)
  have k2:=g5 ys (mono s h2)
  rw [f1] at k1;cases k1
  rw [f3] at k2;cases k2
  exact .inr ⟨p,[q.1,q.2],[x,y],rfl,g2,g1,g3,IsA.cons f2 (IsA.cons f4 IsA.nil)⟩
 ·unfold pairsD at hi
  rw [length_map,length_zip] at hi
  omega
theorem fU' {bu:List Expr}{x1:Nat}{tp p:Pos}{t:M (List D)} (hg:Gl X "zip") (hm:X.mg "zip"=none) (ha:AD X B [a,b] t) (hs:starEach [a,b] X.env=[(false,eval a X.env),(false,eval b X.env)]:=by rfl) (dE:starEach [b] X.env=[(false,eval b X.env)]:=by rfl) :
  ITD X B (.Tuple bu x1 tp) (.Call (.Name "zip" p) [a,b] [] pos) (fn1 zipI t):=PI.imp (q2' hg hm ha hs dE) λU H R q=>by
 obtain ⟨G,I,Y,ds,ae,r,e1,k⟩:=q
 obtain ⟨d,ab,e2,e3⟩:=af' e1
 obtain ⟨e4,rfl⟩:=ay' e3
 refine ⟨G,I,Y,d,_,r,e2,λvs H1 I1 r1 g1 hd=>?_⟩
 unfold zipI at e4
 split at e4
 ·cases e4
  obtain ⟨x,y,rfl,hx,hy⟩:=hd.two
  obtain ⟨l1,xs,rfl,h1,h2⟩:=ax' hx
  obtain ⟨l2,ys,rfl,h3,h4⟩:=ax' hy
  exact .inl ⟨l1,l2,xs,ys,rfl,(Same.rdK r1.iH h1).sq,(Same.rdK r1.iH h3).sq,k _ _ _ r1 g1 (gR' (λs h=>by rcases h with h | h;exact .inl (Same.rd s h);exact .inr h) (λ_=>.inr trivial) h1.sq h3.sq h2 h4)⟩
 ·cases e4
  obtain ⟨x,y,rfl,hx,hy⟩:=hd.two
  obtain ⟨l1,xs,rfl,h1,h2⟩:=au' hx
  obtain ⟨l2,ys,rfl,h3,h4⟩:=au' hy
  exact .inr ⟨l1,l2,xs,ys,rfl,Same.sqT r1.iH h1,Same.sqT r1.iH h3,k _ _ _ r1 g1 (gR' (λs h=>Same.sqT s h) (λ_=>.inr trivial) h1 h3 h2 h4)⟩
 ·cases e4
section
variable {k:Kd}
theorem drawsK (ok:KdOk k){prog:Program}{w:World}{A:Around} (hh:A.handled=none) (it l:Addr) (dD:l≠it) (af:Array Value):Draws prog w A it [it,l] af.size (λi v=>af[i]?=some v) (λi h=>k.it h it l i/\k.sq h l af) where
 live:=λi h st=>by obtain ⟨o,e,_⟩:=ok.itObj st.1;exact ⟨o,e⟩
 frame:=λi h h' st kk=>⟨ok.itAt st.1 λo e=>kk _ (by simp) o e,ok.sqAt st.2 λo e=>kk _ (by simp) o e⟩
 item:=λi s Q E hi st hQ=>ok.item st.1 st.2 (x:=af[i]) (by simp [hi]) λh' h1 h2=>hQ _ h' s.toks (by simp [hi]) ⟨h1,ok.sqAt st.2 λo e=>h2.extBut _ _ dD e⟩ h2
 done:=λs Q E st hE=>ok.stop hh st.1 st.2 (by simp) hE
theorem kB' (ok:KdOk k) (l:Addr) (af:Array Value) :
  Meets (Builtin.«enumerate.__new__» ⟨[.type "enumerate", .ref l],[]⟩) (λ_ R s=>k.sq s.heap l af ∧
   R (.ok (.ret (.ref (s.heap.push { cls:=.type k.nm,data:=.fields #[.ref l,.int 0 0] }).objs.size)))
    { s with heap:=(s.heap.push { cls:=.type k.nm,data:=.fields #[.ref l,.int 0 0] }).push { cls:=.type "enumerate", data:=.fields #[.none,.bool false,.ref s.heap.objs.size,rawInt 0,.none,.none] } }) :=
 .of_wp λprog w A R s h=>by
  obtain ⟨hp,gn,dw,tk,os⟩:=s
  obtain ⟨hl,h⟩:=h
  have gR:=sub_enumerate
  have hL:k.sq (Shared.heap ⟨hp,gn,dw,tk,os⟩) l af:=hl
  wp_walk using ok.iter hL
  refine wpAny_stack_any λframes=>wpAny_pure ?_
  split
  next c _ _ _ _ _=>cases c == type "enumerate"<;>(wp_walk using ok.iter hL;exact ⟨_,rfl,h⟩)
  next=>wp_walk using ok.iter hL;exact ⟨_,rfl,h⟩
end
end
section
variable {prog:Program}{w:World}{A:Around}{E:Value->Shared->Prop}{s:Shared}{k:Kd}
noncomputable abbrev en1 (k:Kd) (h:Heap) (l:Addr):Heap:=h.push { cls:=.type k.nm,data:=.fields #[.ref l,.int 0 0] }
noncomputable abbrev en2 (k:Kd) (h:Heap) (l:Addr):Heap:=(en1 k h l).push { cls:=.type "enumerate", data:=.fields #[.none,.bool false,.ref h.objs.size,rawInt 0,.none,.none] }
theorem l6' (ok:KdOk k){l:Addr}{af:Array Value}{Q:Value->Shared->Prop} (hL:k.sq s.heap l af)
  (made:∀ n g,n=s.heap.objs.size->IsEnum g (n+1) n 0 .none->k.it g n l 0->(∀ b o,s.heap.get? b=some o->g.get? b=some o)->Q (.ref (n+1)) { s with heap:=g }) :
  wpAny (model prog w) A (call (type "enumerate") ([l].map Value.ref)) Q E s:=by
 have bw:(en1 k s.heap l).objs.size=s.heap.objs.size+1:=size_push ..
 have iO:(en2 k s.heap l).get? (en1 k s.heap l).objs.size=some _:=get?_push_size _ rfl
 rw [bw] at iO
 refine callType_new F.called_enumerate (by decide) (F.typeCall_enumerate_1 _) (F.newCall_enumerate_1 _) (λobj=>F.args_object_init_2 obj _) F.entry_enumerate_new (kB' ok l af) ⟨hL,?_⟩
 have put:Q (.ref (s.heap.objs.size+1)) { s with heap:=en2 k s.heap l }:=made _ _ rfl iO (ok.itAt ok.new λo e=>get?_push_of_some _ e) λb o x=>get?_push_of_some _ (get?_push_of_some _ x)
 rw [← bw] at put iO
 exact ⟨⟨_,iO,rfl⟩,put⟩
end
section
variable {X:Cx}{B:BB}{a b c e:Expr}{es:List Expr}{pos:Pos}{ga gb gc:M D}{k:Kd}
noncomputable def Ite (rd:Hp->Addr->List V->Prop) (l:Addr):It :=
 ⟨λi H=>∃ xs x,rd H l xs/\xs[i]?=some x,λi H v H'=>∃ p x,H p=none/\v=.ref p/\H'=upd H p (.tup [.int i,x])/\(∀ xs,rd H l xs->xs[i]?=some x),λi H=>∃ xs,rd H l xs/\xs.length<=i⟩
theorem mV' {P:Program}{w:World}{K:PySem.W.Frag}{bu:List Expr}{x1:Nat}{tp:Pos}{rd:Hp->Addr->List V->Prop} (ok:KdOk k) (kr:KdRd K k rd){z it l:Addr} (kU:z≠it) (pR:l≠it) (vF:z≠l) :
  Turn P w K (.Tuple bu x1 tp) (Ite rd l) [z,it] z (λi h=>(∃ old,IsEnum h z it i old)/\k.it h it l i) where
 mem:=by simp
 obj:=λi h st b hb=>by
  obtain ⟨⟨old,a1⟩,a2⟩:=st
  rw [mem_cons,mem_singleton] at hb
  rcases hb with rfl | rfl
  ·exact ⟨_,a1,λv q=>by cases (show fields _=Data.cell v from q)⟩
  ·exact ok.itObj a2
 keep:=λi h h' st kk=>by
  obtain ⟨⟨old,a1⟩,a2⟩:=st
  exact ⟨⟨old,kk _ (by simp) _ a1⟩,ok.itAt a2 λo e=>kk _ (by simp) o e⟩
 item:=by
  intro X hP hw hK hc i aa s U H E I hf st hg
  subst hP hw
  obtain ⟨⟨old,a1⟩,a2⟩:=st
  obtain ⟨xs,x,g1,g3⟩:=hg
  obtain ⟨ac,r1,t1⟩:=kr.of hK I g1
  obtain ⟨u1,e1,e2⟩:=r1.get g3
  have aF:i < ac.toArray.size:=by
   have:=(List.getElem?_eq_some_iff.mp e1).1
   simpa using this
  have D:=drawsK ok (prog:=X.prog) (w:=X.w) (A:=X.A.in1) (I.ok.hd hc) it l pR ac.toArray
  refine wpAny_pyNext_enum_itemD D a1 ⟨a2,t1⟩ aF kU (by simp [kU,vF]) λy h' tk b0 b1 b2 b3 b4 b5=>?_
  have hy:y=u1:=by
   have dC:ac.toArray[i]?=some u1:=by simpa using e1
   have pS:ac.toArray[i]?=some y:=b0
   rw [dC] at pS;cases pS;rfl
  subst hy
  refine ⟨.ref s.heap.objs.size,rfl,wpAny_letOwnedTupleGo_enum b1 λh2 c1 c2=>?_⟩
  have gS:z≠s.heap.objs.size:=ne_of_lt (lt_size a1)
  have vG:it≠s.heap.objs.size:=ne_of_lt (ok.itLt a2)
  have kk:∀ b u,b∉[z,it]->s.heap.get? b=some u->h2.get? b=some u:=λb u hb e=>by
   simp only [mem_cons,not_mem_nil,or_false,not_or] at hb
   exact c2.extBut _ _ hb.1 (b5 b u hb.1 hb.2 e)
  have pT:=c2.extBut _ _ (Ne.symm gS) b3
  have I1:Inv X aa U (upd H s.heap.objs.size (.tup [.int i,x])) { s with heap:=h2,toks:=tk+1 }:=jo' (t':=tk+1) I hf kk (le_refl _) ⟨by show 2<=sizeLine;rw [sizeLine_eq];decide,[.int i tk,y],.cons ⟨_,rfl⟩ (.cons e2 .nil),⟨_,pT,rfl,_,rfl⟩⟩
  have fr:=I.hok.fresh (le_refl s.heap.objs.size)
  refine ⟨.ref s.heap.objs.size,_,I1,rfl,⟨s.heap.objs.size,x,fr,rfl,rfl,λzs hz=>by rw [kr.inj hK I hz g1];exact g3⟩,⟨⟨y,c1⟩,ok.itAt b2.1 λo e=>c2.extBut _ _ kU.symm e⟩,λb hb=>?_⟩
  have kQ:=(hf b hb).1
  have nb:b≠s.heap.objs.size:=by
   rw [mem_cons,mem_singleton] at hb
   rcases hb with rfl | rfl
   ·exact gS
   ·exact vG
  rw [ai' nb];exact kQ
 done:=by
  intro X hP hw hK hc i aa s U H E I hf st hg
  subst hP hw
  obtain ⟨⟨old,a1⟩,a2⟩:=st
  obtain ⟨xs,g1,g3⟩:=hg
  obtain ⟨ac,r1,t1⟩:=kr.of hK I g1
  have cS:=r1.length
  have hT:s.TypeIs (.ref z) "enumerate":=⟨_,a1,rfl⟩
  have hx:ac.toArray[i]?=none:=by simp;omega
  unfold pyNext
  refine wpAny_bind (wpAny_attempt (wpAny_callSpecial?_slot (name:=ofString "__next__") hT F.slot_enumerate_next (wpAny_call_entry F.slot_enumerate_next hT F.entry_enumerate_next (wpAny_bind (wpAny_of_eq (a:=(Value.ref z,[])) rfl (wpAny_bind (wpAny_field (i:=2) a1 rfl (x:=.ref it) rfl ?_)))) (F.args_enumerate_next_1 _))))
  refine wpAny_bind (ok.stop (I.ok.hd hc) a2 t1 hx λh' x dS gN=>?_)
  obtain ⟨o,ho,kT⟩:=gN
  refine wpAny_bind (wpAny_isInstance (T := "StopIteration") (b:=true) ⟨o,ho,kT⟩ isSubtype_stop ?_)
  refine wpAny_pure ⟨rfl,cK' (t':=s.toks) I hf λb u hb e=>?_⟩
  simp only [mem_cons,not_mem_nil,or_false,not_or] at hb
  exact dS b u hb.2 e
 self:=λ_ _ _ _ _ st h=>by obtain ⟨⟨old,a1⟩,_⟩:=st;exact wpAny_pyIter_enum a1 h
noncomputable def iEnum (K:PySem.W.Frag) (ta:TA):TI:=λU H R=>ta U H λvs H1=>(∃ l xs,vs=[.ref l]/\SqL K H1 l xs/\R (Ite (λH a xs=>SqL K H a xs) l) H1)\/(∃ l xs,vs=[.ref l]/\SqT K H1 l xs/\R (Ite (λH a xs=>SqT K H a xs) l) H1)
theorem lg' {rd:Hp->Addr->List V->Prop} (ok:KdOk k) (kr:KdRd X.K k rd){bu:List Expr}{x1:Nat}{tp:Pos}{aa:List (Addr×Obj)}{U:L2.St}{H:Hp}{s:Shared}{R:It->Hp->Prop}{l:Addr}{xs:List V} (I:Inv X aa U H s) (h1:rd H l xs) (q:R (Ite rd l) H) :
  wpAny (model X.prog X.w) X.A (call (.type "enumerate") [.ref l]) (λv s1=>wpAny (model X.prog X.w) X.A (pyIter v) (PIE X aa U (.Tuple bu x1 tp) R) X.xe s1) X.xe s:=by
 obtain ⟨ac,r1,t1⟩:=kr.of rfl I h1
 refine l6' ok t1 λn h' hn a1 a4 a6=>wpAny_pyIter_enum a1 ?_
 subst hn
 have I1:Inv X aa U H { s with heap:=h' }:=I.kept (t':=s.toks) a6
 have lt:=ok.sqLt t1
 refine ⟨s.heap.objs.size+1,[s.heap.objs.size+1,s.heap.objs.size],_,_,H,rfl,I1,mV' ok kr (Nat.succ_ne_self _) (ne_of_lt lt) (ne_of_gt (lt_succ_of_lt lt)),⟨⟨_,a1⟩,a4⟩,λb hb=>?_,q⟩
 rw [mem_cons,mem_singleton] at hb
 have up:∀ n,FpOk X aa H (s.heap.objs.size+n):=λn=>I.fpOk (le_add_right _ _) (I.hok.fresh (le_add_right _ _))
 rcases hb with rfl | rfl
 ·exact up 1
 ·exact up 0
theorem pH' {bu:List Expr}{x1:Nat}{tp p:Pos}{ta:TA} (hg:Gl X "enumerate") (hm:X.mg "enumerate"=none) (ha:PA X [a] ta) (hs:starEach [a] X.env=[(false,eval a X.env)]:=by rfl) :
  PI X (.Tuple bu x1 tp) (.Call (.Name "enumerate" p) [a] [] pos) (iEnum X.K ta):=by
 intro aa s U H R I h
 refine Call_ (cu' I hg hm boot_enumerate (PyProof.Rows.callWith_type1 (thn (ha pos aa s U H _ I h) λus s1 ⟨vs,H1,I1,r1,q1⟩=>?_) hs rfl))
 rcases q1 with ⟨l1,xs,e,h1,q⟩ | ⟨l1,xs,e,h1,q⟩
 ·subst e
  obtain ⟨u1,rfl,e1⟩:=r1.one
  cases e1
  exact lg' mR' (o8' _) I1 h1 q
 ·subst e
  obtain ⟨u1,rfl,e1⟩:=r1.one
  cases e1
  exact lg' mS' (o9' _) I1 h1 q
noncomputable def numD:Nat->List D->List D
 | _,[]=>[]
 | n,d::ds=>.tup [.int n,d]::numD (n+1) ds
theorem dV':∀ {ds:List D}{n i:Nat}{d:D},(numD n ds)[i]?=some d->∃ x,ds[i]?=some x/\d=.tup [.int ((n+i:Nat):Int),x]
 | [],n,i,d,h=>by rw [numD] at h;simp at h
 | c::ds,n,0,d,h=>by rw [numD] at h;simp at h;exact ⟨c,rfl,h.symm⟩
 | c::ds,n,i+1,d,h=>by
  rw [numD] at h
  obtain ⟨x,e1,e2⟩:=dV' (i:=i) (by simpa using h)
  refine ⟨x,by simpa using e1,?_⟩
  rw [e2,show n+1+i=n+(i+1) from by omega]
theorem jq':∀ (ds:List D) (n:Nat),(numD n ds).length=ds.length
 | [],n=>by rw [numD]
 | c::ds,n=>by rw [numD,length_cons,length_cons,jq' ds]
noncomputable def enumI (ds:List D):Option (List D):=match ds with
 | [.lst xs]=>some (numD 0 xs)
 | [.tup xs]=>some (numD 0 xs)
 | _=>none
theorem f9' {K:PySem.W.Frag}{I:Hp}{rd:Hp->Addr->List V->Prop}{l:Addr}{xs:List V}{ds:List D} (mono:∀ {H a xs},Same I H->rd I a xs->rd H a xs) (h1:rd I l xs) (i1:IsA K I ds xs):Yields K I (numD 0 ds) (Ite rd l):=λi H s=>by
 refine ⟨λd hd=>?_,λhi=>⟨xs,mono s h1,?_⟩⟩
 ·obtain ⟨y,e1,rfl⟩:=dV' hd
  obtain ⟨x,f1,f2⟩:=i1.get e1
  refine ⟨⟨xs,x,mono s h1,f1⟩,λv H2 hy=>?_⟩
  obtain ⟨p,x',g1,g2,g3,g4⟩:=hy
  have k1:=g4 xs (mono s h1)
  rw [f1] at k1;cases k1
  refine .inr ⟨p,_,[.int i,x],rfl,g2,g1,g3,IsA.cons ?_ (IsA.cons f2 IsA.nil)⟩
  rw [zero_add]
  exact Is.int _
 ·rw [jq',i1.length] at hi
  exact hi
theorem jr' {bu:List Expr}{x1:Nat}{tp p:Pos}{t:M (List D)} (hg:Gl X "enumerate") (hm:X.mg "enumerate"=none) (ha:AD X B [a] t) (hs:starEach [a] X.env=[(false,eval a X.env)]:=by rfl) :
  ITD X B (.Tuple bu x1 tp) (.Call (.Name "enumerate" p) [a] [] pos) (fn1 enumI t):=PI.imp (pH' hg hm ha hs) λU H R q=>by
 obtain ⟨G,I,Y,ds,ae,r,e1,k⟩:=q
 obtain ⟨d,ab,e2,e3⟩:=af' e1
 obtain ⟨e4,rfl⟩:=ay' e3
 refine ⟨G,I,Y,d,_,r,e2,λvs H1 I1 r1 g1 hd=>?_⟩
 unfold enumI at e4
 split at e4
 ·cases e4
  obtain ⟨x,rfl,hx⟩:=hd.one
  obtain ⟨l1,xs,rfl,h1,h2⟩:=ax' hx
  exact .inl ⟨l1,xs,rfl,(Same.rdK r1.iH h1).sq,k _ _ _ r1 g1 (f9' (λs h=>by rcases h with h | h;exact .inl (Same.rd s h);exact .inr h) h1.sq h2)⟩
 ·cases e4
  obtain ⟨x,rfl,hx⟩:=hd.one
  obtain ⟨l1,xs,rfl,h1,h2⟩:=au' hx
  exact .inr ⟨l1,xs,rfl,Same.sqT r1.iH h1,k _ _ _ r1 g1 (f9' (λs h=>Same.sqT s h) h1 h2)⟩
 ·cases e4
noncomputable def blsD:List D->Option (List Bool)
 | []=>some []
 | .bl b::ds=>match blsD ds with
  | some bs=>some (b::bs)
  | none=>none
 | _=>none
theorem gl':∀ {ds:List D}{bs:List Bool},blsD ds=some bs->ds=bs.map .bl
 | [],bs,h=>by rw [blsD] at h;cases h;rfl
 | .bl b::ds,bs,h=>by
  rw [blsD] at h
  cases e:blsD ds with
  | none=>rw [e] at h;cases h
  | some cs=>rw [e] at h;cases h;rw [gl' e];rfl
 | .non::_,_,h=>by cases h
 | .int _::_,_,h=>by cases h
 | .str _::_,_,h=>by cases h
 | .tup _::_,_,h=>by cases h
 | .lst _::_,_,h=>by cases h
theorem gm' {K:PySem.W.Frag}{I:Hp}:∀ {bs:List Bool}{xs:List V},IsA K I (bs.map .bl) xs->xs=bs.map .bl
 | [],xs,h=>h.nil_inv
 | b::bs,xs,h=>by
  obtain ⟨x,r,rfl,h1,h2⟩:=h.cons_inv
  rw [bG' h1,gm' h2];rfl
theorem hI':∀ {bs:List Bool}{us:List Value},Vals (bs.map .bl) us->us=bs.map .bool
 | [],us,h=>by cases h;rfl
 | b::bs,us,h=>by
  cases h with
  | cons r t=>rw [hI' t];cases r;rfl
theorem mW' (bs:List Bool):(range bs.length).all (λi=>bs.getD i true)=bs.all id:=by
 induction bs with
 | nil=>rfl
 | cons b bs ih =>
  rw [length_cons,range_succ_eq_map,all_cons,List.all_map,all_cons]
  congr 1
theorem mX' (bs:List Bool):(range bs.length).any (λi=>bs.getD i true)=bs.any id:=by
 induction bs with
 | nil=>rfl
 | cons b bs ih =>
  rw [length_cons,range_succ_eq_map,any_cons,List.any_map,any_cons]
  congr 1
theorem mY' (hc:X.calm=true):CallR X (.builtin "all") (λxs H Q=>∃ (p:Addr) (bs:List Bool),xs=[.ref p]/\SqL X.K H p (bs.map .bl)/\Q (.bl (bs.all id)) H):=by
 intro aa s U H xs us Q I r h
 obtain ⟨p,bs,rfl,hq,q⟩:=h
 obtain ⟨u,rfl,ru⟩:=vals1 r
 cases ru
 obtain ⟨ac,rv,t,hz⟩:=I.list hq
 have:=hI' rv
 subst this
 have lt:p < s.heap.objs.size:=by obtain ⟨_,e,_⟩:=t.isList;exact lt_size e
 refine call_all_walk (wpAny_pyIter_list t.isList ?_)
 refine ⟨s.heap.objs.size,_,_,_,_,_,λi=>bs.getD i true,rfl,Walks.list (A:=X.A.in1) (I.ok.hd hc) s.heap.objs.size p (ne_of_lt lt) _,⟨⟨_,get?_push_size _ rfl,rfl,rfl⟩,t.isList.push _⟩,?_,?_⟩
 ·intro i v s' Q' E' hv hQ
  have cx:(bs.map Value.bool)[i]?=some v:=by simpa using hv
  obtain ⟨b,e1,rfl⟩:=getMap cx
  have hQ:Q' (bs.getD i true) s':=hQ
  rw [getD_eq_getElem?_getD,e1] at hQ
  exact wpAny_truthy_bool hQ
 ·intro h' tk kk
  have e1:(bs.map Value.bool).toArray.size=bs.length:=by simp
  rw [e1,mW']
  refine ⟨.bl (bs.all id),H,I.kept λb o e=>kk b o (by simp only [mem_singleton];exact ne_of_lt (lt_size e)) (get?_push_of_some _ e),rfl,q⟩
theorem mZ' (hc:X.calm=true):CallR X (.builtin "any") (λxs H Q=>∃ (p:Addr) (bs:List Bool),xs=[.ref p]/\SqL X.K H p (bs.map .bl)/\Q (.bl (bs.any id)) H):=by
 intro aa s U H xs us Q I r h
 obtain ⟨p,bs,rfl,hq,q⟩:=h
 obtain ⟨u,rfl,ru⟩:=vals1 r
 cases ru
 obtain ⟨ac,rv,t,hz⟩:=I.list hq
 have:=hI' rv
 subst this
 have lt:p < s.heap.objs.size:=by obtain ⟨_,e,_⟩:=t.isList;exact lt_size e
 refine call_any_walk (wpAny_pyIter_list t.isList ?_)
 refine ⟨s.heap.objs.size,_,_,_,_,_,λi=>bs.getD i true,rfl,Walks.list (A:=X.A.in1) (I.ok.hd hc) s.heap.objs.size p (ne_of_lt lt) _,⟨⟨_,get?_push_size _ rfl,rfl,rfl⟩,t.isList.push _⟩,?_,?_⟩
 ·intro i v s' Q' E' hv hQ
  have cx:(bs.map Value.bool)[i]?=some v:=by simpa using hv
  obtain ⟨b,e1,rfl⟩:=getMap cx
  have hQ:Q' (bs.getD i true) s':=hQ
  rw [getD_eq_getElem?_getD,e1] at hQ
  exact wpAny_truthy_bool hQ
 ·intro h' tk kk
  have e1:(bs.map Value.bool).toArray.size=bs.length:=by simp
  rw [e1,mX']
  refine ⟨.bl (bs.any id),H,I.kept λb o e=>kk b o (by simp only [mem_singleton];exact ne_of_lt (lt_size e)) (get?_push_of_some _ e),rfl,q⟩
noncomputable def allF (ds:List D):Option D:=match ds with
 | [.lst xs]=>match blsD xs with
  | some bs=>some (.bl (bs.all id))
  | none=>none
 | _=>none
noncomputable def anyF (ds:List D):Option D:=match ds with
 | [.lst xs]=>match blsD xs with
  | some bs=>some (.bl (bs.any id))
  | none=>none
 | _=>none
theorem js' {p:Pos}{t:M (List D)} (hc:X.calm=true) (hg:Gl X "all") (hm:X.mg "all"=none) (ha:AD X B [e] t) (he:starEach [e] X.env=(false,eval e X.env)::starEach [] X.env:=by rfl) (au:(backTo pos (starEach [] X.env)).any (·.1)=false:=by rfl) :
  ED X B (.Call (.Name "all" p) [e] [] pos) (fn1 allF t):=dR' (mY' hc) (λds d e B G I H U Y xs Q r h k=>by
 unfold allF at e
 split at e
 ·split at e
  ·rename_i bs eb
   cases e
   have:=gl' eb
   subst this
   obtain ⟨x,rfl,hx⟩:=h.one
   obtain ⟨q,zs,rfl,h3,h4⟩:=ax' hx
   have:=gm' h4
   subst this
   exact ⟨q,bs,rfl,(Same.rdK r.iH h3).sq,k.now r (Is.bl _)⟩
  ·cases e
 ·cases e) hg hm boot_all ha (by decide) (by decide) he au
theorem q3' {p:Pos}{t:M (List D)} (hc:X.calm=true) (hg:Gl X "any") (hm:X.mg "any"=none) (ha:AD X B [e] t) (he:starEach [e] X.env=(false,eval e X.env)::starEach [] X.env:=by rfl) (au:(backTo pos (starEach [] X.env)).any (·.1)=false:=by rfl) :
  ED X B (.Call (.Name "any" p) [e] [] pos) (fn1 anyF t):=dR' (mZ' hc) (λds d e B G I H U Y xs Q r h k=>by
 unfold anyF at e
 split at e
 ·split at e
  ·rename_i bs eb
   cases e
   have:=gl' eb
   subst this
   obtain ⟨x,rfl,hx⟩:=h.one
   obtain ⟨q,zs,rfl,h3,h4⟩:=ax' hx
   have:=gm' h4
   subst this
   exact ⟨q,bs,rfl,(Same.rdK r.iH h3).sq,k.now r (Is.bl _)⟩
  ·cases e
 ·cases e) hg hm boot_any ha (by decide) (by decide) he au
noncomputable def reprF (ds:List D):Option D:=match ds with
 | [.bl b]=>some (.str (if b then "True" else "False"))
 | _=>none
end
theorem CompScope.of {bZ sc:Scope}{N N':List Str}{m:Nat}
  (h:decide (sc.kind=.function/\(∀ y∈sc.names,y.2≠.cell)/\(∀ y∈sc.names,y.2=.local->sc.names.lookup y.1=some .local)/\(∀ y∈sc.names,y.2=.free->bZ.names.lookup y.1=some .cell\/bZ.names.lookup y.1=some .free)/\N'.Nodup/\N'.length=m+N.length ∧
   (∀ p∈(N'.drop m).zip N,((relab sc bZ).names.lookup p.1=none)\/(p.1=p.2/\(relab sc bZ).names.lookup p.1≠some .local)))=true):CompScope bZ sc N N' m:=by
 obtain ⟨h1,h2,h3,h4,h5,h6,h7⟩:=of_decide_eq_true h
 exact ⟨h1,h2,h3,h4,h5,h6,h7⟩
theorem fV' {P:Program}{w:World}{K:PySem.W.Frag}{mg:Str->Option Value}{base:Heap}{k:Nat}{f:Addr}{fd:FuncData}{ps:List Str}:FnOk P w K mg base CX0 k f fd ps (spD K λ_=>none):=by
 have no:∀ vs H Q E,¬ spD K (λ_=>none) vs H Q E:=λvs H Q E h=>by
  obtain ⟨_,_,_,_,_,_,_,h,_⟩:=h
  cases h
 exact ⟨λvs H Q E h=>absurd h (no vs H Q E),λA outer s H args us vs Q E _ _ _ _ h=>absurd h (no vs H Q E)⟩
theorem q4' {K:PySem.W.Frag}{H:Hp}{a:Addr}{ns:List Int}{g:List R->Option (R×List R)} (pw:RdK K H a (ns.map V.int))
  (hg:∃ rs,g [.val (.lst (ns.map D.int))]=some (.val (.bl true),rs)):spD K g [.ref a] H (λv _=>v=.bl true) λ_ _ _=>False:=by
 obtain ⟨rs,hg⟩:=hg
 have pU:∀ ns:List Int,IsA K H (ns.map D.int) (ns.map V.int):=λns=>by
  induction ns with
  | nil=>exact IsA.nil
  | cons n ns ih=>exact IsA.cons (Is.int n) ih
 refine ⟨H,H,[.val (.lst (ns.map D.int))],.val (.bl true),rs,?_,rfl,hg,λv H' I' r g' hv=>bG' (K:=K) (I:=I') hv⟩
 refine ⟨Same.refl _,Same.refl _,rfl,λi r e=>?_,λi j r r' v e e' m=>?_,λi ds e=>rfl⟩
 ·match i,e with
  | 0,e=>cases e;exact ⟨_,rfl,Is.lst pw (pU ns)⟩
 ·match i,e with
  | 0,e=>cases e;cases m
noncomputable def hT (K:PySem.W.Frag) (H:Hp):Hp:=λb=>match tabIn K "letter_left" with
 | some (_,P)=>if b=P then some (.tbl "letter_left.<locals>.<lambda>") else H b
 | none=>H b
theorem jt' {K:PySem.W.Frag}{H:Hp}{c P:Addr} (h:tabIn K "letter_left"=some (c,P)):hT K H P=some (.tbl "letter_left.<locals>.<lambda>"):=by
 unfold hT
 rw [h]
 exact if_pos rfl
theorem i5' {K:PySem.W.Frag}{H:Hp}{b:Addr}:hT K H b=H b\/∃ c,tabIn K "letter_left"=some (c,b):=by
 unfold hT
 cases e:tabIn K "letter_left" with
 | none=>exact .inl rfl
 | some q =>
  obtain ⟨c,P⟩:=q
  dsimp only
  by_cases h:b=P
  ·subst h;exact .inr ⟨c,rfl⟩
  ·exact .inl (if_neg h)
theorem m0' {P:Program}{w:World}{K:PySem.W.Frag}{mg mb:Str->Option Value}{CX:CXT}{k:Nat}{fa a:Addr}{fd:FuncData}{x:Str}{sp:Sp}{am:Shared}{vs:List Value}{ns:List Int}
  (KX:K.In am.heap) (fS:am.heap.Ns mainGlobals mg) (hb:am.heap.Ns builtinsNs mb) (vH:∀ x:Str,x ≠ "__name__"->mb x=bootBuiltins x) (fC:am.heap.NoLimit) (hg:am.gens=#[])
  (vI:∃ bm ob,mg "__builtins__"=some (.ref bm)/\bm≠builtinsNs/\am.heap.get? bm=some ob/\ob.cls=.type "module"/\ob.dict=some builtinsNs/\ob.data=.plain)
  (df:∀ c P,tabIn K "letter_left"=some (c,P)->PySem.W.CodeHd am.heap c P/\am.heap.get? P=some (PySem.W.tabObj #[])) (gT:noTabs K=true)
  (ha:am.heap.get? a=some { cls:=.type "list", data:=.seq vs.toArray }) (hi:IntsAre vs ns) (hl:ns.length<=sizeLine) (hr:Room k callerA)
  (F:∀ base:Heap,K.In base->base.Ns mainGlobals mg->FnOk P w K mg base CX k fa fd [x] sp) (eP:∀ (s:Shared) (u:Value),BindsTo s fd ⟨[u],[]⟩ [(x,u)])
  (cZ:∀ H:Hp,RdK K H a (ns.map V.int)->sp [.ref a] H (λv _=>v=.bl true) λ_ _ _=>False)
  (kW:∀ H e s',CX [] H am (λ_ _ _=>False) e s'->False) :
  codeAny (model P w) callerA (.call (.ref fa) ⟨[.ref a],[]⟩) (λr s'=>r=.ok (.ret (.bool true))/\OldK am.heap s'.heap/\s'.os=am.os/\AllBare s'.gens) am:=by
 have rv:=ia' hi
 have pV:=hi.length
 have vJ:∀ {c b:Addr}{o:Obj},tabIn K "letter_left"=some (c,b)->K.lookup b=some o->False:=λ{c b o} e lk=>by
  have e1:=KX b o lk
  rw [(df c b e).2] at e1
  cases e1
  have:=all_eq_true.mp gT (b,_) (PySem.W.mem_of_lookupK lk)
  exact absurd (show false=true from this) Bool.false_ne_true
 -- from an abstract heap in which nothing but the script and the table may be cD
 have jB:∀ H0:Hp,Only H0->RdK K (hT K H0) a (ns.map V.int)->HOk P w (hT K H0) am.heap->(∀ b,H0 b≠none->b=a)->(H0 a≠none->K.lookup a=none) →
   codeAny (model P w) callerA (.call (.ref fa) ⟨[.ref a],[]⟩) (λr s'=>r=.ok (.ret (.bool true))/\OldK am.heap s'.heap/\s'.os=am.os/\AllBare s'.gens) am:=by
  intro H0 hO hS hok hA hK
  obtain ⟨H,eH⟩:∃ H,H=hT K H0:=⟨_,rfl⟩
  have kX:∀ b,H b=H0 b\/∃ c,tabIn K "letter_left"=some (c,b):=λb=>by rw [eH];exact i5'
  rw [← eH] at hS hok
  have bX:∀ {b:Addr}{o:Obj},am.heap.get? b=some o->H b=none->(hidT am.heap H).get? b=some o:=λe n=>n1' e n
  have free:∀ {b:Addr}{o:Obj},am.heap.get? b=some o->o.cls≠.type "list"\/(∀ xs n,o.data≠.seq xs n)->o.cls≠.none\/(∀ vs,o.data≠.fields vs)->H b=none:=λ{b o} e n1 n2=>by
   rcases kX b with q | ⟨c,q⟩
   ·rw [q]
    cases z:H0 b with
    | none=>rfl
    | some u =>
     have e':b=a:=hA b (by rw [z];simp)
     subst e'
     rw [ha] at e;cases e
     rcases n1 with n1 | n1
     ·exact absurd rfl n1
     ·exact absurd rfl (n1 _ _)
   ·rw [(df c b q).2] at e;cases e
    rcases n2 with n2 | n2
    ·exact absurd rfl n2
    ·exact absurd rfl (n2 _)
  have iP:∀ {b:Addr}{m:Str->Option Value},am.heap.Ns b m->(hidT am.heap H).Ns b m:=λ{b m} ⟨o,es,ep,e,d,r⟩=>⟨o,es,ep,bX e (free e (.inr λxs n z=>by rw [d] at z;cases z) (.inr λvs z=>by rw [d] at z;cases z)),d,r⟩
  have pW:K.In (hidT am.heap H):=λb o e=>bX (KX b o e) (by
   rcases kX b with q | ⟨c,q⟩
   ·rw [q]
    cases z:H0 b with
    | none=>rfl
    | some u =>
     have e':b=a:=hA b (by rw [z];simp)
     subst e'
     rw [hK (by rw [z];simp)] at e;cases e
   ·exact (vJ q e).elim)
  have hM:Mod K mg (hidT am.heap H):=⟨pW,iP fS,⟨mb,iP hb,vH⟩,let ⟨mc,h1,h2⟩:=fC;⟨mc,iP h1,h2⟩,by
   obtain ⟨bm,ob,b1,b2,b3,b4,b5,b6⟩:=vI
   exact ⟨bm,ob,b1,b2,bX b3 (free b3 (.inl (by rw [b4];decide)) (.inl (by rw [b4];decide))),b4,b5,b6⟩,λc P q=>by
   obtain ⟨o,vs,jC,tf,gU,tg,inF,jD,tt,e1,e2,e3,r⟩:=(df c P q).1
   exact ⟨o,vs,jC,tf,gU,tg,inF,jD,tt,bX e1 (free e1 (.inl (by rw [e2];decide)) (.inl (by rw [e2];decide))),e2,e3,r⟩⟩
  have e0:Env0 P w K mg (hidT am.heap H) callerA [] am H:=⟨rfl,hM,λb o e=>ph' e,Nat.le_of_eq (mx' _ _),trivial,λb hb=>absurd (show b∈([]:List Addr) from hb) (by simp),hok,.of_eq hg,λc P q=>by rw [eH];exact jt' q⟩
  refine codeAny_mono ((F _ pW (iP fS)).run callerA [] am H ⟨[.ref a],[]⟩ [.ref a] [.ref a] _ _ hr e0 (eP am (.ref a)) (.cons rfl .nil) (cZ H hS)) λr s' h=>?_
  cases r with
  | error e=>exact (kW H e s' h).elim
  | ok fl =>
   cases fl with
   | next=>exact elim h
   | brk=>exact elim h
   | cont=>exact elim h
   | ret u =>
    obtain ⟨v,H',os,bare,un,jE,r',q⟩:=h
    have q':v=.bl true:=q
    subst q'
    obtain rfl:u=Value.bool true:=r'
    refine ⟨rfl,⟨λb o e=>?_,λb o e=>un.there b o e (by simp)⟩,os,bare⟩
    rcases kX b with q | ⟨c,q⟩
    ·cases z:H0 b with
     | none=>exact .inl (un.keep b o e (by rw [q];exact z) (by intro z;exact absurd (show b∈([]:List Addr) from z) (by simp)) (by simp))
     | some u =>
      rcases hO b with z' | ⟨ob,xs,z'⟩
      ·rw [z] at z';cases z'
      ·rw [← q] at z'
       have z2:=un.frzs b ob _ z'
       obtain ⟨e1,_⟩:=hok b _ z'
       obtain ⟨e2,_⟩:=jE b _ z2
       rw [e] at e1;cases e1
       exact .inl e2
    ·have z2:=un.tbls b _ (e0.tb c b q)
     obtain ⟨ps,e2,_⟩:=jE b _ z2
     obtain ⟨⟨oc,gW,jC,tf,gU,tg,inF,jD,tt,c1,c2,c3,c4,_⟩,e3⟩:=df c b q
     rw [e3] at e
     cases e
     exact .inr (.inl ⟨⟨c,oc,gW,c1,c2,c3,c4⟩,rfl,#[],ps,rfl,by rw [Array.empty_append];exact e2⟩)
 have gX:∀ {H0:Hp}{c b:Addr},tabIn K "letter_left"=some (c,b)->ObjOk P w (hT K H0) am.heap b (.tbl "letter_left.<locals>.<lambda>"):=λ{H0 c b} q=>⟨#[],(df c b q).2,trivial,λpos cv z=>by cases z⟩
 have vK:∀ {c:Addr},tabIn K "letter_left"≠some (c,a):=λ{c} q=>by
  have:=(df c a q).2
  rw [ha] at this;cases this
 cases hk:K.lookup a with
 | some o =>
  -- the script is one of the module's own objects
  have e:=KX a o hk
  rw [ha] at e
  cases e
  refine jB (λ_=>none) (λ_=>.inl rfl) (.inr ⟨vs,_,hk,rv,by rw [pV];exact hl⟩) (λb u z=>?_) (λb z=>absurd rfl z) λz=>absurd rfl z
  rcases i5' (K:=K) (H:=λ_=>none) (b:=b) with q | ⟨c,q⟩
  ·rw [q] at z;cases z
  ·rw [jt' q] at z;cases z;exact gX q
 | none =>
  have here:hT K (λb=>if b=a then some (.frz { cls:=.type "list", data:=.seq vs.toArray } (.lst (ns.map V.int))) else none) a=some (.frz { cls:=.type "list", data:=.seq vs.toArray } (.lst (ns.map V.int))):=by
   rcases i5' (K:=K) (H:=λb=>if b=a then some (.frz { cls:=.type "list", data:=.seq vs.toArray } (.lst (ns.map V.int))) else none) (b:=a) with q | ⟨c,q⟩
   ·rw [q];exact if_pos rfl
   ·exact absurd q vK
  refine jB (λb=>if b=a then some (.frz { cls:=.type "list", data:=.seq vs.toArray } (.lst (ns.map V.int))) else none) (λb=>?_) (.inl (.inr ⟨_,here⟩)) (λb u z=>?_) (λb z=>?_) λ_=>hk
  ·by_cases hb:b=a
   ·exact .inr ⟨_,_,if_pos hb⟩
   ·exact .inl (if_neg hb)
  ·rcases i5' (K:=K) (H:=λb=>if b=a then some (.frz { cls:=.type "list", data:=.seq vs.toArray } (.lst (ns.map V.int))) else none) (b:=b) with q | ⟨c,q⟩
   ·rw [q] at z
    by_cases hb:b=a
    ·have z':=(if_pos hb).symm.trans z
     cases z'
     subst hb
     exact ⟨ha,by rw [length_map];exact hl,vs,_,rv,ha⟩
    ·have z':=(if_neg hb).symm.trans z
     cases z'
   ·rw [jt' q] at z;cases z;exact gX q
  ·by_cases hb:b=a
   ·exact hb
   ·exact absurd (if_neg hb) z
theorem ot' {l:PySem.W.OpenLaw}{n k:Nat}{q:Program}{bY:List Str}{XP:(Str->Option Value)->Heap->Prop}{YP:World->Heap->Prop}{d:DefRec}{K:Params->PySem.W.Frag}{CX:World->CXT}{sp:World->Sp}{x:Str}
  (hn:l.most=some n) (dU:n<=sizeLine) (gE:d.params.defaults=[]) (hr:Room k callerA)
  (bV:∃ d',(recsOf q).find? (λe=>e.name == ("letter_left":Str))=some d') (gT:∀ p,noTabs (K p)=true)
  (hY:∀ (w:World) (h:Heap),YP w h->(K w.params).In h)
  (F:∀ (w:World) (mg:Str->Option Value) (fa:Addr) (h:Heap),(K w.params).In h->h.Ns mainGlobals mg->mg d.name=some (.ref fa) →
   ∃ fd:FuncData,(∀ (s:Shared) (u:Value),BindsTo s fd ⟨[u],[]⟩ [(x,u)]) ∧
    ∀ base:Heap,(K w.params).In base->base.Ns mainGlobals mg->FnOk l.prog w (K w.params) mg base (CX w) k fa fd [x] (sp w))
  (cZ:∀ (w:World) (H:Hp) (a:Addr) (ns:List Int),ns.length<=n->RdK (K w.params) H a (ns.map V.int)->sp w [.ref a] H (λv _=>v=.bl true) λ_ _ _=>False)
  (kW:∀ (w:World) (H:Hp) (s:Shared) (e:Value) (s':Shared),CX w [] H s (λ_ _ _=>False) e s'->False) :
  PySem.W.WalkO q bY XP YP l.row.toRowW d [] (λf vs=>PySem.call f vs):=by
 refine Att.rt' hn gE λw s₀ am mg mb fa o pm cd bF a vs ns G zJ ho hd aU gF gG eF aF hg=>?_
 have KX:=hY w _ zJ
 obtain ⟨fd,hb,hF⟩:=F w mg fa _ KX G.T.g gF
 obtain ⟨d',bD⟩:=bV
 exact m0' KX G.T.g G.T.b G.T.builtins G.T.nolimit hg G.T.bmain (λc P q=>PySem.W.tab_of G.T KX bD q) (gT _) gG eF (le_trans aF dU) hr hF hb (λH hS=>cZ w H a ns aF hS) λH e s'=>kW w H am e s'
noncomputable def un1 {α:Type} (F:D->Option α) (g:M D):M α:=bnd g λd=>lft (F d)
inductive Ki where
 | iT | sT | bT | tT | lT
noncomputable def isiB:Ki->D->Bool
 | .iT,.int _=>true
 | .iT,.bl _=>true
 | .sT,.str _=>true
 | .bT,.bl _=>true
 | .tT,.tup _=>true
 | .lT,.lst _=>true
 | _,_=>false
noncomputable def isiF (k:Ki) (d:D):Option D:=some (.bl (isiB k d))
section
variable {X:Cx}{B:BB}{e:Expr}{ga:M D}{pos:Pos}
noncomputable def negI (d:D):Option D:=match d with
 | .int i=>some (.int (-i))
 | _=>none
theorem rN':∀ U H Q,tD X.K B (un1 negI ga) U H Q->tUn (rU λi=>.int (-i)) (tD X.K B ga) U H Q:=λU H Q q=>by
 obtain ⟨G,I,Y,d,ae,r,e1,k⟩:=q
 obtain ⟨d1,ab,e2,e3⟩:=af' e1
 obtain ⟨e4,rfl⟩:=ay' e3
 unfold negI at e4
 split at e4
 ·cases e4
  exact ⟨G,I,Y,_,_,r,e2,λv H1 I1 r1 g1 h1=>⟨_,an' h1,k _ _ _ r1 g1 (Is.int _)⟩⟩
 ·cases e4
theorem ju' (ha:ED X B e ga):ED X B (.UnaryOp .USub e pos) (un1 negI ga):=PE.imp (ry' qD' ha) rN'
end
end DL
namespace PySem.SeqAt
def RcLtAt (A:Around) (s:Shared) (y x:Value) (b:Bool):Prop :=
 ∀ (prog:Program) (w:World) (E:Value->Shared->Prop) (Q:Value->Shared->Prop),Q (.bool b) s->wpAny (model prog w) A (richCompare .Lt y x) Q E s
noncomputable def ltFrom (e lt:Nat->Bool) (d:Bool):List Nat->Bool
 | []=>d
 | i::r=>if e i then ltFrom e lt d r else lt i
theorem l7' (u v:Addr) (us vs:Array Value) (p q:Nat) (du dv:Option Addr) (ku kv:Array (Option Value)) (e lt:Nat->Bool) :
  Meets (Builtin.«tuple.__lt__» ⟨[.ref u,.ref v],[]⟩) (λA aG s=>(s.heap.get? u=some ⟨.type "tuple", du,.seq us p,ku⟩/\s.heap.get? v=some ⟨.type "tuple", dv,.seq vs q,kv⟩) ∧
    (∀ j (h1:j < us.size) (h2:j < vs.size),EqAt A.in1 s us[j] vs[j] (e j)/\(e j=false->RcLtAt A.in1 s us[j] vs[j] (lt j)))/\aG (.ok (.ret (.bool (ltFrom e lt (decide (us.size < vs.size)) (range (min us.size vs.size)))))) s) :=
 .of_wp λprog w A aG s given=>by
  obtain ⟨hp,gn,dw,tk,os⟩:=s
  obtain ⟨⟨gu,gv⟩,gY,pX⟩:=given
  obtain ⟨gZ,hs⟩:∃ gZ:Nat->Prop,gZ=λi=>aG (.ok (.ret (.bool (ltFrom e lt (decide (us.size < vs.size)) ((range (min us.size vs.size)).drop i))))) ⟨hp,gn,dw,tk,os⟩:=⟨_,rfl⟩
  have jz:=AutoSeq1.sub_tuple_tuple
  have len:(us.toList.zip vs.toList).length=min us.size vs.size:=by rw [length_zip];rfl
  wp_walk using AutoSeq1.wpAny_loadPart' gu,AutoSeq1.wpAny_loadPart' gv,wpAny_forIn_list _ (λleft eL now=>eL.1=none/\now=⟨hp,gn,dw,tk,os⟩/\∃ i,left=(us.toList.zip vs.toList).drop i/\gZ i) _
  case turn =>
   rintro ⟨y,x⟩ left eL now ⟨aN,rfl,i,aW,say⟩
   have here:i < min us.size vs.size:=by
    rw [← len]
    exact Nat.lt_of_not_le λno=>by rw [List.drop_eq_nil_of_le no] at aW;exact List.cons_ne_nil _ _ aW
   have k1:i < us.size:=by omega
   have k2:i < vs.size:=by omega
   have cut:=drop_eq_getElem_cons (l:=us.toList.zip vs.toList) (i:=i) (len▸here)
   rw [← aW,List.getElem_zip] at cut
   obtain ⟨yx,pY⟩:=List.cons.inj cut
   obtain ⟨rfl,rfl⟩:=Prod.mk.inj yx
   rw [hs] at say
   have jF:=drop_eq_getElem_cons (l:=range (min us.size vs.size)) (i:=i) (by simpa using here)
   rw [getElem_range] at jF
   rw [jF,ltFrom] at say
   have two:=gY i k1 k2
   refine wpAny_bind (two.1 prog w _ _ ?_)
   cases like:e i with
   | true =>
    rw [like,if_pos rfl] at say
    wp_walk
    exact ⟨rfl,rfl,i+1,pY,by rw [hs];exact say⟩
   | false =>
    rw [like,if_neg Bool.false_ne_true] at say
    refine wpAny_bind (wpAny_rule (wpAny_bind (two.2 like prog w _ _ ?_)))
    wp_walk
    exact ⟨_,rfl,say⟩
  case fin =>
   rintro ⟨eL,_⟩ now ⟨aN,rfl,i,aW,say⟩
   cases aN
   have fD:min us.size vs.size<=i:=by
    rw [← len]
    exact List.drop_eq_nil_iff.mp aW.symm
   rw [hs] at say
   rw [List.drop_eq_nil_of_le (by simpa using fD),ltFrom] at say
   wp_walk
   exact ⟨_,rfl,by simpa [Builtin.Tuple.tupleCompareSizes] using say⟩
  case h=>exact ⟨rfl,rfl,0,rfl,by rw [hs];exact pX⟩
theorem RcLtAt.tuples {A:Around}{s:Shared}{u v:Addr}{us vs:Array Value}{e lt:Nat->Bool} (hu:s.heap.IsTuple u us) (hv:s.heap.IsTuple v vs) (room:A.units < cLine)
  (gY:∀ j (h1:j < us.size) (h2:j < vs.size),EqAt A.in1 s us[j] vs[j] (e j)/\(e j=false->RcLtAt A.in1 s us[j] vs[j] (lt j))):RcLtAt A s (.ref u) (.ref v) (ltFrom e lt (decide (us.size < vs.size)) (range (min us.size vs.size))):=by
 obtain ⟨⟨_,du,_,ku⟩,gu,rfl,p,rfl⟩:=hu
 obtain ⟨⟨_,dv,_,kv⟩,gv,rfl,q,rfl⟩:=hv
 exact λprog w E Q h=>richCompare_meets_room (op:=.Lt) ⟨_,gu,rfl⟩ ⟨_,gv,rfl⟩ F.slot_tuple_lt F.entry_tuple_lt (F.args_tuple_lt_2 _ _) (l7' u v us vs p q du dv ku kv e lt) ⟨⟨gu,gv⟩,gY,Value.noConfusion,h⟩ room
theorem RcLtAt.int_int {A:Around}{s:Shared} (a:Int) (t:Tok) (b:Int) (u:Tok):RcLtAt A s (.int a t) (.int b u) (decide (a < b)):=λprog w E Q h=>PyProof.Rows.lt_int h
end PySem.SeqAt
namespace DL
open PySem PySem.Spec PyProof.Rows L2
section
variable {X:Cx}{B:BB}{a b c e:Expr}{es:List Expr}{pos:Pos}
noncomputable def rngV (n:Nat):List V:=(range n).map λ(k:Nat)=>V.int (0+(k:Int))
theorem fW':∀ {xs:List V}{us:List Value},xs.length=us.length->(∀ (i:Nat) x u,xs[i]?=some x->us[i]?=some u->RelV x u)->Vals xs us
 | [],[],_,_=>.nil
 | [],_::_,h,_=>by cases h
 | _::_,[],h,_=>by cases h
 | x::xs,u::us,h,k=>.cons (k 0 x u rfl rfl) (fW' (Nat.succ.inj h) λi y v e f=>k (i+1) y v e f)
theorem jv' {ta:TA}{p p2 cr:Pos} (hc:X.calm=true) (hl:Gl X "list") (kY:X.mg "list"=none) (hg:Gl X "range") (hm:X.mg "range"=none) (ha:PA X [a] ta)
  (hs:starEach [a] X.env=[(false,eval a X.env)]:=by rfl) (dE:starEach [.Call (.Name "range" p2) [a] [] cr] X.env=[(false,eval (.Call (.Name "range" p2) [a] [] cr) X.env)]:=by rfl) :
  PE X (.Call (.Name "list" p) [.Call (.Name "range" p2) [a] [] cr] [] pos) (λU H Q=>ta U H λvs H1=>∃ j:Int,vs=[.int j]/\-1000000<=j/\j<=1000000/\∀ l,H1 l=none->Q (.ref l) (upd H1 l (.lst (rngV j.toNat)))):=by
 intro aa s U H Q I h
 refine Call_ (cu' I hl kY boot_list (PyProof.Rows.callWith_type1 ?_ dE rfl))
 rw [dE]
 refine Calls.spliced_cons (Call_ (cu' I hg hm boot_range (PyProof.Rows.callWith_type1 (thn (ha cr aa s U H _ I h) λus s1 ⟨vs,H1,I1,r1,q1⟩=>?_) hs rfl)))
 obtain ⟨j,rfl,q1,q2,q⟩:=q1
 obtain ⟨u,rfl,t,rfl⟩:=vals1 r1
 refine call_range_1 (Calls.spliced_nil ?_)
 have size:rangeSize 0 j 1=j.toNat:=by rw [rangeSize_one];split<;>omega
 refine call_list_range (I1.ok.hd hc) (IsRange.new ..) (small_one (by decide) (by decide) (by omega) (by omega)) size (by omega) λg tk ag c' keep aW af=>?_
 refine ⟨.ref _,_,I1.laid (t':=tk) (λb o e=>keep b o (get?_push_of_some _ e)) ?_ (o:=.lst (rngV j.toNat)) ⟨?_,ag.toList,c',?_,aW⟩,rfl,q _ ?_⟩
 ·exact le_of_lt (by show _ < (Heap.push _ _).objs.size;rw [size_push];exact lt_succ_self _)
 ·show (rngV j.toNat).length<=sizeLine
  rw [rngV,length_map,length_range,sizeLine_eq];omega
 ·refine fW' (by rw [rngV,length_map,length_range,length_toList,af.1]) λi x u e f=>?_
  rw [Array.getElem?_toList] at f
  obtain ⟨t',rfl⟩:=af.2 i u f
  obtain ⟨k,e1,rfl⟩:=getMap e
  obtain ⟨k1,k2⟩:=List.getElem?_eq_some_iff.mp e1
  rw [getElem_range] at k2
  subst k2
  exact ⟨t',by simp⟩
 ·refine I1.hok.fresh (le_of_lt ?_)
  show _ < (Heap.push _ _).objs.size
  rw [size_push];exact lt_succ_self _
theorem pI' {K:PySem.W.Frag}{I:Hp} (n:Nat):IsA K I (rngD 0 n) (rngV n):=by
 unfold rngD rngV
 induction range n with
 | nil=>exact IsA.nil
 | cons k ks ih=>exact IsA.cons (Is.int _) ih
theorem fn' {p p2 cr:Pos}{t:M (List D)} (hc:X.calm=true) (hl:Gl X "list") (kY:X.mg "list"=none) (hg:Gl X "range") (hm:X.mg "range"=none) (ha:AD X B [a] t)
  (hs:starEach [a] X.env=[(false,eval a X.env)]:=by rfl) (dE:starEach [.Call (.Name "range" p2) [a] [] cr] X.env=[(false,eval (.Call (.Name "range" p2) [a] [] cr) X.env)]:=by rfl) :
  EO X B (.Call (.Name "list" p) [.Call (.Name "range" p2) [a] [] cr] [] pos) (fn1 rngI1 t):=PE.imp (jv' hc hl kY hg hm ha hs dE) λU H Q q=>by
 obtain ⟨G,I,Y,ds,ae,r,e1,k⟩:=q
 obtain ⟨d,ab,e2,e3⟩:=af' e1
 obtain ⟨e4,rfl⟩:=ay' e3
 obtain ⟨j,rfl,⟨h1,h2⟩,rfl⟩:=ic' e4
 refine ⟨G,I,Y,_,_,r,e2,λvs H1 I1 r1 g1 hd=>?_⟩
 obtain ⟨x,rfl,hx⟩:=hd.one
 exact ⟨j,by rw [an' hx],h1,h2,λl hl=>(k.after g1).new r1 hl (pI' _)⟩
end
section
variable {prog:Program}{w:World}{A:Around}{E:Value->Shared->Prop}{s:Shared}
def SlotAt (P:Nat->Value->Prop) (bt:Nat->Nat->Bool) (j:Nat) (cells:Array Value):Prop:=match j with
 | 0=>cells=#[]
 | j+1=>∃ b,cells=#[b,b]/\P (argBest bt j) b
theorem ou' {it S:Addr}{fp wr:List Addr}{n:Nat}{P:Nat->Value->Prop}{St:Nat->Heap->Prop}{bt:Nat->Nat->Bool}{Fit:Shared->Prop}{aG:Result->Shared->Prop} (W:Walks prog w A.in1 it fp wr n P St) (dW:S∉fp)
  (less:∀ s,Fit s->∀ i j vi vj,P i vi->P j vj->PySem.SeqAt.RcLtAt A.in1 s vi vj (bt i j)) (stay:∀ s h' tk,Fit s->(∀ b o,b∉wr->b≠S->s.heap.get? b=some o->h'.get? b=some o)->Fit { s with heap:=h',toks:=tk })
  (g0:0 < n) (fin:∀ v s,P (argBest bt (n - 1)) v->Fit s->aG (.ok (.ret v)) s):∀ (left:Nat) (s:Shared) (cells:Array Value) (c j:Nat),j+left=n->St j s.heap->Fit s->SlotAt P bt j cells->s.heap.get? S=some { cls:=.type "list", dict:=none,data:=.seq cells c,slots:=#[] } →
   codeAny (model prog w) A (.builtin "min.loop" ⟨[.ref it,.none,.ref S],[]⟩) aG s:=by
 have apart:S∉wr:=λh=>dW (W.sub _ h)
 have bR:∀ {g:Heap}{f:Obj->Obj}{b:Addr}{o:Obj},b≠S->g.get? b=some o->(g.update S f).get? b=some o:=λne e=>(get?_update_other _ _ (Ne.symm ne)).trans e
 have aO:(toString "min"++toString ".loop":String) = "min.loop":=by decide
 intro left
 induction left with
 | zero =>
  intro s cells c j len st eQ bB slot
  obtain ⟨m,rfl⟩:∃ m,j=m+1:=⟨j - 1,by omega⟩
  obtain ⟨b,rfl,fE⟩:=bB
  refine codeAny_builtin F.entry_min_loop ?_
  rw [under_plainId F.plain_min_loop _]
  refine wpAny_bind (m:=seqItems? (.ref S)) (wpAny_seqItems slot rfl (wpAny_bind (m:=tryCatch (pyNext (.ref it)) _) (wpAny_tryCatch (W.done s _ _ (len▸st) λg tk kk=>?_))))
  refine wpAny_bind (m:=updateSeq S λ_=>#[]) (wpAny_updateSeq (kk S _ apart slot) rfl (wpAny_bind (wpAny_letGo (wpAny_pure (fin b _ (by rw [← len];exact fE) (stay s _ tk eQ λx o n1 n2 e=>bR n2 (kk x o n1 e)))))))
 | succ left ih =>
  intro s cells c j len st eQ bB slot
  refine codeAny_builtin F.entry_min_loop ?_
  rw [under_plainId F.plain_min_loop _]
  refine wpAny_bind (m:=seqItems? (.ref S)) (wpAny_seqItems slot rfl (wpAny_bind (m:=tryCatch (pyNext (.ref it)) _) (wpAny_tryCatch (W.item j s _ _ (by omega) st λv g tk eR dF kk=>?_))))
  have aS:=kk S _ apart slot
  have dg:=stay s g tk eQ λx o n1 _ e=>kk x o n1 e
  have next:∀ (f:Obj->Obj) (aB:Array Value) (c':Nat),(g.update S f).get? S=some { cls:=.type "list", dict:=none,data:=.seq aB c',slots:=#[] }->SlotAt P bt (j+1) aB →
    codeAny (model prog w) A (.builtin "min.loop" ⟨[.ref it,.none,.ref S],[]⟩) aG { s with heap:=g.update S f,toks:=tk }:=λf aB c' here is =>
   ih _ aB c' (j+1) (by omega) (W.frame _ _ _ dF λb hb o e=>bR (λz=>dW (z▸hb)) e) (stay { s with heap:=g,toks:=tk } _ tk dg λx o _ n2 e=>bR n2 e) is here
  cases j with
  | zero =>
   cases bB
   refine wpAny_bind (m:=updateSeq S λ_=>#[v,v]) (wpAny_updateSeq aS rfl ?_)
   rw [aO]
   exact wpAny_pure ⟨plainId_quiet F.plain_min_loop _,next _ _ _ (get?_update_self _ aS rfl) ⟨v,rfl,eR⟩⟩
  | succ m =>
   obtain ⟨b,rfl,fE⟩:=bB
   refine wpAny_bind (m:=tryCatch (holding [v,v] (richCompare .Lt v b >>= _)) _) (wpAny_tryCatch (wpAny_holding (wpAny_bind (less _ dg (m+1) (argBest bt m) v b eR fE prog w _ _ (wpAny_bind (wpAny_holding (wpAny_truthy_bool (wpAny_bind (wpAny_letGo (wpAny_pure ?_))))))))))
   cases hb:bt (m+1) (argBest bt m) with
   | true =>
    rw [if_pos rfl]
    refine wpAny_bind (wpAny_updateSeq aS rfl (wpAny_bind (wpAny_letGo ?_)))
    rw [aO]
    exact wpAny_pure ⟨plainId_quiet F.plain_min_loop _,next _ _ _ (get?_update_self _ aS rfl) ⟨v,rfl,by rw [argBest,hb];exact eR⟩⟩
   | false =>
    rw [if_neg Bool.false_ne_true]
    refine wpAny_bind (wpAny_letGo ?_)
    rw [aO]
    exact wpAny_pure ⟨plainId_quiet F.plain_min_loop _,ih _ _ c (m+2) (by omega) dF dg ⟨b,rfl,by rw [argBest,hb];exact fE⟩ aS⟩
theorem gS' (bt:Nat->Nat->Bool):∀ k,argBest bt k<=k
 | 0=>le_refl _
 | k+1=>by
  rw [argBest]
  split
  ·exact le_refl _
  ·exact Nat.le_succ_of_le (gS' bt k)
theorem ov' {p:Addr}{af:Array Value}{bt:Nat->Nat->Bool}{Q:Value->Shared->Prop} (hh:A.handled=none) (L:s.heap.IsList p af) (g0:0 < af.size)
  (less:∀ h' tk,(∀ b o,s.heap.get? b=some o->h'.get? b=some o)->∀ i j vi vj,af[i]?=some vi->af[j]?=some vj->PySem.SeqAt.RcLtAt A.in1 { s with heap:=h',toks:=tk } vi vj (bt i j))
  (fin:∀ v h' tk,af[argBest bt (af.size - 1)]?=some v->(∀ b o,s.heap.get? b=some o->h'.get? b=some o)->Q v { s with heap:=h',toks:=tk }):wpAny (model prog w) A (call (.builtin "min") [.ref p]) Q E s:=by
 have low:p < s.heap.objs.size:=by obtain ⟨_,e,_⟩:=L;exact lt_size e
 refine call_function_tree F.kind_min F.plain_min F.entry_min (F.args_min1 _) ?_
 refine wpAny_bind (wpAny_of_eq (a:=[none,none]) rfl (wpAny_bind (wpAny_pure (wpAny_bind (wpAny_pyIter_list L (wpAny_bind (wpAny_newObj_type ?_)))))))
 have aO:(toString "min"++toString ".loop":String) = "min.loop":=by decide
 rw [aO]
 have W:=Walks.list (prog:=prog) (w:=w) (A:=A.in1) hh s.heap.objs.size p (ne_of_lt low) af
 have bw:∀ o:Obj,(s.heap.push o).objs.size=s.heap.objs.size+1:=λo=>size_push ..
 refine wpAny_pure ⟨plainId_quiet F.plain_min_loop _,ou' (Fit:=λs'=>∃ h' tk,s'={ s with heap:=h',toks:=tk }/\∀ b o,s.heap.get? b=some o->h'.get? b=some o) (bt:=bt) W ?_ ?_ ?_ g0 ?_ af.size _ #[] 0 0 (zero_add _) ⟨⟨_,get?_push_of_some _ (get?_push_size _ rfl),rfl,rfl⟩,(L.push _).push _⟩ ⟨_,_,rfl,λb o e=>get?_push_of_some _ (get?_push_of_some _ e)⟩ rfl (get?_push_size _ rfl)⟩
 ·rw [bw]
  intro z
  rw [mem_cons,mem_singleton] at z
  rcases z with z | z
  ·exact absurd z (Nat.succ_ne_self _)
  ·exact absurd z (ne_of_gt (lt_succ_of_lt low))
 ·rintro _ ⟨g,tk,rfl,keep⟩ i j vi vj hi hj
  exact less g tk keep i j vi vj hi hj
 ·rintro _ h' tk ⟨g,dX,rfl,keep⟩ k
  refine ⟨h',tk,rfl,λb o e=>k b o (λz=>?_) (λz=>?_) (keep b o e)⟩
  ·rw [mem_singleton] at z
   exact ne_of_lt (lt_size e) z
  ·rw [bw] at z
   have:=lt_size e
   rw [z] at this
   exact absurd this (not_lt.mpr (le_succ _))
 ·rintro v _ hv ⟨g,tk,rfl,keep⟩
  exact fin v g tk hv keep
end
section
variable {X:Cx}{B:BB}{a b c e:Expr}{es:List Expr}{pos:Pos}{kr:Nat}
noncomputable def prD (p:Int×Int):D:=.tup [.int p.1,.int p.2]
noncomputable def ltP (p q:Int×Int):Bool:=if p.1 == q.1 then decide (p.2 < q.2) else decide (p.1 < q.1)
noncomputable def prsD:List D->Option (List (Int×Int))
 | []=>some []
 | .tup [.int a,.int b]::ds=>match prsD ds with
  | some ps=>some ((a,b)::ps)
  | none=>none
 | _=>none
theorem ow':∀ (ds:List D) (ps:List (Int×Int)),prsD ds=some ps->ds=ps.map prD:=by
 intro ds
 fun_induction prsD ds with
 | case1=>intro ps h;cases h;rfl
 | case2 a b ds qs e ih=>intro ps h;cases h;rw [ih qs e];rfl
 | case3 a b ds e ih=>intro ps h;cases h
 | case4 ds=>intro ps h;cases h
noncomputable def btP (ps:List (Int×Int)) (i j:Nat):Bool:=ltP (ps.getD i (0,0)) (ps.getD j (0,0))
noncomputable def minP (ps:List (Int×Int)):Int×Int:=ps.getD (argBest (btP ps) (ps.length - 1)) (0,0)
open PySem.SeqAt in
theorem pJ' {A:Around}{s:Shared}{u v:Addr}{p q:Int×Int}{t1 t2 t3 t4:Tok} (room:A.units < cLine) (hu:s.heap.IsTuple u #[.int p.1 t1,.int p.2 t2]) (hv:s.heap.IsTuple v #[.int q.1 t3,.int q.2 t4]):RcLtAt A s (.ref u) (.ref v) (ltP p q):=by
 have:=RcLtAt.tuples (e:=λk=>if k=0 then p.1 == q.1 else p.2 == q.2) (lt:=λk=>if k=0 then decide (p.1 < q.1) else decide (p.2 < q.2)) hu hv room (λj h1 h2=>?_)
 ·have e:ltFrom (λk=>if k=0 then p.1 == q.1 else p.2 == q.2) (λk=>if k=0 then decide (p.1 < q.1) else decide (p.2 < q.2)) (decide (2 < 2)) [0,1]=ltP p q:=by
   simp only [ltFrom,ltP]
   by_cases z:p.1=q.1
   ·by_cases z2:p.2=q.2<;>simp [z,z2]
   ·simp [z]
  rw [← e]
  exact this
 ·match j,h1,h2 with
  | 0,_,_=>exact ⟨EqAt.int_int _ _ _ _,λ_=>RcLtAt.int_int _ _ _ _⟩
  | 1,_,_=>exact ⟨EqAt.int_int _ _ _ _,λ_=>RcLtAt.int_int _ _ _ _⟩
  | k+2,h,_=>exact absurd h (by simp)
theorem m1' (hc:X.calm=true) (hu:X.A.units+100 < cLine):CallR X (.builtin "min") (λxs H Q=>∃ (p:Addr) (zs:List V) (ps:List (Int×Int)),xs=[.ref p]/\SqL X.K H p zs/\ps≠[]/\zs.length=ps.length ∧
  (∀ (i:Nat) z,zs[i]?=some z->∃ q,z=.ref q/\SqT X.K H q [.int (ps.getD i (0,0)).1,.int (ps.getD i (0,0)).2])/\∀ z,zs[argBest (btP ps) (ps.length - 1)]?=some z->Q z H):=by
 intro aa s U H xs us Q I r h
 obtain ⟨p,zs,ps,rfl,hq,ne,len,cQ,q⟩:=h
 obtain ⟨u,rfl,ru⟩:=vals1 r
 cases ru
 obtain ⟨ac,rv,t,hz⟩:=I.list hq
 have ln:=rv.length
 have sz:ac.toArray.size=ps.length:=by rw [size_toArray,← ln,len]
 have tup:∀ i v,ac.toArray[i]?=some v->∃ q t1 t2,v=.ref q/\s.heap.IsTuple q #[.int (ps.getD i (0,0)).1 t1,.int (ps.getD i (0,0)).2 t2]:=λi v hv=>by
  have cx:ac[i]?=some v:=by simpa using hv
  have hi:i < zs.length:=by rw [ln];exact (List.getElem?_eq_some_iff.mp cx).1
  obtain ⟨q,e1,e2⟩:=cQ i zs[i] (getElem?_eq_getElem hi)
  obtain ⟨w,e3,e4⟩:=rv.get (getElem?_eq_getElem hi)
  rw [cx] at e3
  cases e3
  rw [e1] at e4
  cases e4
  obtain ⟨bj,r2,t2,_⟩:=I.tuple e2
  obtain ⟨u1,u2,rfl,⟨k1,rfl⟩,⟨k2,rfl⟩⟩:=r2.two
  exact ⟨q,k1,k2,rfl,t2⟩
 refine ov' (bt:=btP ps) (I.ok.hd hc) t.isList (by rw [sz];exact length_pos_iff.mpr ne) (λg tk keep i j vi vj hi hj=>?_) λv g tk hv keep=>?_
 ·obtain ⟨q1,t1,t2,rfl,T1⟩:=tup i vi hi
  obtain ⟨q2,t3,t4,rfl,T2⟩:=tup j vj hj
  have up:∀ {q:Addr}{us:Array Value},s.heap.IsTuple q us->g.IsTuple q us:=λT=>by obtain ⟨o,e,r⟩:=T;exact ⟨o,keep _ o e,r⟩
  exact pJ' (by show X.A.units+1 < cLine;omega) (up T1) (up T2)
 ·rw [sz] at hv
  have cx:ac[argBest (btP ps) (ps.length - 1)]?=some v:=by simpa using hv
  have hi:argBest (btP ps) (ps.length - 1) < zs.length:=by rw [ln];exact (List.getElem?_eq_some_iff.mp cx).1
  obtain ⟨w,e3,e4⟩:=rv.get (getElem?_eq_getElem hi)
  rw [cx] at e3
  cases e3
  exact ⟨_,H,I.kept keep,e4,q _ (getElem?_eq_getElem hi)⟩
noncomputable def minlF (ds:List D):Option D:=match ds with
 | [.lst xs]=>match prsD xs with
  | some (p::ps)=>some (prD (minP (p::ps)))
  | _=>none
 | _=>none
theorem pK' {p:Pos}{t:M (List D)} (hc:X.calm=true) (hr:Room kr X.A) (hg:Gl X "min") (hm:X.mg "min"=none) (ha:AD X B [e] t) (he:starEach [e] X.env=(false,eval e X.env)::starEach [] X.env:=by rfl) (au:(backTo pos (starEach [] X.env)).any (·.1)=false:=by rfl) :
  ED X B (.Call (.Name "min" p) [e] [] pos) (fn1 minlF t):=dR' (m1' hc (hu100 hr)) (λds d e B G I H U Y xs Q r h k=>by
 unfold minlF at e
 split at e
 ·split at e
  ·rename_i p1 ps eb
   cases e
   have:=ow' _ _ eb
   subst this
   obtain ⟨x,rfl,hx⟩:=h.one
   obtain ⟨q,zs,rfl,h3,h4⟩:=ax' hx
   have L:=h4.length
   rw [length_map] at L
   have jG:∀ (i:Nat) z,zs[i]?=some z->Is X.K I (prD ((p1::ps).getD i (0,0))) z:=λi z hz=>by
    have hi:i < (p1::ps).length:=by rw [L];exact (List.getElem?_eq_some_iff.mp hz).1
    obtain ⟨z',e1,e2⟩:=h4.get (i:=i) (d:=prD (p1::ps)[i]) (by rw [getElem?_map,getElem?_eq_getElem hi];rfl)
    rw [hz] at e1
    cases e1
    rw [getD_eq_getElem?_getD,getElem?_eq_getElem hi]
    exact e2
   refine ⟨q,zs,p1::ps,rfl,(Same.rdK r.iH h3).sq,by simp,L.symm,λi z hz=>?_,λz hz=>k.now r (jG _ z hz)⟩
   obtain ⟨q2,ys,rfl,e1,e2⟩:=au' (jG i z hz)
   obtain ⟨y1,y2,rfl,f1,f2⟩:=e2.two
   rw [an' f1,an' f2] at e1
   exact ⟨q2,rfl,Same.sqT r.iH e1⟩
  ·cases e
 ·cases e) hg hm boot_min ha (by decide) (by decide) he au
end
end DL
namespace DL
open PySem PySem.W PyProof.Rows
structure Ord (lt:Nat->Nat->Bool):Prop where
 as:∀ a b,lt a b=true->lt b a=false
 tr:∀ a b c,lt b a=false->lt c b=false->lt c a=false
section
variable {n:Nat}{lt:Nat->Nat->Bool}{s:Shared}
def askIn (n:Nat) (lt:Nat->Nat->Bool):Nat->Nat->(Bool->Shared->Prop)->Shared->Prop:=λi j C s=>i < n/\j < n/\C (lt i j) s
noncomputable def gt (p:Array Nat) (i:Nat):Nat:=p.getD i 0
def Pm (n:Nat) (p:Array Nat):Prop:=p.Perm (range n).toArray
def Dn (lt:Nat->Nat->Bool) (p:Array Nat) (m:Nat):Prop:=∀ i j,i < j->j < m->lt (gt p i) (gt p j)=false
def Up (lt:Nat->Nat->Bool) (p:Array Nat) (m:Nat):Prop:=∀ i j,i < j->j < m->lt (gt p j) (gt p i)=false
def Eqs (lt:Nat->Nat->Bool) (p:Array Nat) (a b:Nat):Prop:=∀ i j,a<=i->i < b->a<=j->j < b->lt (gt p i) (gt p j)=false
theorem Pm.size {p:Array Nat} (h:Pm n p):p.size=n:=by
 have:=h.size_eq
 simpa using this
theorem Pm.bd {p:Array Nat} (h:Pm n p) (pos:0 < n) (i:Nat):gt p i < n:=by
 unfold gt
 by_cases hi:i < p.size
 ·have:p[i]∈(range n).toArray:=h.mem_iff.mp (Array.getElem_mem hi)
  rw [getD,dif_pos hi]
  simpa using this
 ·rw [getD,dif_neg hi]
  exact pos
theorem gT' {p:Array Nat}{i:Nat}:gt p i=p[i]?.getD 0:=by
 unfold gt
 exact getD_eq_getD_getElem? ..
theorem dq' {p:Array Nat}{i j:Nat} (hj:j<=p.size) (k:Nat):gt (kas_rev p i j) k=if i<=k/\k < j then gt p (i+j - 1 - k) else gt p k:=by
 rw [gT',gT',gT']
 unfold kas_rev
 rw [getElem?_mirror_all hj]
 split<;>rfl
theorem m2' {p:Array Nat}{b9 d:Nat} (hs:b9 < p.size) (hd:d<=b9) (k:Nat):gt (bubble p b9 d) k=if k=b9 - d then gt p b9 else if b9 - d < k/\k<=b9 then gt p (k - 1) else gt p k:=by
 simp only [gT']
 rw [getElem?_bubble hs d hd]
 split
 ·rfl
 ·split<;>rfl
theorem Pm.rev {p:Array Nat} (h:Pm n p) (i j:Nat):Pm n (kas_rev p i j):=trans (mirror_perm _ _ _ _) h
theorem eR' {α:Type}{pZ:Nat->Nat->(Bool->Shared->Prop)->Shared->Prop}{Q:α->Shared->Prop}{P:α->Prop} (hc:∀ i j C,i < n->j < n->C (lt i j) s->pZ i j C s) (hq:∀ a,P a->Q a s):∀ t:KasT α,t.kasWp (askIn n lt) (λa _=>P a) s->t.kasWp pZ Q s
 | .ret a,h=>hq a h
 | .ask i j k,⟨h1,h2,h3⟩=>hc i j _ h1 h2 (eR' hc hq (k (lt i j)) h3)
theorem fo' {α Z:Type}{t:KasT α}{f:α->KasT Z}{P:α->Prop}{Q:Z->Prop} (h:t.kasWp (askIn n lt) (λa _=>P a) s) (k:∀ a,P a->(f a).kasWp (askIn n lt) (λb _=>Q b) s):(t.bind f).kasWp (askIn n lt) (λb _=>Q b) s:=by
 rw [KasT.kasWp_bind]
 exact eR' (λi j C h1 h2 h3=>⟨h1,h2,h3⟩) (λa ha=>k a ha) t h
variable (O:Ord lt) (two:2<=n)
include O
theorem Ord.irr (a:Nat):lt a a=false:=by
 cases h:lt a a with
 | false=>rfl
 | true=>rw [← h];exact O.as a a h
theorem Ord.lt_le {a b c:Nat} (h1:lt a b=true) (h2:lt c b=false):lt a c=true:=by
 cases h:lt a c with
 | true=>rfl
 | false =>
  -- c<=a,b<=c
  have:=O.tr b c a h2 h
  rw [this] at h1;cases h1
include two
theorem jw' {p:Array Nat} (hp:Pm n p):∀ (f m:Nat),1<=m->(kas_asc p f m).kasWp (askIn n lt) (λm' _=>m<=m'/\m'<=m+f/\(∀ k,m<=k->k < m'->lt (gt p k) (gt p (k - 1))=false)/\(m' < m+f->lt (gt p m') (gt p (m' - 1))=true)) s
 | 0,m,_=>by
  rw [kas_asc]
  exact ⟨le_refl _,le_refl _,λk h1 h2=>by omega,λh=>by omega⟩
 | f+1,m,hm=>by
  rw [kas_asc]
  refine ⟨hp.bd (by omega) m,hp.bd (by omega) (m - 1),?_⟩
  cases h:lt (p.getD m 0) (p.getD (m - 1) 0) with
  | true =>
   dsimp only;rw [if_pos rfl]
   exact ⟨le_refl _,by omega,λk h1 h2=>by omega,λ_=>h⟩
  | false =>
   dsimp only;rw [if_neg Bool.false_ne_true]
   refine eR' (λi j C h1 h2 h3=>⟨h1,h2,h3⟩) (λm' h'=>?_) _ (jw' hp f (m+1) (by omega))
   obtain ⟨a1,a2,a3,a4⟩:=h'
   refine ⟨by omega,by omega,λk h1 h2=>?_,λh'=>a4 (by omega)⟩
   by_cases z:k=m
   ·rw [z];exact h
   ·exact a3 k (by omega) h2
omit two in
theorem Up.of_steps {p:Array Nat}{m m':Nat} (hm:Up lt p m) (st:∀ k,m<=k->k < m'->1<=k->lt (gt p k) (gt p (k - 1))=false):Up lt p m':=by
 intro i j
 induction j with
 | zero=>intro h;omega
 | succ j ih =>
  intro db hj
  by_cases z:j+1 < m
  ·exact hm i (j+1) db z
  ·have s1:=st (j+1) (by omega) hj (by omega)
   rw [Nat.add_sub_cancel] at s1
   by_cases e:i=j
   ·rw [e];exact s1
   ·exact O.tr _ _ _ (ih (by omega) (by omega)) s1
omit two O in
theorem Dn.up {p:Array Nat}{m:Nat} (hm:m<=p.size) (h:Dn lt p m):Up lt (kas_rev p 0 m) m:=by
 intro i j db hj
 rw [dq' hm,dq' hm,if_pos ⟨zero_le _,hj⟩,if_pos ⟨zero_le _,by omega⟩]
 exact h _ _ (by omega) (by omega)
omit two O in
theorem Dn.turn {p:Array Nat}{m a:Nat} (hm:m<=p.size) (h:Dn lt p m) (e:Eqs lt p a m):Dn lt (kas_rev p a m) m:=by
 intro i j db hj
 rw [dq' hm,dq' hm]
 by_cases h1:a<=i
 ·rw [if_pos ⟨h1,by omega⟩,if_pos ⟨by omega,hj⟩]
  exact e _ _ (by omega) (by omega) (by omega) (by omega)
 ·rw [if_neg (by omega)]
  by_cases h2:a<=j
  ·rw [if_pos ⟨h2,hj⟩]
   exact h _ _ (by omega) (by omega)
  ·rw [if_neg (by omega)]
   exact h _ _ db hj
omit two in
theorem Dn.next {p:Array Nat}{m:Nat} (h:Dn lt p m) (hm:1<=m) (st:lt (gt p (m - 1)) (gt p m)=false):Dn lt p (m+1):=by
 intro i j db hj
 by_cases z:j < m
 ·exact h i j db z
 ·have:j=m:=by omega
  subst this
  by_cases e:i=j - 1
  ·rw [e];exact st
  ·exact O.tr _ _ _ st (h i (j - 1) (by omega) (by omega))
theorem fX':∀ (f:Nat) (p:Array Nat) (m q:Nat),Pm n p->1<=m->m+f<=n->q < m->Dn lt p m->Eqs lt p (m - (q+1)) m →
  (kas_desc f p m q).kasWp (askIn n lt) (λr _=>Pm n r.1/\1<=r.2.1/\r.2.1<=n/\r.2.2 < r.2.1/\Dn lt r.1 r.2.1/\Eqs lt r.1 (r.2.1 - (r.2.2+1)) r.2.1) s
 | 0,p,m,q,hp,h1,h2,h3,h4,h5=>by
  rw [kas_desc]
  exact ⟨hp,h1,(by show m<=n;omega),h3,h4,h5⟩
 | f+1,p,m,q,hp,h1,h2,h3,h4,h5=>by
  rw [kas_desc]
  have one:∀ (p':Array Nat),Pm n p'->Eqs lt p' (m+1 - (0+1)) (m+1):=λp' _ i j a b c d=>by
   have:i=m:=by omega
   have:j=m:=by omega
   subst i;subst j
   exact O.irr _
  refine ⟨hp.bd (by omega) m,hp.bd (by omega) (m - 1),?_⟩
  cases h:lt (p.getD m 0) (p.getD (m - 1) 0) with
  | true =>
   dsimp only;rw [if_pos rfl]
   have st:lt (gt p (m - 1)) (gt p m)=false:=O.as _ _ h
   split
   ·have sz:m<=p.size:=by rw [hp.size];omega
    refine fX' f _ (m+1) 0 (hp.rev _ _) (by omega) (by omega) (by omega) (Dn.next O (h4.turn sz h5) h1 ?_) (one _ (hp.rev _ _))
    rw [dq' sz,dq' sz,if_pos ⟨by omega,by omega⟩,if_neg (by omega)]
    refine O.tr _ _ _ st ?_
    exact h5 _ _ (by omega) (by omega) (by omega) (by omega)
   ·exact fX' f _ (m+1) 0 hp (by omega) (by omega) (by omega) (Dn.next O h4 h1 st) (one _ hp)
  | false =>
   dsimp only;rw [if_neg Bool.false_ne_true]
   refine ⟨hp.bd (by omega) (m - 1),hp.bd (by omega) m,?_⟩
   cases h':lt (p.getD (m - 1) 0) (p.getD m 0) with
   | true =>
    dsimp only;rw [if_pos rfl]
    exact ⟨hp,h1,(by show m<=n;omega),h3,h4,h5⟩
   | false =>
    dsimp only;rw [if_neg Bool.false_ne_true]
    refine fX' f p (m+1) (q+1) hp (by omega) (by omega) (by omega) (Dn.next O h4 h1 h') λi j a b c d=>?_
    have up:∀ i,m - (q+1)<=i->i < m->lt (gt p i) (gt p m)=false:=λi x y=>O.tr _ _ _ h' (h5 i (m - 1) x y (by omega) (by omega))
    have dn:∀ i,m - (q+1)<=i->i < m->lt (gt p m) (gt p i)=false:=λi x y=>O.tr _ _ _ (h5 (m - 1) i (by omega) (by omega) x y) h
    by_cases zi:i=m
    ·by_cases zj:j=m
     ·rw [zi,zj];exact O.irr _
     ·rw [zi];exact dn j (by omega) (by omega)
    ·by_cases zj:j=m
     ·rw [zj];exact up i (by omega) (by omega)
     ·exact h5 i j (by omega) (by omega) (by omega) (by omega)
theorem lh' {p:Array Nat}{m:Nat} (hp:Pm n p) (h1:1<=m) (h2:m<=n) (h:Dn lt p m):(kas_tail3 m n p).kasWp (askIn n lt) (λr _=>1<=r.1/\r.1<=n/\Pm n r.2/\Up lt r.2 r.1) s:=by
 unfold kas_tail3
 refine fo' (jw' O two (hp.rev 0 m) (n - m) m h1) λm' ⟨a1,a2,a3,_⟩=>?_
 have up:=h.up (by rw [hp.size];exact h2)
 exact ⟨by omega,by omega,hp.rev 0 m,Up.of_steps O up λk x y _=>a3 k x y⟩
theorem ga' {p:Array Nat}{m:Nat} (hp:Pm n p) (h1:1<=m) (h2:m < n) (h:Dn lt p (m+1)):(kas_descPart m n p).kasWp (askIn n lt) (λr _=>1<=r.1/\r.1<=n/\Pm n r.2/\Up lt r.2 r.1) s:=by
 unfold kas_descPart
 refine fo' (fX' O two (n - (m+1)) p (m+1) 0 hp (by omega) (by omega) (by omega) h λi j a b c d=>?_) λr ⟨b1,b2,b3,b4,b5,b6⟩=>?_
 ·have:i=m:=by omega
  have:j=m:=by omega
  subst i;subst j
  exact O.irr _
 ·split
  ·exact lh' O two (b1.rev _ _) b2 b3 (b5.turn (by rw [b1.size];exact b3) b6)
  ·exact lh' O two b1 b2 b3 b5
theorem ox' {p:Array Nat} (hp:Pm n p):(kas_count n p).kasWp (askIn n lt) (λr _=>1<=r.1/\r.1<=n/\Pm n r.2/\Up lt r.2 r.1) s:=by
 unfold kas_count
 refine fo' (jw' O two hp (n - 1) 1 (le_refl _)) λm ⟨a1,a2,a3,a4⟩=>?_
 have up1:Up lt p m:=Up.of_steps O (m:=1) (λi j x y=>by omega) λk x y z=>a3 k x y
 split
 ·exact ⟨a1,by omega,hp,up1⟩
 ·rename_i ne
  have ne:m≠n:=by simpa using ne
  have fF:=a4 (by omega)
  split
  ·refine ⟨hp.bd (by omega) 0,hp.bd (by omega) (m - 1),?_⟩
   cases h:lt (p.getD 0 0) (p.getD (m - 1) 0) with
   | true =>
    dsimp only;rw [if_pos rfl]
    exact ⟨a1,by omega,hp,up1⟩
   | false =>
    dsimp only;rw [if_neg Bool.false_ne_true]
    have all:Eqs lt p 0 m:=λi j x1 x2 y1 y2=>by
     -- the first is not less than the fF,and they rise
     have l0:∀ i,i < m->lt (gt p i) (gt p 0)=false:=λi x=>by
      by_cases z:i=0
      ·rw [z];exact O.irr _
      ·exact up1 0 i (by omega) x
     have lz:∀ j,j < m->lt (gt p (m - 1)) (gt p j)=false:=λj x=>by
      by_cases z:j=m - 1
      ·rw [z];exact O.irr _
      ·exact up1 j (m - 1) (by omega) (by omega)
     -- i against j: i<=fF<=first<=j,whichever
     have f1:lt (gt p i) (gt p (m - 1))=false:=O.tr _ _ _ h (l0 i x2)
     exact O.tr _ _ _ (lz j y2) f1
    have sz:m<=p.size:=by rw [hp.size];omega
    have all2:Dn lt (kas_rev p 0 m) m:=Dn.turn sz (λi j x y=>all i j (zero_le _) (by omega) (zero_le _) y) all
    refine ga' O two (hp.rev _ _) a1 (by omega) (Dn.next O all2 a1 ?_)
    rw [dq' sz,dq' sz,if_pos ⟨zero_le _,by omega⟩,if_neg (by omega)]
    refine O.tr _ _ _ (O.as _ _ fF) ?_
    exact all _ _ (zero_le _) (by omega) (zero_le _) (by omega)
  ·have:m=1:=by omega
   subst this
   exact ga' O two hp (le_refl _) (by omega) (Dn.next O (λi j x y=>by omega) (le_refl _) (O.as _ _ fF))
theorem gn' {p:Array Nat}{k:Nat} (hp:Pm n p) (hk:k < n) (up:Up lt p k):∀ (f l r:Nat),l<=r->r<=k->r - l<=f->(∀ i,i < l->lt (gt p k) (gt p i)=false)->(∀ i,r<=i->i < k->lt (gt p k) (gt p i)=true) →
  (kas_place p k f l r).kasWp (askIn n lt) (λl' _=>l'<=k/\(∀ i,i < l'->lt (gt p k) (gt p i)=false)/\∀ i,l'<=i->i < k->lt (gt p k) (gt p i)=true) s
 | 0,l,r,h1,h2,h3,h4,h5=>by
  rw [kas_place]
  exact ⟨by omega,h4,λi x y=>h5 i (by omega) y⟩
 | f+1,l,r,h1,h2,h3,h4,h5=>by
  rw [kas_place]
  split
  ·exact ⟨by omega,h4,λi x y=>h5 i (by omega) y⟩
  ·refine ⟨hp.bd (by omega) k,hp.bd (by omega) _,?_⟩
   cases h:lt (p.getD k 0) (p.getD ((l+r) / 2) 0) with
   | true =>
    dsimp only;rw [if_pos rfl]
    refine gn' hp hk up f l ((l+r) / 2) (by omega) (by omega) (by omega) h4 λi x y=>?_
    by_cases z:i=(l+r) / 2
    ·rw [z];exact h
    ·exact O.lt_le h (up _ _ (by omega) y)
   | false =>
    dsimp only;rw [if_neg Bool.false_ne_true]
    refine gn' hp hk up f ((l+r) / 2+1) r (by omega) (by omega) (by omega) (λi x=>?_) h5
    by_cases z:i=(l+r) / 2
    ·rw [z];exact h
    ·exact O.tr _ _ _ (up i ((l+r) / 2) (by omega) (by omega)) h
theorem m3':∀ (f:Nat) (p:Array Nat) (k:Nat),Pm n p->Up lt p k->1<=k->k+f=n->(kas_bin f p k).kasWp (askIn n lt) (λp' _=>Pm n p'/\Up lt p' n) s
 | 0,p,k,hp,up,h1,h2=>by
  rw [kas_bin]
  have:k=n:=by omega
  subst this
  exact ⟨hp,up⟩
 | f+1,p,k,hp,up,h1,h2=>by
  rw [kas_bin]
  refine fo' (gn' O two hp (by omega) up k 0 k (zero_le _) (le_refl _) (by omega) (λi h=>by omega) λi x y=>by omega) λl ⟨c1,c2,c3⟩=>?_
  refine m3' f _ (k+1) (trans (bubble_perm _ _ _) hp) (λi j db hj=>?_) (by omega) (by omega)
  have hk:k < p.size:=by rw [hp.size];omega
  rw [m2' hk (by omega),m2' hk (by omega),show k - (k - l)=l by omega]
  by_cases j1:j=l
  ·rw [if_pos j1,if_neg (by omega),if_neg (by omega)]
   exact c2 i (by omega)
  ·rw [if_neg j1]
   by_cases j2:l < j/\j<=k
   ·rw [if_pos j2]
    by_cases i1:i=l
    ·rw [if_pos i1]
     exact O.as _ _ (c3 (j - 1) (by omega) (by omega))
    ·rw [if_neg i1]
     by_cases i2:l < i/\i<=k
     ·rw [if_pos i2];exact up _ _ (by omega) (by omega)
     ·rw [if_neg i2];exact up _ _ (by omega) (by omega)
   ·rw [if_neg j2,if_neg (by omega),if_neg (by omega)]
    exact up _ _ db (by omega)
theorem pL':(kas_sort n).kasWp (askIn n lt) (λp _=>Pm n p/\Up lt p n) s:=by
 unfold kas_sort
 refine fo' (ox' O two (p:=(range n).toArray) (Array.Perm.refl _)) λr ⟨a1,a2,a3,a4⟩=>?_
 split
 ·refine m3' O two _ _ _ a3 ?_ (by omega) (by omega)
  rw [Nat.max_eq_left a1]
  exact a4
 ·have:r.1=n:=by omega
  rw [this] at a4
  exact ⟨a3,a4⟩
end
end DL
namespace DL
open PySem PySem.W PySem.Spec PyProof.Rows
section
variable {prog:Program}{w:World}{A:Around}{E:Value->Shared->Prop}{s:Shared}
noncomputable def byP (vs:List Value) (p:Array Nat):List Value:=p.toList.map λi=>vs.getD i Value.none
theorem m4' (vs:List Value):byP vs (range vs.length).toArray=vs:=by
 unfold byP
 refine List.ext_getElem (by simp) λi h1 h2=>?_
 simp [h2]
theorem pM' {vs:List Value}{p:Array Nat} (h:Pm vs.length p):(byP vs p).length=vs.length:=by
 unfold byP
 rw [length_map,length_toList,h.size]
def KeptBut (a:Addr) (h h':Heap):Prop:=∀ b o,b≠a->h.get? b=some o->h'.get? b=some o
theorem pN' {a:Addr}{vs:List Value}{e:Nat}{κ:SortKind}{lt:Nat->Nat->Bool}{P:PySem.Fin->Shared->Prop} (ho:s.heap.get? a=some (seqObj "list" vs.toArray e)) (iQ:vs.length < 64) (O:Ord lt)
  (kind:∀ h' Q,KeptBut a s.heap h'->2<=vs.length->Q κ { s with heap:=h' }->wpAny (model prog w) A (keyKind' vs.toArray) Q E { s with heap:=h' })
  (less:∀ h' i j C,KeptBut a s.heap h'->i < vs.length->j < vs.length->C (lt i j) { s with heap:=h' }->wpAny (model prog w) A (keyLt' κ (vs.getD i Value.none) (vs.getD j Value.none)) C (λ_ _=>False) { s with heap:=h' })
  (fin:∀ p h' c,Pm vs.length p->Up lt p vs.length->KeptBut a s.heap h'->h'.get? a=some (seqObj "list" (byP vs p).toArray c)->P (.done (.ret .none)) { s with heap:=h' }) :
  wpAny (model prog w) A (Builtin.«list.sort» ⟨[.ref a],[]⟩) P E s:=by
 have line:64<=sizeLine:=by rw [sizeLine_eq];decide
 obtain ⟨g1,kZ⟩:∃ g1,g1=s.heap.update a (mapSeq λ_=>(#[]:Array Value)):=⟨_,rfl⟩
 obtain ⟨e1,o1⟩:∃ e1,g1.get? a=some (seqObj "list" #[] e1):=⟨_,by rw [kZ];exact get?_update_seq ho _⟩
 have k1:KeptBut a s.heap g1:=λb o ne x=>by rw [kZ];exact (get?_update_other _ _ (Ne.symm ne)).trans x
 obtain ⟨g2,la⟩:∃ g2,g2=(g1.push (seqObj "tuple" vs.toArray 0)).push (seqObj "list" #[] 0):=⟨_,rfl⟩
 have o2:g2.get? a=some (seqObj "list" #[] e1):=by rw [la];exact get?_push_of_some _ (get?_push_of_some _ o1)
 have k2:KeptBut a s.heap g2:=λb o ne x=>by rw [la];exact get?_push_of_some _ (get?_push_of_some _ (k1 b o ne x))
 have jH:∀ lf,(2<=vs.length->lf=κ)->wpAny (model prog w) A ((if vs.toArray.size < 2 then pure () else sortRuns').run (SortSt.mk' lf (vs.toArray.zip vs.toArray) #[] 7 none))
   (λr s'=>s'={ s with heap:=g2 }/\∃ p,Pm vs.length p/\Up lt p vs.length/\(arrOf r.2).map (·.2)=(byP vs p).toArray/\failedOf r.2=none) E { s with heap:=g2 }:=λlf vL=>by
  rcases lt_or_ge vs.length 2 with eS | eT
  ·rw [if_pos (by rw [size_toArray];exact eS)]
   refine wpAny_pure ⟨rfl,(range vs.length).toArray,Array.Perm.refl _,λi j x y=>by omega,?_,rfl⟩
   rw [m4']
   show ((vs.toArray.zip vs.toArray).map (·.2))=_
   refine Array.ext (by simp) λi h1 h2=>by simp
  ·rw [if_neg (by rw [size_toArray];omega),vL eT]
   refine kat_run (ks:=vs) (vs:=vs) (G:=λp s'=>(Pm vs.length p/\Up lt p vs.length)/\s'={ s with heap:=g2 }) (Q:=λst s'=>s'={ s with heap:=g2 }/\∃ p,Pm vs.length p/\Up lt p vs.length/\(arrOf st).map (·.2)=(byP vs p).toArray/\failedOf st=none) rfl eT iQ ?_ ?_
   ·rintro p st s' hz lh aN ⟨⟨hp,up⟩,rfl⟩
    exact ⟨rfl,p,hp,up,kat_snds rfl lh,aN⟩
   ·exact eR' (P:=λp=>Pm vs.length p/\Up lt p vs.length) (λi j C h1 h2 h3=>less g2 i j C k2 h1 h2 h3) (λp hp=>⟨hp,rfl⟩) _ (pL' O eT)
 rw [list_sort_plain]
 refine wpAny_bind (listItems_at ho rfl (wpAny_bind (listUpdate_at ho rfl ?_ (by rw [size_toArray];omega) (zero_le _))))
 rw [← kZ]
 refine wpAny_bind (seqEpoch_at o1 rfl (wpAny_bind (wpAny_newTuple (wpAny_bind (wpAny_newList (wpAny_holding ?_) (zero_le _))) (by show vs.length<=_;omega))))
 show wpAny (model prog w) A _ P E { s with heap:=(g1.push (seqObj "tuple" vs.toArray 0)).push (seqObj "list" #[] 0) }
 rw [← la]
 dsimp only
 rcases lt_or_ge vs.length 2 with eS | eT
 all_goals
  first
   | (rw [if_pos (by rw [size_toArray];exact eS)];refine wpAny_bind (wpAny_pure ?_);have step:=jH general' λh=>by omega)
   | (rw [if_neg (by rw [size_toArray];omega)];refine wpAny_bind (kind g2 _ k2 eT ?_);have step:=jH κ λ_=>rfl)
  refine wpAny_bind (wpAny_mono step (λr s' h=>?_) λ_ _ x=>x)
  obtain ⟨rfl,p,hp,up,lh,aN⟩:=h
  rw [lh,aN]
  refine wpAny_bind (seqEpoch_at o2 rfl (wpAny_bind (listUpdate_at o2 rfl ?_ (zero_le _) ?_)))
  ·dsimp only
   rw [bne_self_eq_false,if_neg Bool.false_ne_true]
   exact wpAny_pure (fin p _ _ hp up (λb o ne x=>(get?_update_other _ _ (Ne.symm ne)).trans (k2 b o ne x)) (get?_update_seq o2 λ_=>(byP vs p).toArray))
  ·show (byP vs p).toArray.size<=_
   rw [size_toArray,pM' hp]
   omega
theorem fp' {l:Addr}{vs:List Value}{κ:SortKind}{lt:Nat->Nat->Bool}{Q:Value->Shared->Prop} (iQ:vs.length < 64) (O:Ord lt)
  (col:∀ Q':List Value->Shared->Prop,(∀ h' tk,(∀ b o,s.heap.get? b=some o->h'.get? b=some o)->s.heap.objs.size<=h'.objs.size->Q' vs { s with heap:=h',toks:=tk })->wpAny (model prog w) A.in1 (collect (.ref l)) Q' E s)
  (kind:∀ h' tk Q,(∀ b o,s.heap.get? b=some o->h'.get? b=some o)->2<=vs.length->Q κ { s with heap:=h',toks:=tk }->wpAny (model prog w) A.in1.in1 (keyKind' vs.toArray) Q (λ_ _=>False) { s with heap:=h',toks:=tk })
  (less:∀ h' tk i j C,(∀ b o,s.heap.get? b=some o->h'.get? b=some o)->i < vs.length->j < vs.length->C (lt i j) { s with heap:=h',toks:=tk }->wpAny (model prog w) A.in1.in1 (keyLt' κ (vs.getD i Value.none) (vs.getD j Value.none)) C (λ_ _=>False) { s with heap:=h',toks:=tk })
  (fin:∀ p h' tk D c,Pm vs.length p->Up lt p vs.length->(∀ b o,s.heap.get? b=some o->h'.get? b=some o)->s.heap.objs.size<=D->h'.get? D=some (seqObj "list" (byP vs p).toArray c)->Q (.ref D) { s with heap:=h',toks:=tk }) :
  wpAny (model prog w) A (call (.builtin "sorted") [Value.ref l]) Q E s:=by
 have line:64<=sizeLine:=by rw [sizeLine_eq];decide
 refine Calls.call_function_entry kind_sorted plain_sorted entry_sorted (args_sorted1 _) ?_;refine wpAny_bind (m:=checkCount "sorted" 1 1 _) (wpAny_pure (wpAny_bind (col _ λg tk kg above=>wpAny_bind (wpAny_newList ?_ (by omega)))))
 have aW:(g.push (seqObj "list" vs.toArray 0)).get? g.objs.size=some (seqObj "list" vs.toArray 0):=get?_push_size _ rfl
 have old:∀ (h':Heap),KeptBut g.objs.size (g.push (seqObj "list" vs.toArray 0)) h'->∀ b o,s.heap.get? b=some o->h'.get? b=some o:=λh' k b o x =>
  k b o (ne_of_lt (lt_of_lt_of_le (lt_size x) above)) (get?_push_of_some _ (kg b o x))
 refine wpAny_bind (wpAny_holding (wpAny_call_entry PyProof.Rows.slot_list_sort ⟨_,aW,rfl⟩ PyProof.Rows.entry_list_sort ?_ (args_list_sort _)))
 refine pN' (s:={ s with heap:=g.push (seqObj "list" vs.toArray 0),toks:=tk }) (lt:=lt) (κ:=κ) aW iQ O (λh' Q' k two q=>wpAny_mono (kind h' tk Q' (old h' k) two q) (λ_ _ x=>x) λ_ _ x=>x.elim) (λh' i j C k=>less h' tk i j C (old h' k)) λp h' c hp up k here=>?_
 exact ⟨_,rfl,wpAny_pure ⟨_,rfl,fin p h' tk _ c hp up (old h' k) above here⟩⟩
end
end DL
namespace DL
open PySem PySem.W PySem.Spec PyProof.Rows L2
noncomputable def rk:D->Nat
 | .non=>0
 | .bl _=>1
 | .int _=>2
 | .str _=>3
 | .tup _=>4
 | .lst _=>5
noncomputable def cI (a b:Int):Ordering:=if a < b then .lt else if b < a then .gt else .eq
mutual
noncomputable def cO:D->D->Ordering
 | .int a,.int b=>cI a b
 | .tup xs,.tup ys=>cOA xs ys
 | a,b=>cI (rk a) (rk b)
noncomputable def cOA:List D->List D->Ordering
 | [],[]=>.eq
 | [],_::_=>.lt
 | _::_,[]=>.gt
 | x::xs,y::ys=>(cO x y).then (cOA xs ys)
end
theorem dN' (a b:Int):cI b a=(cI a b).swap:=by
 unfold cI
 by_cases h1:a < b
 ·rw [if_pos h1,if_neg (by omega),if_pos h1];rfl
 ·by_cases h2:b < a
  ·rw [if_pos h2,if_neg h1,if_pos h2];rfl
  ·rw [if_neg h2,if_neg h1,if_neg h1,if_neg h2];rfl
theorem pa' {a b:D} (h:rk a≠rk b):cO a b=cI (rk a) (rk b):=by
 cases a<;>cases b<;>first | rfl | (exact absurd rfl h) | (simp [cO];done)
mutual
theorem hJ':∀ a b:D,cO b a=(cO a b).swap
 | .int a,b=>by
  cases b<;>simp only [cO]<;>exact dN' _ _
 | .tup xs,b=>by
  cases b<;>simp only [cO]<;>first | exact dN' _ _ | exact jx' _ _
 | .non,b=>by cases b<;>simp only [cO]<;>exact dN' _ _
 | .bl _,b=>by cases b<;>simp only [cO]<;>exact dN' _ _
 | .str _,b=>by cases b<;>simp only [cO]<;>exact dN' _ _
 | .lst _,b=>by cases b<;>simp only [cO]<;>exact dN' _ _
theorem jx':∀ xs ys:List D,cOA ys xs=(cOA xs ys).swap
 | [],[]=>by simp [cOA]
 | [],_::_=>by simp [cOA]
 | _::_,[]=>by simp [cOA]
 | x::xs,y::ys=>by
  rw [cOA,cOA,hJ' x y,jx' xs ys]
  cases cO x y<;>rfl
end
noncomputable def dl (a b:D):Bool:=cO a b == .lt
noncomputable def dlA (xs ys:List D):Bool:=cOA xs ys == .lt
theorem l8' (a b:Int):(cI a b == Ordering.lt)=decide (a < b):=by
 unfold cI
 by_cases h1:a < b
 ·rw [if_pos h1];simp [h1]
 ·rw [if_neg h1]
  split<;>simp [h1]
theorem dW' {a b:Int}:dl (.int a) (.int b)=decide (a < b):=by
 unfold dl
 rw [cO,l8']
theorem fq' {xs ys:List D}:dl (.tup xs) (.tup ys)=dlA xs ys:=by
 unfold dl dlA
 rw [cO]
theorem gU':dlA [] []=false:=by unfold dlA;simp [cOA]
theorem eL' {y:D}{ys:List D}:dlA [] (y::ys)=true:=by unfold dlA;simp [cOA]
theorem fr' {y:D}{ys:List D}:dlA (y::ys) []=false:=by unfold dlA;simp [cOA]
theorem ft' {x y:D}{xs ys:List D}:dlA (x::xs) (y::ys)=(dl x y||(!dl y x&&dlA xs ys)):=by
 unfold dlA dl
 rw [cOA,hJ' x y]
 cases cO x y<;>simp [Ordering.then,Ordering.swap]
theorem pb' {a b:D} (h:rk a < rk b):dl a b=true:=by
 unfold dl
 rw [pa' (ne_of_lt h),l8']
 simp;omega
theorem rO' {a b:D} (h:rk b < rk a):dl a b=false:=by
 unfold dl
 rw [pa' (ne_of_gt h),l8']
 simp;omega
theorem fY' {a b:D} (h:rk a=rk b) (h1:rk a≠2) (h2:rk a≠4):dl a b=false:=by
 unfold dl
 cases a<;>cases b<;>first | (simp [rk] at h;done) | (exact absurd rfl h1) | (exact absurd rfl h2) | (simp [cO,cI,rk];done)
mutual
theorem gV':∀ a b c:D,dl b a=false->dl c b=false->dl c a=false:=λa b c h1 h2=>by
 have r1:rk a<=rk b:=Nat.le_of_not_lt λh=>by rw [pb' h] at h1;cases h1
 have r2:rk b<=rk c:=Nat.le_of_not_lt λh=>by rw [pb' h] at h2;cases h2
 rcases lt_or_ge (rk a) (rk c) with h | h
 ·exact rO' h
 ·have e1:rk b=rk a:=by omega
  have e2:rk c=rk a:=by omega
  match a,b,c with
  | .int a,.int b,.int c =>
   rw [dW'] at h1 h2 ⊢
   simp at h1 h2 ⊢
   omega
  | .tup xs,.tup ys,.tup zs =>
   rw [fq'] at h1 h2 ⊢
   exact m5' xs ys zs h1 h2
  | .non,_,_=>exact fY' e2 (by rw [e2];decide) (by rw [e2];decide)
  | .bl _,_,_=>exact fY' e2 (by rw [e2];simp [rk]) (by rw [e2];simp [rk])
  | .str _,_,_=>exact fY' e2 (by rw [e2];simp [rk]) (by rw [e2];simp [rk])
  | .lst _,_,_=>exact fY' e2 (by rw [e2];simp [rk]) (by rw [e2];simp [rk])
termination_by a b c=>sizeOf a+sizeOf b+sizeOf c
decreasing_by all_goals (simp_wf;omega)
theorem m5':∀ xs ys zs:List D,dlA ys xs=false->dlA zs ys=false->dlA zs xs=false
 | [],_,[],_,_=>gU'
 | [],_,z::zs,_,_=>fr'
 | x::xs,[],_,h1,_=>by rw [eL'] at h1;cases h1
 | x::xs,y::ys,[],_,h2=>by rw [eL'] at h2;cases h2
 | x::xs,y::ys,z::zs,h1,h2=>by
  simp only [ft',Bool.or_eq_false_iff,Bool.and_eq_false_iff,Bool.not_eq_false'] at h1 h2 ⊢
  obtain ⟨a1,a2⟩:=h1
  obtain ⟨b1,b2⟩:=h2
  refine ⟨gV' x y z a1 b1,?_⟩
  cases hx:dl x z with
  | true=>exact .inl rfl
  | false =>
   right
   rcases a2 with a2 | a2
   ·have:=gV' y z x b1 hx
    rw [a2] at this;cases this
   ·rcases b2 with b2 | b2
    ·have:=gV' z x y hx a1
     rw [b2] at this;cases this
    ·exact m5' xs ys zs a2 b2
termination_by xs ys zs=>sizeOf xs+sizeOf ys+sizeOf zs
decreasing_by all_goals (simp_wf;omega)
end
theorem pc' (a b:D) (h:dl a b=true):dl b a=false:=by
 unfold dl at h ⊢
 rw [hJ' a b]
 cases e:cO a b<;>rw [e] at h<;>first | rfl | (cases h;done)
theorem jy' (ds:List D):Ord λi j=>dl (ds.getD i .non) (ds.getD j .non):=⟨λa b h=>pc' _ _ h,λa b c h1 h2=>gV' _ _ _ h1 h2⟩
mutual
noncomputable def cmB:D->D->Bool
 | .int _,.int _=>true
 | .tup xs,.tup ys=>cmA xs ys
 | _,_=>false
noncomputable def cmA:List D->List D->Bool
 | x::xs,y::ys=>cmB x y&&cmA xs ys
 | _,_=>true
end
mutual
theorem eM':∀ a b:D,cmB a b=true->deq a b=(!dl a b&&!dl b a)
 | .int a,.int b,_=>by
  rw [dW',dW']
  by_cases h:a=b
  ·simp [deq,h]
  ·rcases Int.lt_or_gt_of_ne h with h' | h'
   ·simp [deq,h,h']
   ·simp [deq,h,h']
 | .tup xs,.tup ys,h=>by
  rw [cmB] at h
  rw [deq,fq',fq']
  exact li' xs ys h
 | .non,_,h=>by simp [cmB] at h
 | .bl _,_,h=>by simp [cmB] at h
 | .str _,_,h=>by simp [cmB] at h
 | .lst _,_,h=>by simp [cmB] at h
 | .int _,.non,h=>by simp [cmB] at h
 | .int _,.bl _,h=>by simp [cmB] at h
 | .int _,.str _,h=>by simp [cmB] at h
 | .int _,.tup _,h=>by simp [cmB] at h
 | .int _,.lst _,h=>by simp [cmB] at h
 | .tup _,.non,h=>by simp [cmB] at h
 | .tup _,.bl _,h=>by simp [cmB] at h
 | .tup _,.str _,h=>by simp [cmB] at h
 | .tup _,.int _,h=>by simp [cmB] at h
 | .tup _,.lst _,h=>by simp [cmB] at h
theorem li':∀ xs ys:List D,cmA xs ys=true->deqA xs ys=(!dlA xs ys&&!dlA ys xs)
 | [],[],_=>by simp [deqA,gU']
 | [],_::_,_=>by simp [deqA,eL',fr']
 | _::_,[],_=>by simp [deqA,eL',fr']
 | x::xs,y::ys,h=>by
  rw [cmA,and_eq_true] at h
  rw [deqA,eM' x y h.1,li' xs ys h.2,ft',ft']
  cases h1:dl x y<;>cases h2:dl y x<;>simp
end
mutual
theorem fu':∀ a b:D,cmB a b=true->deq a b=true->a=b
 | .int a,.int b,_,h=>by simp [deq] at h;rw [h]
 | .tup xs,.tup ys,c,h=>by
  rw [cmB] at c
  rw [deq] at h
  rw [lj' xs ys c h]
 | .non,_,h,_=>by simp [cmB] at h
 | .bl _,_,h,_=>by simp [cmB] at h
 | .str _,_,h,_=>by simp [cmB] at h
 | .lst _,_,h,_=>by simp [cmB] at h
 | .int _,.non,h,_=>by simp [cmB] at h
 | .int _,.bl _,h,_=>by simp [cmB] at h
 | .int _,.str _,h,_=>by simp [cmB] at h
 | .int _,.tup _,h,_=>by simp [cmB] at h
 | .int _,.lst _,h,_=>by simp [cmB] at h
 | .tup _,.non,h,_=>by simp [cmB] at h
 | .tup _,.bl _,h,_=>by simp [cmB] at h
 | .tup _,.str _,h,_=>by simp [cmB] at h
 | .tup _,.int _,h,_=>by simp [cmB] at h
 | .tup _,.lst _,h,_=>by simp [cmB] at h
theorem lj':∀ xs ys:List D,cmA xs ys=true->deqA xs ys=true->xs=ys
 | [],[],_,_=>rfl
 | [],_::_,_,h=>by simp [deqA] at h
 | _::_,[],_,h=>by simp [deqA] at h
 | x::xs,y::ys,c,h=>by
  rw [cmA,and_eq_true] at c
  rw [deqA,and_eq_true] at h
  rw [fu' x y c.1 h.1,lj' xs ys c.2 h.2]
end
open PySem.SeqAt in
theorem gW' (e lt:Nat->Bool) (d:Bool) (f:Nat->Nat):∀ l:List Nat,ltFrom e lt d (l.map f)=ltFrom (λi=>e (f i)) (λi=>lt (f i)) d l
 | []=>rfl
 | i::l=>by rw [map_cons,ltFrom,ltFrom,gW' e lt d f l]
open PySem.SeqAt in
theorem ih':∀ xs ys:List D,cmA xs ys=true->ltFrom (λj=>deq (xs.getD j .non) (ys.getD j .non)) (λj=>dl (xs.getD j .non) (ys.getD j .non)) (decide (xs.length < ys.length)) (range (min xs.length ys.length))=dlA xs ys
 | [],[],_=>by simp [ltFrom,gU']
 | [],_::_,_=>by simp [ltFrom,eL']
 | _::_,[],_=>by simp [ltFrom,fr']
 | x::xs,y::ys,c=>by
  rw [cmA,and_eq_true] at c
  have ih:=ih' xs ys c.2
  rw [length_cons,length_cons,Nat.succ_min_succ,range_succ_eq_map,ltFrom,gW',ft']
  have e:ltFrom (λi=>deq ((x::xs).getD i.succ .non) ((y::ys).getD i.succ .non)) (λi=>dl ((x::xs).getD i.succ .non) ((y::ys).getD i.succ .non)) (decide (xs.length+1 < ys.length+1)) (range (min xs.length ys.length))=dlA xs ys:=by
   rw [← ih]
   congr 1
   simp
  rw [e]
  show (if deq x y=true then dlA xs ys else dl x y)=_
  rw [eM' x y c.1]
  cases h1:dl x y<;>cases h2:dl y x<;>simp
theorem m6':∀ (xs ys:List D),cmA xs ys=true->∀ j,j < xs.length->j < ys.length->cmB (xs.getD j .non) (ys.getD j .non)=true
 | [],_,_,j,h,_=>by simp at h
 | _::_,[],_,j,_,h=>by simp at h
 | x::xs,y::ys,c,j,h1,h2=>by
  rw [cmA,and_eq_true] at c
  cases j with
  | zero=>exact c.1
  | succ j=>exact m6' xs ys c.2 j (by simpa using h1) (by simpa using h2)
section
variable {X:Cx}{aa:List (Addr×Obj)}{U:L2.St}{H:Hp}{s:Shared}
open PySem.SeqAt in
theorem rP' (I:Inv X aa U H s):∀ (n:Nat) (A:Around),A.units+n < cLine->∀ (a b:D) (x y:V) (u v:Value),dep a<=n->cmB a b=true->Is X.K H a x->Is X.K H b y->RelV x u->RelV y v->RcLtAt A s u v (dl a b):=by
 intro n
 induction n with
 | zero =>
  intro A hu a b x y u v hd c ha hb ru rv
  cases a<;>cases b<;>simp [cmB] at c
  ·rename_i i j
   rw [an' ha] at ru
   rw [an' hb] at rv
   obtain ⟨t1,rfl⟩:=ru
   obtain ⟨t2,rfl⟩:=rv
   rw [dW']
   exact RcLtAt.int_int _ _ _ _
  ·rw [dep] at hd
   omega
 | succ n ih =>
  intro A hu a b x y u v hd c ha hb ru rv
  cases a<;>cases b<;>simp [cmB] at c
  ·rename_i i j
   rw [an' ha] at ru
   rw [an' hb] at rv
   obtain ⟨t1,rfl⟩:=ru
   obtain ⟨t2,rfl⟩:=rv
   rw [dW']
   exact RcLtAt.int_int _ _ _ _
  ·rename_i ds es
   have eM:A.in1.units+n < cLine:=by show A.units+1+n < cLine;omega
   obtain ⟨p,xs,rfl,h1,h2⟩:=au' ha
   obtain ⟨q,ys,rfl,h3,h4⟩:=au' hb
   cases ru;cases rv
   obtain ⟨ac,r1,t1,_⟩:=I.tuple h1
   obtain ⟨bj,r2,t2,_⟩:=I.tuple h3
   have l1:ac.toArray.size=ds.length:=by rw [size_toArray,← r1.length,h2.length]
   have l2:bj.toArray.size=es.length:=by rw [size_toArray,← r2.length,h4.length]
   have two:∀ j (g1:j < ac.toArray.size) (g2:j < bj.toArray.size),EqAt A.in1 s ac.toArray[j] bj.toArray[j] (deq (ds.getD j .non) (es.getD j .non))/\(deq (ds.getD j .non) (es.getD j .non)=false->RcLtAt A.in1 s ac.toArray[j] bj.toArray[j] (dl (ds.getD j .non) (es.getD j .non))):=λj g1 g2=>by
    obtain ⟨v1,q1,q2⟩:=h2.getU r1 g1
    obtain ⟨v2,q3,q4⟩:=h4.getU r2 g2
    have m1:ds.getD j .non∈ds:=by
     rw [getD_eq_getElem?_getD,getElem?_eq_getElem (by omega)]
     exact getElem_mem _
    have k1:=b1' m1
    rw [dep] at hd
    exact ⟨(fR' I n A.in1 eM _ _ _ _ _ _ (.inl (by omega)) q2 q4 q1 q3).2.1,λ_=>ih A.in1 eM _ _ _ _ _ _ (by omega) (m6' ds es c j (by omega) (by omega)) q2 q4 q1 q3⟩
   have R1:=RcLtAt.tuples (A:=A) t1 t2 (by omega) two
   rw [l1,l2,ih' ds es c] at R1
   rw [fq']
   exact R1
end
end DL
namespace DL
open PySem PySem.W PySem.Spec PyProof.Rows L2
noncomputable def leD (a b:D):Bool:=!dl b a
noncomputable def sortD (ds:List D):List D:=ds.mergeSort leD
theorem q5' (a b c:D) (h1:leD a b=true) (h2:leD b c=true):leD a c=true:=by
 unfold leD at *
 simp only [Bool.not_eq_true'] at *
 exact gV' a b c h1 h2
theorem pO' (a b:D):(leD a b||leD b a)=true:=by
 unfold leD
 cases h:dl b a with
 | false=>rfl
 | true=>rw [pc' b a h];rfl
theorem bB' (ds:List D):(sortD ds).Perm ds:=List.mergeSort_perm ds leD
theorem dd' (ds:List D):(sortD ds).Pairwise λa b=>leD a b=true:=List.pairwise_mergeSort q5' pO' ds
theorem eS':∀ (l m:List D),l.Perm m->(l.Pairwise λa b=>leD a b=true)->(m.Pairwise λa b=>leD a b=true)->(∀ a∈l,∀ b∈l,leD a b=true->leD b a=true->a=b)->l=m
 | [],m,p,_,_,_=>by rw [List.nil_perm.mp p]
 | a::l,[],p,_,_,_=>by have:=p.length_eq;simp at this
 | a::l,b::m,p,h1,h2,an=>by
  have e:a=b:=by
   have ia:a∈b::m:=p.mem_iff.mp mem_cons_self
   have ib:b∈a::l:=p.mem_iff.mpr mem_cons_self
   rcases mem_cons.mp ia with h | h
   ·exact h
   ·rcases mem_cons.mp ib with h' | h'
    ·exact h'.symm
    ·exact an a mem_cons_self b ib ((pairwise_cons.mp h1).1 b h') ((pairwise_cons.mp h2).1 a h)
  subst e
  rw [eS' l m ((List.perm_cons a).mp p) (pairwise_cons.mp h1).2 (pairwise_cons.mp h2).2 λx hx y hy=>an x (mem_cons_of_mem _ hx) y (mem_cons_of_mem _ hy)]
noncomputable def permD (p:Array Nat) (ds:List D):List D:=p.toList.map λi=>ds.getD i .non
noncomputable def permV (p:Array Nat) (zs:List V):List V:=p.toList.map λi=>zs.getD i .non
noncomputable def cmAll (ds:List D):Bool:=ds.all λa=>ds.all λb=>cmB a b
theorem m7' {ds:List D}{p:Array Nat} (hp:Pm ds.length p) (up:Up (λi j=>dl (ds.getD i .non) (ds.getD j .non)) p ds.length) (cm:cmAll ds=true):permD p ds=sortD ds:=by
 have pm:(permD p ds).Perm ds:=by
  have h1:p.toList.Perm (range ds.length):=by
   have:=Array.perm_iff_toList_perm.mp hp
   simpa using this
  have h2:=h1.map λi=>ds.getD i .non
  have h3:((range ds.length).map λi=>ds.getD i .non)=ds:=by
   refine List.ext_getElem (by simp) λi h1 h2=>?_
   simp [h2]
  rw [h3] at h2
  exact h2
 have iR:∀ a∈permD p ds,∀ b∈permD p ds,cmB a b=true:=λa ha b hb=>by
  have:=all_eq_true.mp cm a (pm.mem_iff.mp ha)
  exact all_eq_true.mp this b (pm.mem_iff.mp hb)
 refine eS' _ _ (pm.trans (bB' ds).symm) ?_ (dd' ds) λa ha b hb h1 h2=>?_
 ·rw [List.pairwise_iff_getElem]
  intro i j hi hj db
  unfold permD at hi hj ⊢
  rw [length_map,length_toList,hp.size] at hi hj
  have:=up i j db hj
  simp only [getElem_map,Array.getElem_toList]
  unfold gt at this
  rw [getD,dif_pos (by rw [hp.size];exact hj),getD,dif_pos (by rw [hp.size];exact hi)] at this
  unfold leD
  rw [Bool.not_eq_true']
  exact this
 ·have c:=iR a ha b hb
  refine fu' a b c ?_
  rw [eM' a b c]
  unfold leD at h1 h2
  rw [h1,h2]
  rfl
section
variable {X:Cx}{aa:List (Addr×Obj)}{U:L2.St}{H:Hp}{s:Shared}{A:Around}
noncomputable def fstI:D->Bool
 | .tup (.int _::_)=>true
 | _=>false
noncomputable def fstT:D->Bool
 | .tup (.tup _::_)=>true
 | _=>false
noncomputable def isInt:D->Bool
 | .int _=>true
 | _=>false
theorem m8' (I:Inv X aa U H s){prog:Program}{w:World}{n:Nat}{b fin:Bool}{Q:Bool->Shared->Prop} (hu:A.units+n < cLine):∀ (ds es:List D) (xs ys:List V) (us vs:List Value) (i:Nat),IsA X.K H ds xs->IsA X.K H es ys->Vals xs us->Vals ys vs →
  depA ds<=n->cmA ds es=true->fin=decide (ds.length < es.length)->(b=true->i=0->∀ d e r r',ds=d::r->es=e::r'->isInt d=true/\isInt e=true)->Q (dlA ds es) s->KatLex prog w A b fin Q (us.zip vs) i s
 | [],es,xs,ys,us,vs,i,h1,h2,h3,h4,hd,c,hf,fl,q=>by
  have:=h1.nil_inv;subst this
  cases h3
  rw [List.zip_nil_left]
  refine kat_nil ?_
  rw [hf]
  cases es with
  | nil=>rw [gU'] at q;exact q
  | cons e es=>rw [eL'] at q;simpa using q
 | d::ds,[],xs,ys,us,vs,i,h1,h2,h3,h4,hd,c,hf,fl,q=>by
  have:=h2.nil_inv;subst this
  cases h4
  rw [List.zip_nil_right]
  refine kat_nil ?_
  rw [hf]
  rw [fr'] at q
  simpa using q
 | d::ds,e::es,xs,ys,us,vs,i,h1,h2,h3,h4,hd,c,hf,fl,q=>by
  obtain ⟨x,xr,rfl,a1,a2⟩:=h1.cons_inv
  obtain ⟨y,yr,rfl,b1,b2⟩:=h2.cons_inv
  cases h3 with
  | cons r1 r2 =>
   cases h4 with
   | cons s1 s2 =>
    rename_i u vM v gW
    rw [depA] at hd
    rw [cmA,and_eq_true] at c
    rw [ft'] at q
    have eq:=(fR' I n A hu d e x y u v (.inl (by omega)) a1 b1 r1 s1).2.1
    have lt:=rP' I n A hu d e x y u v (by omega) c.1 a1 b1 r1 s1
    have ed:=eM' d e c.1
    rw [zip_cons_cons]
    refine kat_cons (eq prog w _ _ (kat_go (λh=>kat_yes ?_) λh=>kat_no ?_))
    ·refine m8' I hu ds es xr yr vM gW (i+1) a2 b2 r2 s2 (by omega) c.2 (by rw [hf];simp) (λ_ z=>by omega) ?_
     rw [h] at ed
     have ed:=ed.symm
     simp only [and_eq_true,Bool.not_eq_true'] at ed
     rw [ed.1,ed.2] at q
     simpa using q
    ·have q':Q (dl d e) s:=by
      rw [h] at ed
      cases h1:dl d e with
      | true=>rw [h1] at q;simpa using q
      | false =>
       rw [h1] at ed q
       cases h2:dl e d with
       | true=>rw [h2] at q;simpa using q
       | false=>rw [h2] at ed;cases ed
     by_cases z:b=true/\i=0
     ·obtain ⟨zb,zi⟩:=z
      obtain ⟨f1,f2⟩:=fl zb zi d e ds es rfl rfl
      subst zb;subst zi
      cases d<;>simp [isInt] at f1
      cases e<;>simp [isInt] at f2
      rw [an' a1] at r1
      rw [an' b1] at s1
      obtain ⟨t1,rfl⟩:=r1
      obtain ⟨t2,rfl⟩:=s1
      show wpAny _ _ (oneLt' true _ _) _ _ _
      rw [← keyLt'_oneType]
      rw [dW'] at q'
      exact kat_lt_int q'
     ·have:(b&&i == 0)=false:=by
       cases b
       ·rfl
       ·simp at z ⊢
        exact z
      rw [this]
      exact kat_one _ _ (lt prog w _ _ q')
theorem at_k {ds:List D}{zs:List V}{vs:List Value} (h:IsA X.K H ds zs) (r:Vals zs vs){k:Nat} (hk:k < vs.length):∃ x,Is X.K H (ds.getD k .non) x/\RelV x (vs.getD k .none)/\ds.getD k .non∈ds/\zs[k]?=some x:=by
 have l1:=h.length
 have l2:=r.length
 have lj:k < ds.length:=by omega
 obtain ⟨x,e1,e2⟩:=h.get (getElem?_eq_getElem lj)
 obtain ⟨u,e3,e4⟩:=r.get e1
 refine ⟨x,?_,?_,?_,e1⟩
 ·rw [getD_eq_getElem?_getD,getElem?_eq_getElem lj];exact e2
 ·rw [getD_eq_getElem?_getD,e3];exact e4
 ·rw [getD_eq_getElem?_getD,getElem?_eq_getElem lj];exact getElem_mem _
theorem hK' (I:Inv X aa U H s) (prog:Program) (w:World) (P:D->Bool) (T:Value) (hP:∀ d,P d=true->∃ f r,d=.tup (f::r)/\∀ x u,Is X.K H f x->RelV x u->Looks (model prog w) s.heap (typeOf u) T) :
  ∀ (ds:List D) (zs:List V) (vs:List Value),IsA X.K H ds zs->Vals zs vs->ds.all P=true->∃ fs,KatTups s.heap vs fs/\fs.length=vs.length/\∀ v∈fs,Looks (model prog w) s.heap (typeOf v) T
 | [],zs,vs,h,r,_=>by
  have:=h.nil_inv;subst this
  cases r
  exact ⟨[],KatTups.nil,rfl,λv hv=>nomatch hv⟩
 | d::ds,zs,vs,h,r,ok=>by
  obtain ⟨x,zr,rfl,h1,h2⟩:=h.cons_inv
  rw [all_cons,and_eq_true] at ok
  cases r with
  | cons r1 r2 =>
   obtain ⟨fs,k1,k2,k3⟩:=hK' I prog w P T hP ds zr _ h2 r2 ok.2
   obtain ⟨f,ay,rfl,look⟩:=hP d ok.1
   obtain ⟨a,ys,rfl,g1,g2⟩:=au' h1
   cases r1
   obtain ⟨ac,q1,q2,_⟩:=I.tuple g1
   obtain ⟨y,yr,rfl,g3,g4⟩:=g2.cons_inv
   cases q1 with
   | cons q3 q4 =>
    obtain ⟨o,e1,e2,n,e3⟩:=q2
    refine ⟨_::fs,KatTups.cons e1 e2 e3 rfl k1,by simp [k2],λv hv=>?_⟩
    rcases mem_cons.mp hv with rfl | hv
    ·exact look y _ g3 q3
    ·exact k3 v hv
def SortOk (ds:List D):Prop:=ds.length < 64/\cmAll ds=true/\depA ds<=50/\(ds.all isInt=true\/ds.all fstI=true\/ds.all fstT=true)
theorem gb' (hu:X.A.units+100 < cLine){l:Addr}{ds:List D}{zs:List V}{ac:List Value}{Q:VK} (I:Inv X aa U H s) (ha:IsA X.K H ds zs) (rv:Vals zs ac) (ok:SortOk ds)
  (col:∀ Q':List Value->Shared->Prop,(∀ h' tk,(∀ b o,s.heap.get? b=some o->h'.get? b=some o)->s.heap.objs.size<=h'.objs.size->Q' ac { s with heap:=h',toks:=tk })->wpAny (model X.prog X.w) X.A.in1 (collect (.ref l)) Q' X.xe s)
  (k:∀ l q,Pm ds.length q->permD q ds=sortD ds->H l=none->Q (.ref l) (upd H l (.lst (permV q zs)))):wpAny (model X.prog X.w) X.A (call (.builtin "sorted") [.ref l]) (EP X aa U Q) X.xe s:=by
 obtain ⟨iQ,cm,dp,kd⟩:=ok
 have l1:=ha.length
 have l2:=rv.length
 have n1:ac.length=ds.length:=by omega
 have qa:∀ i j,i < ac.length->j < ac.length->cmB (ds.getD i .non) (ds.getD j .non)=true:=λi j hi hj=>by
  obtain ⟨_,_,_,mi,_⟩:=at_k ha rv hi
  obtain ⟨_,_,_,mj,_⟩:=at_k ha rv hj
  exact all_eq_true.mp (all_eq_true.mp cm _ mi) _ mj
 have aG:∀ q h' tk D c,Pm ac.length q->Up (λi j=>dl (ds.getD i .non) (ds.getD j .non)) q ac.length->(∀ b o,s.heap.get? b=some o->h'.get? b=some o)->s.heap.objs.size<=D->h'.get? D=some (seqObj "list" (byP ac q).toArray c)->EP X aa U Q (.ref D) { s with heap:=h',toks:=tk }:=λq h' tk D c hp up keep above here=>by
  rw [n1] at hp up
  have hv:Vals (permV q zs) (byP ac q):=by
   refine fW' (by simp [permV,byP]) λi x u e1 e2=>?_
   obtain ⟨j,f1,rfl⟩:=getMap e1
   obtain ⟨j',f2,rfl⟩:=getMap e2
   rw [f1] at f2
   cases f2
   have hj:j < ds.length:=by
    have h1:j∈q.toList:=mem_of_getElem? f1
    have h2:=(Array.perm_iff_toList_perm.mp hp).mem_iff.mp h1
    simpa using h2
   obtain ⟨x,_,e4,_,e5⟩:=at_k ha rv (k:=j) (by omega)
   rw [getD_eq_getElem?_getD,e5]
   exact e4
  refine ⟨.ref D,_,I.laid (t':=tk) keep above (o:=.lst (permV q zs)) ⟨?_,byP ac q,c,hv,here⟩,rfl,k D q hp (m7' hp up cm) (I.hok.fresh above)⟩
  show (permV q zs).length<=sizeLine
  rw [permV,length_map,length_toList,hp.size,sizeLine_eq]
  omega
 have g9:∀ (b:Bool) (P:D->Bool),(∀ d,P d=true->∃ f r,d=.tup (f::r)/\(b=true->isInt f=true))->ds.all P=true->∀ h' tk i j C,(∀ b o,s.heap.get? b=some o->h'.get? b=some o)->i < ac.length->j < ac.length->C (dl (ds.getD i .non) (ds.getD j .non)) { s with heap:=h',toks:=tk } →
   wpAny (model X.prog X.w) X.A.in1.in1 (keyLt' (tuples' b) (ac.getD i Value.none) (ac.getD j Value.none)) C (λ_ _=>False) { s with heap:=h',toks:=tk }:=λb P hP all h' tk i j C keep hi hj hc=>by
  have I':Inv X aa U H { s with heap:=h',toks:=tk }:=I.kept (t':=tk) keep
  obtain ⟨x,a1,a2,a3,_⟩:=at_k ha rv hi
  obtain ⟨y,b1,b2,b3,_⟩:=at_k ha rv hj
  have cc:=qa i j hi hj
  have dq:=b1' a3
  obtain ⟨f1,r1,e1,g1⟩:=hP _ (all_eq_true.mp all _ a3)
  obtain ⟨f2,r2,e2,g2⟩:=hP _ (all_eq_true.mp all _ b3)
  rw [e1] at a1 cc hc dq
  rw [e2] at b1 cc hc
  obtain ⟨pa,xs,rfl,x1,x2⟩:=au' a1
  obtain ⟨pb,ys,rfl,y1,y2⟩:=au' b1
  generalize ac.getD i Value.none=ui at a2
  generalize ac.getD j Value.none=uj at b2
  cases a2;cases b2
  obtain ⟨us,q1,q2,_⟩:=I'.tuple x1
  obtain ⟨vs,q3,q4,_⟩:=I'.tuple y1
  obtain ⟨oa,m1,m2,na,m3⟩:=q2
  obtain ⟨ob,m4,m5,nb,m6⟩:=q4
  rw [fq'] at hc
  rw [cmB] at cc
  rw [dep] at dq
  refine kat_lt m1 m3 m4 m6 (m8' I' (n:=50) (by show X.A.units+1+1+50 < cLine;omega) _ _ xs ys _ _ 0 x2 y2 q1 q3 (by omega) cc ?_ (λzb _ d e rr zm z1 z2=>?_) hc)
  ·have:=x2.length;have:=y2.length;have:=q1.length;have:=q3.length
   simp only [size_toArray]
   congr 1
   apply propext
   constructor<;>intro _<;>omega
  ·cases z1;cases z2
   exact ⟨g1 zb,g2 zb⟩
 rcases kd with kd | kd | kd
 ·-- bE numbers
  have lq:∀ k,k < ac.length->∃ i t,ac.getD k Value.none=.int i t/\ds.getD k .non=.int i:=λk hk=>by
   obtain ⟨x,a1,a2,a3,_⟩:=at_k ha rv hk
   have:=all_eq_true.mp kd _ a3
   cases e:ds.getD k .non<;>rw [e] at this a1<;>simp [isInt] at this
   rw [an' a1] at a2
   obtain ⟨t,a2⟩:=a2
   exact ⟨_,t,a2,rfl⟩
  refine fp' (κ:=oneType') (lt:=λi j=>dl (ds.getD i .non) (ds.getD j .non)) (by omega) (jy' ds) col (λh' tk Q' keep two q=>?_) (λh' tk i j C keep hi hj hc=>?_) aG
  ·refine kas_kind (T:=.type "int") two (λv hv=>?_) (by decide) (by decide) q
   obtain ⟨k,hk,rfl⟩:=getElem_of_mem hv
   obtain ⟨i,t,e,_⟩:=lq k hk
   rw [getD_eq_getElem?_getD,getElem?_eq_getElem hk] at e
   change ac[k]=_ at e
   rw [e]
   exact Looks.now
  ·obtain ⟨a,t1,e1,f1⟩:=lq i hi
   obtain ⟨b,t2,e2,f2⟩:=lq j hj
   rw [f1,f2,dW'] at hc
   rw [e1,e2]
   exact kat_lt_int hc
 ·-- tuples that begin with a bE number
  refine fp' (κ:=tuples' true) (lt:=λi j=>dl (ds.getD i .non) (ds.getD j .non)) (by omega) (jy' ds) col (λh' tk Q' keep two q=>?_) (λh' tk i j C keep hi hj hc=>g9 true fstI (λd hd=>?_) kd h' tk i j C keep hi hj hc) aG
  ·have I':Inv X aa U H { s with heap:=h',toks:=tk }:=I.kept (t':=tk) keep
   obtain ⟨fs,k1,k2,k3⟩:=hK' I' X.prog X.w fstI (.type "int") (λd hd=>by
    unfold fstI at hd
    split at hd
    ·refine ⟨_,_,rfl,λx u hx hr=>?_⟩
     rw [an' hx] at hr
     obtain ⟨t,rfl⟩:=hr
     exact Looks.now
    ·cases hd) ds zs ac ha rv kd
   exact kat_kind k1 (by omega) k3 (by decide) q
  ·unfold fstI at hd
   split at hd
   ·exact ⟨_,_,rfl,λ_=>rfl⟩
   ·cases hd
 ·-- tuples that begin with a tuple
  refine fp' (κ:=tuples' false) (lt:=λi j=>dl (ds.getD i .non) (ds.getD j .non)) (by omega) (jy' ds) col (λh' tk Q' keep two q=>?_) (λh' tk i j C keep hi hj hc=>g9 false fstT (λd hd=>?_) kd h' tk i j C keep hi hj hc) aG
  ·have I':Inv X aa U H { s with heap:=h',toks:=tk }:=I.kept (t':=tk) keep
   obtain ⟨fs,k1,k2,k3⟩:=hK' I' X.prog X.w fstT (.type "tuple") (λd hd=>by
    unfold fstT at hd
    split at hd
    ·refine ⟨_,_,rfl,λx u hx hr=>?_⟩
     obtain ⟨a,ys,rfl,g1,g2⟩:=au' hx
     cases hr
     obtain ⟨bj,q1,q2,_⟩:=I'.tuple g1
     obtain ⟨o,e1,e2,n,e3⟩:=q2
     have look:Looks (model X.prog X.w) h' (typeOf (.ref a)) o.cls:=(Looks.ld e1).andThen .now
     rw [e2] at look
     exact look
    ·cases hd) ds zs ac ha rv kd
   exact kat_kind k1 (by omega) k3 (by decide) q
  ·unfold fstT at hd
   split at hd
   ·exact ⟨_,_,rfl,λh=>by cases h⟩
   ·cases hd
theorem jz' (hu:X.A.units+100 < cLine):CallR X (.builtin "sorted") (λxs H Q=>∃ (p:Addr) (zs:List V) (ds:List D),xs=[.ref p]/\SqL X.K H p zs/\IsA X.K H ds zs/\SortOk ds/\∀ l q,Pm ds.length q->permD q ds=sortD ds->H l=none->Q (.ref l) (upd H l (.lst (permV q zs)))):=by
 intro aa s U H xs us Q I r h
 obtain ⟨p,zs,ds,rfl,hq,ha,ok,k⟩:=h
 obtain ⟨u,rfl,ru⟩:=vals1 r
 cases ru
 obtain ⟨ac,rv,t,hz⟩:=I.list hq
 have l1:=ha.length
 have l2:=rv.length
 have line:64<=sizeLine:=by rw [sizeLine_eq];decide
 refine gb' hu I ha rv ok (λQ' q=>collect_list t.isList (q _ s.toks (λb o x=>?_) ?_) (by have:=ok.1;omega)) k
 ·exact (get?_update_other _ _ (Ne.symm (ne_of_lt (lt_size x)))).trans (get?_push_of_some _ x)
 ·rw [Heap.size_update,size_push']
  exact le_succ _
end
section
variable {X:Cx}{B:BB}{e:Expr}{pos:Pos}{kr:Nat}
noncomputable def sortF (ds:List D):Option (List D):=match ds with
 | [.lst xs]=>if xs.length < 64/\cmAll xs=true/\depA xs<=50/\(xs.all isInt=true\/xs.all fstI=true\/xs.all fstT=true) then some (sortD xs) else none
 | _=>none
theorem IsA.perm {K:PySem.W.Frag}{I:Hp}{ds:List D}{zs:List V}{q:Array Nat} (h:IsA K I ds zs) (hp:Pm ds.length q):IsA K I (permD q ds) (permV q zs):=by
 have low:∀ j∈q.toList,j < ds.length:=λj hj=>by
  have:=(Array.perm_iff_toList_perm.mp hp).mem_iff.mp hj
  simpa using this
 unfold permD permV
 clear hp
 generalize q.toList=js at low
 induction js with
 | nil=>exact IsA.nil
 | cons j js ih =>
  rw [map_cons,map_cons]
  refine IsA.cons ?_ (ih λi hi=>low i (mem_cons_of_mem _ hi))
  have hj:=low j mem_cons_self
  obtain ⟨x,e1,e2⟩:=h.get (getElem?_eq_getElem hj)
  rw [getD_eq_getElem?_getD,getD_eq_getElem?_getD,e1,getElem?_eq_getElem hj]
  exact e2
theorem m9' {p:Pos}{t:M (List D)} (hr:Room kr X.A) (hg:Gl X "sorted") (hm:X.mg "sorted"=none) (ha:AD X B [e] t) (he:starEach [e] X.env=(false,eval e X.env)::starEach [] X.env:=by rfl) (au:(backTo pos (starEach [] X.env)).any (·.1)=false:=by rfl) :
  EO X B (.Call (.Name "sorted" p) [e] [] pos) (fn1 sortF t):=qN' (jz' (hu100 hr)) (λds d e B G I H U Y xs Q r h k=>by
 unfold sortF at e
 split at e
 ·obtain ⟨ok,rfl⟩:=aG' e
  obtain ⟨x,rfl,hx⟩:=h.one
  obtain ⟨q,zs,rfl,h3,h4⟩:=ax' hx
  refine ⟨q,zs,_,rfl,(Same.rdK r.iH h3).sq,h4.mono r.iH,ok,λl q' hp es hl=>?_⟩
  refine k.new r hl ?_
  rw [← es]
  exact h4.perm hp
 ·cases e) hg hm boot_sorted ha (by decide) (by decide) he au
end
end DL
namespace DL
open PySem PySem.SetTable
def Ris (xs:Array Nat):Prop:=∀ i j (hi:i < xs.size) (hj:j < xs.size),i < j->xs[i] < xs[j]
theorem go' {xs:Array Nat} (R:Ris xs) (j:Nat):∀ (f lo hi:Nat),hi<=xs.size->lo<=hi->hi - lo<=f->(∀ i (h:i < xs.size),i < lo->xs[i] < j)->(∀ i (h:i < xs.size),hi<=i->j<=xs[i]) →
  (below.go xs j f lo hi<=xs.size/\(∀ i (h:i < xs.size),i < below.go xs j f lo hi->xs[i] < j)/\∀ i (h:i < xs.size),below.go xs j f lo hi<=i->j<=xs[i])
 | 0,lo,hi,h1,h2,h3,h4,h5=>by
  rw [below.go]
  exact ⟨by omega,h4,λi h x=>h5 i h (by omega)⟩
 | f+1,lo,hi,h1,h2,h3,h4,h5=>by
  rw [below.go]
  split
  ·have hm:(lo+hi) / 2 < xs.size:=by omega
   have e:xs.getD ((lo+hi) / 2) j=xs[(lo+hi) / 2]:=by rw [getD,dif_pos hm];rfl
   dsimp only
   rw [e]
   split
   ·rename_i lt
    refine go' R j f ((lo+hi) / 2+1) hi h1 (by omega) (by omega) (λi h x=>?_) h5
    by_cases z:i=(lo+hi) / 2
    ·subst z;exact lt
    ·exact Nat.lt_trans (R i _ h hm (by omega)) lt
   ·rename_i qb
    refine go' R j f lo ((lo+hi) / 2) (by omega) (by omega) (by omega) h4 λi h x=>?_
    by_cases z:i=(lo+hi) / 2
    ·subst z;omega
    ·have:=R _ i hm h (by omega);omega
  ·exact ⟨by omega,h4,λi h x=>h5 i h (by omega)⟩
theorem eT' {xs:Array Nat} (R:Ris xs) (j:Nat):below xs j<=xs.size/\(∀ i (h:i < xs.size),i < below xs j->xs[i] < j)/\∀ i (h:i < xs.size),below xs j<=i->j<=xs[i] :=
 go' R j xs.size 0 xs.size (le_refl _) (zero_le _) (le_refl _) (λi h x=>by omega) λi h x=>by omega
theorem oy' {xs:Array Nat} (R:Ris xs){i:Nat} (h:i < xs.size):below xs xs[i]=i:=by
 obtain ⟨b1,b2,b3⟩:=eT' R xs[i]
 rcases lt_trichotomy (below xs xs[i]) i with l | l | l
 ·have:=b3 (below xs xs[i]) (by omega) (le_refl _)
  have:=R _ i (by omega) h l
  omega
 ·exact l
 ·have:=b2 i h l
  omega
section
variable {t:SetTable}
theorem ii' (R:Ris t.place){i:Nat} (h:i < t.place.size):t.slot t.place[i]=.live i:=by
 unfold slot
 dsimp only
 rw [oy' R h,Array.getElem?_eq_getElem h]
 simp
theorem na' (R:Ris t.place) (hd:t.dummies=#[]){j:Nat} (h:j∉t.place):t.slot j=.empty:=by
 unfold slot
 dsimp only
 have e:¬ (t.place[below t.place j]? == some j)=true:=by
  intro z
  have z:t.place[below t.place j]?=some j:=by simpa using z
  exact h (Array.mem_of_getElem? z)
 rw [if_neg e]
 unfold has
 rw [hd]
 simp
noncomputable def hd (m i p:Nat):Probe:=⟨i,runEnd m i - i,i,p,none⟩
noncomputable def adv (m:Nat) (p:Probe):Probe:=match p with
 | ⟨j,k+1,i,q,d⟩=>⟨j+1,k,i,q,d⟩
 | ⟨_,0,i,q,d⟩=>⟨(leap m i q).1,runEnd m (leap m i q).1 - (leap m i q).1,(leap m i q).1,(leap m i q).2,d⟩
noncomputable def pth (m:Nat) (h:Int):Nat->Probe
 | 0=>hd m (bits h % (m+1)) (bits h)
 | k+1=>adv m (pth m h k)
theorem jA' (h:Int) (k:Nat):t.advance (pth t.mask h k)=pth t.mask h (k+1):=by
 rw [pth]
 rcases pth t.mask h k with ⟨j,more,i,q,d⟩
 cases more<;>rfl
theorem ij' (m:Nat) (h:Int):∀ k,(pth m h k).dummy=none
 | 0=>rfl
 | k+1=>by
  have ih:=ij' m h k
  rw [pth]
  revert ih
  rcases pth m h k with ⟨j,more,i,q,d⟩
  intro ih
  cases more<;>exact ih
noncomputable def sl (m:Nat) (h:Int) (k:Nat):Nat:=(pth m h k).j
theorem hL' {m:Nat}{h:Int}{c i p:Nat} (e:pth m h c=hd m i p):∀ d,d<=runEnd m i - i->pth m h (c+d)=⟨i+d,runEnd m i - i - d,i,p,none⟩
 | 0,_=>e
 | d+1,bD=>by
  have ih:=hL' e d (by omega)
  rw [← Nat.add_assoc,pth,ih]
  obtain ⟨k,hk⟩:∃ k,runEnd m i - i - d=k+1:=⟨runEnd m i - i - d - 1,by omega⟩
  rw [hk,show runEnd m i - i - (d+1)=k by omega]
  rfl
theorem jB' {m:Nat}{h:Int}{c i p:Nat} (e:pth m h c=hd m i p):pth m h (c+(runEnd m i - i)+1)=hd m (leap m i p).1 (leap m i p).2:=by
 have:=hL' e (runEnd m i - i) (le_refl _)
 rw [pth,this,Nat.sub_self]
 rfl
theorem q6' (m i:Nat):runEnd m i - i<=9:=by
 unfold runEnd
 split<;>omega
noncomputable def lp (m:Nat):Nat->Nat->Nat->Nat×Nat
 | 0,i,p=>(i,p)
 | n+1,i,p=>lp m n (leap m i p).1 (leap m i p).2
theorem nb' {m:Nat}{h:Int}:∀ (n c i p:Nat),pth m h c=hd m i p->∃ c',c<=c'/\c'<=c+10*n/\pth m h c'=hd m (lp m n i p).1 (lp m n i p).2
 | 0,c,i,p,e=>⟨c,le_refl _,by omega,e⟩
 | n+1,c,i,p,e=>by
  obtain ⟨c',h1,h2,h3⟩:=nb' n _ _ _ (jB' e)
  have:=q6' m i
  exact ⟨c',by omega,by omega,h3⟩
theorem eN' (m:Nat):∀ (a b i p:Nat),lp m (a+b) i p=lp m b (lp m a i p).1 (lp m a i p).2
 | 0,b,i,p=>by rw [zero_add];rfl
 | a+1,b,i,p=>by rw [Nat.succ_add,lp,eN' m a b];rfl
theorem eU' (m:Nat):∀ (n i p:Nat),(lp m n i p).2=p / 32 ^ n
 | 0,i,p=>by simp [lp]
 | n+1,i,p=>by
  rw [lp,eU' m n]
  show (p / 32) / 32 ^ n=_
  rw [Nat.div_div_eq_div_mul,Nat.pow_succ,Nat.mul_comm]
theorem pd' {m:Nat}:∀ (n i p:Nat),i < m+1->(lp m n i p).1 < m+1
 | 0,i,p,h=>h
 | n+1,i,p,h=>by
  rw [lp]
  exact pd' n _ _ (mod_lt _ (succ_pos _))
theorem pP' (h:Int):bits h < 2 ^ 64:=by
 unfold bits
 have h1:=emod_lt_of_pos h (b:=2 ^ 64) (by decide)
 have h2:=emod_nonneg h (b:=2 ^ 64) (by decide)
 omega
def Round (m:Nat):Prop:=∀ i,i < m+1->∀ j,j < m+1->∃ n,n < m+1/\(lp m n i 0).1=j
theorem round7:Round 7:=by
 have:∀ i,i < 8->∀ j,j < 8->∃ n,n < 8/\(lp 7 n i 0).1=j:=by decide +kernel
 exact this
theorem round31:Round 31:=by
 have:∀ i,i < 32->∀ j,j < 32->∃ n,n < 32/\(lp 31 n i 0).1=j:=by decide +kernel
 exact this
theorem nc' {m:Nat} (R:Round m) (h:Int){j:Nat} (hj:j < m+1):∃ n,n < m+14/\(lp m n (bits h % (m+1)) (bits h)).1=j:=by
 have p0:(lp m 13 (bits h % (m+1)) (bits h)).2=0:=by
  rw [eU']
  refine Nat.div_eq_of_lt (lt_of_lt_of_le (pP' h) ?_)
  decide
 have l0:=pd' (m:=m) 13 (bits h % (m+1)) (bits h) (mod_lt _ (succ_pos _))
 obtain ⟨n,h1,h2⟩:=R _ l0 j hj
 refine ⟨13+n,by omega,?_⟩
 rw [eN',p0]
 exact h2
theorem q7' {m:Nat} (R:Round m) (h:Int){j:Nat} (hj:j < m+1):∃ k,k < 10*(m+14)/\sl m h k=j:=by
 obtain ⟨n,h1,h2⟩:=nc' R h hj
 obtain ⟨c,h3,h4,h5⟩:=nb' (m:=m) (h:=h) n 0 _ _ rfl
 refine ⟨c,by omega,?_⟩
 unfold sl
 rw [h5]
 exact h2
end
noncomputable def orb (m:Nat):Nat->Nat->List Nat
 | 0,_=>[]
 | k+1,i=>i::orb m k (leap m i 0).1
theorem oz' (m i:Nat):(leap m i 0).2=0:=by
 show 0 / 32=0
 rfl
theorem pQ' (m n i:Nat):lp m (n+1) i 0=lp m n (leap m i 0).1 0:=by
 rw [lp,oz']
theorem gX' (m n i:Nat):(lp m n i 0).2=0:=by rw [eU'];simp
theorem nd' (m:Nat):∀ (k i n:Nat),n < k->(orb m k i)[n]?=some (lp m n i 0).1
 | 0,_,_,h=>by omega
 | k+1,i,0,_=>rfl
 | k+1,i,n+1,h=>by
  rw [orb,getElem?_cons_succ,nd' m k _ n (by omega),pQ']
theorem lk' {m k i j:Nat} (h:j∈orb m k i) (hl:(orb m k i).length=k):∃ n,n < k/\(lp m n i 0).1=j:=by
 obtain ⟨n,hn,e⟩:=getElem_of_mem h
 refine ⟨n,by omega,?_⟩
 have:=nd' m k i n (by omega)
 rw [getElem?_eq_getElem hn,e] at this
 exact (Option.some.inj this).symm
theorem hM' (m:Nat):∀ (k i:Nat),(orb m k i).length=k
 | 0,_=>rfl
 | k+1,i=>by rw [orb,length_cons,hM' m k]
theorem round127:Round 127:=by
 have all:∀ j,j < 128->∃ n,n < 128/\(lp 127 n 0 0).1=j:=λj hj=>by
  have c:∀ j,j < 128->j∈orb 127 128 0:=by decide +kernel
  exact lk' (c j hj) (hM' _ _ _)
 have turn:(lp 127 128 0 0).1=0:=by decide +kernel
 intro i hi j hj
 obtain ⟨a,ha,ea⟩:=all i hi
 obtain ⟨b,hb,eb⟩:=all j hj
 have cU:∀ n,lp 127 n i 0=lp 127 (a+n) 0 0:=λn=>by rw [eN',ea,gX']
 rcases lt_or_ge b a with z | z
 ·refine ⟨b+128 - a,by omega,?_⟩
  rw [cU,show a+(b+128 - a)=128+b by omega,eN',turn,gX',eb]
 ·exact ⟨b - a,by omega,by rw [cU,show a+(b - a)=b by omega,eb]⟩
theorem round511:Round 511:=by
 have all:∀ j,j < 512->∃ n,n < 512/\(lp 511 n 0 0).1=j:=λj hj=>by
  have c:∀ j,j < 512->j∈orb 511 512 0:=by decide +kernel
  exact lk' (c j hj) (hM' _ _ _)
 have turn:(lp 511 512 0 0).1=0:=by decide +kernel
 intro i hi j hj
 obtain ⟨a,ha,ea⟩:=all i hi
 obtain ⟨b,hb,eb⟩:=all j hj
 have cU:∀ n,lp 511 n i 0=lp 511 (a+n) 0 0:=λn=>by rw [eN',ea,gX']
 rcases lt_or_ge b a with z | z
 ·refine ⟨b+512 - a,by omega,?_⟩
  rw [cU,show a+(b+512 - a)=512+b by omega,eN',turn,gX',eb]
 ·exact ⟨b - a,by omega,by rw [cU,show a+(b - a)=b by omega,eb]⟩
noncomputable def hA (es:Array (Int×Value)) (i:Nat):Int:=(es[i]?.map (·.1)).getD 0
theorem pe' {es:Array (Int×Value)}{i:Nat} (h:i < es.size):hA es i=es[i].1:=by
 unfold hA
 rw [Array.getElem?_eq_getElem h]
 rfl
structure TabOk (t:SetTable) (es:Array (Int×Value)):Prop where
 nd:t.dummies=#[]
 ris:Ris t.place
 sz:t.place.size=es.size
 low:∀ i (h:i < t.place.size),t.place[i]<=t.mask
 few:t.place.size<=300/\(t.mask=511\/(t.mask=127/\t.place.size<=76)\/(t.mask=31/\t.place.size<=18)\/(t.mask=7/\t.place.size<=4))
 pl:t.plain=true
 reach:∀ i (h:i < es.size) (h':i < t.place.size),∃ k,sl t.mask es[i].1 k=t.place[i]/\∀ k',k' < k->sl t.mask es[i].1 k'∈t.place
theorem jC':∀ (n:Nat) (l:List Nat),(∀ j,j < n->j∈l)->n<=l.length
 | 0,_,_=>zero_le _
 | n+1,l,h=>by
  have:=jC' n (l.erase n) λj hj=>(List.mem_erase_of_ne (by omega)).mpr (h j (by omega))
  rw [List.length_erase_of_mem (h n (by omega))] at this
  have:0 < l.length:=List.length_pos_of_mem (h n (by omega))
  omega
section
variable {t:SetTable}{es:Array (Int×Value)}
theorem TabOk.round (T:TabOk t es):Round t.mask:=by
 rcases T.few.2 with h | h | h | h
 ·rw [h];exact round511
 ·rw [h.1];exact round127
 ·rw [h.1];exact round31
 ·rw [h.1];exact round7
theorem TabOk.free (T:TabOk t es) (h:Int):∃ K,K < 10*(t.mask+14)/\sl t.mask h K∉t.place/\∀ k,k < K->sl t.mask h k∈t.place:=by
 have ex:∃ k,k < 10*(t.mask+14)/\sl t.mask h k∉t.place:=by
  apply byContradiction
  intro no
  have:t.mask+1<=t.place.toList.length:=jC' (t.mask+1) _ λj hj=>by
   obtain ⟨k,k1,k2⟩:=q7' T.round h hj
   apply byContradiction
   intro nj
   exact no ⟨k,k1,by rw [k2];simpa using nj⟩
  rw [length_toList] at this
  have:=T.few
  omega
 obtain ⟨k,k1,k2⟩:=ex
 induction k using Nat.strongRecOn with
 | ind k ih =>
  by_cases z:∃ k',k' < k/\sl t.mask h k'∉t.place
  ·obtain ⟨k',a,b⟩:=z
   exact ih k' a (by omega) b
  ·refine ⟨k,k1,k2,λk' bx=>?_⟩
   apply byContradiction
   intro nj
   exact z ⟨k',bx,nj⟩
theorem ll' {m i:Nat} (h:i<=m):i+(runEnd m i - i)<=m:=by
 unfold runEnd
 split<;>omega
theorem gY' (m:Nat) (h:Int):∀ k,(pth m h k).j+(pth m h k).more<=m/\(pth m h k).i<=m
 | 0=>by
  have:bits h % (m+1)<=m:=Nat.le_of_lt_succ (mod_lt _ (succ_pos _))
  exact ⟨ll' this,this⟩
 | k+1=>by
  have ih:=gY' m h k
  rw [pth]
  revert ih
  rcases pth m h k with ⟨j,more,i,q,d⟩
  intro ih
  cases more with
  | zero =>
   have:(leap m i q).1<=m:=Nat.le_of_lt_succ (mod_lt _ (succ_pos _))
   exact ⟨ll' this,this⟩
  | succ more =>
   dsimp only at ih
   exact ⟨by show j+1+more<=m;omega,ih.2⟩
theorem ne' {xs:Array Nat}{j:Nat} (h:j∈xs):∃ i,∃ h:i < xs.size,xs[i]=j:=by
 obtain ⟨i,hi,e⟩:=Array.getElem_of_mem h
 exact ⟨i,hi,e⟩
theorem jD' (T:TabOk t es){h:Int}{K:Nat} (hK:sl t.mask h K∉t.place) (hk:∀ k,k < K->sl t.mask h k∈t.place):∀ (f k:Nat),k<=K->K - k < f →
  (∃ k' i,∃ hi:i < es.size,∃ bc:i < t.place.size,k<=k'/\k' < K/\t.place[i]=sl t.mask h k'/\es[i].1=h/\probe.go t (hA es) h f (pth t.mask h k)=some (.candidate (sl t.mask h k') i (pth t.mask h (k'+1))) ∧
   ∀ bn,k<=bn->bn < k'->∀ j (hj:j < es.size) (bz:j < t.place.size),t.place[j]=sl t.mask h bn->es[j].1≠h) ∨
  (probe.go t (hA es) h f (pth t.mask h k)=some (.empty (sl t.mask h K) none)/\∀ bn,k<=bn->bn < K->∀ j (hj:j < es.size) (bz:j < t.place.size),t.place[j]=sl t.mask h bn->es[j].1≠h)
 | 0,k,h1,h2=>by omega
 | f+1,k,h1,h2=>by
  by_cases z:k=K
  ·subst z
   right
   refine ⟨?_,λbn a b=>by omega⟩
   rw [probe.go,show (pth t.mask h k).j=sl t.mask h k from rfl,na' T.ris T.nd hK,ij']
  ·obtain ⟨i,hi,e⟩:=ne' (hk k (by omega))
   have cw:i < es.size:=by rw [← T.sz];exact hi
   have st:t.slot (pth t.mask h k).j=.live i:=by
    rw [show (pth t.mask h k).j=t.place[i] from e.symm]
    exact ii' T.ris hi
   have only:∀ j (bz:j < t.place.size),t.place[j]=sl t.mask h k->j=i:=λj bz ej=>by
    rcases lt_trichotomy j i with l | l | l
    ·have:=T.ris j i bz hi l;omega
    ·exact l
    ·have:=T.ris i j hi bz l;omega
   by_cases same:es[i].1=h
   ·left
    refine ⟨k,i,cw,hi,le_refl _,by omega,e,same,?_,λbn a b=>by omega⟩
    rw [probe.go,st]
    dsimp only
    rw [pe' cw,same,if_pos (by simp),jA']
    rfl
   ·have go:probe.go t (hA es) h (f+1) (pth t.mask h k)=probe.go t (hA es) h f (pth t.mask h (k+1)):=by
     rw [probe.go,st]
     dsimp only
     rw [pe' cw,if_neg (by simpa using same),jA']
    rw [go]
    have here:∀ j (hj:j < es.size) (bz:j < t.place.size),t.place[j]=sl t.mask h k->es[j].1≠h:=λj hj bz ej=>by
     have:=only j bz ej
     subst this
     exact same
    rcases jD' T hK hk f (k+1) (by omega) (by omega) with ⟨k',i',a1,a2,a3,a4,a5,a6,a7,a8⟩ | ⟨a1,a2⟩
    ·refine .inl ⟨k',i',a1,a2,by omega,a4,a5,a6,a7,λbn b1 b2 j hj bz ej=>?_⟩
     by_cases z':bn=k
     ·subst z';exact here j hj bz ej
     ·exact a8 bn (by omega) b2 j hj bz ej
    ·refine .inr ⟨a1,λbn b1 b2 j hj bz ej=>?_⟩
     by_cases z':bn=k
     ·subst z';exact here j hj bz ej
     ·exact a2 bn (by omega) b2 j hj bz ej
theorem dO' {α:Type}{xs:Array α}{p:Nat} (hp:p<=xs.size) (x:α) (i:Nat):(insertAt xs p x)[i]?=if i < p then xs[i]? else if i=p then some x else xs[i - 1]?:=by
 unfold insertAt
 rw [Array.getElem?_append,Array.size_push,size_extract]
 have e:min p xs.size - 0=p:=by omega
 rw [e]
 by_cases h1:i < p
 ·rw [if_pos (by omega),if_pos h1,Array.getElem?_push,size_extract,e,if_neg (by omega),Array.getElem?_extract,if_pos (by omega),zero_add]
 ·rw [if_neg h1]
  by_cases h2:i=p
  ·rw [if_pos (by omega),if_pos h2,Array.getElem?_push,size_extract,e,if_pos h2]
  ·rw [if_neg (by omega),if_neg h2,Array.getElem?_extract]
   by_cases h3:i - (p+1) < min xs.size xs.size - p
   ·rw [if_pos h3]
    congr 1
    omega
   ·rw [if_neg h3]
    symm
    rw [getElem?_eq_none]
    omega
theorem gp' {α:Type}{xs:Array α}{p:Nat} (hp:p<=xs.size) (x:α):(insertAt xs p x).size=xs.size+1:=by
 unfold insertAt
 rw [Array.size_append,Array.size_push,size_extract,size_extract]
 omega
theorem lm' {α:Type}{xs:Array α}{p:Nat} (hp:p<=xs.size) (x y:α):y∈insertAt xs p x↔y=x\/y∈xs:=by
 constructor
 ·intro h
  obtain ⟨i,e⟩:=mem_iff_getElem?.mp h
  rw [dO' hp] at e
  split at e
  ·exact .inr (Array.mem_of_getElem? e)
  ·split at e
   ·cases e;exact .inl rfl
   ·exact .inr (Array.mem_of_getElem? e)
 ·rintro (rfl | h)
  ·refine mem_iff_getElem?.mpr ⟨p,?_⟩
   rw [dO' hp,if_neg (by omega),if_pos rfl]
  ·obtain ⟨i,e⟩:=mem_iff_getElem?.mp h
   by_cases z:i < p
   ·exact mem_iff_getElem?.mpr ⟨i,by rw [dO' hp,if_pos z];exact e⟩
   ·exact mem_iff_getElem?.mpr ⟨i+1,by rw [dO' hp,if_neg (by omega),if_neg (by omega)];exact e⟩
theorem q8' (T:TabOk t es){h:Int}{x:Value}{K:Nat} (hK:sl t.mask h K∉t.place) (hk:∀ k,k < K->sl t.mask h k∈t.place) :
  let q:=t.put (sl t.mask h K)
  q.1.dummies=#[]/\Ris q.1.place/\q.1.place.size=(insertAt es q.2 (h,x)).size/\(∀ i (h:i < q.1.place.size),q.1.place[i]<=q.1.mask)/\q.1.mask=t.mask/\q.1.plain=t.plain/\q.1.led=t.led/\q.1.moves=t.moves/\q.1.place.size=t.place.size+1/\q.2<=es.size ∧
   (∀ i (h1:i < (insertAt es q.2 (h,x)).size) (h2:i < q.1.place.size),∃ k,sl q.1.mask (insertAt es q.2 (h,x))[i].1 k=q.1.place[i]/\∀ k',k' < k->sl q.1.mask (insertAt es q.2 (h,x))[i].1 k'∈q.1.place):=by
 intro q
 obtain ⟨b1,b2,b3⟩:=eT' T.ris (sl t.mask h K)
 have q2:q.2=below t.place (sl t.mask h K):=rfl
 have q1:q.1.place=insertAt t.place (below t.place (sl t.mask h K)) (sl t.mask h K):=rfl
 have hp:q.2<=es.size:=by rw [q2,← T.sz];exact b1
 have nh:has t.dummies (sl t.mask h K)=false:=by rw [T.nd];rfl
 have qd:q.1.dummies=#[]:=by
  show (if has t.dummies (sl t.mask h K)=true then _ else t.dummies)=_
  rw [nh,if_neg Bool.false_ne_true];exact T.nd
 have get:∀ i (h2:i < q.1.place.size),(i < q.2/\∃ hi:i < t.place.size,q.1.place[i]=t.place[i])\/(i=q.2/\q.1.place[i]=sl t.mask h K)\/(q.2 < i/\∃ hi:i - 1 < t.place.size,q.1.place[i]=t.place[i - 1]):=λi h2=>by
  have e:=dO' (x:=sl t.mask h K) b1 i
  rw [← q1,← q2,Array.getElem?_eq_getElem h2] at e
  by_cases z1:i < q.2
  ·rw [if_pos z1] at e
   obtain ⟨hi,e⟩:=Array.getElem?_eq_some_iff.mp e.symm
   exact .inl ⟨z1,hi,e.symm⟩
  ·rw [if_neg z1] at e
   by_cases z2:i=q.2
   ·rw [if_pos z2] at e
    exact .inr (.inl ⟨z2,Option.some.inj e⟩)
   ·rw [if_neg z2] at e
    obtain ⟨hi,e⟩:=Array.getElem?_eq_some_iff.mp e.symm
    exact .inr (.inr ⟨by omega,hi,e.symm⟩)
 have sz:q.1.place.size=t.place.size+1:=by rw [q1];exact gp' b1 _
 have ne:∀ i (hi:i < t.place.size),t.place[i]≠sl t.mask h K:=λi hi z=>hK (by rw [← z];exact Array.getElem_mem hi)
 refine ⟨qd,?_,by rw [sz,gp' hp,T.sz],?_,rfl,rfl,rfl,rfl,sz,hp,?_⟩
 ·intro i j hi hj lt
  rcases get i hi with ⟨a1,a2,a3⟩ | ⟨a1,a3⟩ | ⟨a1,a2,a3⟩<;>rcases get j hj with ⟨c1,c2,c3⟩ | ⟨c1,c3⟩ | ⟨c1,c2,c3⟩
  ·rw [a3,c3];exact T.ris i j a2 c2 lt
  ·rw [a3,c3];exact b2 i a2 (by omega)
  ·rw [a3,c3]
   have:=b2 i a2 (by omega)
   have:=b3 (j - 1) c2 (by omega)
   omega
  ·omega
  ·omega
  ·rw [a3,c3]
   have:=b3 (j - 1) c2 (by omega)
   have:=ne (j - 1) c2
   omega
  ·omega
  ·omega
  ·rw [a3,c3];exact T.ris (i - 1) (j - 1) a2 c2 (by omega)
 ·intro i hi
  show _<=t.mask
  rcases get i hi with ⟨a1,a2,a3⟩ | ⟨a1,a3⟩ | ⟨a1,a2,a3⟩
  ·rw [a3];exact T.low _ _
  ·rw [a3];have:=(gY' t.mask h K).1;unfold sl;omega
  ·rw [a3];exact T.low _ _
 ·intro i h1 h2
  have dh:∀ y,y∈t.place->y∈q.1.place:=λy hy=>by rw [q1];exact (lm' b1 _ _).mpr (.inr hy)
  have e:=dO' (x:=(h,x)) hp i
  rw [Array.getElem?_eq_getElem h1] at e
  show ∃ k,sl t.mask _ k=_/\∀ k',k' < k->sl t.mask _ k'∈_
  rcases get i h2 with ⟨a1,a2,a3⟩ | ⟨a1,a3⟩ | ⟨a1,a2,a3⟩
  ·rw [if_pos a1] at e
   obtain ⟨hi,e⟩:=Array.getElem?_eq_some_iff.mp e.symm
   obtain ⟨k,k1,k2⟩:=T.reach i hi a2
   rw [← e,a3]
   exact ⟨k,k1,λk' bx=>dh _ (k2 k' bx)⟩
  ·rw [if_neg (by omega),if_pos a1] at e
   rw [Option.some.inj e,a3]
   exact ⟨K,rfl,λk' bx=>dh _ (hk k' bx)⟩
  ·rw [if_neg (by omega),if_neg (by omega)] at e
   obtain ⟨hi,e⟩:=Array.getElem?_eq_some_iff.mp e.symm
   obtain ⟨k,k1,k2⟩:=T.reach (i - 1) hi a2
   rw [← e,a3]
   exact ⟨k,k1,λk' bx=>dh _ (k2 k' bx)⟩
end
noncomputable def tak (o:Array (Option Nat)) (j:Nat):Bool:=(o.getD j (some 0)).isSome
theorem ln' {m:Nat}{o:Array (Option Nat)}{h:Int}:∀ (f c i p:Nat),pth m h c=hd m i p →
  (∃ k,c<=k/\layClean.free m o f i p=some (sl m h k)/\tak o (sl m h k)=false/\∀ k',c<=k'->k' < k->tak o (sl m h k')=true)\/(∀ n,n < f->tak o (lp m n i p).1=true)
 | 0,c,i,p,e=>.inr λn h=>by omega
 | f+1,c,i,p,e=>by
  have run:=λd bD=>hL' e d bD
  have aW:∀ d,d<=runEnd m i - i->sl m h (c+d)=i+d:=λd bD=>by unfold sl;rw [run d bD]
  have up:i<=runEnd m i:=by unfold runEnd;split<;>omega
  rw [layClean.free]
  cases hf:(range (runEnd m i+1 - i)).find? λk=>(o.getD (i+k) (some 0)).isNone with
  | some d =>
   obtain ⟨d1,d2,d3⟩:=List.find?_range_eq_some.mp hf
   rw [mem_range] at d2
   left
   refine ⟨c+d,by omega,?_,?_,λk' a b=>?_⟩
   ·dsimp only
    rw [aW d (by omega)]
   ·rw [aW d (by omega)]
    unfold tak
    cases x:o.getD (i+d) (some 0) with
    | none=>rfl
    | some v=>rw [x] at d1;cases d1
   ·obtain ⟨d',rfl⟩:∃ d',k'=c+d':=⟨k' - c,by omega⟩
    rw [aW d' (by omega)]
    have:=d3 d' (by omega)
    unfold tak
    cases x:o.getD (i+d') (some 0) with
    | none=>rw [x] at this;cases this
    | some v=>rfl
  | none =>
   have no:=List.find?_range_eq_none.mp hf
   have all:∀ k',c<=k'->k' < c+(runEnd m i - i)+1->tak o (sl m h k')=true:=λk' a b=>by
    obtain ⟨d',rfl⟩:∃ d',k'=c+d':=⟨k' - c,by omega⟩
    rw [aW d' (by omega)]
    have:=no d' (by omega)
    unfold tak
    cases x:o.getD (i+d') (some 0) with
    | none=>rw [x] at this;cases this
    | some v=>rfl
   dsimp only
   rcases ln' (o:=o) f _ _ _ (jB' e) with ⟨k,k1,k2,k3,k4⟩ | ay
   ·left
    refine ⟨k,by omega,k2,k3,λk' a b=>?_⟩
    by_cases z:k' < c+(runEnd m i - i)+1
    ·exact all k' a z
    ·exact k4 k' (by omega) b
   ·right
    intro n hn
    cases n with
    | zero =>
     have:=all c (le_refl _) (by omega)
     rw [← Nat.add_zero c,aW 0 (by omega)] at this
     exact this
    | succ n =>
     rw [lp]
     exact ay n (by omega)
theorem ef':∀ (k:Nat) (l:List Nat),l.Nodup->(∀ x∈l,x < k)->l.length<=k
 | 0,l,_,h=>by
  cases l with
  | nil=>exact le_refl _
  | cons x l=>exact absurd (h x mem_cons_self) (not_lt_zero _)
 | k+1,l,nd,h=>by
  by_cases z:k∈l
  ·have:=ef' k (l.erase k) (nd.erase k) λx hx=>by
    have h1:=h x (List.mem_of_mem_erase hx)
    have h2:x≠k:=λe=>by
     subst e
     exact (List.Nodup.not_mem_erase nd) hx
    omega
   rw [List.length_erase_of_mem z] at this
   omega
  ·have:=ef' k l nd λx hx=>by
    have h1:=h x hx
    have h2:x≠k:=λe=>z (e▸hx)
    omega
   omega
structure Laid (m:Nat) (hs:List Int) (o:Array (Option Nat)) (k:Nat):Prop where
 sz:o.size=m+1
 old:∀ (j v:Nat),o[j]?=some (some v)->v < k
 one:∀ (j j' v:Nat),o[j]?=some (some v)->o[j']?=some (some v)->j=j'
 way:∀ (v:Nat),v < k->∃ (j c:Nat),o[j]?=some (some v)/\sl m (hs.getD v 0) c=j/\∀ c',c' < c->tak o (sl m (hs.getD v 0) c')=true
theorem Laid.room {m:Nat}{hs:List Int}{o:Array (Option Nat)}{k:Nat} (L:Laid m hs o k) (hk:k<=m):∃ j,j < m+1/\tak o j=false:=by
 apply byContradiction
 intro no
 have all:∀ j,j < m+1->∃ v,o[j]?=some (some v):=λj hj=>by
  have t:tak o j=true:=by
   cases x:tak o j with
   | true=>rfl
   | false=>exact absurd ⟨j,hj,x⟩ no
  unfold tak at t
  rw [getD,dif_pos (by rw [L.sz];exact hj)] at t
  rw [Array.getElem?_eq_getElem (by rw [L.sz];exact hj)]
  cases x:o[j]'(by rw [L.sz];exact hj) with
  | none=>simp [x] at t
  | some v=>exact ⟨v,rfl⟩
 have nd:((range (m+1)).map λj=>((o[j]?).bind id).getD 0).Nodup:=by
  unfold List.Nodup
  rw [List.pairwise_map]
  refine imp_of_mem ?_ List.nodup_range
  intro a b ha hb ne e
  obtain ⟨v,hv⟩:=all a (mem_range.mp ha)
  obtain ⟨v',cx⟩:=all b (mem_range.mp hb)
  rw [hv,cx] at e
  have e:v=v':=e
  subst e
  exact ne (L.one a b v hv cx)
 have:=ef' k _ nd λx hx=>by
  obtain ⟨j,hj,rfl⟩:=mem_map.mp hx
  obtain ⟨v,hv⟩:=all j (mem_range.mp hj)
  rw [hv]
  exact L.old j v hv
 rw [length_map,length_range] at this
 omega
theorem Laid.step {m:Nat} (R:Round m){hs:List Int}{o:Array (Option Nat)}{k:Nat} (L:Laid m hs o k) (hk:k<=m):∃ j,layClean.free m o (turns m) (bits (hs.getD k 0) % (m+1)) (bits (hs.getD k 0))=some j/\Laid m hs (o.setIfInBounds j (some k)) (k+1):=by
 rcases ln' (m:=m) (o:=o) (h:=hs.getD k 0) (turns m) 0 _ _ rfl with ⟨K,_,k2,k3,k4⟩ | full
 ·refine ⟨_,k2,?_⟩
  have hj:sl m (hs.getD k 0) K < o.size:=by
   rw [L.sz]
   have:=(gY' m (hs.getD k 0) K).1
   unfold sl
   omega
  have free:o[sl m (hs.getD k 0) K]?=some none:=by
   unfold tak at k3
   rw [getD_eq_getD_getElem?,Array.getElem?_eq_getElem hj] at k3
   rw [Array.getElem?_eq_getElem hj]
   cases x:o[sl m (hs.getD k 0) K] with
   | none=>rfl
   | some v=>rw [x] at k3;cases k3
  have get:∀ i,(o.setIfInBounds (sl m (hs.getD k 0) K) (some k))[i]?=if sl m (hs.getD k 0) K=i then some (some k) else o[i]?:=λi=>by
   rw [Array.getElem?_setIfInBounds]
   split
   ·rename_i e
    subst e
    simp [hj]
   ·rfl
  have more:∀ i,tak o i=true->tak (o.setIfInBounds (sl m (hs.getD k 0) K) (some k)) i=true:=λi hi=>by
   unfold tak at hi ⊢
   rw [getD_eq_getD_getElem?] at hi ⊢
   rw [get]
   split
   ·rfl
   ·exact hi
  refine ⟨by rw [Array.size_setIfInBounds];exact L.sz,λj v e=>?_,λj j' v e e'=>?_,λv hv=>?_⟩
  ·rw [get] at e
   split at e
   ·cases e;omega
   ·have:=L.old j v e;omega
  ·rw [get] at e e'
   split at e
   ·cases e
    split at e'
    ·omega
    ·have:=L.old j' k e';omega
   ·split at e'
    ·cases e'
     have:=L.old j k e;omega
    ·exact L.one j j' v e e'
  ·by_cases z:v=k
   ·subst z
    exact ⟨_,K,by rw [get,if_pos rfl],rfl,λc' aD=>more _ (k4 c' (zero_le _) aD)⟩
   ·obtain ⟨j,c,e1,e2,e3⟩:=L.way v (by omega)
    refine ⟨j,c,?_,e2,λc' aD=>more _ (e3 c' aD)⟩
    rw [get,if_neg ?_]
    ·exact e1
    ·intro e
     subst e
     rw [free] at e1
     cases e1
 ·obtain ⟨j,hj,tj⟩:=L.room hk
  obtain ⟨n,n1,n2⟩:=nc' R (hs.getD k 0) hj
  have:=full n (by unfold turns;omega)
  rw [n2,tj] at this
  cases this
theorem kC' {m:Nat} (R:Round m) (hs:List Int) (hm:hs.length<=m):∃ o,layClean m hs.toArray=some o/\Laid m hs o hs.length:=by
 unfold layClean
 rw [← Array.foldl_toList]
 have aI:∀ (l pre:List Int) (o:Array (Option Nat)),hs=pre++l->Laid m hs o pre.length->∃ o',List.foldl (λag h=>do
   let (owner,k) ← ag
   let j ← layClean.free m owner (turns m) (bits h % (m+1)) (bits h)
   pure (owner.setIfInBounds j (some k),k+1)) (some (o,pre.length)) l=some (o',hs.length)/\Laid m hs o' hs.length:=by
  intro l
  induction l with
  | nil =>
   intro pre o e L
   rw [append_nil] at e
   subst e
   exact ⟨o,rfl,L⟩
  | cons h l ih =>
   intro pre o e L
   have gk:hs.getD pre.length 0=h:=by rw [e,getD_eq_getElem?_getD];simp
   have lk:pre.length<=m:=by
    have:=congrArg length e
    simp at this
    omega
   obtain ⟨j,j1,j2⟩:=L.step R lk
   rw [gk] at j1
   obtain ⟨o',h1,h2⟩:=ih (pre++[h]) (o.setIfInBounds j (some pre.length)) (by rw [e];simp) (by simpa using j2)
   refine ⟨o',?_,h2⟩
   rw [foldl_cons,← h1]
   congr 1
   show (layClean.free m o (turns m) (bits h % (m+1)) (bits h)).bind _=_
   rw [j1]
   simp
 have aN:∀ (j v:Nat),(Array.replicate (m+1) (none:Option Nat))[j]?=some (some v)->False:=λj v e=>by
  rw [Array.getElem?_replicate] at e
  split at e
  ·cases e
  ·cases e
 obtain ⟨o',h1,h2⟩:=aI hs [] (Array.replicate (m+1) none) rfl ⟨by simp,λj v e=>(aN j v e).elim,λj j' v e=>(aN j v e).elim,λv hv=>absurd hv (not_lt_zero _)⟩
 exact ⟨o',by
  have:=congrArg (Option.map (·.1)) h1
  exact this,h2⟩
theorem pR' {es:Array (Int×Value)}{m:Nat} (R:Round m) (few:(m=31/\es.size<=18)\/(m=127/\es.size<=76)\/(m=511/\es.size<=300)) (finger moves:Nat) (led:Bool):∃ t bH,laid m finger moves led true (es.map (·.1))=some (t,bH)/\(bH.filterMap (es[·]?)).size=es.size/\TabOk t (bH.filterMap (es[·]?))/\t.mask=m/\t.led=led ∧
  (∀ x,x∈bH.filterMap (es[·]?)↔x∈es)/\bH.toList.Perm (range es.size):=by
 obtain ⟨o,h1,L⟩:=kC' R (es.map (·.1)).toList (by simp;omega)
 rw [Array.toArray_toList] at h1
 have nl:(es.map (·.1)).toList.length=es.size:=by simp
 rw [nl] at L
 obtain ⟨live,dG⟩:∃ live:List (Nat×Nat),live=(range (m+1)).filterMap λj=>(o.getD j none).map (j,·):=⟨_,rfl⟩
 have mem:∀ j v,(j,v)∈live↔o[j]?=some (some v):=λj v=>by
  rw [dG,mem_filterMap]
  constructor
  ·rintro ⟨a,ha,e⟩
   rw [getD_eq_getD_getElem?] at e
   cases x:o[a]? with
   | none=>rw [x] at e;cases e
   | some w =>
    rw [x] at e
    cases w with
    | none=>cases e
    | some w=>cases e;exact x
  ·intro e
   have:=(Array.getElem?_eq_some_iff.mp e).1
   refine ⟨j,mem_range.mpr (by rw [L.sz] at this;exact this),?_⟩
   rw [getD_eq_getD_getElem?,e]
   rfl
 have ris:live.Pairwise λa b=>a.1 < b.1:=by
  rw [dG,List.pairwise_filterMap]
  refine List.Pairwise.imp ?_ List.pairwise_lt_range
  intro a b lt x hx y hy
  cases e:o.getD a none with
  | none=>rw [e] at hx;cases hx
  | some v =>
   rw [e] at hx
   cases hx
   cases e':o.getD b none with
   | none=>rw [e'] at hy;cases hy
   | some v'=>rw [e'] at hy;cases hy;exact lt
 have lr:(live.map (·.2)).Nodup:=by
  unfold List.Nodup
  rw [List.pairwise_map]
  refine imp_of_mem ?_ ris
  intro a b ha hb lt e
  have h1:=(mem a.1 a.2).mp ha
  have h2:=(mem b.1 b.2).mp hb
  rw [e] at h1
  have:=L.one _ _ _ h1 h2
  omega
 have lo:live.length=es.size:=by
  refine Nat.le_antisymm ?_ ?_
  ·have:=ef' es.size (live.map (·.2)) lr λx hx=>by
    obtain ⟨q,hq,rfl⟩:=mem_map.mp hx
    exact L.old q.1 q.2 ((mem _ _).mp hq)
   simpa using this
  ·have:=jC' es.size (live.map (·.2)) λv hv=>by
    obtain ⟨j,c,e,_⟩:=L.way v hv
    exact mem_map.mpr ⟨(j,v),(mem j v).mpr e,rfl⟩
   simpa using this
 have low:∀ q∈live,q.2 < es.size:=λq hq=>L.old q.1 q.2 ((mem _ _).mp hq)
 have aG:((live.map (·.2)).toArray.filterMap (es[·]?)).toList=live.map λq=>es[q.2]?.getD (0,Value.none):=by
  rw [Array.toList_filterMap]
  show (live.map (·.2)).filterMap (es[·]?)=_
  clear lo lr ris mem dG
  induction live with
  | nil=>rfl
  | cons q live ih =>
   have hq:=low q mem_cons_self
   rw [map_cons,filterMap_cons,Array.getElem?_eq_getElem hq,map_cons,Array.getElem?_eq_getElem hq]
   rw [ih λq hq=>low q (mem_cons_of_mem _ hq)]
   rfl
 refine ⟨{ mask:=m,place:=(live.map (·.1)).toArray,dummies:=#[],finger,led,moves,plain:=true },(live.map (·.2)).toArray,?_,?_,?_,rfl,rfl,λx=>?_,?_⟩
 ·unfold laid
  rw [h1]
  show some _=some _
  rw [dG]
 ·rw [← length_toList,aG,length_map,lo]
 ·have vN:((live.map (·.2)).toArray.filterMap (es[·]?)).size=live.length:=by rw [← length_toList,aG,length_map]
  have vO:∀ i (h1:i < ((live.map (·.2)).toArray.filterMap (es[·]?)).size) (h2:i < live.length),((live.map (·.2)).toArray.filterMap (es[·]?))[i]=es[live[i].2]?.getD (0,Value.none):=λi h1 h2=>by
   rw [← Array.getElem_toList]
   have:((live.map (·.2)).toArray.filterMap (es[·]?)).toList[i]'(by rw [length_toList];exact h1)=(live.map λq=>es[q.2]?.getD (0,Value.none))[i]'(by simpa using h2):=by
    congr 1
   rw [this,getElem_map]
  refine ⟨rfl,λi j hi hj lt=>?_,?_,λi hi=>?_,⟨?_,?_⟩,rfl,λi h1 h2=>?_⟩
  ·simp at hi hj
   simp only [List.getElem_toArray,getElem_map]
   exact (List.pairwise_iff_getElem.mp ris) i j hi hj lt
  ·rw [vN];simp
  ·simp at hi
   simp only [List.getElem_toArray,getElem_map]
   have:=(mem live[i].1 live[i].2).mp (getElem_mem hi)
   have:=(Array.getElem?_eq_some_iff.mp this).1
   rw [L.sz] at this
   show _<=m
   omega
  ·simp;omega
  ·have ll:(live.map (·.1)).toArray.size=live.length:=by simp
   show m=511\/(m=127/\(live.map (·.1)).toArray.size<=76)\/(m=31/\(live.map (·.1)).toArray.size<=18)\/(m=7/\_)
   rcases few with z | z | z
   ·exact .inr (.inr (.inl ⟨z.1,by rw [ll];omega⟩))
   ·exact .inr (.inl ⟨z.1,by rw [ll];omega⟩)
   ·exact .inl z.1
  ·have lA:i < live.length:=by simpa using h2
   rw [vO i h1 lA]
   simp only [List.getElem_toArray,getElem_map]
   have m1:=(mem live[i].1 live[i].2).mp (getElem_mem lA)
   have v1:=low live[i] (getElem_mem lA)
   obtain ⟨j,c,e1,e2,e3⟩:=L.way live[i].2 v1
   have:j=live[i].1:=L.one _ _ _ e1 m1
   subst this
   have hh:(es.map (·.1)).toList.getD live[i].2 0=es[live[i].2].1:=by
    rw [getD_eq_getElem?_getD]
    simp [v1]
   rw [hh] at e2 e3
   rw [Array.getElem?_eq_getElem v1]
   refine ⟨c,e2,λc' aD=>?_⟩
   have tk:=e3 c' aD
   unfold tak at tk
   have lt:=(gY' m es[live[i].2].1 c').1
   have lt:sl m es[live[i].2].1 c' < o.size:=by rw [L.sz];unfold sl;omega
   rw [getD,dif_pos lt] at tk
   show sl m es[live[i].2].1 c'∈_
   cases x:o[sl m es[live[i].2].1 c'] with
   | none=>simp [x] at tk
   | some v =>
    have:(sl m es[live[i].2].1 c',v)∈live:=(mem _ _).mpr (by rw [Array.getElem?_eq_getElem lt,x])
    simp only [List.mem_toArray,mem_map]
    exact ⟨_,this,rfl⟩
 ·rw [← Array.mem_toList_iff,aG,mem_map]
  constructor
  ·rintro ⟨q,hq,rfl⟩
   rw [Array.getElem?_eq_getElem (low q hq)]
   exact Array.getElem_mem _
  ·intro hx
   obtain ⟨v,hv,rfl⟩:=Array.getElem_of_mem hx
   obtain ⟨j,c,e,_⟩:=L.way v hv
   refine ⟨(j,v),(mem j v).mpr e,?_⟩
   dsimp only
   rw [Array.getElem?_eq_getElem hv]
   rfl
 ·show (live.map (·.2)).Perm _
  refine (List.perm_ext_iff_of_nodup lr List.nodup_range).mpr λv=>⟨λh=>?_,λh=>?_⟩
  ·obtain ⟨q,hq,rfl⟩:=mem_map.mp h
   exact mem_range.mpr (low q hq)
  ·obtain ⟨j,c,e,_⟩:=L.way v (mem_range.mp h)
   exact mem_map.mpr ⟨(j,v),(mem j v).mpr e,rfl⟩
end DL
namespace DL
open PySem PySem.W PySem.Spec PyProof.Rows L2
mutual
def KV (h:Heap):D->Value->Prop
 | .int i,u=>∃ t,u=.int i t
 | .tup ds,u=>∃ a o ac e,u=.ref a/\h.get? a=some o/\o.cls=.type "tuple"/\o.data=.seq (ac:List Value).toArray e/\KVs h ds ac
 | _,_=>False
def KVs (h:Heap):List D->List Value->Prop
 | [],[]=>True
 | d::ds,u::us=>KV h d u/\KVs h ds us
 | _,_=>False
end
mutual
noncomputable def kyB:D->Bool
 | .int _=>true
 | .tup ds=>kyA ds
 | _=>false
noncomputable def kyA:List D->Bool
 | []=>true
 | d::ds=>kyB d&&kyA ds
end
section
variable {X:Cx}{aa:List (Addr×Obj)}{U:L2.St}{H:Hp}{s:Shared}
mutual
theorem l9' (I:Inv X aa U H s):∀ (d:D) (x:V) (u:Value),kyB d=true->Is X.K H d x->RelV x u->KV s.heap d u
 | .int i,x,u,_,h,r=>by
  rw [an' h] at r
  obtain ⟨t,rfl⟩:=r
  rw [KV]
  exact ⟨t,rfl⟩
 | .tup ds,x,u,ky,h,r=>by
  obtain ⟨a,xs,rfl,h1,h2⟩:=au' h
  cases r
  obtain ⟨ac,r1,t1,_⟩:=I.tuple h1
  obtain ⟨o,e1,e2,n,e3⟩:=t1
  rw [kyB] at ky
  rw [KV]
  exact ⟨a,o,ac,n,rfl,e1,e2,e3,nf' I ds xs ac ky h2 r1⟩
 | .non,_,_,ky,_,_=>by simp [kyB] at ky
 | .bl _,_,_,ky,_,_=>by simp [kyB] at ky
 | .str _,_,_,ky,_,_=>by simp [kyB] at ky
 | .lst _,_,_,ky,_,_=>by simp [kyB] at ky
theorem nf' (I:Inv X aa U H s):∀ (ds:List D) (xs:List V) (us:List Value),kyA ds=true->IsA X.K H ds xs->Vals xs us->KVs s.heap ds us
 | [],xs,us,_,h,r=>by
  have:=h.nil_inv;subst this
  cases r
  rw [KVs];trivial
 | d::ds,xs,us,ky,h,r=>by
  obtain ⟨x,xr,rfl,h1,h2⟩:=h.cons_inv
  cases r with
  | cons r1 r2 =>
   rw [kyA,and_eq_true] at ky
   rw [KVs]
   exact ⟨l9' I d x _ ky.1 h1 r1,nf' I ds xr _ ky.2 h2 r2⟩
end
end
section
variable {prog:Program}{w:World}{E:Value->Shared->Prop}
mutual
noncomputable def hD:D->Int
 | .int i=>hashInt i
 | .tup ds=>reduceHash (tupleHashOf (hDs ds))
 | _=>0
noncomputable def hDs:List D->List Int
 | []=>[]
 | d::ds=>hD d::hDs ds
end
mutual
theorem lo':∀ (d:D) (u:Value) (A:Around) (s:Shared) (Q:Int->Shared->Prop),KV s.heap d u->A.units+dep d < cLine->(∀ tk,Q (hD d) { s with toks:=tk })->wpAny (model prog w) A (pyHash u) Q E s
 | .int i,u,A,s,Q,x,hu,q=>by
  rw [KV] at x
  obtain ⟨t,rfl⟩:=x
  exact wpAny_pyHash_int (by have:=q (s.toks+1);rw [hD] at this;exact this)
 | .tup ds,u,A,s,Q,x,hu,q=>by
  rw [KV] at x
  obtain ⟨a,o,ac,e,rfl,x1,x2,x3,x4⟩:=x
  rw [dep] at hu
  refine pyHash_slot (T := "tuple") ⟨o,x1,x2⟩ F.slot_tuple_hash F.entry_tuple_hash (F.args_tuple_hash_1 _) (beq_builtin_none _) (.inr (by omega)) ?_
  refine wpAny_bind (m:=tupleItemsOf (.ref a)) (wpAny_tupleItemsOf x1 x3 (wpAny_bind ?_))
  rw [← forIn_toList]
  refine jE' ds ac A.in1 s #[] _ x4 (by show A.units+1+_ < _;omega) λtk b hb=>?_
  refine wpAny_bind (m:=mkInt (tupleHashOf b.toList)) (wpAny_mkInt (wpAny_pure ⟨_,_,rfl,?_⟩))
  rw [hb]
  have:=q (tk+1)
  rw [hD] at this
  exact this
 | .non,_,_,_,_,x,_,_=>by simp [KV] at x
 | .bl _,_,_,_,_,x,_,_=>by simp [KV] at x
 | .str _,_,_,_,_,x,_,_=>by simp [KV] at x
 | .lst _,_,_,_,_,x,_,_=>by simp [KV] at x
theorem jE':∀ (ds:List D) (us:List Value) (A:Around) (s:Shared) (b:Array Int) (Q:Array Int->Shared->Prop),KVs s.heap ds us->A.units+depA ds < cLine->(∀ tk b',b'.toList=b.toList++hDs ds->Q b' { s with toks:=tk }) →
  wpAny (model prog w) A (forIn us b λx r=>do let h ← pyHash x;pure unit;pure (yield (r.push h))) Q E s
 | [],us,A,s,b,Q,x,hu,q=>by
  cases us with
  | cons u us=>simp [KVs] at x
  | nil =>
   rw [forIn_nil]
   exact wpAny_pure (q s.toks b (by simp [hDs]))
 | d::ds,us,A,s,b,Q,x,hu,q=>by
  cases us with
  | nil=>simp [KVs] at x
  | cons u us =>
   rw [KVs] at x
   rw [depA] at hu
   rw [forIn_cons]
   refine wpAny_bind (wpAny_bind (lo' d u A s _ x.1 (by omega) λtk=>wpAny_bind (wpAny_pure (wpAny_pure ?_))))
   exact jE' ds us A { s with toks:=tk } _ Q x.2 (by omega) λdX b' hb=>q dX b' (by rw [hb,hDs];simp)
end
mutual
theorem gq':∀ (d:D) (u:Value) (n:Nat) (A:Around) (s:Shared) (Q:Bool->Shared->Prop),KV s.heap d u->dep d<=n->Q true s->wpAny (model prog w) A (eqIsQuiet n u) Q E s
 | .int i,u,n,A,s,Q,x,hn,q=>by
  rw [KV] at x
  obtain ⟨t,rfl⟩:=x
  exact wpAny_of_eq (eqIsQuiet_byValue n rfl) q
 | .tup ds,u,n,A,s,Q,x,hn,q=>by
  rw [KV] at x
  obtain ⟨a,o,ac,e,rfl,x1,x2,x3,x4⟩:=x
  rw [dep] at hn
  obtain ⟨n,rfl⟩:∃ k,n=k+1:=⟨n - 1,by omega⟩
  have hT:s.TypeIs (.ref a) "tuple":=⟨o,x1,x2⟩
  unfold eqIsQuiet
  refine wpAny_bind (wpAny_specialOf hT F.slot_tuple_eq.lookup ?_)
  refine wpAny_bind (m:=isInstance (.ref a) (.type "tuple")) (wpAny_isInstance hT isSubtype_tuple_tuple ?_)
  simp only [Bool.not_true,false_eq_true,if_false]
  refine wpAny_bind (wpAny_seqItems x1 x3 (wpAny_bind ?_))
  show wpAny _ _ (forIn ac.toArray _ _) _ _ s
  rw [← forIn_toList]
  refine ik' ds ac n A s _ x4 (by omega) ?_
  exact wpAny_pure q
 | .non,_,_,_,_,_,x,_,_=>by simp [KV] at x
 | .bl _,_,_,_,_,_,x,_,_=>by simp [KV] at x
 | .str _,_,_,_,_,_,x,_,_=>by simp [KV] at x
 | .lst _,_,_,_,_,_,x,_,_=>by simp [KV] at x
theorem ik':∀ (ds:List D) (us:List Value) (n:Nat) (A:Around) (s:Shared) (Q:Option Bool×PUnit->Shared->Prop),KVs s.heap ds us->depA ds<=n->Q (none,()) s →
  wpAny (model prog w) A (forIn us (none,()) λy r=>do
   let __do_lift ← eqIsQuiet n y
   if (!__do_lift)=true then pure (ForInStep.done (some false,())) else do pure unit;pure (yield (none,()))) Q E s
 | [],us,n,A,s,Q,x,hn,q=>by
  cases us with
  | cons u us=>simp [KVs] at x
  | nil =>
   rw [forIn_nil]
   exact wpAny_pure q
 | d::ds,us,n,A,s,Q,x,hn,q=>by
  cases us with
  | nil=>simp [KVs] at x
  | cons u us =>
   rw [KVs] at x
   rw [depA] at hn
   rw [forIn_cons]
   refine wpAny_bind (wpAny_bind (gq' d u n A s _ x.1 (by omega) ?_))
   rw [if_neg (by simp)]
   refine wpAny_bind (wpAny_pure (wpAny_pure ?_))
   exact ik' ds us n A s Q x.2 (by omega) q
end
mutual
theorem gr':∀ (d:D) (u:Value) (n:Nat) (A:Around) (s:Shared) (Q:Bool->Shared->Prop),KV s.heap d u->dep d<=n->Q false s->wpAny (model prog w) A (ofAClassStatement n u) Q E s
 | .int i,u,n,A,s,Q,x,hn,q=>by
  rw [KV] at x
  obtain ⟨t,rfl⟩:=x
  unfold ofAClassStatement
  exact wpAny_pure q
 | .tup ds,u,n,A,s,Q,x,hn,q=>by
  rw [KV] at x
  obtain ⟨a,o,ac,e,rfl,x1,x2,x3,x4⟩:=x
  rw [dep] at hn
  obtain ⟨n,rfl⟩:∃ k,n=k+1:=⟨n - 1,by omega⟩
  have look:Looks (model prog w) s.heap (typeOf (.ref a)) o.cls:=(Looks.ld x1).andThen .now
  rw [x2] at look
  unfold ofAClassStatement
  refine wpAny_bind (look.here ?_)
  dsimp only
  rw [if_pos (by decide)]
  refine wpAny_bind (wpAny_pure ?_)
  simp only [Bool.not_true,false_eq_true,if_false]
  refine wpAny_bind (wpAny_seqItems x1 x3 (wpAny_bind ?_))
  show wpAny _ _ (forIn ac.toArray _ _) _ _ s
  rw [← forIn_toList]
  refine il' ds ac n A s _ x4 (by omega) ?_
  exact wpAny_pure q
 | .non,_,_,_,_,_,x,_,_=>by simp [KV] at x
 | .bl _,_,_,_,_,_,x,_,_=>by simp [KV] at x
 | .str _,_,_,_,_,_,x,_,_=>by simp [KV] at x
 | .lst _,_,_,_,_,_,x,_,_=>by simp [KV] at x
theorem il':∀ (ds:List D) (us:List Value) (n:Nat) (A:Around) (s:Shared) (Q:Option Bool×PUnit->Shared->Prop),KVs s.heap ds us->depA ds<=n->Q (none,()) s →
  wpAny (model prog w) A (forIn us (none,()) λy r=>do
   let __do_lift ← ofAClassStatement n y
   if __do_lift=true then pure (ForInStep.done (some true,())) else do pure unit;pure (yield (none,()))) Q E s
 | [],us,n,A,s,Q,x,hn,q=>by
  cases us with
  | cons u us=>simp [KVs] at x
  | nil =>
   rw [forIn_nil]
   exact wpAny_pure q
 | d::ds,us,n,A,s,Q,x,hn,q=>by
  cases us with
  | nil=>simp [KVs] at x
  | cons u us =>
   rw [KVs] at x
   rw [depA] at hn
   rw [forIn_cons]
   refine wpAny_bind (wpAny_bind (gr' d u n A s _ x.1 (by omega) ?_))
   rw [if_neg Bool.false_ne_true]
   refine wpAny_bind (wpAny_pure (wpAny_pure ?_))
   exact il' ds us n A s Q x.2 (by omega) q
end
mutual
theorem jF':∀ (d:D) (u:Value) (n:Nat) (A:Around) (s:Shared) (Q:Bool->Shared->Prop),KV s.heap d u->dep d<=n->Q true s->wpAny (model prog w) A (hashByValue n u) Q E s
 | .int i,u,n,A,s,Q,x,hn,q=>by
  rw [KV] at x
  obtain ⟨t,rfl⟩:=x
  unfold hashByValue
  exact wpAny_pure q
 | .tup ds,u,n,A,s,Q,x,hn,q=>by
  rw [KV] at x
  obtain ⟨a,o,ac,e,rfl,x1,x2,x3,x4⟩:=x
  rw [dep] at hn
  obtain ⟨n,rfl⟩:∃ k,n=k+1:=⟨n - 1,by omega⟩
  have hT:s.TypeIs (.ref a) "tuple":=⟨o,x1,x2⟩
  unfold hashByValue
  refine wpAny_bind (wpAny_specialOf hT F.slot_tuple_hash.lookup ?_)
  refine wpAny_bind (m:=seqItems? (.ref a)) (wpAny_seqItems x1 x3 (wpAny_bind ?_))
  show wpAny _ _ (forIn ac.toArray _ _) _ _ s
  rw [← forIn_toList]
  refine im' ds ac n A s _ x4 (by omega) ?_
  exact wpAny_pure q
 | .non,_,_,_,_,_,x,_,_=>by simp [KV] at x
 | .bl _,_,_,_,_,_,x,_,_=>by simp [KV] at x
 | .str _,_,_,_,_,_,x,_,_=>by simp [KV] at x
 | .lst _,_,_,_,_,_,x,_,_=>by simp [KV] at x
theorem im':∀ (ds:List D) (us:List Value) (n:Nat) (A:Around) (s:Shared) (Q:Option Bool×PUnit->Shared->Prop),KVs s.heap ds us->depA ds<=n->Q (none,()) s →
  wpAny (model prog w) A (forIn us (none,()) λy r=>do
   let __do_lift ← hashByValue n y
   if (!__do_lift)=true then pure (ForInStep.done (some false,())) else do pure unit;pure (yield (none,()))) Q E s
 | [],us,n,A,s,Q,x,hn,q=>by
  cases us with
  | cons u us=>simp [KVs] at x
  | nil =>
   rw [forIn_nil]
   exact wpAny_pure q
 | d::ds,us,n,A,s,Q,x,hn,q=>by
  cases us with
  | nil=>simp [KVs] at x
  | cons u us =>
   rw [KVs] at x
   rw [depA] at hn
   rw [forIn_cons]
   refine wpAny_bind (wpAny_bind (jF' d u n A s _ x.1 (by omega) ?_))
   rw [if_neg (by simp)]
   refine wpAny_bind (wpAny_pure (wpAny_pure ?_))
   exact im' ds us n A s Q x.2 (by omega) q
end
end
end DL
namespace DL
open PySem PySem.W PySem.Spec PyProof.Rows L2 PySem.SetTable
section
variable {prog:Program}{w:World}{A:Around}{E:Value->Shared->Prop}{s:Shared}
theorem TabOk.fits {t:SetTable}{es:Array (Int×Value)} (T:TabOk t es):t.fits es.size=true:=by
 have:=T.few
 have:=T.sz
 unfold SetTable.fits SetTable.fill
 rw [T.nd]
 simp [T.sz]
 omega
theorem TabOk.gave {t:SetTable}{es:Array (Int×Value)} (T:TabOk t es):t.gaveWay=false:=by
 unfold gaveWay
 rcases T.few.2 with h | h | h | h
 ·rw [h];decide
 ·rw [h.1];decide
 ·rw [h.1];decide
 ·rw [h.1];decide
theorem ng' {a:Addr}{o:Obj}{es:Array (Int×Value)}{ep:Nat}{t:SetTable} (ho:s.heap.get? a=some o) (dY:o.data=.set es ep t) (T:TabOk t es){x:Value}{h:Int}{eqf:Nat->Bool}
  (hG:∀ i (hi:i < es.size),∃ b,es[i].2=.ref b) (eq:∀ i (hi:i < es.size),es[i].1=h->PySem.SeqAt.EqAt A s es[i].2 x (eqf i))
  (seen:t.led=false->∀ Q:Bool->Shared->Prop,Q false s->wpAny (model prog w) A (searchCouldBeSeen x ((es.filter (·.1 == h)).toList.map (·.2))) Q E s)
  {K:Nat} (hK:sl t.mask h K∉t.place) (hk:∀ k,k < K->sl t.mask h k∈t.place) (zo:K < 10*(t.mask+14)){Q:SetFound->Shared->Prop}
  (lD:∀ i (hi:i < es.size),es[i].1=h->eqf i=true->Q (.there none) s) (free:(∀ i (hi:i < es.size),es[i].1=h->eqf i=false)->Q (.free (sl t.mask h K) false) s) :
  ∀ (f k:Nat) (bI:Option Probe),k<=K->K - k < f->bI.getD (t.probeStart h)=pth t.mask h k->(∀ bn,bn < k->∀ j (hj:j < es.size) (bz:j < t.place.size),t.place[j]=sl t.mask h bn->es[j].1=h->eqf j=false) →
   wpAny (model prog w) A (setSearchFrom a x h true f bI) Q E s:=by
 intro f
 induction f with
 | zero=>intro k bI h1 h2;omega
 | succ f ih =>
  intro k bI h1 h2 hs fD
  unfold setSearchFrom
  refine wpAny_bind (wpAny_setState_of ho dY T.fits ?_)
  dsimp only
  rw [T.gave,if_neg Bool.false_ne_true]
  have pr:∀ m,probe.go t (hA es) h (10*turns t.mask) (pth t.mask h k)=some m->t.probe (W.hashAt es) h (bI.getD (t.probeStart h))=some m:=λm e=>by
   rw [hs]
   exact e
  rcases jD' T hK hk (10*turns t.mask) k h1 (by unfold turns;omega) with ⟨k',i,hi,bc,a1,a2,a3,a4,a5,a6⟩ | ⟨a1,a2⟩
  ·have e:=pr _ a5
   change t.probe _ h _=_ at e
   have e':t.probe (λi=>(es[i]?.map (·.1)).getD 0) h (bI.getD (t.probeStart h))=some (.candidate (sl t.mask h k') i (pth t.mask h (k'+1))):=e
   show wpAny _ _ (match t.probe (λi=>(es[i]?.map (·.1)).getD 0) h (bI.getD (t.probeStart h)) with | some met=>_ | _=>_) _ _ _
   rw [e']
   dsimp only
   obtain ⟨b,eb⟩:=hG i hi
   have gi:es[i]?=some es[i]:=Array.getElem?_eq_getElem hi
   have vP:t.slot (sl t.mask h k')=.live i:=by rw [← a3];exact ii' T.ris bc
   have qc:=eq i hi a4
   rw [eb] at qc
   have ask:t.led=true\/t.led=false:=by cases t.led<;>simp
   rcases ask with led | led
   all_goals
    first
     | (rw [led,Bool.not_true,if_neg Bool.false_ne_true])
     | (rw [led,Bool.not_false,if_pos rfl];refine wpAny_bind (seen led _ ?_);rw [if_neg Bool.false_ne_true])
    rw [gi]
    dsimp only
    rw [eb]
    refine wpAny_bind (wpAny_holding (qc prog w _ _ (wpAny_bind (wpAny_setState_of ho dY T.fits ?_))))
    dsimp only
    cases c:eqf i with
    | true =>
     rw [if_pos (by rfl)]
     exact wpAny_pure (lD i hi a4 c)
    | false =>
     rw [if_neg (by decide)]
     have sm:t.sameMemory t.moves t.mask=some true:=by unfold sameMemory;simp
     rw [sm]
     dsimp only
     rw [if_pos rfl,vP]
     dsimp only
     rw [gi]
     dsimp only
     rw [eb]
     refine wpAny_bind (wpAny_isSame_ref_self (wpAny_bind (wpAny_pure ?_)))
     rw [if_pos rfl]
     dsimp only
     rw [if_neg Bool.false_ne_true]
     refine ih (k'+1) _ (by omega) (by omega) rfl λbn b1 j hj bz ej hh=>?_
     by_cases z1:bn < k
     ·exact fD bn z1 j hj bz ej hh
     ·by_cases z2:bn=k'
      ·have:j=i:=by
        rw [z2,← a3] at ej
        rcases lt_trichotomy j i with l | l | l
        ·have:=T.ris j i bz bc l;omega
        ·exact l
        ·have:=T.ris i j bc bz l;omega
       subst this
       exact c
      ·exact absurd hh (a6 bn (by omega) (by omega) j hj bz ej)
  ·have e':t.probe (λi=>(es[i]?.map (·.1)).getD 0) h (bI.getD (t.probeStart h))=some (.empty (sl t.mask h K) none):=pr _ a1
   show wpAny _ _ (match t.probe (λi=>(es[i]?.map (·.1)).getD 0) h (bI.getD (t.probeStart h)) with | some met=>_ | _=>_) _ _ _
   rw [e']
   dsimp only
   refine wpAny_pure (free λi hi hh=>?_)
   have bc:i < t.place.size:=by rw [T.sz];exact hi
   obtain ⟨c,c1,c2⟩:=T.reach i hi bc
   rw [hh] at c1 c2
   have cK:c < K:=by
    rcases lt_trichotomy c K with l | l | l
    ·exact l
    ·subst l
     exact absurd (by rw [c1];exact Array.getElem_mem bc) hK
    ·exact absurd (c2 K l) hK
   by_cases z:c < k
   ·exact fD c z i hi bc c1.symm hh
   ·exact absurd hh (a2 c (by omega) cK i hi bc c1.symm)
end
section
variable {prog:Program}{w:World}{A:Around}{E:Value->Shared->Prop}{s:Shared}
def SetAt (h:Heap) (a:Addr) (led:Bool) (es:Array (Int×Value)):Prop:=∃ o ep t,h.get? a=some o/\o.cls=.type "set"/\o.data=.set es ep t/\TabOk t es/\t.led=led
theorem lp' {h:Heap}{a:Addr}{o:Obj}{es es':Array (Int×Value)}{ep:Nat}{t t':SetTable} (ho:h.get? a=some o) (hd:o.data=.set es ep t):(h.update a (putSet es' t')).get? a=some { o with data:=.set es' (ep+1) t' }:=by
 have e:=putSet_of es' t' hd
 have:=get?_update_self (putSet es' t') ho (by rw [e];rfl)
 rw [e] at this
 exact this
theorem q9' {a:Addr}{led:Bool}{es:Array (Int×Value)}{b:Addr}{h:Int}{eqf:Nat->Bool}{Q:Bool->Shared->Prop} (S:SetAt s.heap a led es) (few:(∀ i (hi:i < es.size),es[i].1=h->eqf i=false)->es.size<=59)
  (hG:∀ i (hi:i < es.size),∃ b,es[i].2=.ref b) (eq:∀ i (hi:i < es.size),es[i].1=h->PySem.SeqAt.EqAt A s es[i].2 (.ref b) (eqf i))
  (seen:∀ Q:Bool->Shared->Prop,Q false s->wpAny (model prog w) A (searchCouldBeSeen (.ref b) ((es.filter (·.1 == h)).toList.map (·.2))) Q E s)
  (value:∀ Q:Bool->Shared->Prop,Q true s->wpAny (model prog w) A (hashByValue 8 (.ref b)) Q E s)
  (old:∀ i (hi:i < es.size),es[i].1=h->eqf i=true->Q false s)
  (new:(∀ i (hi:i < es.size),es[i].1=h->eqf i=false)->∀ h' es',SetAt h' a led es'->(∀ e,e∈es'↔e=(h,.ref b)\/e∈es)->es'.size=es.size+1->KeptBut a s.heap h'->Q true { s with heap:=h' }) :
  wpAny (model prog w) A (setAddHashed a (.ref b) h) Q E s:=by
 have line:600<=sizeLine:=by rw [sizeLine_eq];decide
 obtain ⟨o,ep,t,ho,hc,dY,T,tl⟩:=S
 obtain ⟨K,k1,k2,k3⟩:=T.free h
 have fits:=T.fits
 unfold setAddHashed
 refine wpAny_holding ?_
 unfold setAddHashedIn
 refine wpAny_bind (wpAny_setState_of ho dY fits ?_)
 dsimp only
 rw [if_neg (by simp [byScan,Value.scannable])]
 unfold setSearch
 refine wpAny_bind (ng' ho dY T hG eq (λ_=>seen) k2 k3 k1 (λi hi hh ee=>?_) (λaN=>?_) 100000 0 none (zero_le _) ?_ rfl λbn z=>by omega)
 ·exact wpAny_pure (old i hi hh ee)
 ·have few:=few aN
  dsimp only
  refine wpAny_bind (wpAny_setState_of ho dY fits ?_)
  dsimp only
  obtain ⟨p1,p2,p3,p4,p5,p6,p7,p8,p9,lE,qe⟩:=q8' T (h:=h) (x:=.ref b) k2 k3
  obtain ⟨q,vQ⟩:∃ q,q=t.put (sl t.mask h K):=⟨_,rfl⟩
  rw [← vQ] at p1 p2 p3 p4 p5 p6 p7 p8 p9 lE qe ⊢
  rw [p6,T.pl,if_pos rfl]
  refine wpAny_bind (value _ ?_)
  rw [if_pos rfl]
  have cb:(insertAt es q.2 (h,Value.ref b)).size=es.size+1:=gp' lE _
  refine wpAny_bind (wpAny_storeSet_of ho dY ?_ (by rw [cb];omega))
  have g1:=lp' (es':=insertAt es q.2 (h,Value.ref b)) (t':=q.1) ho dY
  have cf:KeptBut a s.heap (s.heap.update a (putSet (insertAt es q.2 (h,Value.ref b)) q.1)):=λc u ne e=>(get?_update_other _ _ (Ne.symm ne)).trans e
  have dh:∀ e,e∈insertAt es q.2 (h,Value.ref b)↔e=(h,.ref b)\/e∈es:=λe=>lm' lE _ e
  obtain ⟨h1,vR⟩:∃ h1,h1=s.heap.update a (putSet (insertAt es q.2 (h,Value.ref b)) q.1):=⟨_,rfl⟩
  rw [← vR] at g1 cf ⊢
  have fill:q.1.fill=es.size+1:=by
   unfold SetTable.fill
   rw [p1,p9,T.sz]
   rfl
  by_cases full:q.1.tooFull=true
  ·-- laid anew: five things,32 places
   have m7:(t.mask=7/\es.size+1=5)\/(t.mask=31/\es.size+1=19):=by
    unfold tooFull at full
    rw [fill,p5] at full
    simp only [ge_iff_le,decide_eq_true_eq] at full
    have:=T.few
    have:=T.sz
    rcases this with x
    rcases T.few.2 with m | m | m | m
    ·rw [m] at full;omega
    ·rw [m.1] at full;omega
    ·rw [m.1] at full;omega
    ·rw [m.1] at full;omega
   obtain ⟨nm,Rn,sa,fw⟩:∃ nm,Round nm/\sizeAbove (grown (es.size+1))=nm+1/\((nm=31/\es.size+1<=18)\/(nm=127/\es.size+1<=76)\/(nm=511/\es.size+1<=300)):=by
    rcases m7 with z | z
    ·exact ⟨31,round31,by rw [z.2];decide,.inl ⟨rfl,by omega⟩⟩
    ·exact ⟨127,round127,by rw [z.2];decide,.inr (.inl ⟨rfl,by omega⟩)⟩
   rw [if_pos (by simp [full])]
   unfold setRelay
   have lF:q.1.fits (insertAt es q.2 (h,Value.ref b)).size=true:=by
    unfold SetTable.fits
    rw [fill,cb,p5,p9,T.sz]
    rcases m7 with z | z<;>rw [z.1]<;>simp<;>omega
   refine wpAny_bind (wpAny_bind (wpAny_setState_of (s:={ s with heap:=h1 }) g1 rfl lF ?_))
   dsimp only
   rw [sa,if_neg (by omega)]
   obtain ⟨t2,bH,l1,l2,l3,l4,l5,l6,_⟩:=pR' (es:=insertAt es q.2 (h,Value.ref b)) Rn (by rw [cb];exact fw) q.1.finger (q.1.movedTo nm) q.1.led
   have rel:q.1.relaid ((insertAt es q.2 (h,Value.ref b)).map (·.1)) (grown (es.size+1))=some (t2,bH):=by
    unfold relaid
    rw [sa,p6,T.pl]
    exact l1
   rw [rel]
   refine wpAny_bind (wpAny_of_eq (a:=(bH.filterMap ((insertAt es q.2 (h,Value.ref b))[·]?),t2)) ?_ ?_)
   ·show (if ((bH.filterMap ((insertAt es q.2 (h,Value.ref b))[·]?)).size != (insertAt es q.2 (h,Value.ref b)).size)=true then _ else pure _)=_
    rw [l2,bne_self_eq_false,if_neg Bool.false_ne_true]
   ·dsimp only
    refine wpAny_storeSet_of g1 rfl ?_ (by rw [l2,cb];omega)
    refine wpAny_pure (new aN _ _ ⟨_,_,t2,lp' g1 rfl,hc,rfl,l3,by rw [l5,p7,tl]⟩ (λe=>(l6 e).trans (dh e)) (by rw [l2,cb]) λc u ne e=>(get?_update_other _ _ (Ne.symm ne)).trans (cf c u ne e))
  ·rw [if_neg (by simp [full])]
   refine wpAny_pure (new aN h1 _ ⟨_,_,q.1,g1,hc,rfl,⟨p1,p2,p3,p4,?_,by rw [p6];exact T.pl,qe⟩,by rw [p7,tl]⟩ dh cb cf)
   unfold tooFull at full
   rw [fill,p5] at full
   simp only [ge_iff_le,decide_eq_true_eq] at full
   have:=T.sz
   rw [p9,p5]
   refine ⟨by omega,?_⟩
   rcases T.few.2 with m | m | m | m
   ·exact .inl m
   ·refine .inr (.inl ⟨m.1,?_⟩)
    rw [m.1] at full
    omega
   ·refine .inr (.inr (.inl ⟨m.1,?_⟩))
    rw [m.1] at full
    omega
   ·refine .inr (.inr (.inr ⟨m.1,?_⟩))
    rw [m.1] at full
    omega
 ·rcases T.few.2 with m | m | m | m
  ·rw [m] at k1;omega
  ·rw [m.1] at k1;omega
  ·rw [m.1] at k1;omega
  ·rw [m.1] at k1;omega
end
noncomputable def dstep (ag:List D) (d:D):List D:=if ag.any (λe=>deq e d)=true then ag else ag++[d]
noncomputable def dd (ds:List D):List D:=ds.foldl dstep []
theorem nh' (ag:List D) (d:D):ag.length<=(dstep ag d).length:=by
 unfold dstep
 split
 ·exact le_refl _
 ·simp
theorem jG':∀ (ds ag:List D),ag.length<=(ds.foldl dstep ag).length
 | [],ag=>le_refl _
 | d::ds,ag=>le_trans (nh' ag d) (jG' ds _)
theorem pS' (ds:List D){i:Nat} (h:i < ds.length):dd (ds.take (i+1))=dstep (dd (ds.take i)) ds[i]:=by
 unfold dd
 rw [take_succ,foldl_append,getElem?_eq_getElem h]
 rfl
theorem kD' (ds:List D) (i:Nat):(dd (ds.take i)).length<=(dd ds).length:=by
 unfold dd
 conv=>rhs;rw [← List.take_append_drop i ds,foldl_append]
 exact jG' _ _
theorem jH' {d:D}:∀ (ds ag:List D),d∈ds.foldl dstep ag->d∈ag\/d∈ds
 | [],ag,h=>.inl h
 | e::ds,ag,h=>by
  rcases jH' ds _ h with h | h
  ·unfold dstep at h
   split at h
   ·exact .inl h
   ·rcases mem_append.mp h with h | h
    ·exact .inl h
    ·exact .inr (by rw [mem_singleton.mp h];exact mem_cons_self)
  ·exact .inr (mem_cons_of_mem _ h)
theorem fv' {ds:List D}{d:D} (h:d∈dd ds):d∈ds:=by
 rcases jH' ds [] h with h | h
 ·cases h
 ·exact h
section
variable {X:Cx}{aa:List (Addr×Obj)}{U:L2.St}{H:Hp}{s0 s:Shared}{prog:Program}{w:World}{A:Around}{E:Value->Shared->Prop}
def Stn (X:Cx) (H:Hp) (e:Int×Value) (d:D):Prop:=e.1=hD d/\∃ x,Is X.K H d x/\RelV x e.2
def EsOk (X:Cx) (H:Hp) (es:Array (Int×Value)) (L:List D):Prop:=es.size=L.length/\(∀ e∈es,∃ d∈L,Stn X H e d)/\∀ d∈L,∃ e∈es,Stn X H e d
noncomputable def isT:D->Bool
 | .tup _=>true
 | _=>false
theorem gZ' {d:D}{x:V}{u:Value} (ht:isT d=true) (h:Is X.K H d x) (r:RelV x u):∃ b,x=.ref b/\u=.ref b:=by
 cases d<;>simp [isT] at ht
 obtain ⟨a,xs,rfl,h1,h2⟩:=au' h
 cases r
 exact ⟨a,rfl,rfl⟩
theorem Stn.det (I:Inv X aa U H s){e:Int×Value}{d d':D} (h:isT d=true) (h':isT d'=true) (x:Stn X H e d) (y:Stn X H e d'):d=d':=by
 obtain ⟨_,v,a1,a2⟩:=x
 obtain ⟨_,v',b1,b2⟩:=y
 obtain ⟨b,rfl,e1⟩:=gZ' h a1 a2
 obtain ⟨b',rfl,e2⟩:=gZ' h' b1 b2
 rw [e1] at e2
 cases e2
 exact fl' I a1 b1
theorem pT' {x:Value}{d:D} (hx:KV s.heap d x) (dx:dep d<=8):∀ (ys:List Value) (Q:Bool->Shared->Prop),(∀ y∈ys,∃ e,KV s.heap e y/\dep e<=8)->Q false s->wpAny (model prog w) A (searchCouldBeSeen x ys) Q E s:=by
 intro ys Q hy q
 unfold searchCouldBeSeen
 refine wpAny_bind ?_
 have aI:∀ (ys:List Value) (R:Option Bool×PUnit->Shared->Prop) (body:Value->Option Bool×PUnit->Sem (ForInStep (Option Bool×PUnit))),(∀ y∈ys,∀ R':ForInStep (Option Bool×PUnit)->Shared->Prop,R' (.yield (none,())) s->wpAny (model prog w) A (body y (none,())) R' E s)->R (none,()) s →
   wpAny (model prog w) A (forIn ys (none,()) body) R E s:=by
  intro ys R body hb r
  induction ys with
  | nil=>rw [forIn_nil];exact wpAny_pure r
  | cons y ys ih =>
   rw [forIn_cons]
   exact wpAny_bind (hb y mem_cons_self _ (ih λz hz=>hb z (mem_cons_of_mem _ hz)))
 refine aI ys _ _ (λy vS R' r'=>?_) (wpAny_pure q)
 obtain ⟨e,ky,ke⟩:=hy y vS
 dsimp only
 split
 all_goals
  split
  ·exact wpAny_pure r'
  ·refine wpAny_bind (gq' d _ 8 A s _ hx dx ?_)
   rw [if_neg (by simp)]
   refine wpAny_bind (gq' e _ 8 A s _ ky ke ?_)
   rw [if_neg (by simp)]
   refine wpAny_bind (gr' d _ 8 A s _ hx dx ?_)
   rw [if_neg Bool.false_ne_true]
   refine wpAny_bind (gr' e _ 8 A s _ ky ke ?_)
   rw [if_neg Bool.false_ne_true]
   exact wpAny_pure r'
end
section
variable {X:Cx}{aa:List (Addr×Obj)}{U:L2.St}{H:Hp}{s0 s:Shared}{prog:Program}{w:World}{A:Around}{E:Value->Shared->Prop}
def Ext (s0 s:Shared):Prop:=∃ h tk,s={ s0 with heap:=h,toks:=tk }/\∀ b o,s0.heap.get? b=some o->h.get? b=some o
theorem Ext.inv (I:Inv X aa U H s0) (e:Ext s0 s):Inv X aa U H s:=by
 obtain ⟨h,tk,rfl,k⟩:=e
 exact I.kept (t':=tk) k
theorem Ext.next (e:Ext s0 s){h':Heap}{tk:Nat} (k:∀ b o,b < s0.heap.objs.size->s.heap.get? b=some o->h'.get? b=some o):Ext s0 { s with heap:=h',toks:=tk }:=by
 obtain ⟨h,t,rfl,k0⟩:=e
 exact ⟨h',tk,rfl,λb o x=>k b o (lt_size x) (k0 b o x)⟩
def SetOk (ds:List D):Prop:=cmAll ds=true/\ds.all kyB=true/\ds.all isT=true/\depA ds<=8/\(dd ds).length<=28
theorem SetAt.kept {h h':Heap}{a:Addr}{led:Bool}{es:Array (Int×Value)} (S:SetAt h a led es) (k:∀ o,h.get? a=some o->h'.get? a=some o):SetAt h' a led es:=by
 obtain ⟨o,ep,t,r1,r2⟩:=S
 exact ⟨o,ep,t,k _ r1,r2⟩
theorem Stn.up {J:Hp} (hJ:∀ d x,Is X.K J d x->Is X.K H d x){e:Int×Value}{d:D} (h:Stn X J e d):Stn X H e d:=by
 obtain ⟨h1,x,h2,h3⟩:=h
 exact ⟨h1,x,hJ _ _ h2,h3⟩
theorem oA' (I0:Inv X aa U H s0){S It:Addr} (hS:s0.heap.objs.size<=S) (vT:s0.heap.objs.size<=It){fp:List Addr}{n:Nat}{P:Nat->Value->Prop}{St:Nat->Heap->Prop} (W:Walks prog w A.in1 It fp [It] n P St) (qf:S∉fp)
  {J:Hp} (hJ:∀ d x,Is X.K J d x->Is X.K H d x){ds:List D}{zs:List V} (ha:IsA X.K J ds zs) (ok:SetOk ds) (hn:n=ds.length) (hP:∀ i v,P i v->∃ x,zs[i]?=some x/\RelV x v) (hu:A.units+20 < cLine){led:Bool}{R:Result->Shared->Prop} :
  ∀ (k i:Nat) (s:Shared),n - i=k->i<=n->Ext s0 s->St i s.heap->(∃ es,SetAt s.heap S led es/\EsOk X J es (dd (ds.take i))) →
   (∀ s' es,Ext s0 s'->SetAt s'.heap S led es->EsOk X J es (dd ds)->R (.ok (.ret .none)) s') →
   codeAny (model prog w) A (.builtin "set.update.loop" ⟨[.ref S,.ref It],[]⟩) R s:=by
 obtain ⟨cm,ky,ti,dp,few⟩:=ok
 have qg:S≠It:=λe=>qf (by rw [e];exact W.sub It mem_cons_self)
 have nb:∀ b,b < s0.heap.objs.size->b∉[It]:=λb hb h=>by
  rw [mem_singleton.mp h] at hb
  exact absurd vT (Nat.not_le.mpr hb)
 have vU:∀ b,b < s0.heap.objs.size->b≠S:=λb hb h=>by
  rw [h] at hb
  exact absurd hS (Nat.not_le.mpr hb)
 intro k
 induction k with
 | zero =>
  intro i s hk hi ex st hU r
  obtain ⟨es,s1,s2⟩:=hU
  have:i=n:=by omega
  subst this
  refine codeAny_builtin F.entry_set_update_loop ?_;rw [under_plainId F.plain_set_update_loop _]
  refine wpAny_bind (m:=pyNext (.ref It)) (W.done s _ _ st λh' tk keep=>wpAny_pure ?_)
  rw [hn,take_length] at s2
  exact r _ es (ex.next λb o hb x=>keep b o (nb b hb) x) (s1.kept λo x=>keep S o (by simpa using qg) x) s2
 | succ k ih =>
  intro i s hk hi ex st hU r
  obtain ⟨es,s1,s2⟩:=hU
  have lt:i < ds.length:=by omega
  refine codeAny_builtin F.entry_set_update_loop ?_;rw [under_plainId F.plain_set_update_loop _]
  refine wpAny_bind (m:=pyNext (.ref It)) (W.item i s _ _ (by omega) st λv h1 vV pv dF cf=>?_)
  obtain ⟨x,e1,rv⟩:=hP i v pv
  obtain ⟨x',dC,hx⟩:=ha.get (getElem?_eq_getElem lt)
  rw [e1] at dC
  cases dC
  have dm:ds[i]∈ds:=getElem_mem lt
  have td:isT ds[i]=true:=all_eq_true.mp ti _ dm
  have qh:dep ds[i]<=8:=le_trans (b1' dm) dp
  obtain ⟨b,rfl,rfl⟩:=gZ' td hx rv
  have lG:∀ tk,Ext s0 { s with heap:=h1,toks:=tk }:=λtk=>ex.next λb o hb x=>cf b o (nb b hb) x
  have qi:SetAt h1 S led es:=s1.kept λo x=>cf S o (by simpa using qg) x
  have I1:=(lG vV).inv I0
  have lH:=l9' I1 _ _ _ (all_eq_true.mp ky _ dm) (hJ _ _ hx) rv
  refine wpAny_bind (m:=holding [.ref b] (setAdd S (.ref b))) (wpAny_holding ?_)
  unfold setAdd
  refine wpAny_holding (wpAny_bind (lo' _ _ _ _ _ lH (by show A.units+1+_ < _;omega) λtk=>?_))
  have I2:=(lG tk).inv I0
  have ch:∀ k,∃ d',∀ hk:k < es.size,d'∈dd (ds.take i)/\Stn X J es[k] d':=λk=>by
   by_cases hk:k < es.size
   ·obtain ⟨d',m,q⟩:=s2.2.1 es[k] (Array.getElem_mem hk)
    exact ⟨d',λ_=>⟨m,q⟩⟩
   ·exact ⟨.non,λh=>absurd h hk⟩
  have hV:∀ k (hk:k < es.size),(ch k).choose∈dd (ds.take i)/\Stn X J es[k] (ch k).choose:=λk hk=>(ch k).choose_spec hk
  have sub:∀ d'∈dd (ds.take i),d'∈ds:=λd' h=>mem_of_mem_take (fv' h)
  have vW:∀ d'∈dd (ds.take i),cmB d' ds[i]=true:=λd' h=>all_eq_true.mp (all_eq_true.mp cm _ (sub d' h)) _ dm
  have eN:∀ d'∈dd (ds.take i),isT d'=true:=λd' h=>all_eq_true.mp ti _ (sub d' h)
  have jI:∀ d'∈dd (ds.take i),dep d'<=8:=λd' h=>le_trans (b1' (sub d' h)) dp
  have vX:∀ d'∈dd (ds.take i),∀ e,Stn X J e d'->KV h1 d' e.2:=λd' h e q=>by
   obtain ⟨_,y,q1,q2⟩:=q
   exact l9' I2 _ _ _ (all_eq_true.mp ky _ (sub d' h)) (hJ _ _ q1) q2
  have aN:(∀ k (hk:k < es.size),es[k].1=hD ds[i]->deq (ch k).choose ds[i]=false)->(dd (ds.take i)).any (λe=>deq e ds[i])=false:=λhz=>by
   rw [Bool.eq_false_iff]
   intro h
   obtain ⟨d',m,q⟩:=any_eq_true.mp h
   obtain ⟨e,m1,q1⟩:=s2.2.2 d' m
   obtain ⟨k,hk,rfl⟩:=Array.getElem_of_mem m1
   have same:=Stn.det I2 (eN _ (hV k hk).1) (eN _ m) ((hV k hk).2.up hJ) (q1.up hJ)
   have vY:=fu' _ _ (vW d' m) q
   have:=hz k hk (by rw [q1.1,vY])
   rw [same,q] at this
   cases this
  have step:dd (ds.take (i+1))=dstep (dd (ds.take i)) ds[i]:=pS' ds lt
  have cont:∀ h2 es',KeptBut S h1 h2->SetAt h2 S led es'->EsOk X J es' (dd (ds.take (i+1)))->codeAny (model prog w) A (.builtin "set.update.loop" ⟨[.ref S,.ref It],[]⟩) R { s with heap:=h2,toks:=tk }:=λh2 es' kb sa eo=>by
   refine ih (i+1) _ (by omega) (by omega) ((lG tk).next (tk:=tk) λb o hb x=>kb b o (vU b hb) x) (W.frame _ _ _ dF λb hb o x=>kb b o (λe=>qf (e▸hb)) x) ⟨es',sa,eo⟩ r
  refine q9' (s:={ s with heap:=h1,toks:=tk }) (led:=led) (es:=es) (eqf:=λk=>deq (ch k).choose ds[i]) qi (λhz=>?_) (λk hk=>?_) (λk hk _=>?_) (λQ q=>?_) (λQ q=>jF' _ _ 8 _ _ _ lH qh q) (λk hk hh ee=>?_) λhz h2 es' sa mem sz kb=>?_
  ·have l1:=kD' ds (i+1)
   rw [step,dstep,if_neg (by rw [aN hz];exact Bool.false_ne_true),length_append,List.length_singleton,← s2.1] at l1
   omega
  ·obtain ⟨m,_,y,q1,q2⟩:=hV k hk
   obtain ⟨b',_,e⟩:=gZ' (eN _ m) q1 q2
   exact ⟨b',e⟩
  ·obtain ⟨m,_,y,q1,q2⟩:=hV k hk
   exact (fR' I2 8 A.in1 (by show A.units+1+8 < _;omega) _ _ _ _ _ _ (.inl (jI _ m)) (hJ _ _ q1) (hJ _ _ hx) q2 rv).2.1
  ·refine pT' (s:={ s with heap:=h1,toks:=tk }) (d:=ds[i]) lH qh _ _ (λy hy=>?_) q
   obtain ⟨e,m,rfl⟩:=mem_map.mp hy
   have m':e∈es:=(Array.mem_filter.mp (Array.mem_toList_iff.mp m)).1
   obtain ⟨d',m1,q1⟩:=s2.2.1 e m'
   exact ⟨d',vX d' m1 e q1,jI d' m1⟩
  ·refine wpAny_pure ⟨plainId_quiet F.plain_set_update_loop _,cont h1 es (λb o _ x=>x) qi ?_⟩
   rw [step,dstep,if_pos (any_eq_true.mpr ⟨_,(hV k hk).1,ee⟩)]
   exact s2
  ·refine wpAny_pure ⟨plainId_quiet F.plain_set_update_loop _,cont h2 es' kb sa ?_⟩
   rw [step,dstep,if_neg (by rw [aN hz];exact Bool.false_ne_true)]
   have own:Stn X J (hD ds[i],.ref b) ds[i]:=⟨rfl,_,hx,rv⟩
   refine ⟨by rw [sz,s2.1];simp,λe he=>?_,λd' bD=>?_⟩
   ·rcases (mem e).mp he with rfl | he
    ·exact ⟨_,by simp,own⟩
    ·obtain ⟨d',m,q⟩:=s2.2.1 e he
     exact ⟨d',mem_append_left _ m,q⟩
   ·rcases mem_append.mp bD with h | h
    ·obtain ⟨e,m,q⟩:=s2.2.2 d' h
     exact ⟨e,(mem e).mpr (.inr m),q⟩
    ·rw [mem_singleton.mp h]
     exact ⟨_,(mem _).mpr (.inl rfl),own⟩
end
theorem in':Manifest.owners.lookup (String.ofList ['r','o','t','a','r','e','t','i','_','t','e','s'].reverse)=some Manifest.sig_set_iterator:=by kernel_rfl
theorem de':Slot "set_iterator" "__next__" "set_iterator.__next__":=.of (owner := "set_iterator") (n := "__next__") (by rw [typeLookup_type,builtinLookup_eq_fast];kernel_rfl) (by decide +kernel) (by decide +kernel) (by decide +kernel) (by first | exact .inl (by decide +kernel) | exact .inr (by decide +kernel)) (by rw [isSubtype_type];kernel_rfl)
theorem io':entryFor table "set_iterator.__next__"=some Builtin.«set_iterator.__next__»:=entryFor_of_tree (by kernel_rfl)
theorem jI' (a:Value):argsOk "set_iterator.__next__" ⟨[a],[]⟩:=by
 unfold argsOk
 rw [signature?_of (id := "set_iterator.__next__") (n:=['_','_','t','x','e','n','_','_']) (o:=['r','o','t','a','r','e','t','i','_','t','e','s']) (by kernel_rfl) in']
 kernel_rfl
theorem hN':entryFor table "set.__iter__"=some Builtin.«frozenset.__iter__»:=entryFor_alias (id' := "frozenset.__iter__") (by kernel_rfl) rfl (by decide +kernel) (by kernel_rfl)
theorem ip' {α:Type}:∀ (l:List α) (i:Nat) (h:i < l.length),(l[i]::l.eraseIdx i).Perm l
 | a::l,0,h=>List.Perm.refl _
 | a::l,i+1,h=>by
  rw [List.eraseIdx_cons_succ,List.getElem_cons_succ]
  exact (swap a _ _).trans ((ip' l i (by simpa using h)).cons a)
theorem lq' {α:Type} (next:Nat->Nat):∀ (f k:Nat) (left:List α) (aG:Array α),left.length=f->(pickOrder.go next f k left aG).toList.Perm (aG.toList++left)
 | 0,k,left,aG,h=>by
  rw [pickOrder.go,length_eq_zero_iff.mp h,append_nil]
 | f+1,k,left,aG,h=>by
  have lt:next k % left.length < left.length:=mod_lt _ (by omega)
  rw [pickOrder.go,getElem?_eq_getElem lt]
  dsimp only
  refine (lq' next f (k+1) _ _ (by rw [List.length_eraseIdx_of_lt lt];omega)).trans ?_
  rw [Array.toList_push,append_assoc]
  exact List.Perm.append_left _ (ip' left _ lt)
theorem ni' {α:Type} (next:Nat->Nat) (xs:Array α):(pickOrder next xs).toList.Perm xs.toList:=by
 have:=lq' next xs.size 0 xs.toList #[] (by simp)
 simpa [pickOrder] using this
section
variable {prog:Program}{w:World}{A:Around}{E:Value->Shared->Prop}{s:Shared}
noncomputable def byTx (w:World):Bool:=w.params.followText "set-order"
noncomputable def walkOf (w:World) (S:Addr) (ep:Nat) (es:Array (Int×Value)):Array (Int×Value):=if byTx w=true then pickOrder (w.params.setOrder S ep) es else es
theorem fw' (w:World) (S:Addr) (ep:Nat) (es:Array (Int×Value)):(walkOf w S ep es).toList.Perm es.toList:=by
 unfold walkOf
 split
 ·exact ni' _ _
 ·exact List.Perm.refl _
theorem eg' (w:World) (S:Addr) (ep:Nat) (es:Array (Int×Value)):(walkOf w S ep es).size=es.size:=by
 have:=(fw' w S ep es).length_eq
 simpa using this
noncomputable def slotAt (w:World) (t:SetTable) (k:Nat):Nat:=if byTx w=true then 0 else match k with
 | 0=>0
 | k+1=>t.place.getD k 0+1
def SitAt (h:Heap) (I S:Addr) (slot k n ep:Nat):Prop:=∃ o,h.get? I=some o/\o.cls=.type "set_iterator"/\o.data=.fields #[.int slot 0,.int k 0,.ref S,.int n 0,.int ep 0]
def SetIs (h:Heap) (S:Addr) (es:Array (Int×Value)) (ep:Nat) (t:SetTable):Prop:=∃ o,h.get? S=some o/\o.cls=.type "set"/\o.data=.set es ep t
theorem ma' {w:World}{t:SetTable}{es:Array (Int×Value)} (T:TabOk t es) (hb:byTx w=false){k:Nat} (hk:k<=es.size):below t.place (slotAt w t k)=k:=by
 unfold slotAt
 rw [hb,if_neg Bool.false_ne_true];have sz:=T.sz
 cases k with
 | zero =>
  dsimp only
  obtain ⟨b1,b2,b3⟩:=eT' T.ris 0
  rcases Nat.eq_zero_or_pos (below t.place 0) with h | h
  ·exact h
  ·have:=b2 0 (by omega) h
   omega
 | succ k =>
  dsimp only
  have lt:k < t.place.size:=by omega
  rw [getD,dif_pos lt]
  change below t.place (t.place[k]+1)=k+1
  obtain ⟨b1,b2,b3⟩:=eT' T.ris (t.place[k]+1)
  rcases lt_trichotomy (below t.place (t.place[k]+1)) (k+1) with l | l | l
  ·have:=b3 k lt (by omega)
   omega
  ·exact l
  ·have h1:k+1 < t.place.size:=by omega
   have:=b2 (k+1) h1 l
   have:=T.ris k (k+1) lt h1 (by omega)
   omega
theorem hO' {Q:Bool->Shared->Prop} (q:Q (byTx w) s):wpAny (model prog w) A setsByText Q E s:=wpAny_bind (wpAny_askSetting (wpAny_pure q))
theorem lr' {S:Addr}{es:Array (Int×Value)}{ep:Nat}{t:SetTable} (T:TabOk t es) (led:t.led=!byTx w) (hS:SetIs s.heap S es ep t){k:Nat} (hk:k<=es.size){Q:Option (Value×Nat)->Shared->Prop}
  (q:Q ((walkOf w S ep es)[k]?.map λe=>(e.2,slotAt w t (k+1))) s):wpAny (model prog w) A (setNext S (slotAt w t k) k ep) Q E s:=by
 obtain ⟨o,ho,hc,hd⟩:=hS
 unfold setNext
 refine wpAny_bind (wpAny_setState_of ho hd T.fits ?_)
 dsimp only
 refine wpAny_bind (hO' ?_)
 cases hb:byTx w with
 | true =>
  rw [if_pos rfl,bne_self_eq_false,if_neg Bool.false_ne_true]
  have z:∀ k,slotAt w t k=0:=λk=>by unfold slotAt;rw [hb,if_pos rfl]
  rw [z]
  rw [z] at q
  refine wpAny_bind ?_
  unfold setWalk
  refine wpAny_bind (wpAny_setState_of ho hd T.fits ?_)
  dsimp only
  refine wpAny_bind (hO' ?_)
  rw [hb,if_pos rfl]
  refine wpAny_bind (wpAny_askSetting (wpAny_pure (wpAny_pure ?_)))
  unfold walkOf at q
  rw [hb,if_pos rfl] at q
  exact q
 | false =>
  rw [if_neg Bool.false_ne_true]
  show wpAny _ _ (if (!t.plain&&decide (es.size > 1))=true then _ else _) _ _ _
  rw [T.pl,Bool.not_true,Bool.false_and,if_neg Bool.false_ne_true]
  refine wpAny_bind ?_
  show wpAny _ _ (if (!t.led&&!es.isEmpty)=true then _ else _) _ _ _
  rw [led,hb,Bool.not_false,Bool.not_true,Bool.false_and,if_neg Bool.false_ne_true]
  refine wpAny_pure (wpAny_pure ?_);rw [ma' T hb hk]
  unfold walkOf at q
  rw [hb,if_neg Bool.false_ne_true] at q
  have sz:=T.sz
  by_cases lt:k < es.size
  ·have lt':k < t.place.size:=by omega
   rw [Array.getElem?_eq_getElem lt,Array.getElem?_eq_getElem lt']
   rw [Array.getElem?_eq_getElem lt] at q
   unfold slotAt at q
   rw [hb,if_neg Bool.false_ne_true] at q
   simp only [map_some,getD,lt',dif_pos] at q
   exact q
  ·rw [getElem?_eq_none (by omega)]
   rw [getElem?_eq_none (by omega)] at q
   exact q
end
section
variable {prog:Program}{w:World}{A:Around}{E:Value->Shared->Prop}{s:Shared}
theorem jJ':Slot "set_iterator" "__iter__" "set_iterator.__iter__":=.of (owner := "set_iterator") (n := "__iter__") (by rw [typeLookup_type,builtinLookup_eq_fast];kernel_rfl) (by decide +kernel) (by decide +kernel) (by decide +kernel) (by first | exact .inl (by decide +kernel) | exact .inr (by decide +kernel)) (by rw [isSubtype_type];kernel_rfl)
theorem hP':entryFor table "set_iterator.__iter__"=some Builtin.«dict_keyiterator.__iter__»:=entryFor_alias (id' := "dict_keyiterator.__iter__") (by kernel_rfl) rfl (by decide +kernel) (by kernel_rfl)
theorem iK' (a:Value):argsOk "set_iterator.__iter__" ⟨[a],[]⟩:=by
 unfold argsOk
 rw [signature?_of (id := "set_iterator.__iter__") (n:=['_','_','r','e','t','i','_','_']) (o:=['r','o','t','a','r','e','t','i','_','t','e','s']) (by kernel_rfl) in']
 kernel_rfl
theorem SitAt.type {I S:Addr}{slot k n ep:Nat} (h:SitAt s.heap I S slot k n ep):s.TypeIs (.ref I) "set_iterator":=by
 obtain ⟨o,h1,h2,_⟩:=h
 exact ⟨o,h1,h2⟩
theorem SetIs.type {S:Addr}{es:Array (Int×Value)}{ep:Nat}{t:SetTable} (h:SetIs s.heap S es ep t):s.TypeIs (.ref S) "set":=by
 obtain ⟨o,h1,h2,_⟩:=h
 exact ⟨o,h1,h2⟩
theorem oB' {S:Addr}{es:Array (Int×Value)}{ep:Nat}{t:SetTable} (T:TabOk t es) (hS:SetIs s.heap S es ep t){Q:Value->Shared->Prop}
  (q:Q (.ref s.heap.objs.size) { s with heap:=s.heap.push { cls:=.type "set_iterator", data:=.fields #[.int 0 0,.int 0 0,.ref S,.int es.size 0,.int ep 0] } }):wpAny (model prog w) A (pyIter (.ref S)) Q E s:=by
 have hT:=hS.type
 obtain ⟨o,ho,hc,hd⟩:=hS
 refine wpAny_pyIter_slot hT F.slot_set_iter (wpAny_call_entry F.slot_set_iter hT hN' ?_ (F.args_set_iter_1 _))
 refine wpAny_bind (m:=slot0 "__iter__" ⟨[.ref S],[]⟩) (wpAny_bind (wpAny_pure (wpAny_pure ?_)))
 refine wpAny_bind (m:=Builtin.Frozenset.sizeOf S) (wpAny_bind (wpAny_setEntries_of ho hd T.fits (wpAny_pure ?_)))
 refine wpAny_bind (m:=setDrawn S) ?_
 unfold setDrawn
 refine wpAny_bind (wpAny_setState_of ho hd T.fits ?_)
 dsimp only
 refine wpAny_bind (hO' (wpAny_pure ?_))
 have z:(!byTx w&&(!t.plain&&decide (es.size > 1)))=false:=by rw [T.pl];simp
 show wpAny _ _ (if (!byTx w&&(!t.plain&&decide (es.size > 1)))=true then _ else _) _ _ _
 rw [z,if_neg Bool.false_ne_true]
 refine wpAny_bind (wpAny_pure (wpAny_bind ?_));unfold setEpoch
 refine wpAny_bind (wpAny_setState_of ho hd T.fits (wpAny_pure ?_))
 exact wpAny_bind (wpAny_newObj_type (wpAny_pure ⟨_,rfl, "set_iterator", _,⟨_,get?_push_size _ rfl,rfl⟩,de'.lookup,q⟩))
theorem pU' (hh:A.handled=none){Q:Option Value->Shared->Prop} (q:∀ h',(∀ b o,s.heap.get? b=some o->h'.get? b=some o)->Q none { s with heap:=h' }) :
  wpAny (model prog w) A (newExc (.type "StopIteration") [] >>= λe=>(raiseNew e:Sem PySem.Fin)) (λ_ _=>False) (λe s'=>wpAny (model prog w) A (isInstance e (.type "StopIteration")) (λb fO=>b=true/\Q none fO) (λ_ _=>False) s') s:=by
 refine wpAny_bind ?_
 unfold newExc newTuple
 refine wpAny_bind (wpAny_newObj_type (wpAny_bind (m:=firstArgMember _ _) (wpAny_of_eq (a:=Value.none) (by first | rfl | (simp only [firstArgMember];rfl)) (wpAny_newObj_type ?_ (by size_fits)))) (by size_fits))
 unfold raiseNew
 refine wpAny_bind (wpAny_handled ?_);rw [hh]
 refine wpAny_bind (wpAny_pure (wpAny_throw ?_));refine wpAny_isInstance (T := "StopIteration") (b:=true) ⟨_,get?_push_size _ rfl,rfl⟩ isSubtype_stop ⟨rfl,q _ λb o x=>?_⟩
 exact get?_push_of_some _ (get?_push_of_some _ x)
theorem nj' {I S:Addr}{es:Array (Int×Value)}{ep k:Nat}{t:SetTable} (T:TabOk t es) (led:t.led=!byTx w) (hI:SitAt s.heap I S (slotAt w t k) k es.size ep) (hS:SetIs s.heap S es ep t) (hk:k < es.size){Q:Option Value->Shared->Prop}
  (q:∀ v h',(walkOf w S ep es)[k]?.map (·.2)=some v->SitAt h' I S (slotAt w t (k+1)) (k+1) es.size ep->KeptBut I s.heap h'->Q (some v) { s with heap:=h' }):wpAny (model prog w) A (pyNext (.ref I)) Q E s:=by
 have hT:=hI.type
 obtain ⟨o,ho,hc,hd⟩:=hI
 obtain ⟨oS,lI,vZ,lJ⟩:=id hS
 unfold pyNext
 refine wpAny_bind (wpAny_attempt (wpAny_callSpecial?_slot (name:=ofString "__next__") hT de' (wpAny_call_entry de' hT io' ?_ (jI' _))))
 refine wpAny_bind (m:=slotArgs "__next__" 0 ⟨[.ref I],[]⟩) (wpAny_pure ?_)
 refine wpAny_bind (wpAny_fieldsOf ho hd ?_);refine wpAny_bind (wpAny_setEntries_of lI lJ T.fits ?_)
 rw [if_neg (by simp)]
 dsimp only
 have lt:k < (walkOf w S ep es).size:=by rw [eg'];exact hk
 refine wpAny_bind (m:=setNext S _ _ _) ?_
 simp only [Int.toNat_natCast]
 refine lr' T led hS (le_of_lt hk) ?_
 rw [Array.getElem?_eq_getElem lt,map_some]
 dsimp only
 refine wpAny_bind (wpAny_setField ho hd (by simp) ?_);obtain ⟨h1,e1⟩:∃ h1,h1=s.heap.update I (Obj.mapFields (·.setIfInBounds 0 (rawInt ((slotAt w t (k+1):Nat):Int)))):=⟨_,rfl⟩
 have lL:=get?_update_self (Obj.mapFields (·.setIfInBounds 0 (rawInt ((slotAt w t (k+1):Nat):Int)))) ho (Obj.isFreed_of_fields (data_mapFields hd _))
 have lM:=data_mapFields hd (·.setIfInBounds 0 (rawInt ((slotAt w t (k+1):Nat):Int)))
 have k1:KeptBut I s.heap h1:=λb o ne x=>by rw [e1];exact (get?_update_other _ _ (Ne.symm ne)).trans x
 rw [← e1] at lL ⊢
 refine wpAny_bind (wpAny_setField lL lM (by simp) (wpAny_pure ⟨_,rfl,wpAny_pure (q _ _ (by rw [Array.getElem?_eq_getElem lt];rfl) ⟨_,get?_update_self _ lL (Obj.isFreed_of_fields (data_mapFields lM _)),?_,?_⟩ λb o ne x=>(get?_update_other _ _ (Ne.symm ne)).trans (k1 b o ne x))⟩))
 ·exact ((Obj.cls_mapFields ..).trans (Obj.cls_mapFields ..)).trans hc
 ·rw [data_mapFields lM]
  simp [rawInt]
theorem oC' (hh:A.handled=none){I S:Addr}{es:Array (Int×Value)}{ep:Nat}{t:SetTable} (T:TabOk t es) (led:t.led=!byTx w) (hI:SitAt s.heap I S (slotAt w t es.size) es.size es.size ep) (hS:SetIs s.heap S es ep t){Q:Option Value->Shared->Prop}
  (q:∀ h',KeptBut I s.heap h'->Q none { s with heap:=h' }):wpAny (model prog w) A (pyNext (.ref I)) Q E s:=by
 have hT:=hI.type
 obtain ⟨o,ho,hc,hd⟩:=hI
 obtain ⟨oS,lI,vZ,lJ⟩:=id hS
 unfold pyNext
 refine wpAny_bind (wpAny_attempt (wpAny_callSpecial?_slot (name:=ofString "__next__") hT de' (wpAny_call_entry de' hT io' ?_ (jI' _))))
 refine wpAny_bind (m:=slotArgs "__next__" 0 ⟨[.ref I],[]⟩) (wpAny_pure ?_)
 refine wpAny_bind (wpAny_fieldsOf ho hd ?_);refine wpAny_bind (wpAny_setEntries_of lI lJ T.fits ?_)
 rw [if_neg (by simp)]
 dsimp only
 refine wpAny_bind (m:=setNext S _ _ _) ?_
 simp only [Int.toNat_natCast]
 refine lr' T led hS (le_refl _) ?_
 rw [getElem?_eq_none (by rw [eg'];exact le_refl _),Option.map_none]
 dsimp only
 refine wpAny_bind (wpAny_setField ho hd (by simp) ?_);refine wpAny_mono (pU' (A:=A.in1) (s:={ s with heap:=_ }) (Q:=Q) hh λh' keep=>q h' λb o ne x=>keep b o ((get?_update_other _ _ (Ne.symm ne)).trans x)) (λ_ _ x=>x.elim) λe s' h=>?_
 refine wpAny_bind (wpAny_mono (wpAny_of_in1 h) (λb fO hb=>?_) λ_ _ x=>x.elim)
 obtain ⟨rfl,hq⟩:=hb
 exact wpAny_pure hq
theorem nk' (hh:A.handled=none){I S:Addr} (ne:S≠I){es:Array (Int×Value)}{ep:Nat}{t:SetTable} (T:TabOk t es) (led:t.led=!byTx w) :
  Walks prog w A I [I,S] [I] es.size (λk v=>(walkOf w S ep es)[k]?.map (·.2)=some v) (λk h=>SitAt h I S (slotAt w t k) k es.size ep/\SetIs h S es ep t) where
 sub:=λb hb=>by
  rw [mem_singleton.mp hb]
  exact mem_cons_self
 frame:=λk h h' st keep=>by
  obtain ⟨⟨o,a1,a2⟩,⟨o',b1,b2⟩⟩:=st
  exact ⟨⟨o,keep I (by simp) o a1,a2⟩,⟨o',keep S (by simp) o' b1,b2⟩⟩
 item:=λk s Q E hk st q=>nj' T led st.1 st.2 hk λv h' e si kb=>by
  refine q v h' s.toks e ⟨si,?_⟩ λb o nb x=>kb b o (λz=>nb (by rw [z];simp)) x
  obtain ⟨o',b1,b2⟩:=st.2
  exact ⟨o',kb S o' ne b1,b2⟩
 done:=λs Q E st q=>oC' hh T led st.1 st.2 λh' kb=>q h' s.toks λb o nb x=>kb b o (λz=>nb (by rw [z];simp)) x
 self:=λk s Q E st q=>by
  have hT:=st.1.type
  exact wpAny_pyIter_slot hT jJ' (wpAny_call_entry jJ' hT hP' (wpAny_pure ⟨_,rfl, "set_iterator", _,hT,de'.lookup,q⟩) (iK' _))
end
section
variable {prog:Program}{w:World}{A:Around}{E:Value->Shared->Prop}{s:Shared}
theorem nl' {xs:Array Value}{ag:Array Value} (h:ItemsOf (λk v=>xs[k]?=some v) ag xs.size):ag=xs:=by
 refine Array.ext h.1 λi h1 h2=>?_
 have:=h.2 i ag[i] (Array.getElem?_eq_getElem h1)
 change xs[i]?=some ag[i] at this
 rw [Array.getElem?_eq_getElem h2] at this
 exact Eq.symm (Option.some.inj this)
theorem oD' {S:Addr}{Q:Bool->Shared->Prop} (hT:s.TypeIs (.ref S) "set") (q:Q false s):wpAny (model prog w) A (listLengthHint (.ref S)) Q E s:=by
 unfold listLengthHint;refine wpAny_bind (wpAny_specialOf hT F.slot_set_len.lookup ?_)
 have sp:splitId "set.__len__"=some ("set", "__len__"):=by decide +kernel
 dsimp only
 rw [sp]
 dsimp only
 refine wpAny_bind (wpAny_isInstance hT sub_set_self ?_);rw [if_neg (by decide)]
 exact wpAny_bind (wpAny_typeOf hT (wpAny_pure q))
theorem pV' (hh:A.handled=none){S:Addr}{es:Array (Int×Value)}{ep:Nat}{t:SetTable} (T:TabOk t es) (led:t.led=!byTx w) (hS:SetIs s.heap S es ep t){Q:List Value->Shared->Prop}
  (q:∀ h' tk,(∀ b o,s.heap.get? b=some o->h'.get? b=some o)->s.heap.objs.size<=h'.objs.size->Q ((walkOf w S ep es).toList.map (·.2)) { s with heap:=h',toks:=tk }):wpAny (model prog w) A (collect (.ref S)) Q E s:=by
 have line:310<=sizeLine:=by rw [sizeLine_eq];decide
 have few:es.size<=300:=by have:=T.few;have:=T.sz;omega
 have qj:S < s.heap.objs.size:=by
  obtain ⟨o,ho,_⟩:=hS
  exact lt_size ho
 unfold collect
 refine wpAny_bind (wpAny_runValue (codeAny_builtin F.entry_proto_collect ?_));rw [under_plainId F.plain_proto_collect _]
 refine wpAny_bind (m:=newList []) (wpAny_newObj_type (wpAny_pure ⟨plainId_quiet F.plain_list_iadd _,codeAny_builtin F.entry_list_iadd ?_⟩))
 rw [under_plainId F.plain_list_iadd _];obtain ⟨h1,e1⟩:∃ h1,h1=s.heap.push { cls:=.type "list", data:=.seq ([]:List Value).toArray }:=⟨_,rfl⟩
 have eU:h1.objs.size=s.heap.objs.size+1:=by rw [e1,size_push]
 have fG:∀ b o,s.heap.get? b=some o->h1.get? b=some o:=λb o x=>by rw [e1];exact get?_push_of_some _ x
 have qk:h1.get? s.heap.objs.size=some { cls:=.type "list", data:=.seq ([]:List Value).toArray }:=by rw [e1];exact get?_push_size _ rfl
 rw [← e1]
 have lN:SetIs h1 S es ep t:=by
  obtain ⟨o,ho,r⟩:=hS
  exact ⟨o,fG _ _ ho,r⟩
 have fK:s.heap.objs.size≠S:=ne_of_gt qj
 show wpAny _ A.in1 (listExtendWith (.ref s.heap.objs.size) (.ref S) (.ref s.heap.objs.size)) _ _ { s with heap:=h1 }
 unfold listExtendWith;refine wpAny_bind (wpAny_typeOf (s:={ s with heap:=h1 }) lN.type ?_)
 rw [if_neg (by simp [Builtin.List.listSameRef,fK])]
 refine wpAny_bind (oB' (s:={ s with heap:=h1 }) T lN ?_)
 obtain ⟨I,eI⟩:∃ I,I=h1.objs.size:=⟨_,rfl⟩
 obtain ⟨h2,e2⟩:∃ h2,h2=h1.push { cls:=.type "set_iterator", data:=.fields #[.int 0 0,.int 0 0,.ref S,.int es.size 0,.int ep 0] }:=⟨_,rfl⟩
 have hW:∀ b o,h1.get? b=some o->h2.get? b=some o:=λb o x=>by rw [e2];exact get?_push_of_some _ x
 have ql:SitAt h2 I S (slotAt w t 0) 0 es.size ep:=⟨_,by rw [e2,eI];exact get?_push_size _ rfl,rfl,by unfold slotAt;split<;>rfl⟩
 have qm:SetIs h2 S es ep t:=by
  obtain ⟨o,ho,r⟩:=lN
  exact ⟨o,hW _ _ ho,r⟩
 show wpAny _ _ _ _ _ { s with heap:=h1.push _ }
 rw [← e2]
 rw [← eI]
 refine wpAny_bind (wpAny_holding (oD' (s:={ s with heap:=h2 }) qm.type ?_))
 rw [if_pos (by decide +kernel)]
 refine wpAny_bind (wpAny_rule (wpAny_bind (m:=Builtin.List.listTouch (.ref s.heap.objs.size)) ?_))
 have jJ:=hW _ _ qk
 refine wpAny_bind (m:=updateSeq s.heap.objs.size (·.push .none)) (wpAny_updateSeq jJ rfl ?_ (by simp) (by simp))
 have jK:=get?_update_self (mapSeq (·.push Value.none)) jJ rfl
 refine wpAny_updateSeq jK rfl ?_ (by show (#[Value.none]:Array Value).size<=_;simp;omega) (by simp)
 have jL:=get?_update_self (mapSeq (·.pop)) jK rfl
 obtain ⟨h4,e4⟩:∃ h4,h4=((h2.update s.heap.objs.size (mapSeq (·.push Value.none))).update s.heap.objs.size (mapSeq (·.pop))):=⟨_,rfl⟩
 have fR:KeptBut s.heap.objs.size h2 h4:=λb o ne x=>by rw [e4];exact (get?_update_other _ _ (Ne.symm ne)).trans ((get?_update_other _ _ (Ne.symm ne)).trans x)
 rw [← e4] at jL
 show wpAny _ _ _ _ _ { s with heap:=Heap.update (Heap.update h2 _ _) _ _ }
 rw [← e4]
 have iS:s.heap.objs.size≠I:=by rw [eI,eU];exact ne_of_lt (lt_succ_self _)
 have qo:S≠I:=by rw [eI,eU];exact ne_of_lt (lt_succ_of_lt qj)
 have W:=(nk' (prog:=prog) (w:=w) (A:=A.in1) (ep:=ep) (by exact hh) qo T led).toS
 refine wpAny_pure ⟨plainId_quiet F.plain_extend_loop _,codeAny_extend_loopS W (by omega) s.heap.objs.size (by simp [iS,fK]) _ es.size 0 _ _ _ rfl (zero_le _) ?_ jL (ItemsOf.nil _) λs' ag c mv here it=>?_⟩
 ·obtain ⟨o,a1,a2⟩:=ql
  obtain ⟨o',b1,b2⟩:=qm
  exact ⟨⟨o,fR _ _ (Ne.symm iS) a1,a2⟩,⟨o',fR _ _ (Ne.symm fK) b1,b2⟩⟩
 ·obtain ⟨h',g',d',dX,gz⟩:=s';have eg:g'=s.gens:=mv.gens
  have ed:d'=s.drawn:=mv.drawn
  have eo:gz=s.os:=mv.os
  subst eg;subst ed;subst eo
  refine wpAny_bind (wpAny_load here (wpAny_pure ?_))
  have size:es.size=((walkOf w S ep es).map (·.2)).size:=by rw [Array.size_map,eg']
  have all:ag=(walkOf w S ep es).map (·.2):=nl' (by
   rw [← size]
   refine ⟨it.1,λj v hj=>?_⟩
   have:=it.2 j v hj
   show ((walkOf w S ep es).map (·.2))[j]?=some v
   rw [Array.getElem?_map]
   exact this)
  have lt':s.heap.objs.size < h'.objs.size:=lt_size here
  have:=q h' dX (λb o x=>mv.heap b o (λhb=>?_) (fR b o (ne_of_lt (lt_size x)) (hW _ _ (fG _ _ x)))) (le_of_lt lt')
  ·rw [all]
   simpa using this
  ·have lb:=lt_size x
   rcases mem_cons.mp hb with z | z
   ·exact ne_of_lt lb z
   ·rw [mem_singleton.mp z,eI,eU] at lb
    exact absurd lb (not_lt.mpr (le_succ _))
end
section
variable {prog:Program}{w:World}{A:Around}{E:Value->Shared->Prop}{s:Shared}
noncomputable def fresh0 (w:World):Obj:={ cls:=.type "set", dict:=none,data:=.set #[] 0 (.fresh 0 0 (!byTx w)) }
theorem pW' (a:Value){Q:Value->Shared->Prop} (q:Q (.ref s.heap.objs.size) { s with heap:=s.heap.push (fresh0 w) }) :
  codeAny (model prog w) A (.call (.builtin "set.__new__") ⟨[.type "set", a],[]⟩) (wants Q E) s:=by
 refine codeAny_of_tree (wpAny_bind (m:=checkBuiltinCall "set.__new__" ⟨[.type "set", a],[]⟩) (wpAny_of_eq (PySem.F.newCall_set_1 a) (wpAny_pure ⟨plainId_quiet F.plain_set_new _,codeAny_builtin F.entry_set_new ?_⟩)))
 rw [under_plainId F.plain_set_new _];unfold Builtin.«set.__new__» newClass
 have gR:=sub_set_self
 obtain ⟨hp,g,d,tk,os⟩:=s;dsimp only
 wp_walk
 refine wpAny_askSetting (wpAny_pure (wpAny_bind (wpAny_alloc (wpAny_pure (wpAny_pure q)))))
theorem oE' (w:World):TabOk (.fresh 0 0 (!byTx w)) #[]:=by
 refine ⟨rfl,λi j hi=>?_,rfl,λi hi=>?_,⟨zero_le _,.inr (.inr (.inr ⟨rfl,zero_le _⟩))⟩,rfl,λi hi=>?_⟩
 all_goals exact absurd hi (not_lt_zero _)
variable {X:Cx}{aa:List (Addr×Obj)}{U:L2.St}{H:Hp}
theorem ra' (I0:Inv X aa U H s) (hh:A.handled=none){l:Addr}{af:List Value} (hl:s.heap.IsList l af.toArray){J:Hp} (hJ:∀ d x,Is X.K J d x->Is X.K H d x){ds:List D}{zs:List V} (ha:IsA X.K J ds zs) (hv:Vals zs af) (ok:SetOk ds) (hu:A.units+50 < cLine){Q:Value->Shared->Prop}
  (q:∀ S s' es,Ext s s'->s.heap.objs.size<=S->SetAt s'.heap S (!byTx w) es->EsOk X J es (dd ds)->Q (.ref S) s'):wpAny (model prog w) A (call (.type "set") [.ref l]) Q E s:=by
 obtain ⟨c,tl,yU⟩:=called_set.mro;have v3:=called_set.made
 have gR:=called_set.sub
 refine wpAny_call (codeAny_of_tree (wpAny_pure ⟨Code.quiet_builtin _ (by decide +kernel),codeAny_builtin F.entry_type_call ?_⟩))
 rw [Around.under_plain (weight_type_call_type "set" [.ref l] []) rfl];have h1:=called_set.notType
 have h2:=called_set.canCreate;have zp:=PySem.F.typeCall_set_1 (.ref l)
 repeat any_goals first | assumption | wp_step
 refine codeAny_mono (pW' (w:=w) (.ref l) (E:=E) (Q:=λobj am=>obj=.ref s.heap.objs.size/\am={ s with heap:=s.heap.push (fresh0 w) }) ⟨rfl,rfl⟩) λr am hr=>?_
 rcases r with e | fl
 ·exact hr
 cases fl with
 | ret obj =>
  obtain ⟨rfl,rfl⟩:=hr
  have hS:(s.heap.push (fresh0 w)).get? s.heap.objs.size=some (fresh0 w):=get?_push_size _ rfl
  have hT:Shared.TypeIs { s with heap:=s.heap.push (fresh0 w) } (.ref s.heap.objs.size) "set":=⟨_,hS,rfl⟩
  have pR:=called_set.init.lookup;have qp:=called_set.init.bind (.ref s.heap.objs.size)
  repeat any_goals first | assumption | wp_step
  refine codeAny_mono (codeAny_call_builtin (R:=wants (λr dQ=>r=.none/\∃ es,Ext s dQ/\SetAt dQ.heap s.heap.objs.size (!byTx w) es/\EsOk X J es (dd ds)) E) called_set.init.plain F.entry_set_init (check_set_init_1 hT ?_)) λqq dQ eV=>?_
  ·obtain ⟨ol,qt,ca,nl,qu⟩:=hl;have qv:l < s.heap.objs.size:=lt_size qt
   obtain ⟨yV,lO,v4,iU⟩:=ol;simp only at ca qu
   subst ca;subst qu
   have jM:(s.heap.push (fresh0 w)).get? l=some { cls:=.type "list", dict:=lO,data:=.seq af.toArray nl,slots:=iU }:=get?_push_of_some _ qt
   have yW:=PySem.F.sub_list_set
   have yX:=PySem.F.sub_list_frozenset
   have dD:(type "list" == type "dict")=false:=(by decide)
   have cS:(s.heap.push (fresh0 w)).IsList l af.toArray:=⟨_,jM,rfl,nl,rfl⟩
   obtain ⟨h1,e1⟩:∃ h1,h1=s.heap.push (fresh0 w):=⟨_,rfl⟩
   have eU:h1.objs.size=s.heap.objs.size+1:=by rw [e1,size_push]
   have fG:∀ b o,s.heap.get? b=some o->h1.get? b=some o:=λb o x=>by rw [e1];exact get?_push_of_some _ x
   rw [← e1] at hS jM cS
   show wpAny _ _ _ _ _ { s with heap:=s.heap.push (fresh0 w) }
   rw [← e1]
   have v5:h1.get? s.heap.objs.size=some { cls:=.type "set", dict:=none,data:=.set #[] 0 (.fresh 0 0 (!byTx w)) }:=hS
   unfold Builtin.«set.__init__» noKeywords updateFrom;generalize hPI:pyIter=PI
   wp_walk
   subst hPI
   refine wpAny_pyIter_list (s:={ s with heap:=h1 }) cS (wpAny_bind (wpAny_runValue ?_))
   have iS:l≠h1.objs.size:=by rw [eU];exact ne_of_lt (lt_succ_of_lt qv)
   refine oA' (s0:=s) (led:=!byTx w) I0 (le_refl _) (by rw [eU];exact le_succ _) (Walks.list (by exact hh) h1.objs.size l iS af.toArray) ?_ hJ ha ok (by rw [size_toArray,← hv.length,← ha.length]) (λi v hi=>?_) (by show A.units+1+1+20 < _;omega) _ 0 _ rfl (zero_le _) ?_ ?_ ?_ λs' es ex sa eo=>?_
   ·rw [eU]
    intro hm
    rcases mem_cons.mp hm with z | z
    ·exact absurd z (ne_of_lt (lt_succ_self _))
    ·exact absurd (mem_singleton.mp z) (ne_of_gt qv)
   ·have bc:af[i]?=some v:=by simpa using hi
    have li:i < zs.length:=by
     rw [hv.length]
     rcases lt_or_ge i af.length with z | z
     ·exact z
     ·rw [List.getElem?_eq_none z] at bc;cases bc
    obtain ⟨u,e3,e4⟩:=hv.get (getElem?_eq_getElem li)
    rw [bc] at e3
    cases e3
    exact ⟨_,getElem?_eq_getElem li,e4⟩
   ·exact ⟨_,s.toks,rfl,λb o x=>get?_push_of_some _ (fG b o x)⟩
   ·exact ⟨⟨_,get?_push_size _ rfl,rfl,rfl⟩,cS.push _⟩
   ·refine ⟨#[],⟨_,0,_,get?_push_of_some _ v5,rfl,rfl,oE' w,rfl⟩,rfl,λe he=>?_,λd hd=>?_⟩
    ·simp at he
    ·cases hd
   ·exact wpAny_pure (wpAny_pure ⟨rfl,es,ex,sa,eo⟩)
  ·rcases qq with e | lP
   ·exact eV
   ·cases lP with
    | ret r =>
     obtain ⟨rfl,es,e1,e2,e3⟩:=eV
     repeat any_goals first | assumption | wp_step
     exact q _ _ es e1 (le_refl _) e2 e3
    | _=>exact eV.elim
 | _=>exact hr.elim
end
theorem IsA.up {K:PySem.W.Frag}{J H:Hp} (h:∀ d x,Is K J d x->Is K H d x):∀ {ds:List D}{zs:List V},IsA K J ds zs->IsA K H ds zs
 | [],zs,a=>by rw [a.nil_inv];exact IsA.nil
 | d::ds,zs,a=>by
  obtain ⟨x,r,rfl,h1,h2⟩:=a.cons_inv
  exact IsA.cons (h _ _ h1) (IsA.up h h2)
section
variable {X:Cx}{aa:List (Addr×Obj)}{U:L2.St}{H:Hp}{s:Shared}{A:Around}
theorem gs' {α:Type}:∀ (l m:List α),l.Nodup->(∀ x∈l,x∈m)->m.length<=l.length->l.Perm m
 | [],m,_,_,h=>by rw [length_eq_zero_iff.mp (le_zero.mp h)]
 | x::l,m,nd,h,len=>by
  obtain ⟨a,b,rfl⟩:=List.append_of_mem (h x mem_cons_self)
  rw [nodup_cons] at nd
  have p:=gs' l (a++b) nd.2 (λy hy=>by
   have:=h y (mem_cons_of_mem _ hy)
   rcases mem_append.mp this with z | z
   ·exact (mem_append_left _ z)
   ·rcases mem_cons.mp z with z | z
    ·subst z;exact absurd hy nd.1
    ·exact mem_append_right _ z) (by simp at len ⊢;omega)
  exact (p.cons x).trans List.perm_middle.symm
theorem g0':∀ (ds ag:List D),ag.Nodup->(ds.foldl dstep ag).Nodup
 | [],ag,h=>h
 | d::ds,ag,h=>by
  refine g0' ds _ ?_
  unfold dstep
  split
  ·exact h
  ·rename_i no
   rw [nodup_append]
   refine ⟨h,by simp,λa ha b hb e=>?_⟩
   rw [mem_singleton.mp hb] at e
   subst e
   exact no (any_eq_true.mpr ⟨a,ha,gi' a⟩)
theorem jK' (ds:List D):(dd ds).Nodup:=g0' ds [] List.nodup_nil
theorem oF' {l m:List D} (p:l.Perm m) (cm:cmAll l=true):sortD l=sortD m:=by
 refine eS' _ _ ((bB' l).trans (p.trans (bB' m).symm)) (dd' l) (dd' m) λa ha b hb h1 h2=>?_
 have c:=all_eq_true.mp (all_eq_true.mp cm a ((bB' l).mem_iff.mp ha)) b ((bB' l).mem_iff.mp hb)
 refine fu' a b c ?_
 rw [eM' a b c]
 unfold leD at h1 h2
 rw [h1,h2]
 rfl
theorem ls' {n:Nat}:∀ {xs:List D},(∀ x∈xs,dep x<=n)->depA xs<=n
 | [],_=>by rw [depA];exact zero_le _
 | x::xs,h=>by
  rw [depA]
  exact Nat.max_le.mpr ⟨h x mem_cons_self,ls' λy hy=>h y (mem_cons_of_mem _ hy)⟩
theorem ir' {J:Hp}{M:List D}:∀ (L:List (Int×Value)),(∀ e∈L,∃ d∈M,Stn X J e d)->∃ ds zs,IsA X.K J ds zs/\Vals zs (L.map (·.2))/\ds.length=L.length/\(∀ d∈ds,d∈M)/\∀ e∈L,∃ d∈ds,Stn X J e d
 | [],_=>⟨[],[],IsA.nil,.nil,rfl,λd hd=>(by cases hd),λe he=>(by cases he)⟩
 | e::L,h=>by
  obtain ⟨ds,zs,a1,a2,a3,a4,a5⟩:=ir' L λe he=>h e (mem_cons_of_mem _ he)
  obtain ⟨d,m,q⟩:=h e mem_cons_self
  obtain ⟨_,x,q1,q2⟩:=id q
  refine ⟨d::ds,x::zs,IsA.cons q1 a1,.cons q2 a2,by simp [a3],λd' bD=>?_,λe' dS=>?_⟩
  ·rcases mem_cons.mp bD with z | z
   ·rw [z];exact m
   ·exact a4 d' z
  ·rcases mem_cons.mp dS with z | z
   ·rw [z];exact ⟨d,mem_cons_self,q⟩
   ·obtain ⟨d',m',q'⟩:=a5 e' z
    exact ⟨d',mem_cons_of_mem _ m',q'⟩
theorem mb' (hu:X.A.units+100 < cLine) (hh:X.A.handled=none) (I:Inv X aa U H s){p:Addr}{J:Hp} (hJ:∀ d x,Is X.K J d x->Is X.K H d x){zs:List V}{ds:List D} (hq:SqL X.K H p zs) (ha:IsA X.K J ds zs) (ok:SetOk ds)
  (kd:ds.all fstI=true\/ds.all fstT=true){Q:VK} (k:∀ l dZ,IsA X.K J (sortD (dd ds)) dZ->H l=none->Q (.ref l) (upd H l (.lst dZ))) :
  wpAny (model X.prog X.w) X.A (call (.type "set") [.ref p]) (λv s'=>wpAny (model X.prog X.w) X.A (call (.builtin "sorted") [v]) (EP X aa U Q) X.xe s') X.xe s:=by
 obtain ⟨ac,rv,t,hz⟩:=I.list hq
 refine ra' I hh t.isList hJ ha rv ok (by omega) λS s' es ex le sa eo=>?_
 have I':=ex.inv I
 obtain ⟨cm,ky,ti,dp,few⟩:=ok
 obtain ⟨o,ep,tb,ho,hc,hd,T,led⟩:=sa
 obtain ⟨dB,dZ,a1,a2,a3,a4,a5⟩:=ir' (X:=X) (J:=J) (M:=dd ds) (walkOf X.w S ep es).toList λe he=>eo.2.1 e (by
  have:=(fw' X.w S ep es).mem_iff.mp he
  simpa using this)
 have tt:∀ d∈dd ds,isT d=true:=λd hd=>all_eq_true.mp ti _ (fv' hd)
 have pm:(dd ds).Perm dB:=by
  refine gs' _ _ (jK' ds) (λd hd=>?_) (by rw [a3,length_toList,eg',eo.1];exact le_refl _)
  obtain ⟨e,m,q⟩:=eo.2.2 d hd
  obtain ⟨d',m',q'⟩:=a5 e ((fw' X.w S ep es).mem_iff.mpr (by simpa using m))
  have:=Stn.det I' (tt d hd) (tt d' (a4 d' m')) (q.up hJ) (q'.up hJ)
  rw [this]
  exact m'
 have sub:∀ d∈dB,d∈ds:=λd hd=>fv' (a4 d hd)
 have iR:cmAll dB=true:=all_eq_true.mpr λa v6=>all_eq_true.mpr λb v7=>all_eq_true.mp (all_eq_true.mp cm a (sub a v6)) b (sub b v7)
 have v8:IsA X.K H dB dZ:=IsA.up hJ a1
 refine gb' hu I' v8 a2 ⟨by have:=pm.length_eq;omega,iR,le_trans (ls' λx hx=>b1' (sub x hx)) (by omega),?_⟩ (λQ' q=>pV' (A:=X.A.in1) (by exact hh) T led ⟨o,ho,hc,hd⟩ q) λl q hp e hl=>k l _ ?_ hl
 ·rcases kd with z | z
  ·exact .inr (.inl (all_eq_true.mpr λx hx=>all_eq_true.mp z x (sub x hx)))
  ·exact .inr (.inr (all_eq_true.mpr λx hx=>all_eq_true.mp z x (sub x hx)))
 ·rw [← oF' pm.symm iR,← e]
  exact a1.perm hp
end
section
variable {X:Cx}{B:BB}{e:Expr}{pos ax:Pos}{kr:Nat}
def rSS (X:Cx) (xs:List V) (H:Hp) (Q:VK):Prop:=∃ (p:Addr) (zs:List V) (ds:List D) (J:Hp),xs=[.ref p]/\SqL X.K H p zs/\IsA X.K J ds zs/\(∀ d x,Is X.K J d x->Is X.K H d x)/\SetOk ds/\(ds.all fstI=true\/ds.all fstT=true) ∧
 ∀ l dZ,IsA X.K J (sortD (dd ds)) dZ->H l=none->Q (.ref l) (upd H l (.lst dZ))
theorem mc' {p p':Pos}{t:TA} (hr:Room kr X.A) (hg:Gl X "sorted") (hm:X.mg "sorted"=none) (lQ:Gl X "set") (fU:X.mg "set"=none) (ha:PA X [e] t)
  (he:starEach [e] X.env=(false,eval e X.env)::starEach [] X.env:=by rfl) (dS:starEach [.Call (.Name "set" p') [e] [] ax] X.env=(false,eval (.Call (.Name "set" p') [e] [] ax) X.env)::starEach [] X.env:=by rfl)
  (au:∀ pos,(backTo pos (starEach [] X.env)).any (·.1)=false:=by intro _;rfl) :
  PE X (.Call (.Name "sorted" p) [.Call (.Name "set" p') [e] [] ax] [] pos) (tCB (rSS X) t):=by
 intro aa s U H Q I h
 refine wpAny_Call_Name_kw (cu' I hg hm boot_sorted (PyProof.Rows.callWith_builtin1 ?_ dS (au _)) (by decide) (by decide))
 rw [dS]
 refine Calls.spliced_cons (wpAny_Call_Name_kw (cu' I lQ fU boot_set (PyProof.Rows.callWith_type1 ?_ he (au _)) (by decide) (by decide)))
 refine thn (ha ax aa s U H _ I h) λus s1 ⟨vs,H1,I1,r1,p,zs,ds,J,e1,q1,q2,q3,q4,q5,q6⟩=>?_
 subst e1
 obtain ⟨u,rfl,ru⟩:=vals1 r1
 cases ru
 exact thn (mb' (hu100 hr) hr.hd I1 q3 q1 q2 q4 q5 q6) λv s2 q=>Calls.spliced_nil q
noncomputable def setF (ds:List D):Option (List D):=match ds with
 | [.lst xs]=>if (cmAll xs=true/\xs.all kyB=true/\xs.all isT=true/\depA xs<=8/\(dd xs).length<=18)/\(xs.all fstI=true\/xs.all fstT=true) then some (sortD (dd xs)) else none
 | _=>none
theorem md' {p p':Pos}{t:M (List D)} (hr:Room kr X.A) (hg:Gl X "sorted") (hm:X.mg "sorted"=none) (lQ:Gl X "set") (fU:X.mg "set"=none) (ha:AD X B [e] t)
  (he:starEach [e] X.env=(false,eval e X.env)::starEach [] X.env:=by rfl) (dS:starEach [.Call (.Name "set" p') [e] [] ax] X.env=(false,eval (.Call (.Name "set" p') [e] [] ax) X.env)::starEach [] X.env:=by rfl)
  (au:∀ pos,(backTo pos (starEach [] X.env)).any (·.1)=false:=by intro _;rfl) :
  EO X B (.Call (.Name "sorted" p) [.Call (.Name "set" p') [e] [] ax] [] pos) (fn1 setF t):=PE.imp (mc' hr hg hm lQ fU ha he dS au) (l1' λds d e B G I H U Y xs Q r h k=>by
 unfold setF at e
 split at e
 ·obtain ⟨ok,rfl⟩:=aG' e
  obtain ⟨x,rfl,hx⟩:=h.one
  obtain ⟨q,zs,rfl,h3,h4⟩:=ax' hx
  exact ⟨q,zs,_,I,rfl,(Same.rdK r.iH h3).sq,h4,λd x hx=>hx.mono r.iH,⟨ok.1.1,ok.1.2.1,ok.1.2.2.1,ok.1.2.2.2.1,by have:=ok.1.2.2.2.2;omega⟩,ok.2,λl dZ hz hl=>k.new r hl hz⟩
 ·cases e)
end
end DL
namespace DL
open PySem PySem.W PySem.Spec PyProof.Rows L2
section
variable {X:Cx}{B:BB}{a st e:Expr}{pos p p2:Pos}{ga gs:M D}
noncomputable def rRv (K:PySem.W.Frag):R2:=λx y H Q=>∃ b xs,x=.ref b/\y=.int (-1)/\SqL K H b xs/\∀ l,H l=none->Q (.ref l) (upd H l (.lst xs.reverse))
theorem Vals.rev:∀ {xs:List V}{us:List Value},Vals xs us->Vals xs.reverse us.reverse:=λ{xs us} h=>by
 refine fW' (by simp [h.length]) λi x u e f=>?_
 have l:=h.length
 have hi:i < xs.length:=by
  rcases lt_or_ge i xs.length with z | z
  ·exact z
  ·rw [List.getElem?_eq_none (by simpa using z)] at e;cases e
 rw [List.getElem?_reverse hi] at e
 rw [List.getElem?_reverse (by omega)] at f
 obtain ⟨u',e1,e2⟩:=h.get e
 rw [l,f] at e1
 cases e1
 exact e2
theorem rb' {ta ts:TE} (he:PE X a ta) (hs:PE X st ts):PE X (.Subscript a (.Slice none none (some st) p2) pos) (tOp (rRv X.K) ta ts):=by
 intro aa s U H Q I h
 refine Subscript_ (thn (he aa s U H _ I h) λv s1 ⟨x,H1,I1,r1,q1⟩=>?_)
 refine wpAny_Slice ?_
 rw [evalPart_none,evalPart_some]
 refine wpAny_pure (wpAny_pure (thn (hs aa s1 U H1 _ I1 q1) λvk s2 ⟨y,H2,I2,r2,q2⟩=>?_))
 obtain ⟨b,xs,rfl,rfl,hx,q⟩:=q2
 cases r1
 have I3:Inv X aa U H2 { s2 with heap:=s2.heap.push { cls:=.type "slice", data:=.fields #[.none,.none,vk] } }:=I2.kept (t':=s2.toks) λb ob q=>get?_push_of_some _ q
 obtain ⟨ac,r,ht,hz⟩:=I3.list hx
 have aF:=r.length
 show wpAny (model X.prog X.w) X.A (subscriptTail a (.Slice none none (some st) p2) (.ref b) (.ref s2.heap.objs.size)) (EP X aa U Q) X.xe { s2 with heap:=s2.heap.push { cls:=.type "slice", data:=.fields #[.none,.none,vk] } }
 refine tail_any (ops:=[.ref b,.ref s2.heap.objs.size]) ht.isList.typeIs slot_list_getitem.lookup ?_ (by with_unfolding_all rfl)
 obtain ⟨tk,rfl⟩:=r2
 refine wpAny_getItem_list_slice ht.isList (Heap.IsSliceOf.new ..) .none .none (.int _ _) (by simp) ?_ (by rw [size_toArray]<;>omega)
 rw [krv_pick]
 refine ⟨.ref _,_,I3.laid (t':=s2.toks) (o:=.lst xs.reverse) (λb ob q=>get?_push_of_some _ q) (le_refl _) ?_,rfl,q _ (I3.hok.fresh (le_refl _))⟩
 exact ⟨by rw [List.length_reverse];exact hz,_,0,Vals.rev r,get?_push_size _ rfl⟩
noncomputable def rvF (c k:D):Option (List D):=match c,k with
 | .lst ds,.int j=>if j=-1 then some ds.reverse else none
 | _,_=>none
theorem nm' (ha:ED X B a ga) (hs:ED X B st gs):EO X B (.Subscript a (.Slice none none (some st) p2) pos) (op2 rvF ga gs):=PE.imp (rb' ha hs) (o5' λa b d e B G I H U Y x y Q r hx hy k=>by
 unfold rvF at e
 split at e
 ·obtain ⟨rfl,rfl⟩:=aG' e
  obtain ⟨q,zs,rfl,h3,h4⟩:=ax' hx
  exact ⟨q,zs,rfl,an' hy,(Same.rdK r.iH h3).sq,λl hl=>k.new r hl h4.reverse⟩
 ·cases e)
end
section
variable {X:Cx}{B:BB}{pos:Pos}{c:Expr}{body:List Stmt}{gc:M Bool}{gb:M Fl}
noncomputable def whlS:Nat->M Bool->M Fl->M Fl
 | 0,_,_=>λ_=>none
 | n+1,c,b=>bnd c λk=>if k=true then bnd b λf=>match f with
   | .nx=>whlS n c b
   | .ct=>whlS n c b
   | .bk=>ret .nx
   | .rt r=>ret (.rt r)
  else ret .nx
theorem oG' {n:Nat} (hp:PassesOwn (model X.prog X.w) X.A X.env X.xe) (hc:TD X B c gc) (hb:SDs X B body gb):SD X B (.While c body [] pos) (whlS n gc gb):=PS.imp (n5' hp hc hb) λE U H q=>by
 obtain ⟨G,I,Y,f,ae,r,e1,k⟩:=q
 refine ⟨λm U H=>∃ I2 ah,Rep X.K B G I2 H U ah/\Grow G I I2/\whlS m gc gb ah=some (f,ae),⟨n,I,Y,r,Grow.refl _ _,e1⟩,?_⟩
 rintro m aP H2 ⟨I2,ah,r2,g2,e2⟩
 cases m with
 | zero=>cases e2
 | succ m =>
  obtain ⟨b,aQ,e3,e4⟩:=af' e2
  refine ⟨G,I2,ah,b,aQ,r2,e3,λH3 I3 r3 g3=>?_⟩
  cases b with
  | true =>
   rw [if_pos rfl] at e4 ⊢
   obtain ⟨fl,aM,e5,e6⟩:=af' e4
   refine ⟨λaj H'=>∃ I4,Rep X.K B G I4 H' aj aM/\Grow G I I4/\(fl=.nx\/fl=.ct),λaj H' ⟨I4,r4,g4,hf⟩=>⟨m,lt_succ_self m,I4,aM,r4,g4,?_⟩,G,I3,aQ,fl,aM,r3,e5,λda H5 I5 r5 g5=>?_⟩
   ·rcases hf with rfl | rfl<;>exact e6
   ·have gg:Grow G I I5:=g2.trans (g3.trans g5)
    cases fl with
    | nx=>exact ⟨I5,r5,gg,.inl rfl⟩
    | ct=>exact ⟨I5,r5,gg,.inr rfl⟩
    | bk=>cases e6;exact k da H5 I5 r5 gg
    | rt v=>cases e6;exact k da H5 I5 r5 gg
  | false =>
   rw [if_neg Bool.false_ne_true] at e4 ⊢
   cases e4
   exact k aP H3 I3 r3 (g2.trans g3)
end
section
variable {X:Cx}{B:BB}{pos:Pos}{e:Expr}{g:M (List D)}
noncomputable def setY (i:Nat) (g:M (List D)):M Fl:=bnd g λd=>bnd (putS i (.fro d)) λ_=>ret .nx
theorem nn' {K:PySem.W.Frag}{i:Nat}:∀ E U H,tS K B (setY i g) E U H->tAsg (tO K B g) (gName i) E U H:=λE U H q=>by
 obtain ⟨G,I,Y,f,ae,r,e1,k⟩:=q
 obtain ⟨d1,ab,e2,e3⟩:=af' e1
 obtain ⟨d2,ah,e4,e5⟩:=af' e3
 cases e5
 obtain ⟨hl,rfl⟩:=c9' e4
 exact ⟨G,I,Y,d1,ab,r,e2,λp xs H1 I1 r1 g1 h1 h2 h3 h4 h5=>k _ H1 _ ((r1.freeze h1 h2 h4).store (by rw [r1.len];exact hl) ⟨p,xs,rfl,ap',h3,h5.mono (aL' h2 _)⟩ (λm=>nomatch m) (λ_ z=>nomatch z)) (g1.trans (growFreeze h2 h3))⟩
theorem pX' {i:Nat}{x:Str}{ax:Pos} (hN:X.N.Nodup) (he:EO X B e g) (hi:X.N[i]?=some x:=by rfl) (hx:locB X.env.scope x=true:=by rfl) (hs:swapsWith e (some (.Name x ax)) pos.line X.env=pure false:=by rfl)
  (hf:fnB X x=true:=by rfl):SD X B (.Assign [.Name x ax] e pos) (setY i g):=PS.imp (gG' hN hi (locI hx) he hs (fnI hf)) nn'
noncomputable def froS (j:Nat):M (List D):=λY=>match Y[j]? with
 | some (some (.fro ds))=>some (ds,Y)
 | _=>none
theorem jL' {j:Nat}{Y ae:Gm}{ds:List D} (h:froS j Y=some (ds,ae)):ae=Y/\Y[j]?=some (some (.fro ds)):=by
 unfold froS at h
 split at h
 ·rename_i e
  cases h
  exact ⟨rfl,e⟩
 ·cases h
noncomputable def cpS (i j:Nat):M Fl:=bnd (froS j) λd=>bnd (putS i (.fro d)) λ_=>ret .nx
theorem pf' {i j:Nat}{x y:Str}{ax p:Pos} (hN:X.N.Nodup) (he:PE X (.Name y p) (tVar j)) (hi:X.N[i]?=some x:=by rfl) (hx:locB X.env.scope x=true:=by rfl) (hs:swapsWith (.Name y p) (some (.Name x ax)) pos.line X.env=pure false:=by rfl)
  (hf:fnB X x=true:=by rfl):SD X B (.Assign [.Name x ax] (.Name y p) pos) (cpS i j):=PS.imp (gG' hN hi (locI hx) he hs (fnI hf)) λE U H q=>by
 obtain ⟨G,I,Y,f,ae,r,e1,k⟩:=q
 obtain ⟨d1,ab,e2,e3⟩:=af' e1
 obtain ⟨d2,ah,e4,e5⟩:=af' e3
 cases e5
 obtain ⟨hl,rfl⟩:=c9' e4
 obtain ⟨rfl,aW⟩:=jL' e2
 obtain ⟨v,h1,h2⟩:=r.slot j _ aW
 exact ⟨v,h1,k _ H I (r.store (by rw [r.len];exact hl) h2 (λm=>nomatch m) (λ_ z=>nomatch z)) (Grow.refl _ _)⟩
noncomputable def retY (j:Nat):M Fl:=bnd (froS j) λd=>ret (.rt (.fro d))
theorem pY' {j:Nat}{y:Str}{p:Pos} (he:PE X (.Name y p) (tVar j)):SD X B (.Return (some (.Name y p)) pos) (retY j):=PS.imp (i9' he) λE U H q=>by
 obtain ⟨G,I,Y,f,ae,r,e1,k⟩:=q
 obtain ⟨d1,ab,e2,e3⟩:=af' e1
 cases e3
 obtain ⟨rfl,aW⟩:=jL' e2
 obtain ⟨v,h1,h2⟩:=r.slot j _ aW
 exact ⟨v,h1,k U H I r (Grow.refl _ _) v h2⟩
end
section
variable {X:Cx}{B:BB}{m:Nat}{bf tg iter:Expr}{aV:List Expr}{scope:Scope}{pos:Pos}{N':List Str}{it:M (List D)}{aq:D->M Unit}{ts:M Bool}{el:M D}
theorem kE' {i:Nat}{y:Str}{py cq:Pos} (S:CompScope X.env.scope scope X.N N' m) (hc:X.calm=true) (hN:X.N.Nodup) (hi:ITD X B tg iter it)
  (hg:∀ C s H ex,GD (cxC X scope N' C s H ex) (bUp m B) m tg aq) (ht:∀ C s H ex,TDs (cxC X scope N' C s H ex) (bUp m B) aV ts) (he:∀ C s H ex,ED (cxC X scope N' C s H ex) (bUp m B) bf el)
  (bc:X.N[i]?=some y:=by rfl) (hy:X.env.scope.names.lookup y=some .local:=by rfl) (gP:swapsWith (.ListComp bf [⟨tg,iter,aV,0⟩] scope pos) (some (.Name y py)) cq.line X.env=pure true:=by rfl)
  (hs:∀ x,foldedSetIterable iter X.env x=pure x:=by intro _;rfl):SD X B (.Assign [.Name y py] (.ListComp bf [⟨tg,iter,aV,0⟩] scope pos) cq) (setY i (compO m it aq ts el)):=PS.imp (gN' (g:=tGD X.K (bUp m B) m aq) (tt:=tTD X.K (bUp m B) ts) (te:=tD X.K (bUp m B) el) S hc hN bc hy hi hg ht he gP hs) λE U H q=>by
 have z:=nn' E U H q
 exact jk' U H _ z
end
end DL
namespace DL
open PySem
end DL
namespace DL
open PySem PySem.W PySem.Spec PyProof.Rows L2
section
variable {X:Cx}{B:BB}{pos:Pos}{c e:Expr}{st:Stmt}{ss sa sb body:List Stmt}{g h:M Fl}{tc:M Bool}{ga:M D}
@[irreducible] def SI (X:Cx) (B:BB) (st:Stmt) (g:M Fl):Prop:=SD X B st g
@[irreducible] def SIs (X:Cx) (B:BB) (ss:List Stmt) (g:M Fl):Prop:=SDs X B ss g
theorem ah' (k:SD X B st g):SI X B st g:=by unfold SI;exact k
theorem aH' (k:SIs X B ss g):SDs X B ss g:=by unfold SIs at k;exact k
theorem aD':SIs X B [] (ret .nx):=by unfold SIs;exact pw'
theorem ag' (k:SI X B st g):SIs X B [st] g:=by unfold SI at k;unfold SIs;exact px' k
theorem ad' (k:SI X B st g) (t:SIs X B ss h):SIs X B (st::ss) (seqS g h):=by unfold SI at k;unfold SIs at t ⊢;exact ob' k t
theorem aM' (hc:TD X B c tc) (ha:SIs X B sa g) (hb:SIs X B sb h):SI X B (.If c sa sb pos) (ifS tc g h):=by unfold SIs at ha hb;unfold SI;exact rF' hc ha hb
theorem bn' {m:Nat}{iter tg:Expr}{it:M (List D)}{aq:D->M Unit} (hp:PassesOwn (model X.prog X.w) X.A X.env X.xe) (hc:X.calm=true) (hi:ITD X B tg iter it) (hg:GD X B m tg aq) (hb:SIs X B body g)
  (hs:∀ x,foldedSetIterable iter X.env x=pure x:=by intro _;rfl):SI X B (.For tg iter body [] pos) (forS it aq g):=by unfold SIs at hb;unfold SI;exact qV' hp hc hi hg hb hs
theorem oH' {n:Nat}{gc:M Bool} (hp:PassesOwn (model X.prog X.w) X.A X.env X.xe) (hc:TD X B c gc) (hb:SIs X B body g):SI X B (.While c body [] pos) (whlS n gc g):=by unfold SIs at hb;unfold SI;exact oG' hp hc hb
theorem al' {i:Nat}{x:Str}{ax:Pos} (hN:X.N.Nodup) (he:ED X B e ga) (hi:X.N[i]?=some x:=by rfl) (hx:locB X.env.scope x=true:=by rfl) (hs:swapsWith e (some (.Name x ax)) pos.line X.env=pure false:=by rfl)
  (hf:fnB X x=true:=by rfl):SI X B (.Assign [.Name x ax] e pos) (setV i ga):=by unfold SI;exact qS' hN he hi hx hs hf
end
end DL
namespace DL
open PySem PySem.W PySem.Spec PyProof.Rows L2
open PySem.SeqAt
open PySem.AutoSeq1 (wpAny_loadPart')
open PySem.MeetsSeq PySem.MeetsSeq2 PySem.MeetsSeq3
end DL
namespace DL
open PySem PySem.W PySem.Spec PyProof.Rows L2
end DL
namespace DL
open PySem PySem.W PySem.Spec PyProof.Rows L2
open PySem.SeqAt
open PySem.AutoSeq1 (wpAny_loadPart')
open PySem.MeetsSeq PySem.MeetsSeq2 PySem.MeetsSeq3
noncomputable def isStar:Expr->Bool
 | .Starred ..=>true
 | _=>false
theorem rc' {e:Expr}{ay:List Expr}{env:Env} (h:isStar e=false):starEach (e::ay) env=(false,eval e env)::starEach ay env:=by
 cases e<;>first | rfl | (simp [isStar] at h)
theorem aa' {X:Cx}{B:BB}{e:Expr}{es:List Expr}{g:M D}{t:M (List D)} (ha:ED X B e g) (hr:AD X B es t) (h:isStar e=false):AD X B (e::es) (consA g t):=pv' ha hr (rc' h)
end DL
namespace DL
open PySem PySem.Spec PyProof.Rows L2
section
variable {X:Cx}{B:BB}
theorem g1' {e1 e2 e3 e4:Expr}{es:List Expr}{g1 g2 g3 g4:M D}{t:M (List D)} (h1:ED X B e1 g1) (h2:ED X B e2 g2) (h3:ED X B e3 g3) (h4:ED X B e4 g4) (hr:AD X B es t) (s1:isStar e1=false) (s2:isStar e2=false) (s3:isStar e3=false) (s4:isStar e4=false):AD X B (e1::e2::e3::e4::es) (consA g1 (consA g2 (consA g3 (consA g4 t)))) :=
 aa' h1 (aa' h2 (aa' h3 (aa' h4 hr s4) s3) s2) s1
end
inductive KCs:List Expr->M (List D)->Prop
 | nil:KCs [] nilA
 | int {i:Int} {a b es t}:KCs es t->KCs (.Constant (.int i) a b::es) (consA (ret (.int i)) t)
 | bl {i:Bool} {a b es t}:KCs es t->KCs (.Constant (.bool i) a b::es) (consA (ret (.bl i)) t)
 | non {a b es t}:KCs es t->KCs (.Constant .none a b::es) (consA (ret .non) t)
 | str {i:Str} {a b es t}:KCs es t->KCs (.Constant (.str i) a b::es) (consA (ret (.str i)) t)
 | tup {fs u x p es t}:KCs fs u->KCs es t->KCs (.Tuple fs x p::es) (consA (tupA u) t)
end DL
namespace DL
open PySem PySem.W PySem.Spec PyProof.Rows L2 PySem.SetTable
section
variable {X:Cx}{B:BB}{e:Expr}{pos ax:Pos}{kr:Nat}
theorem jM':∀ {ns:List Int}{ac:List Value},Vals (ns.map V.int) ac->IntsAre ac ns
 | [],ac,h=>by cases h;exact .nil
 | n::ns,ac,h=>by
  cases h with
  | cons h1 h2=>obtain ⟨t,rfl⟩:=h1;exact .cons _ _ (jM' h2)
noncomputable def intsD:List D->Option (List Int)
 | []=>some []
 | .int i::ds=>match intsD ds with
  | some ns=>some (i::ns)
  | none=>none
 | _=>none
theorem it':∀ {ds:List D}{ns:List Int},intsD ds=some ns->ds=ns.map D.int
 | [],ns,h=>by cases h;rfl
 | d::ds,ns,h=>by
  cases d<;>try cases h
  rename_i i
  rw [intsD] at h
  cases e:intsD ds with
  | none=>rw [e] at h;cases h
  | some ms=>rw [e] at h;cases h;rw [map_cons,← it' e]
theorem iu':∀ (ns:List Int),intsD (ns.map D.int)=some ns
 | []=>rfl
 | n::ns=>by rw [map_cons,intsD,iu' ns]
theorem jN' {K:PySem.W.Frag}{I:Hp}:∀ {ns:List Int}{zs:List V},IsA K I (ns.map D.int) zs->zs=ns.map V.int
 | [],zs,h=>h.nil_inv
 | n::ns,zs,h=>by
  obtain ⟨x,r,rfl,h1,h2⟩:=IsA.cons_inv h
  rw [jN' h2,an' h1];rfl
variable {a b c c':Expr}{ga gb gc gd:M D}
end
theorem jO':∀ {vs:List Value}{ns:List Int}{i:Nat}{v:Value},IntsAre vs ns->vs[i]?=some v->∃ x t,ns[i]?=some x/\v=.int x t
 | _,_,i,v,.nil,h=>by simp at h
 | _,_,0,v,.cons _ _ r,h=>by cases h;exact ⟨_,_,rfl,rfl⟩
 | _,_,i+1,v,.cons _ _ r,h=>by
  rw [getElem?_cons_succ] at h
  obtain ⟨x,t,h1,h2⟩:=jO' r h
  exact ⟨x,t,by rw [getElem?_cons_succ];exact h1,h2⟩
end DL
namespace DL
open PySem PySem.W PySem.Spec PyProof.Rows L2
noncomputable def mx (m y:Int):Int:=if m < y then y else m
noncomputable def maxI (d:Int):List Int->Int
 | []=>d
 | x::xs=>xs.foldl mx x
theorem no' (d:Int){ns:List Int} (ne:ns≠[]) (y:Int):maxI d (ns++[y])=mx (maxI d ns) y:=by
 match ns,ne with
 | x::xs,_=>simp [maxI,foldl_append]
section
variable {prog:Program}{w:World}{A:Around}{E:Value->Shared->Prop}{s:Shared}
theorem fx' {id:String}{b:Builtin}{args:List Value}{kw:List (Str×Value)}{Q:Value->Shared->Prop} (hk:builtinKind id=none) (hp:plainId id=true) (hb:entryFor table id=some b) (ha:argsOk id ⟨args,kw⟩)
  (hc:wpAny (model prog w) A.in1 (b ⟨args,kw⟩) (λr s'=>match r with
   | .again d=>d.quiet=true/\codeAny (model prog w) A d (wants Q E) s'
   | .done f=>wants Q E (.ok f) s') E s):wpAny (model prog w) A (call (.builtin id) args kw) Q E s:=by
 have ck:checkBuiltinCall id ⟨args,kw⟩=pure ():=by
  unfold argsOk at ha
  unfold checkBuiltinCall
  rw [hk]
  revert ha
  cases Manifest.signature? id with
  | none=>exact λ_=>rfl
  | some sg=>exact λha=>ha
 refine wpAny_call (codeAny_call_builtin hp hb (wpAny_of_eq ck ?_))
 exact wpAny_mono hc (λr s' h=>by cases r<;>exact h) λ_ _ h=>h
def CellsI (d:Int) (ns:List Int) (j:Nat) (cells:Array Value):Prop:=match j with
 | 0=>cells=#[]
 | j+1=>∃ t,cells=#[.int (maxI d (ns.take (j+1))) t,.int (maxI d (ns.take (j+1))) t]
end
section
variable {X:Cx}{B:BB}{pos p p1:Pos}{kr:Nat}
inductive KX (X:Cx):List Expr->M (List D)->Prop
 | nil:KX X [] nilA
 | int {i:Int} {a b es t}:KX X es t->KX X (.Constant (.int i) a b::es) (consA (ret (.int i)) t)
 | bl {i:Bool} {a b es t}:KX X es t->KX X (.Constant (.bool i) a b::es) (consA (ret (.bl i)) t)
 | non {a b es t}:KX X es t->KX X (.Constant .none a b::es) (consA (ret .non) t)
 | str {i:Str} {a b es t}:KX X es t->KX X (.Constant (.str i) a b::es) (consA (ret (.str i)) t)
 | neg {i:Int} {a b p es t}:KX X es t->KX X (.UnaryOp .USub (.Constant (.int i) a b) p::es) (consA (un1 negI (ret (.int i))) t)
 | pow {i j:Int} {a b a' b' p es t}:KX X es t->KX X (.BinOp (.Constant (.int i) a b) .Pow (.Constant (.int j) a' b') p::es) (consA (op2 powI (ret (.int i)) (ret (.int j))) t)
 | nm {z p i es t}:PE X (.Name z p) (tVar i)->KX X es t->KX X (.Name z p::es) (consA (nm i) t)
 | tup {fs u x p es t}:KX X fs u->KX X es t->KX X (.Tuple fs x p::es) (consA (tupA u) t)
 | lst {fs u p es t}:KX X fs u->KX X es t->KX X (.List fs p::es) (consA (frz (lstA u)) t)
theorem KX.ad {es:List Expr}{t:M (List D)} (h:KX X es t):AD X B es t:=by
 induction h with
 | nil=>exact ab'
 | int _ ih=>exact aa' ac' ih rfl
 | bl _ ih=>exact aa' cC' ih rfl
 | non _ ih=>exact aa' eH' ih rfl
 | str _ ih=>exact aa' a3' ih rfl
 | neg _ ih=>exact aa' (ju' ac') ih rfl
 | pow _ ih=>exact aa' (jm' ac' ac') ih rfl
 | nm h _ ih=>exact aa' (o4' h) ih rfl
 | tup _ _ ih1 ih2=>exact aa' (aJ' ih1) ih2 rfl
 | lst _ _ ih1 ih2=>exact aa' (am' (aC' ih1)) ih2 rfl
end
end DL
namespace L2
open PySem PySem.Spec PyProof.Rows
theorem iv' {p p':Pos}{c cv:Value}:∀ (l:List Value),TriplesOk l->codeAmong p' (l++[rawInt p.line,rawInt p.col,c])=some cv->codeAmong p' l=some cv\/cv=c
 | [],_,h=>by
  right
  simp only [nil_append,codeAmong,rawInt] at h
  split at h
  ·exact (Option.some.inj h).symm
  ·cases h
 | .int a t::.int b u::x::r,ok,h=>by
  simp only [List.cons_append,codeAmong] at h ⊢
  split at h
  ·rename_i q
   rw [if_pos q]
   exact .inl h
  ·rename_i q
   rw [if_neg q]
   exact iv' r ok h
theorem gc' {a b:Int}{c:Value}:∀ (l:List Value),TriplesOk l->TriplesOk (l++[rawInt a,rawInt b,c])
 | [],_=>trivial
 | .int _ _::.int _ _::x::r,ok=>gc' r ok
section
variable {X:Cx}{aa:List (Addr×Obj)}{U:St}{H:Hp}{s:Shared}
theorem pZ' {h':Heap}{t':Nat}{P c:Addr}{q:Str}{ps:Array Value}{pos:Pos}{oc:Obj}{vs:Array Value}{t:Tok} (I:Inv X aa U H s) (hP:H P=some (.tbl q)) (eW:s.heap.get? P=some { cls:=.none,data:=.fields ps }) (ok:TriplesOk ps.toList)
  (hx:Heap.ExtBut P s.heap h') (hc:s.heap.objs.size<=c) (ec:h'.get? c=some oc) (hd:oc.data=.fields vs) (hv:vs[1]?=some (.str q t)) (qw:h'.get? P=some { cls:=.none,data:=.fields (ps++#[rawInt pos.line,rawInt pos.col,.ref c]) }) :
  Inv X aa U (upd H c (.frz oc (.own P))) { s with heap:=h',toks:=t' }:=by
 have hf:=I.hok.fresh hc
 have ne:∀ {b u},H b=some u->b≠c:=λ{b u} e=>aY' e hf
 have nP:∀ {b},H b=none->b≠P:=λ{b} n z=>by rw [z,hP] at n;cases n
 have old:∀ {q':Str}{ax:Pos}{cv:Value},codeAmong ax ps.toList=some cv->∃ c oc vs t,cv=.ref c/\H c=some (.frz oc (.own P))/\oc.data=.fields vs/\vs[1]?=some (.str q t):=λ{q' ax cv} e=>by
  obtain ⟨zq,e1,_,e3⟩:=(show ObjOk X.prog X.w H s.heap P (.tbl q) from I.hok P _ hP)
  rw [eW] at e1
  cases e1
  exact e3 _ _ e
 have:=I.step (H':=upd H c (.frz oc (.own P))) (h':=h') (g':=s.gens) (d':=s.drawn) (t':=t') (ch:=[]) (λb z=>nomatch z) (λb o _ _ _ e n=>hx b o (nP n) e) (λb o _ _ _ e n=>⟨o.slots,hx b o (nP n) e⟩)
  (λb o _ e n=>by rw [ai' (ne_of_lt (lt_of_lt_of_le (lt_size e) hc))];exact n) (λb o _ e=>by
   by_cases z:b=P
   ·exact ⟨_,by rw [z];exact qw⟩
   ·exact ⟨o,hx b o z e⟩) (λb xs e=>by rw [ai' (ne e)];exact e) (λb o u e=>by rw [ai' (ne e)];exact e) (λb q' e=>by rw [ai' (ne e)];exact e)
  (λm hm=>by
   obtain ⟨o,es,ep,e,r⟩:=hm
   exact ⟨o,es,ep,hx _ o (nP I.free) e,r⟩) (λb u e=>?_) I.bare
 ·exact this
 ·by_cases hb:b=c
  ·subst hb
   rw [ap'] at e
   cases e
   exact ⟨ec,oc,ec⟩
  ·rw [ai' hb] at e
   by_cases hbP:b=P
   ·subst hbP
    rw [hP] at e
    cases e
    refine ⟨_,qw,by rw [Array.toList_append];exact gc' _ ok,λax cv z=>?_⟩
    rw [Array.toList_append] at z
    rcases iv' _ ok z with z | z
    ·obtain ⟨c',v9,gW,t',e1,e2,e3⟩:=old (q':=q) z
     exact ⟨c',v9,gW,t',e1,by rw [ai' (ne e2)];exact e2,e3⟩
    ·exact ⟨c,oc,vs,t,z,ap',hd,hv⟩
   ·refine (I.hok b u e).stay (λd v hd q=>hx d v ?_ q) (λd q=>by rw [ai' (ne q)];exact q) (λd xs q=>by rw [ai' (ne q)];exact q) λd o u q=>by rw [ai' (ne q)];exact q
    rcases hd with z | z
    ·rw [z];exact hbP
    ·intro y;rw [y,hP] at z;cases z
end
noncomputable abbrev lamObj (params:Arguments) (body:Expr) (scope:Scope) (cl:List (Str×Addr)) (pm cv bp:Value):Obj :=
 { cls:=.type "function", data:=.func (kla_fn "<lambda>" "letter_left.<locals>.<lambda>" params body scope cl pm cv bp) }
section
variable {X:Cx}{aa:List (Addr×Obj)}{U:St}{H:Hp}{s:Shared}{params:Arguments}{body:Expr}{scope:Scope}{cV:Pos}
def Code1 (H:Hp) (cv:Value):Prop:=∃ c oc P vs t,cv=.ref c/\H c=some (.frz oc (.own P))/\oc.data=.fields vs/\vs[1]?=some (.str "letter_left.<locals>.<lambda>" t)
theorem Code1.rec' {cv:Value} (h:Code1 H cv) (ok:HOk X.prog X.w H s.heap):s.heap.CodeRec cv "letter_left.<locals>.<lambda>":=by
 obtain ⟨c,oc,P,vs,t,rfl,e,d,v⟩:=h
 obtain ⟨ho,_⟩:=(show ObjOk X.prog X.w H s.heap c (.frz oc (.own P)) from ok c _ e)
 exact ⟨c,oc,vs,t,rfl,ho,d,v⟩
theorem oI' {c P:Addr}{d5:List (Str×Addr)} (I:Inv X aa U H s) (ht:tabIn X.K "letter_left"=some (c,P)) (cg:X.env.code=.ref c) (hq:X.env.qual = "letter_left.<locals>.") (d6:defaultsOf params X.env=([],[])) (ca:closureFor scope X.env=pure d5){Q:Value->Shared->Prop}
  (k:∀ f H' s' pm cv bp,Inv X aa U H' s'->(H'=H\/∃ c' oc,H c'=none/\H'=upd H c' (.frz oc (.own P)))->Code1 H' cv->s.heap.objs.size<=f->H' f=none->s'.heap.get? f=some (lamObj params body scope d5 pm cv bp)->Q (.ref f) s') :
  wpAny (model X.prog X.w) X.A (eval (.Lambda params body scope cV) X.env) Q X.xe s:=by
 have q2:X.env.qual ++ "<lambda>" = "letter_left.<locals>.<lambda>":=by rw [hq];decide
 refine PySem.W.kla_eval d6 ?_
 rw [q2]
 have hP:H P=some (.tbl "letter_left.<locals>.<lambda>"):=I.base.tbls P _ (I.ok.tb c P ht)
 obtain ⟨ps,eW,ok,en⟩:=(show ObjOk X.prog X.w H s.heap P (.tbl "letter_left.<locals>.<lambda>") from I.hok P _ hP)
 have hg:=I.ok.mod.glob.keeps I.bk
 have C:=(I.ok.mod.cod c P ht).keeps I.bk
 have wa:mainGlobals≠P:=λz=>by
  obtain ⟨o,es,ep,e,hd,_⟩:=hg
  rw [z,eW] at e;cases e;cases hd
 have hb:s.heap.BuiltinsAt X.mg P:=by
  obtain ⟨bm,ob,b1,b2,b3,b4,b5,b6⟩:=I.ok.mod.bm
  refine ⟨bm,ob,b1,b2,λz=>?_,λz=>?_,I.bk _ _ b3,b4,b5,b6⟩
  ·obtain ⟨o,es,ep,e,hd,_⟩:=hg
   rw [← z,I.bk _ _ b3] at e;cases e;rw [b6] at hd;cases hd
  ·have:=I.bk _ _ b3
   rw [z,eW] at this;cases this;cases b4
 cases hf:codeAmong cV ps.toList with
 | some cv =>
  refine PySem.W.kla_makeFunctionHit (mg:=X.mg) ca I.ok.glob hg cg C eW ok hf hb λbp h' tk keep sz=>?_
  have lS:∀ b o,s.heap.get? b=some o->(h'.push (lamObj params body scope d5 ((X.mg "__name__").getD .none) cv bp)).get? b=some o:=λb o e=>get?_push_of_some _ (keep b o e)
  have I2:Inv X aa U H { s with heap:=h'.push (lamObj params body scope d5 ((X.mg "__name__").getD .none) cv bp),toks:=tk }:=I.kept (t':=tk) lS
  refine k _ H _ _ cv bp I2 (.inl rfl) ?_ sz (I.hok.fresh sz) (get?_push_size _ rfl)
  obtain ⟨c',oc,vs,t,e1,e2,e3,e4⟩:=en _ _ hf
  exact ⟨c',oc,P,vs,t,e1,e2,e3,e4⟩
 | none =>
  refine PySem.W.kla_makeFunction (mg:=X.mg) ca I.ok.glob hg cg C eW ok hf wa hb λc' bp h' tk hx lU bM qx wb=>?_
  obtain ⟨c2,oc,vs,t,e1,e2,e3,e4⟩:=qx
  cases e1
  have I1:=pZ' (t':=tk) I hP eW ok hx lU e2 e3 e4 wb
  have I2:Inv X aa U _ { s with heap:=h'.push (lamObj params body scope d5 ((X.mg "__name__").getD .none) (.ref c') bp),toks:=tk }:=I1.kept (t':=tk) λb o e=>get?_push_of_some _ e
  refine k _ _ _ _ (.ref c') bp I2 (.inr ⟨c',oc,I.hok.fresh lU,rfl⟩) ⟨c',oc,P,vs,t,rfl,ap',e3,e4⟩ (le_trans lU (le_of_lt bM)) ?_ (get?_push_size _ rfl)
  exact I1.hok.fresh (le_refl _)
noncomputable abbrev envL (scope:Scope) (L f:Addr) (cv:Value) (cl:List (Str×Addr)):Env:=PySem.W.envX "letter_left.<locals>.<lambda>" scope L f cv cl
noncomputable abbrev cxL (X:Cx) (A:Around) (scope:Scope) (N:List Str) (s:Shared) (H:Hp) (f:Addr) (cv:Value) (cl:List (Str×Addr)):Cx :=
 { X with A:=A.deeper (envL scope s.heap.objs.size f cv cl),N:=N,s₀:=s,H₀:=H,env:=envL scope s.heap.objs.size f cv cl,outer:=X.stack,stack:=envL scope s.heap.objs.size f cv cl::X.stack,ex:=[],fn:=λ_=>false,calm:=true,pn:=[],xe:=λ_ _=>False }
theorem oJ' {A:Around}{f c0:Addr}{g y:Str}{pm cv bp u uc:Value}{v vc:V}{t:TE}{Q:VK}{R:Value->Shared->Prop}{E:Value->Shared->Prop} (I:Inv X aa U H s) (hA:Env0 X.prog X.w X.K X.mg X.base A X.stack s H) (hd:A.handled=none) (lV:A.depth < recursionLimit)
  (hf:s.heap.get? f=some (lamObj params body scope [(y,c0)] pm cv bp)) (aU:Code1 H cv) (wc:∃ z,X.env.cells.lookup z=some c0) (bP:s.heap.IsCell c0 (some uc)) (rv:RelV v u) (rc:RelV vc uc) (zt:g≠y)
  (eP:∀ u,bindArgs (kla_fn "<lambda>" "letter_left.<locals>.<lambda>" params body scope [(y,c0)] pm cv bp) ⟨[u],[]⟩=pure [(g,u)]) (hk:scope.kind=.function) (we:scope.isCoroutine=false) (qy:scope.isGenerator=false)
  (qz:scope.names.lookup g=some .local) (wf:scope.names.lookup y=some .free) (iG:∀ x∈scope.names,x.2≠.cell) (dk:∀ x,scope.names.lookup x=some .free->x=y)
  (hb:PE (cxL X A scope [g,y] s H f cv [(y,c0)]) body t) (ht:t [some v,some vc] H Q)
  (k:∀ u' s',CE X.stack X.prog X.w H s Q u' s'->R u' s'):wpAny (model X.prog X.w) A (call (.ref f) [u]) R E s:=by
 refine wpAny_call (PySem.W.kla_callFunE lV hf rfl we qy rfl (aU.rec' I.hok) ?_)
 rw [eP]
 refine wpAny_pure (wpAny_newFunctionEnv iG (λx hx=>by rw [mem_singleton.mp hx];exact qz) (λjN fS iK=>⟨(I.nolimit).fresh _ iK,?_⟩) hk)
 have old:∀ b o,s.heap.get? b=some o->jN.get? b=some o:=λb o e=>iK.extBut b o (ne_of_lt (lt_size e)) (get?_push_of_some _ e)
 have gA:∀ x,(envL scope s.heap.objs.size f cv [(y,c0)]).kindOf x=scope.names.lookup x:=λx=>rfl
 have look:∀ x d,(envL scope s.heap.objs.size f cv [(y,c0)]).cells.lookup x=some d->x=y/\d=c0:=λx d e=>by
  have e:List.lookup x [(y,c0)]=some d:=e
  rw [List.lookup_cons] at e
  by_cases z:x=y
  ·subst z;simp at e;exact ⟨rfl,e.symm⟩
  ·have:(x == y)=false:=by simpa using z
   rw [this] at e;cases e
 have own:(envL scope s.heap.objs.size f cv [(y,c0)]).cells.lookup y=some c0:=by
  show List.lookup y [(y,c0)]=some c0
  simp
 obtain ⟨z0,wg⟩:=wc
 have ok:(cxL X A scope [g,y] s H f cv [(y,c0)]).Ok:=by
  refine ⟨hA.mod,hk,rfl,rfl,le_refl _,λa b d e1 e2=>?_,λx hx=>?_,λx d z=>(nomatch z),λ_=>hd,Around.frames_deeper hA.frames,.inr ⟨rfl,rfl⟩,λb z=>(nomatch z),hA.bs,hA.bsz,λb _ _ z=>(nomatch z),λb z=>(nomatch z),hA.funs,hA.frf,hA.tb⟩
  ·rw [(look a d e1).1,(look b d e2).1]
  ·rcases hx with hx | hx
   ·exact absurd rfl (iG _ (PySem.mem_of_lookup hx))
   ·rw [dk x hx];exact ⟨c0,own⟩
 have I':Inv (cxL X A scope [g,y] s H f cv [(y,c0)]) [] [some v,some vc] H { s with heap:=jN,toks:=s.toks+1 }:=by
  refine ⟨ok,rfl,hA.bare,Un.kept old,⟨_,fS,λi x w e1 e2 e3=>?_⟩,λx d e=>?_,I.hok.fresh (le_refl _),λx d e=>?_,λp hp=>(nomatch hp),I.hok.kept old,rfl⟩
  ·match i,e1,e2 with
   | 0,e1,e2 =>
    cases e1
    cases e2
    exact ⟨u,rv,.inl ⟨qz,by simp⟩⟩
   | 1,e1,e2 =>
    cases e1
    cases e2
    obtain ⟨o,ho,bD⟩:=bP
    exact ⟨uc,rc,.inr ⟨.inr wf,c0,own,o,old _ _ ho,bD⟩⟩
  ·rw [(look x d e).2]
   obtain ⟨o,ho,bD⟩:=bP
   exact ⟨_,o,old _ _ ho,bD⟩
  ·rw [(look x d e).2]
   exact I.freeC z0 c0 wg
 refine PySem.W.kla_codeExpr (wpAny_mono (hb [] _ _ H Q I' ht) (λv' s' h=>?_) λ_ _ x=>x.elim)
 obtain ⟨v2,H2,I2,r2,q2⟩:=h
 refine k v' s' ⟨v2,H2,I2.os,I2.bare,?_,I2.hok,r2,q2⟩
 exact I2.base
end
end L2
namespace DL
open PySem PySem.W PySem.Spec PyProof.Rows L2
def stpL (t:TE) (vc:V):V->Hp->(Int->Hp->Prop)->Prop:=λx H R=>t [some x,some vc] H λv H'=>∃ k,v=.int k/\R k H'
section
variable {X:Cx}{aa:List (Addr×Obj)}{U:L2.St}{H:Hp}{s:Shared}{params:Arguments}{body:Expr}{scope:Scope}{t:TE}{vc:V}{g y:Str}{c0 f:Addr}{pm cv bp:Value}{kb jc:Nat}
structure LamFix (X:Cx) (params:Arguments) (body:Expr) (scope:Scope) (g y:Str) (c0:Addr) (t:TE) (kb jc:Nat):Prop where
 jn:X.N[jc]?=some y
 vis:Vis X.env.scope y
 cel:X.env.kindOf y≠some .local
 cl:X.env.cells.lookup y=some c0
 ne:g≠y
 bind:∀ pm cv bp u,bindArgs (kla_fn "<lambda>" "letter_left.<locals>.<lambda>" params body scope [(y,c0)] pm cv bp) ⟨[u],[]⟩=pure [(g,u)]
 kind:scope.kind=.function
 co:scope.isCoroutine=false
 gen:scope.isGenerator=false
 lg:scope.names.lookup g=some .local
 ly:scope.names.lookup y=some .free
 no:∀ x∈scope.names,x.2≠.cell
 fre:∀ x,scope.names.lookup x=some .free->x=y
 body:∀ (A:Around) (s:Shared) (H:Hp) (f:Addr) (cv:Value),Room kb (A.deeper (envL scope s.heap.objs.size f cv [(y,c0)]))->PE (cxL X A scope [g,y] s H f cv [(y,c0)]) body t
end
section
variable {X:Cx}{aa:List (Addr×Obj)}{U:L2.St}{H:Hp}{s:Shared}{params:Arguments}{body:Expr}{scope:Scope}{t:TE}{vc:V}{g y:Str}{c0 f:Addr}{pm cv bp:Value}{kb jc:Nat}
theorem nofr (I:Inv X aa U H s){b:Addr} (h:s.heap.objs.size<=b):b∉frs X.stack:=λz=>by
 rcases mem_cons.mp (I.stkSub b z) with e | e
 ·exact absurd I.lt (by rw [← e];exact not_lt.mpr h)
 ·exact I.nofs h e
variable {B:BB}{e:Expr}{pos p cV iV d7 cp:Pos}{jx:Option Str}
end
section
variable {X:Cx}{params:Arguments}{body:Expr}{scope:Scope}{t:TE}{g y:Str}{c0:Addr}{kb jc:Nat}{B:BB}{e:Expr}{pos p cV iV d7 cp:Pos}{jx:Nat}
noncomputable def B0:BB:=λ_=>none
noncomputable def keysL (el:M D) (dc:D):List D->Option (List Int)
 | []=>some []
 | d::ds=>match el [some (.val d),some (.val dc)] with
  | some (.int k,_)=>match keysL el dc ds with
   | some kz=>some (k::kz)
   | none=>none
  | _=>none
noncomputable def valAt (j:Nat):M D:=λY=>match Y[j]? with
 | some (some (.val d))=>some (d,Y)
 | _=>none
theorem p0' {K:PySem.W.Frag}{I H:Hp}{d dc:D}{v vc:V} (iH:Same I H) (hd:Is K I d v) (hc:Is K I dc vc):Rep K B0 H I H [some v,some vc] [some (.val d),some (.val dc)] where
 iH:=iH
 gH:=Same.refl _
 len:=rfl
 slot:=λi r e=>by
  match i,e with
  | 0,e=>cases e;exact ⟨v,rfl,hd⟩
  | 1,e=>cases e;exact ⟨vc,rfl,hc⟩
 dist:=λi j r r' w e e' m=>by
  match i,e with
  | 0,e=>cases e;cases m
  | 1,e=>cases e;cases m
 bor:=λi ds e=>by
  match i,e with
  | 0,e=>cases e
  | 1,e=>cases e
end
end DL
namespace DL
open PySem PySem.Spec PyProof.Rows L2
section
variable {P:Program}{w:World}{K:PySem.W.Frag}{mg:Str->Option Value}{base:Heap}
theorem p1' {f c P':Addr}{fd:FuncData}{oc:Value}{od:Option Addr}{cH:Array (Option Value)} (hn:nsIn K mainGlobals "letter_left"=some (some (.ref f))) (ht:tabIn K "letter_left"=some (c,P')) (lk:K.lookup f=some ⟨oc,od,.func fd,cH⟩):fd.code=.ref c:=by
 unfold tabIn at ht
 rw [hn] at ht
 dsimp only at ht
 rw [lk] at ht
 dsimp only at ht
 split at ht
 ·rename_i e
  split at ht
  ·split at ht
   ·cases ht;exact e
   ·cases ht
  ·cases ht
 ·cases ht
theorem p2' {x qual:Str}{st:Stmt}{f c P':Addr}{fd:FuncData}{N ps:List Str}{k:Nat}{sp:Sp} (F:Fun K x qual st f fd) (S:FnScope N ps (defScope st)) (hn:nsIn K mainGlobals "letter_left"=some (some (.ref f))) (ht:tabIn K "letter_left"=some (c,P')) (len:∀ vs H Q E,sp vs H Q E->vs.length=ps.length)
  (cJ:∀ (ao:Value),ao=.ref c->∀ (A:Around) (outer:List Env) (s:Shared) (H:Hp) (vs:List V) (Q:VK) (E:XK),Room k (A.deeper (envOfC qual (defScope st) s.heap.objs.size f ao))->sp vs H Q E →
   ∃ t,PSs (cxOf CX0 P w K mg base N qual (defScope st) f ao A outer s H E).nox (defBody st) t/\t { nx:=λ_ H'=>Q .non H',rt:=Q } (start N vs) H):FnOk P w K mg base CX0 (k+1) f fd ps sp:=by
 obtain ⟨oc,od,kV,bF,pm,an,ao,ct,cH,rfl,lk,aU⟩:=F.ex
 refine o1' lk aU S len λA outer s H vs Q E hr cZ=>?_
 obtain ⟨t,h,q⟩:=cJ ao (p1' hn ht lk) A outer s H vs Q E hr cZ
 exact ⟨t,h.nox,q⟩
theorem rd' {x qual:Str}{c P':Addr}{st:Stmt}{f:Addr}{fd:FuncData}{N ps:List Str}{k:Nat} (F:Fun K x qual st f fd) (S:FnScope N ps (defScope st)) (hn:nsIn K mainGlobals "letter_left"=some (some (.ref f))) (ht:tabIn K "letter_left"=some (c,P')) (g:M Fl)
  (hb:∀ (ao:Value),ao=.ref c->∀ (A:Around) (outer:List Env) (s:Shared) (H:Hp) (E:XK) (B:BB),Room k (A.deeper (envOfC qual (defScope st) s.heap.objs.size f ao)) →
   SDs (cxOf CX0 P w K mg base N qual (defScope st) f ao A outer s H E).nox B (defBody st) g):FnOk P w K mg base CX0 (k+1) f fd ps (spD K (fnD N.length ps.length g)):=by
 refine p2' F S hn ht (λvs H Q E h=>?_) (λao aU A outer s H vs Q E hr h=>?_)
 ·obtain ⟨_,_,rs,_,_,h1,_,h2,_⟩:=h
  unfold fnD at h2
  by_cases hc:rs.length=ps.length
  ·rw [← hc];simpa using h1.len
  ·rw [if_neg hc] at h2;cases h2
 ·obtain ⟨G,I,rs,r,aR,h2,h3,h4,h5⟩:=h
  have hl:vs.length=rs.length:=by simpa using h2.len
  refine ⟨_,hb ao aU A outer s H E (λi=>(L2.start N vs)[i]?) hr,?_⟩
  unfold fnD at h4
  have hc:rs.length=ps.length:=by
   by_cases hc:rs.length=ps.length
   ·exact hc
   ·rw [if_neg hc] at h4;cases h4
  rw [if_pos hc] at h4
  unfold fnD1 at h4
  cases e1:g (rs.map some++replicate (N.length - rs.length) none) with
  | none=>rw [e1] at h4;cases h4
  | some q =>
   obtain ⟨fl,ae⟩:=q
   rw [e1] at h4
   dsimp only at h4
   cases e2:flR fl with
   | none=>rw [e2] at h4;cases h4
   | some rr =>
    rw [e2] at h4
    dsimp only at h4
    cases e3:fin rs ae with
    | none=>rw [e3] at h4;cases h4
    | some l =>
     rw [e3] at h4
     obtain ⟨rfl,rfl⟩:rr=r/\l=aR:=by cases h4;exact ⟨rfl,rfl⟩
     have dA:∀ {i:Nat}{v:V},vs[i]?=some v->(L2.start N vs)[i]?=some (some v):=λ{i v} e=>by
      unfold L2.start
      rw [getElem?_append_left (by rw [length_map];exact (List.getElem?_eq_some_iff.mp e).1),getElem?_map,e];rfl
     have eK:∀ {i:Nat}{v:V},(L2.start N vs)[i]?=some (some v)->vs[i]?=some v:=λ{i v} e=>cI' e
     have gL:Rep K (λi=>(L2.start N vs)[i]?) G I H (L2.start N vs) (rs.map some++replicate (N.length - rs.length) none):={
      iH:=h2.iH,gH:=h2.gH
      len:=by unfold L2.start;rw [length_append,length_append,length_map,length_map,length_replicate,length_replicate,hl]
      slot:=λi q e=>by
       have e':=cI' e
       obtain ⟨v,e4,e5⟩:=h2.slot i q (by rw [getElem?_map,e'];rfl)
       obtain ⟨v',e6,e7⟩:=getMap e4
       cases e7
       exact ⟨v,dA e6,e5⟩
      dist:=λi j q q' v e e' m m' s1 s2=>h2.dist i j q q' v (by rw [getElem?_map,cI' e];rfl) (by rw [getElem?_map,cI' e'];rfl) m m' (by rw [getElem?_map,eK s1];rfl) (by rw [getElem?_map,eK s2];rfl)
      bor:=λi ds e=>rfl }
     obtain ⟨f1,f2⟩:=fO' e3
     -- behind the body
     have cP:∀ {aj:L2.St}{H' I':Hp},Rep K (λi=>(L2.start N vs)[i]?) G I' H' aj ae->Grow G I I'->Rep K (vB vs) G I' H' (vs.map some) (l.map some):=λ{aj H' I'} r' g'=>{
      iH:=r'.iH,gH:=r'.gH
      len:=by rw [length_map,length_map,f1,hl]
      slot:=λi q e=>by
       obtain ⟨q',e4,e5⟩:=getMap e
       cases e5
       rcases f2 i q e4 with ⟨d,rfl,e6⟩ | ⟨ds,rfl,e6⟩
       ·obtain ⟨v,e7,e8⟩:=h2.slot i (.val d) (by rw [getElem?_map,e6];rfl)
        exact ⟨v,e7,Is.mono g'.up e8⟩
       ·obtain ⟨v,e7,e8⟩:=r'.slot i _ e6
        have e9:=r'.bor i ds e6
        rw [e7] at e9
        exact ⟨v,by rw [getElem?_map,eK e9.symm];rfl,e8⟩
      dist:=λi j q q' v e e' m m' s1 s2=>by
       obtain ⟨_,e4,e5⟩:=getMap e
       cases e5
       obtain ⟨_,e6,e7⟩:=getMap e'
       cases e7
       rcases f2 i q e4 with ⟨d,rfl,_⟩ | ⟨ds,rfl,e8⟩
       ·cases m
       rcases f2 j q' e6 with ⟨d,rfl,_⟩ | ⟨dB,rfl,e9⟩
       ·cases m'
       obtain ⟨v1,a1,_⟩:=getMap s1
       obtain ⟨v2,a2,a3⟩:=getMap s2
       have b1:=r'.bor i ds e8
       have b2:=r'.bor j dB e9
       rename_i b3
       cases b3
       cases a3
       rw [dA a1] at b1
       rw [dA a2] at b2
       exact r'.dist i j _ _ v e8 e9 rfl rfl b1 b2
      bor:=λi ds e=>rfl }
     have ap:∀ {aj:L2.St}{H' I':Hp}{p:Addr},Rep K (λi=>(L2.start N vs)[i]?) G I' H' aj ae->Apart aj ae p->Apart (vs.map some) (l.map some) p:=λ{aj H' I' p} r' a i q e m z=>by
      obtain ⟨_,e4,e5⟩:=getMap e
      cases e5
      rcases f2 i q e4 with ⟨d,rfl,_⟩ | ⟨ds,rfl,e8⟩
      ·cases m
      obtain ⟨v1,a1,a2⟩:=getMap z
      cases a2
      exact a i _ e8 rfl ((r'.bor i ds e8).trans (dA a1))
     refine ⟨G,I,_,fl,ae,gL,e1,λaj H' I' r' g'=>?_⟩
     cases fl with
     | nx=>cases e2;exact h5 _ H' I' (cP r' g') g' (show Is K I' D.non V.non from Is.non)
     | bk=>cases e2
     | ct=>cases e2
     | rt r0 =>
      cases e2
      intro v hv
      refine h5 v H' I' (cP r' g') g' ?_
      cases rr with
      | val d=>exact hv
      | bor d=>exact hv
      | fro d=>exact hv
      | dic d =>
       obtain ⟨p,xs,b1,b2,b3,b4,b5,b6⟩:=hv
       exact ⟨p,xs,b1,b2,b3,b4,ap r' b5,b6⟩
      | own d =>
       obtain ⟨p,xs,b1,b2,b3,b4,b5,b6⟩:=hv
       exact ⟨p,xs,b1,b2,b3,b4,ap r' b5,b6⟩
end
section
variable {X:Cx}{params:Arguments}{body:Expr}{scope:Scope}{g y:Str}{c0:Addr}{kb jc:Nat}{el:M D}
theorem np' (jn:X.N[jc]?=some y) (cl:X.env.cells.lookup y=some c0) (hb:∀ (A:Around) (s:Shared) (H:Hp) (f:Addr) (cv:Value),Room kb (A.deeper (envL scope s.heap.objs.size f cv [(y,c0)]))->ED (cxL X A scope [g,y] s H f cv [(y,c0)]) B0 body el)
  (hk:X.env.scope.names.lookup y=some .cell:=by rfl) (ne:g≠y:=by decide) (qp:∀ pm cv bp u,bindArgs (kla_fn "<lambda>" "letter_left.<locals>.<lambda>" params body scope [(y,c0)] pm cv bp) ⟨[u],[]⟩=pure [(g,u)]:=by intro _ _ _ _;rfl)
  (k1:scope.kind=.function:=by rfl) (k2:scope.isCoroutine=false:=by rfl) (k3:scope.isGenerator=false:=by rfl) (lg:scope.names.lookup g=some .local:=by rfl) (ly:scope.names.lookup y=some .free:=by rfl)
  (no:∀ x∈scope.names,x.2≠.cell:=by decide +kernel) (fre:∀ x∈scope.names,x.2=.free->x.1=y:=by decide +kernel):LamFix X params body scope g y c0 (tD X.K B0 el) kb jc :=
 ⟨jn,.inr (.inl hk),(λz=>by
  have z:X.env.scope.names.lookup y=some .local:=z
  rw [hk] at z
  cases z),cl,ne,qp,k1,k2,k3,lg,ly,no,λx h=>fre _ (PySem.mem_of_lookup h) rfl,hb⟩
end
end DL
namespace DL
open PySem PySem.W PySem.Spec PyProof.Rows L2
def keyS (iW:V->Hp->(Int->Hp->Prop)->Prop) (P:Hp->Prop):List V->Hp->List Int->(List Int->Hp->Prop)->Prop
 | [],H,ag,Q=>P H/\Q ag H
 | x::xs,H,ag,Q=>P H/\iW x H λk H'=>keyS iW P xs H' (ag++[k]) Q
theorem keyS.now {iW:V->Hp->(Int->Hp->Prop)->Prop}{P:Hp->Prop}{xs:List V}{H:Hp}{ag:List Int}{Q:List Int->Hp->Prop} (h:keyS iW P xs H ag Q):P H:=by
 cases xs<;>exact h.1
noncomputable def bestK {α:Type}:α->Int->List Int->List α->α
 | b,m,k::kz,x::xs=>if k < m then bestK x k kz xs else bestK b m kz xs
 | b,_,_,_=>b
noncomputable def minL {α:Type} (d:α) (kz:List Int) (xs:List α):α:=match kz,xs with
 | k::kz,x::xs=>bestK x k kz xs
 | _,_=>d
theorem me' (a v d:Value):argsOk "min" ⟨[a],[(ofString "key", v),(ofString "default", d)]⟩:=by unfold argsOk;kernel_rfl
def HeldK (xs:List V) (ag:List Int) (j:Nat) (cells:Array Value):Prop:=(j=0/\cells=#[]/\ag=[]) ∨
 ∃ b m vb tb,0 < j/\cells=#[vb,.int m tb]/\RelV b vb/\∀ kz,minL .non (ag++kz) xs=bestK b m kz (xs.drop j)
section
variable {X:Cx}{aa:List (Addr×Obj)}{U:L2.St}{params:Arguments}{body:Expr}{scope:Scope}{t:TE}{vc:V}{g y:Str}{c0 f:Addr}{pm cv bp:Value}{kb jc:Nat}
theorem kF' (hr:Room (kb+3) X.A) (L:LamFix X params body scope g y c0 t kb jc) (hv:U[jc]?=some (some vc)){l it S:Addr}{xs:List V} (hX:S≠it) (jO:l≠it) (nf:f≠S/\f≠it)
  (fi:∀ H',H' it=none->FpOk X aa H' it) (fs:∀ H',H' S=none->FpOk X aa H' S) (wj:∀ b,b=it\/b=S\/b=f->b∉frs X.stack){Q:VK}:∀ (left:Nat) (s:Shared) (H:Hp) (j:Nat) (cells:Array Value) (c:Nat) (ag:List Int),j+left=xs.length →
  Inv X aa U H s->s.heap.get? f=some (lamObj params body scope [(y,c0)] pm cv bp)->H f=none->Code1 H cv->s.heap.IsListIter it l j->H it=none->s.heap.get? S=some (seqObj "list" cells c)->H S=none->HeldK xs ag j cells->ag.length=j →
  keyS (stpL t vc) (λH=>SqL X.K H l xs) (xs.drop j) H ag (λkz H'=>Q (minL .non kz xs) H') →
  codeAny (model X.prog X.w) X.A (.builtin "min.loop" ⟨[.ref it,.ref f,.ref S],[(ofString "default", .none)]⟩) (wants (EP X aa U Q) X.xe) s:=by
 have aO:(toString "min"++toString ".loop":String) = "min.loop":=by decide
 intro left
 induction left with
 | zero =>
  intro s H j cells c ag len I hf nF aU lW nI slot nS bB al kk
  have hj:j=xs.length:=by omega
  rw [drop_of_length_le (by omega)] at kk
  obtain ⟨hq,q⟩:=kk
  obtain ⟨ac,rv,tl,hz⟩:=I.list hq
  have lv:=rv.length
  have hh:X.A.in1.handled=none:=hr.in1.hd
  have W:=Walks.list (prog:=X.prog) (w:=X.w) (A:=X.A.in1) hh it l jO ac.toArray
  refine codeAny_builtin PySem.F.entry_min_loop ?_;rw [under_plainId plain_min_loop _]
  refine wpAny_bind (m:=seqItems? (.ref S)) (wpAny_seqItems slot rfl (wpAny_bind (m:=tryCatch (pyNext (.ref it)) _) (wpAny_tryCatch (W.done s _ _ ⟨by rw [size_toArray,← lv,← hj];exact lW,tl.isList⟩ λg tk kp=>?_))))
  have I1:Inv X aa U H { s with heap:=g,toks:=tk }:=cK' I (ch:=[it]) (λb hb=>by rw [mem_singleton.mp hb];exact fi _ nI) λb u hb e=>kp b u hb e
  have aS:=kp S _ (by simpa using hX) slot
  rcases bB with ⟨h0,rfl,rfl⟩ | ⟨b,m,vb,tb,h0,rfl,rb,hb⟩
  ·have e0:xs=[]:=length_eq_zero_iff.mp (by omega)
   refine wpAny_bind (wpAny_rule (wpAny_pure ?_))
   rw [e0] at q
   exact ⟨.non,H,I1,rfl,q⟩
  ·refine wpAny_bind (m:=updateSeq S λ_=>#[]) (wpAny_updateSeq aS rfl (wpAny_bind (wpAny_letGo (wpAny_pure ?_))))
   have e:=hb []
   rw [append_nil,drop_of_length_le (by omega)] at e
   have e:minL .non ag xs=b:=e
   rw [e] at q
   refine ⟨b,H,cK' (t':=tk) I1 (ch:=[S]) (λb hb=>by rw [mem_singleton.mp hb];exact fs _ nS) λb u hb e=>(get?_update_other _ _ (λz=>hb (by rw [z];exact mem_singleton.mpr rfl))).trans e,rb,q⟩
 | succ left ih =>
  intro s H j cells c ag len I hf nF aU lW nI slot nS bB al kk
  have hj:j < xs.length:=by omega
  have hq:=kk.now
  obtain ⟨ac,rv,tl,hz⟩:=I.list hq
  have lv:=rv.length
  have hh:X.A.in1.handled=none:=hr.in1.hd
  have W:=Walks.list (prog:=X.prog) (w:=X.w) (A:=X.A.in1) hh it l jO ac.toArray
  refine codeAny_builtin PySem.F.entry_min_loop ?_;rw [under_plainId plain_min_loop _]
  refine wpAny_bind (m:=seqItems? (.ref S)) (wpAny_seqItems slot rfl (wpAny_bind (m:=tryCatch (pyNext (.ref it)) _) (wpAny_tryCatch (W.item j s _ _ (by rw [size_toArray,← lv];exact hj) ⟨lW,tl.isList⟩ λv g1 tk eR dF kp=>?_))))
  have I1:Inv X aa U H { s with heap:=g1,toks:=tk }:=cK' I (ch:=[it]) (λb hb=>by rw [mem_singleton.mp hb];exact fi _ nI) λb u hb e=>kp b u hb e
  have aS:=kp S _ (by simpa using hX) slot
  have qA:=kp f _ (by simpa using nf.2) hf
  rw [drop_eq_getElem_cons hj] at kk
  obtain ⟨u',dC,ru⟩:=rv.get (getElem?_eq_getElem hj)
  have ev:u'=v:=by
   have:ac[j]?=some v:=by simpa using eR
   rw [dC] at this
   cases this
   rfl
  subst ev
  obtain ⟨m0,_,lo⟩:=I1.loc
  obtain ⟨uc,rc,lk⟩:=lo jc y vc L.jn hv L.vis
  have bP:g1.IsCell c0 (some uc):=by
   rcases lk with ⟨z,_⟩ | ⟨_,c,z,q⟩
   ·exact absurd z L.cel
   ·rw [L.cl] at z;cases z;exact q
  have r2:Room (kb+1) X.A.in1:=(hr.mono (by omega:kb+2<=kb+3)).in1
  obtain ⟨oI,wk,gw,qB⟩:=id dF.1
  refine wpAny_bind (m:=tryCatch (holding [u'] (call (.ref f) [u'])) _) (wpAny_tryCatch (wpAny_holding (oJ' I1 I1.env0.in1 r2.hd (by have:=r2.dp;omega) qA aU ⟨y,L.cl⟩ bP ru rc L.ne (λu=>L.bind pm cv bp u) L.kind L.co L.gen L.lg L.ly L.no L.fre (L.body _ _ H f cv (r2.deeper _)) kk.2 λu2 s2 ce=>?_)))
  obtain ⟨v2,H2,os,bare,un,hok,rr,k,rfl,qC⟩:=ce
  obtain ⟨d8,gg,dd,tt,gz⟩:=s2
  obtain rfl:gz=s.os:=os
  obtain ⟨hZ,rfl⟩:=rr
  have I2:=I1.call (h':=d8) (g':=gg) (d':=dd) (t':=tt) (ch:=[]) un hok bare (λb z=>absurd z (by simp))
  have d7:∀ b o,(b=it\/b=S\/b=f)->g1.get? b=some o->H b=none->d8.get? b=some o/\H2 b=none:=λb o hb e n=>⟨un.keep b o e n (wj b hb) (by simp),un.free b o e n (by simp)⟩
  have kI:=d7 it _ (.inl rfl) wk nI
  have kS:=d7 S _ (.inr (.inl rfl)) aS nS
  have kF:=d7 f _ (.inr (.inr rfl)) qA nF
  have jP:Code1 H2 cv:=by
   obtain ⟨c,oc,P,vs,t,q1,q2,q3⟩:=aU
   exact ⟨c,oc,P,vs,t,q1,un.frzs _ _ _ q2,q3⟩
  have next:∀ (aB:Array Value),HeldK xs (ag++[k]) (j+1) aB->codeAny (model X.prog X.w) X.A (.builtin "min.loop" ⟨[.ref it,.ref f,.ref S],[(ofString "default", .none)]⟩) (wants (EP X aa U Q) X.xe) { heap:=d8.update S (mapSeq λ_=>aB),gens:=gg,drawn:=dd,toks:=tt,os:=s.os }:=λaB hc=>by
   have nz:∀ {b:Addr}{o:Obj},b≠S->d8.get? b=some o->(d8.update S (mapSeq λ_=>aB)).get? b=some o:=λne e=>(get?_update_other _ _ (Ne.symm ne)).trans e
   obtain ⟨c2,cL⟩:∃ c2,(d8.update S (mapSeq λ_=>aB)).get? S=some (seqObj "list" aB c2):=⟨_,get?_update_seq kS.1 _⟩
   have I3:Inv X aa U H2 { heap:=d8.update S (mapSeq λ_=>aB),gens:=gg,drawn:=dd,toks:=tt,os:=s.os }:=cK' (s:={ heap:=d8,gens:=gg,drawn:=dd,toks:=tt,os:=s.os }) (t':=tt) I2 (ch:=[S]) (λb hb=>by rw [mem_singleton.mp hb];exact fs _ kS.2) λb u hb e=>nz (by simpa using hb) e
   exact ih _ H2 (j+1) aB c2 (ag++[k]) (by omega) I3 (nz nf.1 kF.1) kF.2 jP ⟨oI,nz (Ne.symm hX) kI.1,gw,qB⟩ kI.2 cL kS.2 hc (by simp [al]) qC
  rcases bB with ⟨h0,rfl,rfl⟩ | ⟨b,m,vb,tb,h0,rfl,rb,hb⟩
  ·subst h0
   refine wpAny_bind (m:=updateSeq S λ_=>#[u',.int k hZ]) (wpAny_updateSeq kS.1 rfl ?_)
   rw [aO]
   refine wpAny_pure ⟨plainId_quiet plain_min_loop _,next _ (.inr ⟨xs[0],k,u',hZ,by omega,rfl,ru,λkz=>?_⟩)⟩
   cases xs with
   | nil=>simp at hj
   | cons x xs=>rfl
  ·have st:∀ kz,minL .non (ag++[k]++kz) xs=if k < m then bestK xs[j] k kz (xs.drop (j+1)) else bestK b m kz (xs.drop (j+1)):=λkz=>by
    rw [append_assoc,singleton_append,hb,drop_eq_getElem_cons hj,bestK]
   refine wpAny_bind (m:=tryCatch (holding [u',.int k hZ] (richCompare .Lt (.int k hZ) (.int m tb) >>= _)) _) (wpAny_tryCatch (wpAny_holding (wpAny_bind (lt_int (wpAny_bind (wpAny_holding (wpAny_truthy_bool (wpAny_bind (wpAny_letGo (wpAny_pure ?_))))))))))
   by_cases lt:k < m
   ·rw [if_pos (by simpa using lt)]
    refine wpAny_bind (wpAny_updateSeq kS.1 rfl (wpAny_bind (wpAny_letGo ?_)))
    rw [aO]
    refine wpAny_pure ⟨plainId_quiet plain_min_loop _,next _ (.inr ⟨xs[j],k,u',hZ,by omega,rfl,ru,λkz=>?_⟩)⟩
    rw [st,if_pos lt]
   ·rw [if_neg (by simpa using lt)]
    refine wpAny_bind (wpAny_letGo ?_)
    rw [aO]
    refine wpAny_pure ⟨plainId_quiet plain_min_loop _,ih _ H2 (j+1) _ c (ag++[k]) (by omega) I2 kF.1 kF.2 jP ⟨oI,kI.1,gw,qB⟩ kI.2 kS.1 kS.2 (.inr ⟨b,m,vb,tb,by omega,rfl,rb,λkz=>?_⟩) (by simp [al]) qC⟩
    rw [st,if_neg lt]
theorem iw' (hr:Room (kb+3) X.A) (L:LamFix X params body scope g y c0 t kb jc){H:Hp}{s:Shared} (hv:U[jc]?=some (some vc)) (I:Inv X aa U H s) (hf:s.heap.get? f=some (lamObj params body scope [(y,c0)] pm cv bp)) (nF:H f=none) (ff:f∉frs X.stack) (aU:Code1 H cv)
  {l:Addr}{xs:List V} (hq:SqL X.K H l xs){Q:VK} (kk:keyS (stpL t vc) (λH=>SqL X.K H l xs) xs H [] λkz H'=>Q (minL .non kz xs) H') :
  wpAny (model X.prog X.w) X.A (call (.builtin "min") [.ref l] [(ofString "key", .ref f),(ofString "default", .none)]) (EP X aa U Q) X.xe s:=by
 obtain ⟨ac,rv,tl,hz⟩:=I.list hq
 have L1:=tl.isList
 have low:l < s.heap.objs.size:=by obtain ⟨_,e,_⟩:=L1;exact lt_size e
 refine fx' PySem.F.kind_min PySem.F.plain_min PySem.F.entry_min (me' _ _ _) ?_
 refine wpAny_bind (wpAny_of_eq (a:=[some (.ref f),some .none]) rfl (wpAny_bind (wpAny_pure (wpAny_bind (wpAny_pyIter_list L1 (wpAny_bind (wpAny_newObj_type ?_)))))))
 have aO:(toString "min"++toString ".loop":String) = "min.loop":=by decide
 rw [aO]
 have bw:∀ o:Obj,(s.heap.push o).objs.size=s.heap.objs.size+1:=λo=>size_push ..
 have qD:f < s.heap.objs.size:=lt_size hf
 have geI:s.heap.objs.size<=s.heap.objs.size:=le_refl _
 have lX:s.heap.objs.size<=s.heap.objs.size+1:=le_succ _
 have kp:∀ (o1 o2:Obj) b o,s.heap.get? b=some o->((s.heap.push o1).push o2).get? b=some o:=λo1 o2 b o e=>get?_push_of_some _ (get?_push_of_some _ e)
 refine wpAny_pure ⟨plainId_quiet plain_min_loop _,?_⟩;rw [bw]
 refine kF' hr L hv (l:=l) (it:=s.heap.objs.size) (S:=s.heap.objs.size+1) (xs:=xs) (Nat.succ_ne_self _) (ne_of_lt low) ⟨ne_of_lt (lt_succ_of_lt qD),ne_of_lt qD⟩ (λH' n=>I.fpOk geI n) (λH' n=>I.fpOk lX n) (λb hb=>?_) xs.length _ H 0 #[] 0 [] (zero_add _) (I.kept (t':=s.toks) (kp _ _)) (kp _ _ _ _ hf) nF aU ⟨_,get?_push_of_some _ (get?_push_size _ rfl),rfl,rfl⟩ (I.hok.fresh geI) ?_ (I.hok.fresh lX) (.inl ⟨rfl,rfl,rfl⟩) rfl kk
 ·rcases hb with h | h | h
  ·rw [h];exact nofr I geI
  ·rw [h];exact nofr I lX
  ·rw [h];exact ff
 ·rw [← bw]
  exact get?_push_size _ rfl
end
section
variable {X:Cx}{params:Arguments}{body:Expr}{scope:Scope}{t:TE}{g y:Str}{c0:Addr}{kb jc:Nat}{B:BB}{e:Expr}{pos p cV iV d7 cp:Pos}{jx:Nat}
noncomputable def tMinL (X:Cx) (t:TE) (jc:Nat) (te:TE):TE:=λU H Q=>te U H λx H1=>∃ l xs vc,x=.ref l/\U[jc]?=some (some vc)/\SqL X.K H1 l xs ∧
 keyS (stpL t vc) (λH=>SqL X.K H l xs) xs H1 [] (λkz H'=>Q (minL .non kz xs) H') ∧
 ∀ c' o,H1 c'=none->SqL X.K (upd H1 c' o) l xs/\keyS (stpL t vc) (λH=>SqL X.K H l xs) xs (upd H1 c' o) [] (λkz H'=>Q (minL .non kz xs) H')
theorem nq' {te:TE}{c P:Addr} (hr:Room (kb+3) X.A) (hg:Gl X "min") (hm:X.mg "min"=none) (L:LamFix X params body scope g y c0 t kb jc) (ht:tabIn X.K "letter_left"=some (c,P)) (cg:X.env.code=.ref c) (hq:X.env.qual = "letter_left.<locals>.") (d6:defaultsOf params X.env=([],[]))
  (ca:closureFor scope X.env=pure [(y,c0)]) (he:PE X e te) (hs:backTo pos (starEach [e] X.env)=(false,eval e X.env)::backTo pos (starEach [] X.env):=by rfl) (hp:(backTo pos (starEach [e] X.env)).any (·.1)=false:=by rfl) :
  PE X (.Call (.Name "min" p) [e] [⟨some "key", .Lambda params body scope cV,iV⟩,⟨some "default", .Constant .none jx cp,d7⟩] pos) (tMinL X t jc te):=by
 intro aa s U H Q I h
 refine wpAny_Call_Name_kw (cu' I hg hm boot_min (callWith_kw ?_ hs hp) (by decide) (by decide))
 rw [hs]
 refine Calls.spliced_cons (thn (he aa s U H _ I h) λv s1 ⟨x,H1,I1,r1,l,xs,vc,ex,hv,gI,kk,qE⟩=>Calls.spliced_nil (kws_cons ?_))
 subst ex
 cases r1
 refine oI' I1 ht cg hq d6 ca λf H' s' pm cv bp I2 hH aU qF nF hf=>kws_cons (Constant_none (kws_nil ?_))
 rcases hH with rfl | ⟨c',oc,n,rfl⟩
 ·exact iw' hr L hv I2 hf nF (nofr I1 qF) aU gI kk
 ·exact iw' hr L hv I2 hf nF (nofr I1 qF) aU (qE c' _ n).1 (qE c' _ n).2
noncomputable def minLF (el:M D) (d dc:D):Option D:=match d with
 | .lst ds=>match keysL el dc ds with
  | some kz=>some (minL .non kz ds)
  | none=>none
 | _=>none
noncomputable def minLam (j:Nat) (el ga:M D):M D:=bnd ga λd=>bnd (valAt j) λdc=>lft (minLF el d dc)
theorem jP' {K:PySem.W.Frag}{G:Hp}{Y:Gm}{U:L2.St}{el:M D}{dc:D}{vc:V}{l:Addr}{all:List V}{Qf:List Int->Hp->Prop}:∀ (ds:List D) (xs:List V) (H I:Hp) (ag kz:List Int),RdK K I l all->IsA K I ds xs->Is K I dc vc->Rep K B G I H U Y->keysL el dc ds=some kz →
  (∀ H' I',Rep K B G I' H' U Y->Grow G I I'->Qf (ag++kz) H')->keyS (stpL (tD K B0 el) vc) (λH=>SqL K H l all) xs H ag Qf
 | [],xs,H,I,ag,kz,hl,ha,hc,r,h,k=>by
  rw [ha.nil_inv]
  cases h
  have:=k H I r (Grow.refl _ _)
  rw [append_nil] at this
  exact ⟨(Same.rdK r.iH hl).sq,this⟩
 | d::ds,xs,H,I,ag,kz,hl,ha,hc,r,h,k=>by
  obtain ⟨x,xr,rfl,h1,h2⟩:=ha.cons_inv
  unfold keysL at h
  split at h
  ·rename_i n ah e1
   split at h
   ·rename_i kr e2
    cases h
    refine ⟨(Same.rdK r.iH hl).sq,H,I,_,_,_,p0' r.iH h1 hc,e1,λv H' I' r' g' hv=>⟨n,an' hv,?_⟩⟩
    have rx:Rep K B G I' H' U Y:=r.ext g'.up r'.gH r'.iH g'.new
    refine jP' ds xr H' I' (ag++[n]) kr (Same.rdK g'.up hl) (h2.mono g'.up) (hc.mono g'.up) rx e2 λH2 I2 r2 g2=>?_
    have:=k H2 I2 r2 ((show Grow G I I' from ⟨g'.up,λb o e=>(g'.new b o e).imp id λhn=>r.gFree hn⟩).trans g2)
    rw [append_assoc]
    exact this
   ·cases h
  ·cases h
theorem gt' {K:PySem.W.Frag}{I:Hp}:∀ {kz:List Int}{ds:List D}{xs:List V}{b:D}{x:V}{m:Int},IsA K I ds xs->Is K I b x->Is K I (bestK b m kz ds) (bestK x m kz xs)
 | [],ds,xs,b,x,m,h,hb=>by
  unfold bestK
  exact hb
 | k::kz,[],xs,b,x,m,h,hb=>by
  rw [h.nil_inv]
  unfold bestK
  exact hb
 | k::kz,d::ds,xs,b,x,m,h,hb=>by
  obtain ⟨y,xr,rfl,h1,h2⟩:=h.cons_inv
  rw [bestK,bestK]
  split
  ·exact gt' h2 h1
  ·exact gt' h2 hb
theorem p3' {K:PySem.W.Frag}{I:Hp}{kz:List Int}{ds:List D}{xs:List V} (h:IsA K I ds xs):Is K I (minL .non kz ds) (minL .non kz xs):=by
 cases kz with
 | nil=>exact Is.non
 | cons k kz =>
  cases ds with
  | nil=>rw [h.nil_inv];exact Is.non
  | cons d ds =>
   obtain ⟨y,xr,rfl,h1,h2⟩:=h.cons_inv
   exact gt' h2 h1
theorem nr' {el ga:M D}{c P:Addr} (hr:Room (kb+3) X.A) (hg:Gl X "min") (hm:X.mg "min"=none) (L:LamFix X params body scope g y c0 (tD X.K B0 el) kb jc) (ht:tabIn X.K "letter_left"=some (c,P)) (cg:X.env.code=.ref c) (hq:X.env.qual = "letter_left.<locals>.") (d6:defaultsOf params X.env=([],[]))
  (ca:closureFor scope X.env=pure [(y,c0)]) (he:ED X B e ga) (hs:backTo pos (starEach [e] X.env)=(false,eval e X.env)::backTo pos (starEach [] X.env):=by rfl) (hp:(backTo pos (starEach [e] X.env)).any (·.1)=false:=by rfl) :
  ED X B (.Call (.Name "min" p) [e] [⟨some "key", .Lambda params body scope cV,iV⟩,⟨some "default", .Constant .none jx cp,d7⟩] pos) (minLam jc el ga):=PE.imp (nq' hr hg hm L ht cg hq d6 ca he hs hp) λU H Q q=>by
 obtain ⟨G,I,Y,d,ae,r,e1,kk⟩:=q
 obtain ⟨d1,ab,e2,e3⟩:=af' e1
 obtain ⟨dc,ah,e4,e5⟩:=af' e3
 obtain ⟨e6,rfl⟩:=ay' e5
 refine ⟨G,I,Y,d1,ab,r,e2,λv H1 I1 r1 g1 hd=>?_⟩
 unfold valAt at e4
 split at e4
 ·rename_i d2 sl
  cases e4
  obtain ⟨vc,hv,wl⟩:=r1.slot jc _ sl
  unfold minLF at e6
  split at e6
  ·rename_i ds
   split at e6
   ·rename_i kz ek
    cases e6
    obtain ⟨l,xs,rfl,h3,h4⟩:=ax' hd
    have go:∀ H2,Rep X.K B G I1 H2 U ae->keyS (stpL (tD X.K B0 el) vc) (λH=>SqL X.K H l xs) xs H2 [] (λkz H'=>Q (minL .non kz xs) H'):=λH2 r2 =>
     jP' ds xs H2 I1 [] kz h3 h4 wl r2 ek λH' I' r' g'=>kk _ H' I' r' (g1.trans g') (p3' (h4.mono g'.up))
    refine ⟨l,xs,vc,rfl,hv,(Same.rdK r1.iH h3).sq,go H1 r1,λc' o n=>⟨?_,go _ (r1.fresh n o)⟩⟩
    exact (Same.rdK (r1.fresh n o).iH h3).sq
   ·cases e6
  ·cases e6
 ·cases e4
end
section
variable {prog:Program}{w:World}{A:Around}{E:Value->Shared->Prop}{s:Shared}
theorem ns' {it S:Addr}{fp wr:List Addr}{n:Nat}{P:Nat->Value->Prop}{St:Nat->Heap->Prop}{Fit:Shared->Prop}{aG:Result->Shared->Prop}{ns:List Int} (W:Walks prog w A.in1 it fp wr n P St) (dW:S∉fp)
  (hn:n=ns.length) (n0:0 < n) (hP:∀ i v,P i v->∃ x t,ns[i]?=some x/\v=.int x t) (stay:∀ s h' tk,Fit s->(∀ b o,b∉wr->b≠S->s.heap.get? b=some o->h'.get? b=some o)->Fit { s with heap:=h',toks:=tk })
  (fin:∀ t s,Fit s->aG (.ok (.ret (.int (maxI 0 ns) t))) s):∀ (left:Nat) (s:Shared) (cells:Array Value) (c j:Nat),j+left=n->St j s.heap->Fit s->CellsI 0 ns j cells->s.heap.get? S=some { cls:=.type "list", dict:=none,data:=.seq cells c,slots:=#[] } →
   codeAny (model prog w) A (.builtin "max.loop" ⟨[.ref it,.none,.ref S],[]⟩) aG s:=by
 have apart:S∉wr:=λh=>dW (W.sub _ h)
 have bR:∀ {g:Heap}{f:Obj->Obj}{b:Addr}{o:Obj},b≠S->g.get? b=some o->(g.update S f).get? b=some o:=λne e=>(get?_update_other _ _ (Ne.symm ne)).trans e
 have aO:(toString "max"++toString ".loop":String) = "max.loop":=by decide
 intro left
 induction left with
 | zero =>
  intro s cells c j len st eQ bB slot
  refine codeAny_builtin F.entry_max_loop ?_;rw [under_plainId F.plain_max_loop _]
  refine wpAny_bind (m:=seqItems? (.ref S)) (wpAny_seqItems slot rfl (wpAny_bind (m:=tryCatch (pyNext (.ref it)) _) (wpAny_tryCatch (W.done s _ _ (len▸st) λg tk kk=>?_))))
  have all:ns.take j=ns:=List.take_of_length_le (by omega)
  cases j with
  | zero =>
   omega
  | succ m =>
   obtain ⟨t,rfl⟩:=bB
   rw [all] at slot ⊢
   exact wpAny_bind (m:=updateSeq S λ_=>#[]) (wpAny_updateSeq (kk S _ apart slot) rfl (wpAny_bind (wpAny_letGo (wpAny_pure (fin t _ (stay s _ tk eQ λx o n1 n2 e=>bR n2 (kk x o n1 e)))))))
 | succ left ih =>
  intro s cells c j len st eQ bB slot
  refine codeAny_builtin F.entry_max_loop ?_;rw [under_plainId F.plain_max_loop _]
  refine wpAny_bind (m:=seqItems? (.ref S)) (wpAny_seqItems slot rfl (wpAny_bind (m:=tryCatch (pyNext (.ref it)) _) (wpAny_tryCatch (W.item j s _ _ (by omega) st λv g tk eR dF kk=>?_))))
  obtain ⟨x,t,ex,rfl⟩:=hP j v eR
  have aS:=kk S _ apart slot
  have dg:=stay s g tk eQ λx o n1 _ e=>kk x o n1 e
  have dX:ns.take (j+1)=ns.take j++[x]:=by rw [List.take_add_one,ex];rfl
  have next:∀ (f:Obj->Obj) (aB:Array Value) (c':Nat),(g.update S f).get? S=some { cls:=.type "list", dict:=none,data:=.seq aB c',slots:=#[] }->CellsI 0 ns (j+1) aB →
    codeAny (model prog w) A (.builtin "max.loop" ⟨[.ref it,.none,.ref S],[]⟩) aG { s with heap:=g.update S f,toks:=tk }:=λf aB c' here is =>
   ih _ aB c' (j+1) (by omega) (W.frame _ _ _ dF λb hb o e=>bR (λz=>dW (z▸hb)) e) (stay { s with heap:=g,toks:=tk } _ tk dg λx o _ n2 e=>bR n2 e) is here
  cases j with
  | zero =>
   cases bB
   refine wpAny_bind (m:=updateSeq S λ_=>#[.int x t,.int x t]) (wpAny_updateSeq aS rfl ?_)
   rw [aO]
   refine wpAny_pure ⟨plainId_quiet F.plain_max_loop _,next _ _ _ (get?_update_self _ aS rfl) ⟨t,?_⟩⟩
   rw [dX]
   rfl
  | succ m =>
   obtain ⟨t2,rfl⟩:=bB
   have ne:ns.take (m+1)≠[]:=λz=>by
    rcases List.take_eq_nil_iff.mp z with z | z
    ·exact absurd z (Nat.succ_ne_zero _)
    ·rw [z] at ex;simp at ex
   have step:maxI 0 (ns.take (m+2))=mx (maxI 0 (ns.take (m+1))) x:=by rw [dX,no' 0 ne]
   refine wpAny_bind (m:=tryCatch (holding [.int x t,.int x t] (richCompare .Gt (.int x t) (.int (maxI 0 (ns.take (m+1))) t2) >>= _)) _) (wpAny_tryCatch (wpAny_holding (wpAny_bind (gt_int (wpAny_bind (wpAny_holding (wpAny_truthy_bool (wpAny_bind (wpAny_letGo (wpAny_pure ?_))))))))))
   by_cases hb:maxI 0 (ns.take (m+1)) < x
   ·rw [if_pos (by simpa using hb)]
    refine wpAny_bind (wpAny_updateSeq aS rfl (wpAny_bind (wpAny_letGo ?_)))
    rw [aO]
    refine wpAny_pure ⟨plainId_quiet F.plain_max_loop _,next _ _ _ (get?_update_self _ aS rfl) ⟨t,?_⟩⟩
    rw [step,mx,if_pos hb]
   ·rw [if_neg (by simpa using hb)]
    refine wpAny_bind (wpAny_letGo ?_)
    rw [aO]
    refine wpAny_pure ⟨plainId_quiet F.plain_max_loop _,ih _ _ c (m+2) (by omega) dF dg ⟨t2,?_⟩ aS⟩
    rw [step,mx,if_neg hb]
theorem nt' {p:Addr}{ac:List Value}{ns:List Int}{Q:Value->Shared->Prop} (hh:A.handled=none) (L:s.heap.IsList p ac.toArray) (hI:IntsAre ac ns) (n0:0 < ns.length)
  (fin:∀ t h' tk,(∀ b o,s.heap.get? b=some o->h'.get? b=some o)->Q (.int (maxI 0 ns) t) { s with heap:=h',toks:=tk }):wpAny (model prog w) A (call (.builtin "max") [.ref p]) Q E s:=by
 have low:p < s.heap.objs.size:=by obtain ⟨_,e,_⟩:=L;exact lt_size e
 refine fx' F.kind_max F.plain_max F.entry_max (PySem.F.args_max1 _) ?_
 refine wpAny_bind (wpAny_of_eq (a:=[none,none]) rfl (wpAny_bind (wpAny_pure (wpAny_bind (wpAny_pyIter_list L (wpAny_bind (wpAny_newObj_type ?_)))))))
 have aO:(toString "max"++toString ".loop":String) = "max.loop":=by decide
 rw [aO]
 have W:=Walks.list (prog:=prog) (w:=w) (A:=A.in1) hh s.heap.objs.size p (ne_of_lt low) ac.toArray
 have bw:∀ o:Obj,(s.heap.push o).objs.size=s.heap.objs.size+1:=λo=>size_push ..
 refine wpAny_pure ⟨plainId_quiet F.plain_max_loop _,ns' (Fit:=λs'=>∃ h' tk,s'={ s with heap:=h',toks:=tk }/\∀ b o,s.heap.get? b=some o->h'.get? b=some o) (ns:=ns) W ?_ ?_ ?_ ?_ ?_ ?_ ac.toArray.size _ #[] 0 0 (zero_add _) ⟨⟨_,get?_push_of_some _ (get?_push_size _ rfl),rfl,rfl⟩,(L.push _).push _⟩ ⟨_,_,rfl,λb o e=>get?_push_of_some _ (get?_push_of_some _ e)⟩ rfl (get?_push_size _ rfl)⟩
 ·rw [bw]
  intro z
  rw [mem_cons,mem_singleton] at z
  rcases z with z | z
  ·exact absurd z (Nat.succ_ne_self _)
  ·exact absurd z (ne_of_gt (lt_succ_of_lt low))
 ·rw [size_toArray,hI.length]
 ·rw [size_toArray,hI.length];exact n0
 ·intro i v hv
  exact jO' hI (by simpa using hv)
 ·rintro _ h' tk ⟨g,dX,rfl,keep⟩ k
  refine ⟨h',tk,rfl,λb o e=>k b o (λz=>?_) (λz=>?_) (keep b o e)⟩
  ·rw [mem_singleton] at z
   exact ne_of_lt (lt_size e) z
  ·rw [bw] at z
   have:=lt_size e
   rw [z] at this
   exact absurd this (not_lt.mpr (le_succ _))
 ·rintro t _ ⟨g,tk,rfl,keep⟩
  exact fin t g tk keep
end
section
variable {X:Cx}{B:BB}{e:Expr}{pos p:Pos}{t:M (List D)}
theorem nu' (hc:X.calm=true):CallR X (.builtin "max") (λxs H Q=>∃ (p:Addr) (ns:List Int),xs=[.ref p]/\SqL X.K H p (ns.map V.int)/\0 < ns.length/\Q (.int (maxI 0 ns)) H):=by
 rintro aa s U H xs us Q I r ⟨p,ns,rfl,hq,n0,q⟩
 obtain ⟨u,rfl,e⟩:=r.one
 cases e
 obtain ⟨ac,rv,tl,hz⟩:=I.list hq
 exact nt' (I.ok.hd hc) tl.isList (jM' rv) n0 λt h' tk keep=>⟨.int (maxI 0 ns),H,I.kept keep,⟨t,rfl⟩,q⟩
noncomputable def maxNF (ds:List D):Option D:=match ds with
 | [.lst xs]=>match intsD xs with
  | some ns=>if 0 < ns.length then some (.int (maxI 0 ns)) else none
  | none=>none
 | _=>none
theorem lu' {ns:List Int} (h:0 < ns.length):maxNF [.lst (ns.map D.int)]=some (.int (maxI 0 ns)):=by
 unfold maxNF
 simp only [iu']
 exact if_pos h
theorem lv' (hc:X.calm=true) (hg:Gl X "max") (hm:X.mg "max"=none) (ha:AD X B [e] t) (he:starEach [e] X.env=(false,eval e X.env)::starEach [] X.env:=by rfl) (au:(backTo pos (starEach [] X.env)).any (·.1)=false:=by rfl) :
  ED X B (.Call (.Name "max" p) [e] [] pos) (fn1 maxNF t):=dR' (nu' hc) (λds d e B G I H U Y xs Q r h k=>by
 unfold maxNF at e
 split at e
 ·rename_i ys
  cases en:intsD ys with
  | none=>rw [en] at e;cases e
  | some ns =>
   rw [en] at e
   obtain ⟨n0,rfl⟩:=aG' e
   rw [it' en] at h
   obtain ⟨x,rfl,hx⟩:=h.one
   obtain ⟨q,zs,rfl,h3,h4⟩:=ax' hx
   rw [jN' h4] at h3
   exact ⟨q,ns,rfl,(Same.rdK r.iH h3).sq,n0,k.now r (Is.int _)⟩
 ·cases e) hg hm boot_max ha (by decide) (by decide) he au
end
end DL
namespace DL
open PySem L2
variable {α Z:Type}
def wp (m:M α) (Y:Gm) (Q:α->Gm->Prop):Prop:=∃ a ae,m Y=some (a,ae)/\Q a ae
def wpF (g:List R->Option (R×List R)) (rs:List R) (Q:R->List R->Prop):Prop:=∃ r aR,g rs=some (r,aR)/\Q r aR
def wpB (g:List R->Option (R×List R)) (c ds:List D) (Q:R->List D->Prop):Prop:=∃ r c',bcF g c ds=some (r,c')/\Q r c'
section
variable {Y:Gm}{Q:α->Gm->Prop}{QD:D->Gm->Prop}{QL:List D->Gm->Prop}{QB:Bool->Gm->Prop}{QS:Fl->Gm->Prop}{QU:Unit->Gm->Prop}
theorem wp.mono {m:M α}{Q':α->Gm->Prop} (h:wp m Y Q) (f:∀ a Y,Q a Y->Q' a Y):wp m Y Q':=by
 obtain ⟨a,ae,e,q⟩:=h
 exact ⟨a,ae,e,f _ _ q⟩
@[simp ↓] theorem dr' {a:α}:wp (ret a) Y Q↔Q a Y:=by
 constructor
 ·rintro ⟨b,ae,e,q⟩;cases e;exact q
 ·intro q;exact ⟨_,_,rfl,q⟩
@[simp ↓] theorem aW' {Z:Type}{m:M Z}{f:Z->M α}:wp (bnd m f) Y Q↔wp m Y λb ab=>wp (f b) ab Q:=by
 constructor
 ·rintro ⟨a,ae,e,q⟩
  obtain ⟨b,ab,e1,e2⟩:=af' e
  exact ⟨b,ab,e1,a,ae,e2,q⟩
 ·rintro ⟨b,ab,e1,a,ae,e2,q⟩
  exact ⟨a,ae,by unfold bnd;rw [e1];exact e2,q⟩
@[simp ↓] theorem jQ' {a:α}:wp (lft (some a)) Y Q↔Q a Y:=by
 constructor
 ·rintro ⟨b,ae,e,q⟩;cases e;exact q
 ·intro q;exact ⟨_,_,rfl,q⟩
theorem aj' {o:Option α}{a:α} (h:o=some a):wp (lft o) Y Q↔Q a Y:=by rw [h,jQ']
@[simp ↓] theorem pg' {i:Nat}:wp (nm i) Y QD↔match Y[i]? with
  | some (some (.val d))=>QD d Y
  | some (some (.own ds))=>QD (.lst ds) (Y.set i (some (.val (.lst ds))))
  | some (some (.fro ds))=>QD (.lst ds) Y
  | _=>False:=by
 unfold wp nm
 rcases e:Y[i]? with _ | _ | r
 ·simp
 ·simp
 ·cases r<;>simp<;>exact ⟨λ⟨_,_,⟨h1,h2⟩,q⟩=>by subst h1;subst h2;exact q,λq=>⟨_,_,⟨rfl,rfl⟩,q⟩⟩
@[simp ↓] theorem s8' {F:D->D->Option α}{a b:M D}:wp (op2 F a b) Y Q↔wp a Y λx ab=>wp b ab λy ah=>wp (lft (F x y)) ah Q:=by simp [op2]
@[simp ↓] theorem s9' {F:List D->Option α}{t:M (List D)}:wp (fn1 F t) Y Q↔wp t Y λds ab=>wp (lft (F ds)) ab Q:=by simp [fn1]
@[simp ↓] theorem sz':wp nilA Y QL↔QL [] Y:=by simp [nilA]
@[simp ↓] theorem sr' {g:M D}{t:M (List D)}:wp (consA g t) Y QL↔wp g Y λd ab=>wp t ab λds ah=>QL (d::ds) ah:=by simp [consA]
@[simp ↓] theorem sA' {t:M (List D)}:wp (tupA t) Y QD↔wp t Y λds ab=>wp (lft (if ds.length<=lim then some (.tup ds) else none)) ab QD:=by simp [tupA]
@[simp ↓] theorem sB' {t:M (List D)}:wp (lstA t) Y QL↔wp t Y λds ab=>wp (lft (if ds.length<=lim then some ds else none)) ab QL:=by simp [lstA]
@[simp ↓] theorem ta' {t:M (List D)}:wp (frz t) Y QD↔wp t Y λds ab=>QD (.lst ds) ab:=by simp [frz]
@[simp ↓] theorem tb' {g:M D}:wp (tst g) Y QB↔wp g Y λd ab=>wp (lft (asB d)) ab QB:=by simp [tst]
@[simp] theorem tc' {b:Bool}:asB (.bl b)=some b:=rfl
@[simp] theorem sC' {b:Int}:asI (.int b)=some b:=rfl
@[simp ↓] theorem td' {F F':D->D->Option D}{a b c:M D}:wp (chn F F' a b c) Y QD↔wp a Y λx ab=>wp b ab λy ah=>wp (lft (F x y)) ah λz aQ=>wp (lft (asB z)) aQ λk aM=>if k=true then wp c aM λw gJ=>wp (lft (F' y w)) gJ QD else QD (.bl false) aM:=by
 simp only [chn,aW']
 constructor<;>(intro h;refine h.mono λx ab h=>h.mono λy ah h=>h.mono λz aQ h=>h.mono λk aM h=>?_)<;>(cases k<;>simpa using h)
@[simp ↓] theorem sD' {a b:M Bool}:wp (andT a b) Y QB↔wp a Y λk ab=>if k=true then wp b ab QB else QB false ab:=by
 simp only [andT,aW']
 constructor<;>(intro h;refine h.mono λk ab h=>?_)<;>(cases k<;>simpa using h)
@[simp ↓] theorem te' {a b:M Bool}:wp (orT a b) Y QB↔wp a Y λk ab=>if k=true then QB true ab else wp b ab QB:=by
 simp only [orT,aW']
 constructor<;>(intro h;refine h.mono λk ab h=>?_)<;>(cases k<;>simpa using h)
@[simp ↓] theorem sE' {a:M Bool}:wp (notT a) Y QB↔wp a Y λk ab=>QB (!k) ab:=by simp [notT]
@[simp ↓] theorem sF' {a b:M D}:wp (andV a b) Y QD↔wp a Y λd ab=>wp (lft (asB d)) ab λk ah=>if k=true then wp b ah QD else QD (.bl false) ah:=by
 simp only [andV,aW']
 constructor<;>(intro h;refine h.mono λd ab h=>h.mono λk ah h=>?_)<;>(cases k<;>simpa using h)
theorem lw' {a b:M Fl}:wp (seqS a b) Y QS↔wp a Y λf ab=>match f with
  | .nx=>wp b ab QS
  | .rt r=>QS (.rt r) ab
  | .bk=>QS .bk ab
  | .ct=>QS .ct ab:=by
 simp only [seqS,aW']
 constructor<;>(intro h;refine h.mono λf ab h=>?_)<;>(cases f<;>simpa using h)
@[simp ↓] theorem ss' {a:M D}:wp (dropS a) Y QS↔wp a Y λ_ ab=>QS .nx ab:=by simp [dropS]
@[simp ↓] theorem sG' {a:M D}:wp (retS a) Y QS↔wp a Y λd ab=>QS (.rt (.val d)) ab:=by simp [retS]
@[simp ↓] theorem sH' {a:M (List D)}:wp (retO a) Y QS↔wp a Y λd ab=>QS (.rt (.own d)) ab:=by simp [retO]
@[simp ↓] theorem tf' {c:M Bool}{a b:M Fl}:wp (ifS c a b) Y QS↔wp c Y λk ab=>if k=true then wp a ab QS else wp b ab QS:=by
 simp only [ifS,aW']
 constructor<;>(intro h;refine h.mono λk ab h=>?_)<;>(cases k<;>simpa using h)
@[simp ↓] theorem p4' {i:Nat}{q:R}:wp (putS i q) Y QU↔i < Y.length/\QU () (Y.set i (some q)):=by
 unfold wp putS
 constructor
 ·rintro ⟨a,ae,e,h⟩
  obtain ⟨h1,h2⟩:=aG' e
  cases h2
  exact ⟨h1,h⟩
 ·rintro ⟨h1,h2⟩
  exact ⟨(),_,by rw [if_pos h1],h2⟩
@[simp ↓] theorem tg' {i:Nat}{d:D}:wp (tgN i d) Y QU↔i < Y.length/\QU () (Y.set i (some (.val d))):=by simp [tgN]
@[simp ↓] theorem su':wp (tgNil []) Y QU↔QU () Y:=by simp [tgNil]
@[simp ↓] theorem sj' {f:D->M Unit}{t:List D->M Unit}{d:D}{ds:List D}:wp (tgCons f t (d::ds)) Y QU↔wp (f d) Y λ_ ab=>wp (t ds) ab QU:=by simp [tgCons]
@[simp ↓] theorem sv' {n:Nat}{t:List D->M Unit}{ds:List D}:wp (tgTup n t (.tup ds)) Y QU↔ds.length=n/\wp (t ds) Y QU:=by
 unfold tgTup
 by_cases h:ds.length=n
 ·simp [h]
 ·simp only [h,if_false,false_and,iff_false]
  rintro ⟨_,_,e,_⟩;cases e
@[simp ↓] theorem sI' {g:M D}{f:D->M Unit}:wp (asgS g f) Y QS↔wp g Y λd ab=>wp (f d) ab λ_ ah=>QS .nx ah:=by simp [asgS]
@[simp ↓] theorem sJ' {i:Nat}{g:M D}:wp (setV i g) Y QS↔wp g Y λd ab=>i < ab.length/\QS .nx (ab.set i (some (.val d))):=by simp [setV]
@[simp ↓] theorem sK' {i:Nat}{g:M (List D)}:wp (setO i g) Y QS↔wp g Y λd ab=>i < ab.length/\QS .nx (ab.set i (some (.own d))):=by simp [setO]
@[simp ↓] theorem dP' {i:Nat}{m:M α}:wp (mutS i m) Y Q↔isMut Y i=true/\wp m Y Q:=by
 unfold mutS wp
 by_cases h:isMut Y i=true
 ·simp [h]
 ·simp [h]
@[simp ↓] theorem tJ' {i:Nat}{F:List D->Option (List D)}:wp (wr i F) Y QU↔match Y[i]? with
  | some (some (.own ds))=>∃ es,F ds=some es/\QU () (Y.set i (some (.own es)))
  | some (some (.bor ds))=>∃ es,F ds=some es/\QU () (Y.set i (some (.bor es)))
  | _=>False:=by
 unfold wp wr
 rcases e:Y[i]? with _ | _ | r
 ·simp
 ·simp
 ·cases r with
  | val d=>simp
  | fro d=>simp
  | dic d=>simp
  | own ds =>
   rcases he:F ds with _ | es
   ·simp [he]
   ·simp [he]
    exact ⟨λ⟨_,q⟩=>q,λq=>⟨(),q⟩⟩
  | bor ds =>
   rcases he:F ds with _ | es
   ·simp [he]
   ·simp [he]
    exact ⟨λ⟨_,q⟩=>q,λq=>⟨(),q⟩⟩
@[simp ↓] theorem sL' {i:Nat}{g:M D}:wp (appS i g) Y QS↔isMut Y i=true/\wp g Y λd ab=>wp (wr i (appF d)) ab λ_ ah=>QS .nx ah:=by simp only [appS,dP',aW',dr']
@[simp ↓] theorem sM' {i:Nat}{g:M D}:wp (extS i g) Y QS↔isMut Y i=true/\wp g Y λd ab=>wp (wr i (extF d)) ab λ_ ah=>QS .nx ah:=by simp only [extS,dP',aW',dr']
@[simp ↓] theorem th' {i:Nat}{gi gv:M D}:wp (stS i gi gv) Y QS↔wp gv Y λd ab=>isMut ab i=true/\wp gi ab λn ah=>wp (lft (asI n)) ah λk aQ=>wp (wr i (stF k d)) aQ λ_ aM=>QS .nx aM:=by simp only [stS,dP',aW',dr']
@[simp ↓] theorem sN' {i:Nat}:wp (look i) Y QD↔match Y[i]? with
  | some (some (.own ds))=>QD (.lst ds) Y
  | some (some (.bor ds))=>QD (.lst ds) Y
  | _=>False:=by
 unfold wp look
 rcases e:Y[i]? with _ | _ | r
 ·simp
 ·simp
 ·cases r<;>simp<;>exact ⟨λ⟨_,_,⟨h1,h2⟩,q⟩=>by subst h1;subst h2;exact q,λq=>⟨_,_,⟨rfl,rfl⟩,q⟩⟩
@[simp ↓] theorem ti' {i:Nat}{g:M D}:wp (atN i g) Y QD↔isMut Y i=true/\wp g Y λn ab=>wp (look i) ab λl ah=>wp (lft (ixF l n)) ah QD:=by simp only [atN,dP',aW']
@[simp ↓] theorem sO' {i:Nat}:wp (lenN i) Y QD↔wp (look i) Y λl ah=>wp (lft (lenF [l])) ah QD:=by simp only [lenN,aW']
@[simp ↓] theorem sP' {neg:Bool}{i:Nat}{g:M D}:wp (cmpN neg i g) Y QD↔isMut Y i=true/\wp g Y λn ab=>wp (look i) ab λl ah=>wp (lft (eqF neg l n)) ah QD:=by simp only [cmpN,dP',aW']
@[simp ↓] theorem tj' {g:M D}{QO:Option Int->Gm->Prop}:wp (prt g) Y QO↔wp g Y λd ab=>wp (lft (asI d)) ab λi ah=>QO (some i) ah:=by simp [prt]
@[simp ↓] theorem tl' {F:D->Option Int->Option Int->Option α}{g:M D}{gl gh:M (Option Int)}:wp (sl3 F g gl gh) Y Q↔wp g Y λd ab=>wp gl ab λl ah=>wp gh ah λh aQ=>wp (lft (F d l h)) aQ Q:=by simp [sl3]
@[simp ↓] theorem nv' {g:M D}:wp (itS g) Y QL↔wp g Y λd ab=>wp (lft (seqI d)) ab QL:=by simp [itS]
@[simp ↓] theorem sQ' {it:M (List D)}{aq:D->M Unit}{body:M Fl}:wp (forS it aq body) Y QS↔wp it Y λds ab=>wp (forM aq body ds) ab QS:=by simp [forS]
@[simp ↓] theorem sw' {i:Nat}{g:List R->Option (R×List R)}{t:M (List D)}{QR:R->Gm->Prop}:wp (callB i g t) Y QR↔isMut Y i=true/\wp t Y λds ab=>match ab[i]? with
  | some (some (.own c))=>wpB g c ds λr c'=>QR r (ab.set i (some (.own c')))
  | some (some (.bor c))=>wpB g c ds λr c'=>QR r (ab.set i (some (.bor c')))
  | _=>False:=by
 simp only [callB,dP',aW']
 refine and_congr_right λ_=>?_
 have aI:∀ (ds:List D) (ab:Gm),wp (λY:Gm=>match Y[i]? with
   | some (some (.own c))=>match bcF g c ds with
    | some (r,c')=>some (r,Y.set i (some (.own c')))
    | none=>none
   | some (some (.bor c))=>match bcF g c ds with
    | some (r,c')=>some (r,Y.set i (some (.bor c')))
    | none=>none
   | _=>none) ab QR↔(match ab[i]? with
  | some (some (.own c))=>wpB g c ds λr c'=>QR r (ab.set i (some (.own c')))
  | some (some (.bor c))=>wpB g c ds λr c'=>QR r (ab.set i (some (.bor c')))
  | _=>False):=by
  intro ds ab
  unfold wp wpB
  dsimp only
  rcases e:ab[i]? with _ | _ | r
  ·simp
  ·simp
  ·cases r with
   | val d=>simp
   | fro d=>simp
   | dic d=>simp
   | own c =>
    rcases he:bcF g c ds with _ | ⟨r,c'⟩
    ·simp [he]
    ·simp only [he]
     constructor
     ·rintro ⟨a,b,h,q⟩;cases h;exact ⟨_,_,rfl,q⟩
     ·rintro ⟨a,b,h,q⟩;cases h;exact ⟨_,_,rfl,q⟩
   | bor c =>
    rcases he:bcF g c ds with _ | ⟨r,c'⟩
    ·simp [he]
    ·simp only [he]
     constructor
     ·rintro ⟨a,b,h,q⟩;cases h;exact ⟨_,_,rfl,q⟩
     ·rintro ⟨a,b,h,q⟩;cases h;exact ⟨_,_,rfl,q⟩
 constructor
 ·intro h;exact h.mono λds ab h=>(aI ds ab).mp h
 ·intro h;exact h.mono λds ab h=>(aI ds ab).mpr h
@[simp ↓] theorem tm' {i:Nat}{g:List R->Option (R×List R)}{t:M (List D)}:wp (cbV i g t) Y QD↔wp (callB i g t) Y λr ab=>wp (lft (asV r)) ab QD:=by simp only [cbV,aW']
@[simp] theorem sR' {d:D}:asV (.val d)=some d:=rfl
@[simp] theorem sS' {d:List D}:asO (.own d)=some d:=rfl
theorem cL' {aq:D->M Unit}{body:M Fl}{ds:List D} (J:Nat->Gm->Prop) (h0:J 0 Y)
  (hs:∀ (i:Nat) (d:D) (Y:Gm),ds[i]?=some d->J i Y->wp (aq d) Y λ_ ab=>wp body ab λf ah=>match f with
   | .nx=>J (i+1) ah
   | .ct=>J (i+1) ah
   | .bk=>QS .nx ah
   | .rt r=>QS (.rt r) ah) (hd:∀ Y,J ds.length Y->QS .nx Y):wp (forM aq body ds) Y QS:=by
 have aI:∀ (n:Nat) (es:List D) (Y:Gm) (i:Nat),es.length=n->ds.drop i=es->i<=ds.length->J i Y->wp (forM aq body es) Y QS:=by
  intro n
  induction n with
  | zero =>
   intro es Y i hl he hi hj
   have:es=[]:=length_eq_zero_iff.mp hl
   subst this
   have cw:i=ds.length:=by
    have:=congrArg length he
    rw [length_drop] at this
    simp at this;omega
   subst cw
   exact ⟨_,_,rfl,hd Y hj⟩
  | succ n ih =>
   intro es Y i hl he hi hj
   cases es with
   | nil=>simp at hl
   | cons d es =>
    have bM:i < ds.length:=by
     have:=congrArg length he
     rw [length_drop,length_cons] at this
     omega
    have wn:ds.drop i=ds[i]::ds.drop (i+1):=drop_eq_getElem_cons bM
    rw [wn] at he
    injection he with e1 e2
    have bD:ds[i]?=some d:=by rw [getElem?_eq_getElem bM,e1]
    have step:=hs i d Y bD hj
    rw [forM,aW']
    refine step.mono λ_ ab h1=>?_
    rw [aW']
    refine h1.mono λf ah h2=>?_
    cases f with
    | nx=>exact ih es ah (i+1) (by simpa using hl) e2 bM h2
    | ct=>exact ih es ah (i+1) (by simpa using hl) e2 bM h2
    | bk=>exact ⟨_,_,rfl,h2⟩
    | rt r=>exact ⟨_,_,rfl,h2⟩
 exact aI ds.length ds Y 0 rfl rfl (zero_le _) h0
theorem eO' {n ar:Nat}{body:M Fl}{rs:List R}{QR:R->List R->Prop} (hl:rs.length=ar) (h:wp body (rs.map some++replicate (n - rs.length) none) λf ae=>∃ r,flR f=some r/\∃ l,fin rs ae=some l/\QR r l):wpF (fnD n ar body) rs QR:=by
 obtain ⟨f,ae,e,r,e1,l,e2,q⟩:=h
 refine ⟨r,l,?_,q⟩
 unfold fnD
 rw [if_pos hl]
 unfold fnD1
 rw [e]
 simp only [e1,e2]
theorem dt' {g:List R->Option (R×List R)}{ds:List D}{d:D} (h:wpF g (ds.map .val) λr _=>r=.val d):cvF g ds=some d:=by
 obtain ⟨r,aR,e,rfl⟩:=h
 unfold cvF
 rw [e]
theorem nw' {g:List R->Option (R×List R)}{ds:List D}{P:List D->Prop} (h:wpF g (ds.map .val) λr _=>∃ d,r=.own d/\P d):∃ d,coF g ds=some d/\P d:=by
 obtain ⟨r,aR,e,d,rfl,hp⟩:=h
 exact ⟨d,by unfold coF;rw [e],hp⟩
theorem re' {g:List R->Option (R×List R)}{c ds:List D}{QR:R->List D->Prop} (h:wpF g (.bor c::ds.map .val) λr aR=>∃ c' t,aR=.bor c'::t/\QR r c'):wpB g c ds QR:=by
 obtain ⟨r,aR,e,c',t,rfl,q⟩:=h
 exact ⟨r,c',by unfold bcF;rw [e],q⟩
end
end DL
namespace DL
open PySem L2
section
variable {α:Type}{Y:Gm}{Q:α->Gm->Prop}{QD:D->Gm->Prop}{QL:List D->Gm->Prop}{i j:Int}
@[simp ↓] theorem bP' {c:Prop} [Decidable c]{a:α}:wp (lft (if c then some a else none)) Y Q↔c/\Q a Y:=by
 by_cases h:c
 ·simp [h]
 ·simp only [h,if_false,false_and,iff_false]
  rintro ⟨_,_,e,_⟩;cases e
@[simp ↓] theorem sT':wp (λ_=>(none:Option (α×Gm))) Y Q↔False:=by
 simp only [iff_false]
 rintro ⟨_,_,e,_⟩;cases e
@[simp] theorem tK':subI (.int i) (.int j)=some (.int (i - j)):=rfl
@[simp] theorem tL':addF (.int i) (.int j)=some (.int (i+j)):=rfl
@[simp] theorem f_lt:ltI (.int i) (.int j)=some (.bl (decide (i < j))):=rfl
@[simp] theorem f_le:leI (.int i) (.int j)=some (.bl (decide (i<=j))):=rfl
@[simp] theorem f_gt:gtI (.int i) (.int j)=some (.bl (decide (j < i))):=rfl
@[simp] theorem f_ge:geI (.int i) (.int j)=some (.bl (decide (j<=i))):=rfl
@[simp ↓] theorem tn':wp (lft (modI (.int i) (.int j))) Y QD↔0 < j/\QD (.int (i % j)) Y:=by simp [modI,intF]
@[simp ↓] theorem tp':wp (lft (divI (.int i) (.int j))) Y QD↔(0 < j/\j < 2 ^ 200)/\QD (.int (i / j)) Y:=by simp only [divI,intF,decide_eq_true_eq,bP']
@[simp ↓] theorem tq':wp (lft (mulI (.int i) (.int j))) Y QD↔((-(2 ^ 64) < i/\i < 2 ^ 64)\/(-(2 ^ 64) < j/\j < 2 ^ 64))/\QD (.int (i*j)) Y:=by simp only [mulI,intF,decide_eq_true_eq,bP']
@[simp ↓] theorem tr':wp (lft (powI (.int i) (.int j))) Y QD↔(0<=j/\j<=1000000/\i.natAbs < 2 ^ 64)/\QD (.int (i ^ j.toNat)) Y:=by simp only [powI,intF,decide_eq_true_eq,bP']
@[simp] theorem tM' {ds:List D}:ixF (.lst ds) (.int i)=atI ds i:=rfl
@[simp] theorem tN' {ds:List D}:ixF (.tup ds) (.int i)=atI ds i:=rfl
theorem g2' {α:Type}{ds:List α}{n:Nat}:atI ds (n:Int)=ds[n]?:=by
 unfold atI ixN
 rw [if_pos (by omega)]
 by_cases h:(n:Int) < ds.length
 ·rw [if_pos h];simp
 ·rw [if_neg h]
  have:ds.length<=n:=by omega
  simp [List.getElem?_eq_none this]
@[simp] theorem tO' {α:Type}{a:α}{ds:List α}:atI (a::ds) 0=some a:=by
 rw [show (0:Int)=((0:Nat):Int) from rfl,g2'];rfl
@[simp] theorem tP' {α:Type}{a b:α}{ds:List α}:atI (a::b::ds) 1=some b:=by
 rw [show (1:Int)=((1:Nat):Int) from rfl,g2'];rfl
@[simp] theorem tQ' {α:Type}{a b c:α}{ds:List α}:atI (a::b::c::ds) 2=some c:=by
 rw [show (2:Int)=((2:Nat):Int) from rfl,g2'];rfl
theorem jR' {α:Type}{ds:List α}{i:Int} (h0:0<=i) (h1:i < ds.length):∃ a,atI ds i=some a/\a∈ds:=by
 obtain ⟨n,rfl⟩:=Int.eq_ofNat_of_zero_le h0
 have h:n < ds.length:=by omega
 exact ⟨ds[n],by rw [g2',getElem?_eq_getElem h],getElem_mem h⟩
@[simp] theorem tR' {a b d:D}{ds:List D}:stF 1 d (a::b::ds)=some (a::d::ds):=by
 unfold stF ixN
 rw [if_pos (by omega),if_pos (by simp;omega)]
 rfl
@[simp] theorem tS' {a b c d:D}{ds:List D}:stF 2 d (a::b::c::ds)=some (a::b::d::ds):=by
 unfold stF ixN
 rw [if_pos (by omega),if_pos (by simp;omega)]
 rfl
@[simp] theorem ts' {ds:List D}:lenF [.lst ds]=some (.int ds.length):=rfl
@[simp] theorem tt' {ds:List D}:lenF [.tup ds]=some (.int ds.length):=rfl
@[simp] theorem tT':minF [.int i,.int j]=some (.int (min i j)):=by
 unfold minF;dsimp only;congr 2;split<;>omega
@[simp] theorem tU':maxF [.int i,.int j]=some (.int (max i j)):=by
 unfold maxF;dsimp only;congr 2;split<;>omega
@[simp] theorem tu' {ds:List D}:tupF [.lst ds]=some (.tup ds):=rfl
@[simp] theorem tv' {ds:List D}:tupF [.tup ds]=some (.tup ds):=rfl
@[simp] theorem tw' {ds:List D}:lstF [.lst ds]=some ds:=rfl
@[simp] theorem tx' {ds:List D}:lstF [.tup ds]=some ds:=rfl
@[simp] theorem jS' {ds:List D}:seqI (.lst ds)=some ds:=rfl
@[simp] theorem ty' {ds:List D}:seqI (.tup ds)=some ds:=rfl
@[simp] theorem tz' {b:Bool}:reprF [.bl b]=some (.str (if b then "True" else "False")):=rfl
@[simp] theorem tV' {ds:List D}{lo hi:Option Int}:slF (.lst ds) lo hi=some (.lst (cutD ds lo hi)):=rfl
@[simp] theorem tA' {xs ys:List D}:zipI [.lst xs,.lst ys]=some (pairsD xs ys):=rfl
@[simp] theorem tC' {xs ys:List D}:zipI [.tup xs,.tup ys]=some (pairsD xs ys):=rfl
@[simp] theorem sU' {xs:List D}:enumI [.lst xs]=some (numD 0 xs):=rfl
@[simp] theorem sV' {xs:List D}:enumI [.tup xs]=some (numD 0 xs):=rfl
@[simp ↓] theorem sW':wp (lft (rngI1 [.int j])) Y QL↔(-1000000<=j/\j<=1000000)/\QL (rngD 0 j.toNat) Y:=by simp only [rngI1,bP']
@[simp ↓] theorem tW' {neg:Bool}{a b:D}:wp (lft (eqF neg a b)) Y QD↔(dep a<=100\/dep b<=100)/\QD (.bl (if neg then !deq a b else deq a b)) Y:=by simp only [eqF,bP']
@[simp ↓] theorem tD' {xs ys:List D}:wp (lft (catF (.lst xs) (.lst ys))) Y QL↔xs.length+ys.length<=lim/\QL (xs++ys) Y:=by simp only [catF,bP']
@[simp ↓] theorem sX' {xs ys:List D}:wp (lft (addF (.tup xs) (.tup ys))) Y QD↔xs.length+ys.length<=lim/\QD (.tup (xs++ys)) Y:=by simp only [addF,bP']
@[simp] theorem sY' {a:Int}:dep (.int a)=0:=by simp [dep]
@[simp] theorem sZ' {a:Str}:dep (.str a)=0:=by simp [dep]
@[simp] theorem s0':dep (.lst [])=1:=by simp [dep,depA]
@[simp] theorem s2' {a b:Str}:deq (.str a) (.str b)=(a == b):=by simp [deq]
@[simp] theorem s3' {a b:Int}:deq (.int a) (.int b)=(a == b):=by simp [deq]
@[simp] theorem s4' {ds:List D}:deq (.lst ds) (.lst [])=ds.isEmpty:=by cases ds<;>simp [deq,deqA]
@[simp] theorem sx' {a b:Bool}:deq (.str (if a then "True" else "False")) (.str (if b then "True" else "False"))=(a == b):=by cases a<;>cases b<;>decide
@[simp] theorem nx':lim=1000000:=rfl
theorem i6' {n d k:Nat}:HT.sIx n d (some (k:Int))=min k n:=by
 show (if (k:Int) < 0 then ((k:Int)+(n:Int)).toNat else min (k:Int).toNat n)=min k n
 rw [if_neg (by omega),Int.toNat_natCast]
theorem oK' {ds:List D}{n:Nat}:cutD ds none (some (n:Int))=ds.take n:=by
 unfold cutD
 rw [i6',HT.sq']
 simp
theorem oL' {ds:List D}{n:Nat}:cutD ds (some (n:Int)) none=ds.drop n:=by
 unfold cutD
 rw [i6',HT.sq',List.take_of_length_le (by simp)]
 by_cases h:n<=ds.length
 ·rw [Nat.min_eq_left h]
 ·rw [Nat.min_eq_right (by omega),drop_of_length_le (le_refl _),drop_of_length_le (by omega)]
theorem lx' {ds:List D}{n:Nat} (h:n < ds.length):slF (.tup ds) none (some (n:Int))=some (.tup (ds.take n)):=by
 unfold slF
 dsimp only
 rw [i6',HT.sq',if_neg (by omega),oK']
theorem ly' {ds:List D}{n:Nat} (h:0 < ds.length) (h1:0 < n):slF (.tup ds) (some (n:Int)) none=some (.tup (ds.drop n)):=by
 unfold slF
 dsimp only
 rw [i6',HT.sq',if_neg (by omega),oL']
@[simp] theorem tE' {d:D}{ds:List D}{P:List D->Prop}:(∃ es,appF d ds=some es/\P es)↔ds.length < 1000000/\P (ds++[d]):=by
 unfold appF
 rw [nx']
 by_cases h:ds.length < 1000000<;>simp [h]
@[simp] theorem tF' {xs ds:List D}{P:List D->Prop}:(∃ es,extF (.lst xs) ds=some es/\P es)↔ds.length+xs.length<=1000000/\P (ds++xs):=by
 unfold extF
 rw [nx']
 by_cases h:ds.length+xs.length<=1000000<;>simp [h]
theorem ae' {a b:M Fl}{QS:Fl->Gm->Prop} (h:∀ K:Fl->Gm->Prop,(∀ ab,wp b ab QS->K .nx ab)->(∀ r ab,QS (.rt r) ab->K (.rt r) ab)->wp a Y K):wp (seqS a b) Y QS:=by
 rw [lw']
 exact h _ (λ_ h=>h) (λ_ _ h=>h)
theorem a4' {a b:M Fl}{QS:Fl->Gm->Prop} (P:Gm->Prop) (h:∀ K:Fl->Gm->Prop,(∀ ab,P ab->K .nx ab)->(∀ r ab,QS (.rt r) ab->K (.rt r) ab)->wp a Y K) (h2:∀ ab,P ab->wp b ab QS):wp (seqS a b) Y QS:=by
 rw [lw']
 exact h _ (λ_ p=>h2 _ p) (λ_ _ h=>h)
theorem ck' {aq:D->M Unit}{body:M Fl}{ds:List D}{QS:Fl->Gm->Prop} (J:Nat->Gm->Prop) (h0:J 0 Y)
  (hs:∀ (i:Nat) (d:D) (Y:Gm),ds[i]?=some d->J i Y->∀ K:Fl->Gm->Prop,(∀ ah,J (i+1) ah->K .nx ah)->(∀ ah,J (i+1) ah->K .ct ah)->(∀ ah,QS .nx ah->K .bk ah)->(∀ r ah,QS (.rt r) ah->K (.rt r) ah)->wp (aq d) Y λ_ ab=>wp body ab K) (hd:∀ Y,J ds.length Y->QS .nx Y):wp (forM aq body ds) Y QS :=
 cL' J h0 (λi d Y h j=>hs i d Y h j _ (λ_ h=>h) (λ_ h=>h) (λ_ h=>h) (λ_ _ h=>h)) hd
theorem bf' {n ar:Nat}{body:M Fl}{rs:List R}{QR:R->List R->Prop} (hl:rs.length=ar) (h:∀ K:Fl->Gm->Prop,(∀ r ae,(∃ l,fin rs ae=some l/\QR r l)->K (.rt r) ae)->(∀ ae,(∃ l,fin rs ae=some l/\QR (.val .non) l)->K .nx ae)->wp body (rs.map some++replicate (n - rs.length) none) K):wpF (fnD n ar body) rs QR :=
 eO' hl (h _ (λr _ h=>⟨r,rfl,h⟩) (λ_ h=>⟨_,rfl,h⟩))
theorem fZ' {n ar:Nat}{body:M Fl}{c ds:List D}{QR:R->List D->Prop} (hl:ds.length+1=ar) (h:∀ K:Fl->Gm->Prop,(∀ r c' ae,(∃ t,fin (ds.map .val) ae=some t)->QR r c'->K (.rt r) (some (.bor c')::ae))->(∀ c' ae,(∃ t,fin (ds.map .val) ae=some t)->QR (.val .non) c'->K .nx (some (.bor c')::ae))->wp body ((.bor c::ds.map .val).map some++replicate (n - (ds.length+1)) none) K):wpB (fnD n ar body) c ds QR:=by
 refine re' (bf' (by simpa using hl) λK k1 k2=>?_)
 refine (by simpa using h K (λr c' ae ⟨t,e⟩ q=>k1 r _ ⟨_,by simp [fin,e],c',t,rfl,q⟩) (λc' ae ⟨t,e⟩ q=>k2 _ ⟨_,by simp [fin,e],c',t,rfl,q⟩))
theorem jT' {α:Type}{m:Nat}{aq:D->M Unit}{ts:M Bool}{el:M D}{it:M (List D)} (xs:List α) (f:α->D) (p:α->Bool) (v:α->D)
  (h:wp it Y λds ab=>ds=xs.map f/\xs.length<=1000000/\(∀ x∈xs,∀ cs:Gm,cs.length=m->wp (aq (f x)) (cs++ab) λ_ ah=>wp ts ah λb aQ=>b=p x/\(if b=true then wp el aQ λy aM=>y=v x/\∃ cj,cj.length=m/\aM=cj++ab else ∃ cj,cj.length=m/\aQ=cj++ab)) ∧
   QL ((xs.filter p).map v) ab):wp (compO m it aq ts el) Y QL:=by
 unfold compO
 rw [aW']
 refine h.mono λds ab ⟨fQ,hl,hp,hq⟩=>?_
 subst fQ
 rw [if_pos (by simpa using hl)]
 have aI:∀ (es:List α) (cs:Gm),(∀ d∈es,d∈xs)->cs.length=m->∃ cj,cj.length=m/\compM aq ts el (es.map f) (cs++ab)=some ((es.filter p).map v,cj++ab):=by
  intro es
  induction es with
  | nil=>intro cs _ hc;exact ⟨cs,hc,rfl⟩
  | cons d es ih =>
   intro cs hm hc
   obtain ⟨u,ah,e1,b,aQ,e2,hb,h3⟩:=hp d (hm d mem_cons_self) cs hc
   have fU:∀ d∈es,d∈xs:=λd hd=>hm d (mem_cons_of_mem _ hd)
   cases b with
   | false =>
    rw [if_neg Bool.false_ne_true] at h3
    obtain ⟨cj,aD,rfl⟩:=h3
    obtain ⟨lY,cL,e3⟩:=ih cj fU aD
    refine ⟨lY,cL,?_⟩
    rw [map_cons,compM]
    unfold bnd
    simp only [e1,e2,false_eq_true,if_false]
    rw [e3,filter_cons,← hb]
    simp
   | true =>
    rw [if_pos rfl] at h3
    obtain ⟨x,aM,e4,rfl,cj,aD,rfl⟩:=h3
    obtain ⟨lY,cL,e3⟩:=ih cj fU aD
    refine ⟨lY,cL,?_⟩
    rw [map_cons,compM]
    unfold bnd
    simp only [e1,e2,if_true,e4]
    rw [e3,filter_cons,← hb]
    rfl
 obtain ⟨cj,aD,e⟩:=aI xs (replicate m none) (λ_ h=>h) (by simp)
 refine ⟨_,_,?_,hq⟩
 unfold inC
 rw [e]
 simp [aD,List.drop_append]
theorem aZ' {α:Type}{aq:D->M Unit}{ts:M Bool}{el:M D}{it:M (List D)} (xs:List α) (f:α->D) (p:α->Bool) (v:α->D)
  (h:wp it Y λds ab=>ds=xs.map f/\xs.length<=1000000/\(∀ x∈xs,∀ a,wp (aq (f x)) (a::ab) λ_ ah=>wp ts ah λb aQ=>b=p x/\(if b=true then wp el aQ λy aM=>y=v x/\∃ a',aM=a'::ab else ∃ a',aQ=a'::ab)) ∧
   QL ((xs.filter p).map v) ab):wp (compO 1 it aq ts el) Y QL:=by
 refine jT' xs f p v (h.mono λds ab ⟨h1,h2,h3,h4⟩=>⟨h1,h2,λx hx cs hc=>?_,h4⟩)
 obtain ⟨a,rfl⟩:=List.length_eq_one_iff.mp hc
 refine (h3 x hx a).mono λ_ ah h=>h.mono λb aQ ⟨h5,h6⟩=>⟨h5,?_⟩
 cases b with
 | true=>simp only [if_true] at h6 ⊢;exact h6.mono λy aM ⟨h7,a',h8⟩=>⟨h7,[a'],rfl,h8⟩
 | false=>simp only [false_eq_true,if_false] at h6 ⊢;obtain ⟨a',h8⟩:=h6;exact ⟨[a'],rfl,h8⟩
theorem gu' {α:Type}{aq:D->M Unit}{ts:M Bool}{el:M D}{it:M (List D)} (xs:List α) (f:α->D) (p:α->Bool) (v:α->D)
  (h:wp it Y λds ab=>ds=xs.map f/\xs.length<=1000000/\(∀ x∈xs,∀ a b,wp (aq (f x)) (a::b::ab) λ_ ah=>wp ts ah λb aQ=>b=p x/\(if b=true then wp el aQ λy aM=>y=v x/\∃ a' b',aM=a'::b'::ab else ∃ a' b',aQ=a'::b'::ab)) ∧
   QL ((xs.filter p).map v) ab):wp (compO 2 it aq ts el) Y QL:=by
 refine jT' xs f p v (h.mono λds ab ⟨h1,h2,h3,h4⟩=>⟨h1,h2,λx hx cs hc=>?_,h4⟩)
 obtain ⟨a,b,rfl⟩:∃ a b,cs=[a,b]:=by
  match cs,hc with
  | [a,b],_=>exact ⟨a,b,rfl⟩
 refine (h3 x hx a b).mono λ_ ah h=>h.mono λb aQ ⟨h5,h6⟩=>⟨h5,?_⟩
 cases b with
 | true=>simp only [if_true] at h6 ⊢;exact h6.mono λy aM ⟨h7,a',b',h8⟩=>⟨h7,[a',b'],rfl,h8⟩
 | false=>simp only [false_eq_true,if_false] at h6 ⊢;obtain ⟨a',b',h8⟩:=h6;exact ⟨[a',b'],rfl,h8⟩
theorem eh' {n ar:Nat}{body:M Fl}{ds:List D}{d:D} (hl:ds.length=ar) (h:∀ K:Fl->Gm->Prop,(∀ ae,(∃ l,fin (ds.map .val) ae=some l)->K (.rt (.val d)) ae)->(∀ ae,d=.non->(∃ l,fin (ds.map .val) ae=some l)->K .nx ae)->wp body ((ds.map .val).map some++replicate (n - ds.length) none) K):cvF (fnD n ar body) ds=some d:=by
 refine dt' (bf' (by simpa using hl) λK k1 k2=>?_)
 have:=h K (λae ⟨l,e⟩=>k1 _ _ ⟨l,e,rfl⟩) (λae hd ⟨l,e⟩=>k2 _ ⟨l,e,by rw [hd]⟩)
 simpa using this
theorem jU' {α:Type}{f:α->Bool}{xs:List α}:blsD (xs.map λx=>.bl (f x))=some (xs.map f):=by
 induction xs with
 | nil=>rfl
 | cons x xs ih=>simp only [map_cons,blsD,ih]
theorem gv' {α:Type}{f:α->Bool}{xs:List α}:allF [.lst (xs.map λx=>.bl (f x))]=some (.bl (xs.all f)):=by
 unfold allF
 simp only [jU']
 simp [comp_def]
theorem oM' {α:Type}{f:α->Bool}{xs:List α}:anyF [.lst (xs.map λx=>.bl (f x))]=some (.bl (xs.any f)):=by
 unfold anyF
 simp only [jU']
 simp [comp_def]
theorem eV' {α Z:Type}{f:α->D}{g:Z->D}{xs:List α}{ys:List Z}:pairsD (xs.map f) (ys.map g)=(xs.zip ys).map λq=>.tup [f q.1,g q.2]:=by
 unfold pairsD
 induction xs generalizing ys with
 | nil=>rfl
 | cons x xs ih =>
  cases ys with
  | nil=>rfl
  | cons y ys=>simp only [map_cons,zip_cons_cons,ih]
end
section
variable {α:Type}{Y:Gm}{Q:α->Gm->Prop}{QD:D->Gm->Prop}{QL:List D->Gm->Prop}{i j:Int}
@[simp] theorem tX' {ds:List D}:rvF (.lst ds) (.int (-1))=some ds.reverse:=by simp [rvF]
theorem rf' {xs:List D} (h:SetOk xs) (h9:(dd xs).length<=18) (k:xs.all fstI=true\/xs.all fstT=true):setF [.lst xs]=some (sortD (dd xs)):=by
 unfold setF
 exact if_pos ⟨⟨h.1,h.2.1,h.2.2.1,h.2.2.2.1,h9⟩,k⟩
theorem oN' {xs:List D} (h:SortOk xs):sortF [.lst xs]=some (sortD xs):=by
 unfold sortF
 exact if_pos h
theorem rg' (ds:List D):∀ d∈ds,(dd ds).any (λe=>deq e d)=true:=by
 have aI:∀ (ds ag:List D),(∀ d,ag.any (λe=>deq e d)=true->(ds.foldl dstep ag).any (λe=>deq e d)=true)/\∀ d∈ds,(ds.foldl dstep ag).any (λe=>deq e d)=true:=by
  intro ds
  induction ds with
  | nil=>exact λag=>⟨λd h=>h,λd h=>by cases h⟩
  | cons c ds ih =>
   intro ag
   obtain ⟨h1,h2⟩:=ih (dstep ag c)
   have st:∀ d,ag.any (λe=>deq e d)=true->(dstep ag c).any (λe=>deq e d)=true:=λd h=>by
    unfold dstep
    split
    ·exact h
    ·rw [List.any_append,h];rfl
   refine ⟨λd h=>h1 d (st d h),λd h=>?_⟩
   rcases mem_cons.mp h with rfl | h
   ·refine h1 d ?_
    unfold dstep
    split
    ·assumption
    ·rw [List.any_append]
     simp [gi']
   ·exact h2 d h
 exact (aI ds []).2
theorem ny' (ds:List D):(dd ds).length<=ds.length:=by
 have aI:∀ (ds ag:List D),(ds.foldl dstep ag).length<=ag.length+ds.length:=by
  intro ds
  induction ds with
  | nil=>exact λag=>le_refl _
  | cons c ds ih =>
   intro ag
   have:=ih (dstep ag c)
   have:(dstep ag c).length<=ag.length+1:=by
    unfold dstep
    split
    ·omega
    ·simp
   rw [foldl_cons,length_cons]
   omega
 have:=aI ds []
 simpa [dd] using this
end
end DL
namespace DL
theorem du' {α:Type}:∀ (l m:List α),l.Nodup->(∀ x∈l,x∈m)->l.length<=m.length
 | [],m,_,_=>zero_le _
 | x::l,m,nd,h=>by
  obtain ⟨a,b,rfl⟩:=List.append_of_mem (h x mem_cons_self)
  rw [nodup_cons] at nd
  have:=du' l (a++b) nd.2 (λy hy=>by
   have:=h y (mem_cons_of_mem _ hy)
   rcases mem_append.mp this with z | z
   ·exact (mem_append_left _ z)
   ·rcases mem_cons.mp z with z | z
    ·subst z;exact absurd hy nd.1
    ·exact (mem_append_right _ z))
  simp at this ⊢
  omega
theorem rQ' {n ar:Nat}{body:M Fl}{ds:List D}{os:List D} (hl:ds.length=ar) (h:∀ K:Fl->Gm->Prop,(∀ ae,(∃ l,fin (ds.map .val) ae=some l)->K (.rt (.own os)) ae)->wp body ((ds.map .val).map some++replicate (n - ds.length) none) K):coF (fnD n ar body) ds=some os:=by
 have w:wpF (fnD n ar body) (ds.map .val) λr _=>r=.own os:=bf' (by simpa using hl) λK k1 _=>by
  have:=h K (λae ⟨l,e⟩=>k1 _ _ ⟨l,e,rfl⟩)
  simpa using this
 obtain ⟨r,aR,e,rfl⟩:=w
 unfold coF
 rw [e]
section
variable {Y:Gm}{QS:Fl->Gm->Prop}{QL:List D->Gm->Prop}
@[simp ↓] theorem s5' {j:Nat}:wp (froS j) Y QL↔match Y[j]? with
  | some (some (.fro ds))=>QL ds Y
  | _=>False:=by
 unfold wp froS
 rcases e:Y[j]? with _ | _ | r
 ·simp
 ·simp
 ·cases r<;>simp<;>exact ⟨λ⟨_,_,⟨h1,h2⟩,q⟩=>by subst h1;subst h2;exact q,λq=>⟨_,_,⟨rfl,rfl⟩,q⟩⟩
@[simp ↓] theorem s6' {i:Nat}{g:M (List D)}:wp (setY i g) Y QS↔wp g Y λd ab=>i < ab.length/\QS .nx (ab.set i (some (.fro d))):=by simp [setY]
@[simp ↓] theorem tG' {i j:Nat}:wp (cpS i j) Y QS↔wp (froS j) Y λd ab=>i < ab.length/\QS .nx (ab.set i (some (.fro d))):=by simp only [cpS,aW',p4',dr']
@[simp ↓] theorem s7' {j:Nat}:wp (retY j) Y QS↔wp (froS j) Y λd ab=>QS (.rt (.fro d)) ab:=by simp only [retY,aW',dr']
theorem rh' {c:M Bool}{b:M Fl} (J:Nat->Gm->Prop)
  (hs:∀ (m:Nat) (Y:Gm),J m Y->wp c Y λk ab=>if k=true then ∃ m',m=m'+1/\∀ K:Fl->Gm->Prop,(∀ ah,J m' ah->K .nx ah)->(∀ ah,J m' ah->K .ct ah)->(∀ ah,QS .nx ah->K .bk ah)->(∀ r ah,QS (.rt r) ah->K (.rt r) ah)->wp b ab K else QS .nx ab) :
  ∀ (n m:Nat) (Y:Gm),m < n->J m Y->wp (whlS n c b) Y QS:=by
 intro n
 induction n with
 | zero=>intro m Y h;omega
 | succ n ih =>
  intro m Y h j
  rw [whlS,aW']
  refine (hs m Y j).mono λk ab q=>?_
  cases k with
  | false=>rw [if_neg Bool.false_ne_true] at q ⊢;rw [dr'];exact q
  | true =>
   rw [if_pos rfl] at q ⊢
   obtain ⟨m',rfl,q⟩:=q
   rw [aW']
   refine q _ (λah j2=>?_) (λah j2=>?_) (λah z=>?_) λr ah z=>?_
   ·exact ih m' ah (by omega) j2
   ·exact ih m' ah (by omega) j2
   ·exact (dr').mpr z
   ·exact (dr').mpr z
end
end DL
namespace Own
open PySem PySem.Spec PyProof.Rows L2 DL
noncomputable def dA':M Fl :=
 (forS (itS (nm 0)) (tgN 1)
  (ifS (tst (op2 (eqF true) (fn1 lenF (consA (nm 1) nilA)) (fn1 lenF (consA (op2 ixF (nm 0) (ret (.int 0))) nilA))))
  (λ_=>none) (ret .nx)))
noncomputable def aq':List R->Option (R×List R):=fnD 2 1 dA'
noncomputable def dX':M Fl :=
 (seqS (dropS (fn1 (cvF aq') (consA (frz (lstA (consA (nm 0) (consA (nm 1) nilA)))) nilA)))
  (retS (fn1 allF (consA (frz (compO 2 (fn1 zipI (consA (nm 0) (consA (nm 1) nilA))) (tgTup 2 (tgCons (tgN 0) (tgCons (tgN 1) tgNil))) (ret true) (chn leI leI (op2 ixF (nm 0) (ret (.int 0))) (nm 1) (op2 ixF (nm 0) (ret (.int 1)))))) nilA))))
noncomputable def cU':List R->Option (R×List R):=fnD 2 2 dX'
noncomputable def gw':M Fl :=
 (seqS (dropS (fn1 (cvF aq') (consA (frz (lstA (consA (nm 0) (consA (nm 1) nilA)))) nilA)))
  (retS (fn1 allF (consA (frz (compO 2 (fn1 zipI (consA (nm 0) (consA (nm 1) nilA))) (tgTup 2 (tgCons (tgN 0) (tgCons (tgN 1) tgNil))) (ret true) (andV (op2 leI (op2 ixF (nm 0) (ret (.int 0))) (op2 ixF (nm 1) (ret (.int 0)))) (op2 leI (op2 ixF (nm 1) (ret (.int 1))) (op2 ixF (nm 0) (ret (.int 1))))))) nilA))))
noncomputable def cE':List R->Option (R×List R):=fnD 2 2 gw'
noncomputable def em':M Fl :=
 (seqS (dropS (fn1 (cvF aq') (consA (frz (lstA (consA (nm 0) (consA (nm 1) nilA)))) nilA)))
  (seqS (setO 2 (lstA nilA))
  (seqS (forS (fn1 zipI (consA (nm 0) (consA (nm 1) nilA))) (tgTup 2 (tgCons (tgN 3) (tgCons (tgN 4) tgNil)))
  (seqS (setV 5 (fn1 maxF (consA (op2 ixF (nm 3) (ret (.int 0))) (consA (op2 ixF (nm 4) (ret (.int 0))) nilA))))
  (seqS (setV 6 (fn1 minF (consA (op2 ixF (nm 3) (ret (.int 1))) (consA (op2 ixF (nm 4) (ret (.int 1))) nilA))))
  (seqS (ifS (tst (op2 gtI (nm 5) (nm 6)))
  (retS (ret .non)) (ret .nx))
  (appS 2 (tupA (consA (nm 5) (consA (nm 6) nilA))))))))
  (retS (fn1 tupF (consA (nm 2) nilA))))))
noncomputable def cw':List R->Option (R×List R):=fnD 7 2 em'
noncomputable def cc':M Fl :=
 (retS (fn1 anyF (consA (frz (compO 1 (itS (nm 0)) (tgN 0) (ret true) (andV (op2 (eqF true) (nm 0) (nm 2)) (fn1 (cvF cE') (consA (nm 0) (consA (nm 2) nilA)))))) nilA)))
noncomputable def bC':List R->Option (R×List R):=fnD 2 2 cc'
noncomputable def fy':M Fl :=
 (seqS (dropS (fn1 (cvF aq') (consA (nm 0) nilA)))
  (seqS (setV 1 (frz (fn1 setF (consA (nm 0) nilA))))
  (retO (compO 1 (itS (nm 1)) (tgN 0) (notT (tst (fn1 (cvF bC') (consA (nm 2) (consA (nm 0) nilA))))) (nm 0)))))
noncomputable def bj':List R->Option (R×List R):=fnD 2 1 fy'
noncomputable def df':M Fl :=
 (seqS (setO 2 (lstA nilA))
  (seqS (forS (fn1 enumI (consA (nm 1) nilA)) (tgTup 2 (tgCons (tgN 3) (tgCons (tgN 4) tgNil)))
  (forS (itS (nm 0)) (tgN 5)
  (seqS (ifS (tst (op2 ltI (op2 ixF (nm 4) (ret (.int 0))) (op2 ixF (op2 ixF (nm 5) (nm 3)) (ret (.int 0)))))
  (appS 2 (tupA (consA (nm 3) (consA (op2 subI (op2 ixF (op2 ixF (nm 5) (nm 3)) (ret (.int 0))) (ret (.int 1))) nilA)))) (ret .nx))
  (ifS (tst (op2 ltI (op2 ixF (op2 ixF (nm 5) (nm 3)) (ret (.int 1))) (op2 ixF (nm 4) (ret (.int 1)))))
  (appS 2 (tupA (consA (nm 3) (consA (op2 ixF (op2 ixF (nm 5) (nm 3)) (ret (.int 1))) nilA)))) (ret .nx)))))
  (retS (fn1 minlF (consA (nm 2) nilA)))))
noncomputable def bJ':List R->Option (R×List R):=fnD 6 2 df'
noncomputable def en':M Fl :=
 (seqS (setV 3 (sl3 slF (nm 0) (ret none) (prt (nm 1))))
  (seqS (setV 4 (sl3 slF (nm 0) (prt (op2 addF (nm 1) (ret (.int 1)))) (ret none)))
  (seqS (setV 5 (op2 ixF (op2 ixF (nm 0) (nm 1)) (ret (.int 0))))
  (seqS (setV 6 (op2 ixF (op2 ixF (nm 0) (nm 1)) (ret (.int 1))))
  (retS (tupA (consA (op2 addF (op2 addF (nm 3) (tupA (consA (tupA (consA (nm 5) (consA (nm 2) nilA))) nilA))) (nm 4)) (consA (op2 addF (op2 addF (nm 3) (tupA (consA (tupA (consA (op2 addF (nm 2) (ret (.int 1))) (consA (nm 6) nilA))) nilA))) (nm 4)) nilA))))))))
noncomputable def cx':List R->Option (R×List R):=fnD 7 3 en'
noncomputable def bQ' (g:List R->Option (R×List R)):M Fl :=
 (seqS (setV 3 (frz (compO 1 (itS (nm 1)) (tgN 0) (tst (op2 (isNF true) (fn1 (cvF cw') (consA (op2 ixF (nm 1) (nm 0)) (consA (nm 3) nilA))) (ret .non))) (nm 0))))
  (seqS (ifS (tst (op2 (eqF false) (fn1 lenF (consA (nm 3) nilA)) (ret (.int 0))))
  (retS (tupA (consA (ret (.str "out")) (consA (fn1 tupF (consA (frz (compO 1 (itS (nm 2)) (tgN 0) (ret true) (op2 ixF (nm 0) (ret (.int 0))))) nilA)) nilA)))) (ret .nx))
  (seqS (forS (itS (nm 3)) (tgN 4)
  (ifS (tst (fn1 (cvF cE') (consA (op2 ixF (nm 0) (nm 4)) (consA (nm 2) nilA))))
  (retS (tupA (consA (ret (.str "in")) (consA (tupA (consA (ret (.str "by")) (consA (nm 4) nilA))) nilA)))) (ret .nx)))
  (seqS (setV 5 (fn1 (cvF bJ') (consA (frz (compO 1 (itS (nm 3)) (tgN 0) (ret true) (op2 ixF (nm 1) (nm 0)))) (consA (nm 2) nilA))))
  (seqS (setV 6 (fn1 (cvF cx') (consA (nm 2) (consA (op2 ixF (nm 5) (ret (.int 0))) (consA (op2 ixF (nm 5) (ret (.int 1))) nilA)))))
  (seqS (setV 7 (fn1 (cvF g) (consA (nm 0) (consA (nm 3) (consA (op2 ixF (nm 6) (ret (.int 0))) nilA)))))
  (seqS (ifS (tst (op2 (eqF false) (op2 ixF (nm 7) (ret (.int 0))) (ret (.str "out"))))
  (retS (nm 7)) (ret .nx))
  (seqS (setV 8 (fn1 (cvF g) (consA (nm 0) (consA (nm 3) (consA (op2 ixF (nm 6) (ret (.int 1))) nilA)))))
  (seqS (ifS (tst (op2 (eqF false) (op2 ixF (nm 8) (ret (.int 0))) (ret (.str "out"))))
  (retS (nm 8)) (ret .nx))
  (retS (tupA (consA (ret (.str "in")) (consA (tupA (consA (ret (.str "cut")) (consA (op2 ixF (nm 5) (ret (.int 0))) (consA (op2 ixF (nm 5) (ret (.int 1))) (consA (op2 ixF (nm 7) (ret (.int 1))) (consA (op2 ixF (nm 8) (ret (.int 1))) nilA)))))) nilA)))))))))))))
noncomputable def a0':Nat->List R->Option (R×List R)
 | 0=>λ_=>none
 | k+1=>fnD 9 3 (bQ' (a0' k))
noncomputable def fz':M Fl :=
 (seqS (dropS (fn1 (cvF aq') (consA (frz (op2 catF (frz (lstA (consA (nm 1) nilA))) (nm 0))) nilA)))
  (retS (fn1 (cvF (a0' 40)) (consA (nm 0) (consA (frz (fn1 rngI1 (consA (fn1 lenF (consA (nm 0) nilA)) nilA))) (consA (nm 1) nilA))))))
noncomputable def a5':List R->Option (R×List R):=fnD 2 2 fz'
noncomputable def dG':M Fl :=
 (seqS (setY 1 (fn1 (coF bj') (consA (nm 0) nilA)))
  (seqS (cpS 2 1)
  (seqS (forS (itS (nm 1)) (tgN 3)
  (seqS (setY 4 (compO 1 (itS (nm 2)) (tgN 0) (tst (op2 (eqF true) (nm 0) (nm 4))) (nm 0)))
  (ifS (tst (op2 (eqF false) (op2 ixF (fn1 (cvF a5') (consA (nm 4) (consA (nm 3) nilA))) (ret (.int 0))) (ret (.str "in"))))
  (cpS 2 4) (ret .nx))))
  (retY 2))))
noncomputable def cl':List R->Option (R×List R):=fnD 5 1 dG'
noncomputable def gx':M Fl :=
 (retO (compO 1 (itS (nm 0)) (tgN 0) (tst (fn1 (cvF cU') (consA (nm 0) (consA (nm 2) nilA)))) (nm 0)))
noncomputable def aU':List R->Option (R×List R):=fnD 2 2 gx'
noncomputable def dB':M Fl :=
 (seqS (setV 2 (frz (compO 1 (itS (nm 0)) (tgN 0) (ret true) (fn1 (cvF a5') (consA (nm 2) (consA (nm 0) nilA))))))
  (seqS (setV 3 (frz (compO 1 (itS (nm 2)) (tgN 0) (tst (op2 (eqF false) (op2 ixF (nm 0) (ret (.int 0))) (ret (.str "out")))) (op2 ixF (nm 0) (ret (.int 1))))))
  (retS (minLam 0 (fn1 lenF (consA (frz (fn1 (coF aU') (consA (nm 1) (consA (nm 0) nilA)))) nilA)) (nm 3)))))
noncomputable def bb':List R->Option (R×List R):=fnD 4 2 dB'
noncomputable def cV' (g:List R->Option (R×List R)):M Fl :=
 (seqS (setV 3 (fn1 (cvF bb') (consA (nm 0) (consA (nm 1) nilA))))
  (seqS (ifS (tst (op2 (isNF false) (nm 3) (ret .non)))
  (retS (tupA (consA (ret (.str "all")) (consA (frz (fn1 sortF (consA (nm 1) nilA))) nilA)))) (ret .nx))
  (seqS (ifS (tst (op2 (eqF false) (nm 2) (ret (.int 0))))
  (retS (tupA (consA (ret (.str "left")) (consA (nm 3) nilA)))) (ret .nx))
  (seqS (setO 4 (lstA nilA))
  (seqS (forS (itS (frz (fn1 (coF aU') (consA (nm 0) (consA (nm 3) nilA))))) (tgN 5)
  (seqS (setV 6 (fn1 (cvF g) (consA (nm 0) (consA (frz (op2 catF (nm 1) (frz (lstA (consA (nm 5) nilA))))) (consA (op2 subI (nm 2) (ret (.int 1))) nilA)))))
  (seqS (ifS (tst (op2 (eqF false) (op2 ixF (nm 6) (ret (.int 0))) (ret (.str "all"))))
  (retS (nm 6)) (ret .nx))
  (appS 4 (nm 6)))))
  (retS (tupA (consA (ret (.str "meet")) (consA (nm 3) (consA (nm 4) nilA))))))))))
noncomputable def aQ':Nat->List R->Option (R×List R)
 | 0=>λ_=>none
 | k+1=>fnD 7 3 (cV' (aQ' k))
noncomputable def eo':M Fl :=
 (seqS (setV 1 (frz (fn1 (coF bj') (consA (nm 0) nilA))))
  (seqS (setV 2 (ret (.int 0)))
  (seqS (setV 3 (ret .non))
  (seqS (setV 4 (fn1 (cvF (aQ' 10)) (consA (nm 1) (consA (frz (lstA nilA)) (consA (nm 2) nilA)))))
  (seqS (whlS 100 (tst (op2 (eqF true) (op2 ixF (nm 4) (ret (.int 0))) (ret (.str "all"))))
  (seqS (setV 3 (nm 4))
  (seqS (setV 2 (op2 addF (nm 2) (ret (.int 1))))
  (setV 4 (fn1 (cvF (aQ' 10)) (consA (nm 1) (consA (frz (lstA nilA)) (consA (nm 2) nilA))))))))
  (retS (tupA (consA (nm 2) (consA (op2 ixF (nm 4) (ret (.int 1))) (consA (nm 3) nilA))))))))))
noncomputable def aX':List R->Option (R×List R):=fnD 5 1 eo'
noncomputable def cd' (g:List R->Option (R×List R)):M Fl :=
 (seqS (setO 1 (lstA (consA (op2 ixF (nm 0) (ret (.int 1))) nilA)))
  (seqS (ifS (tst (op2 (eqF false) (op2 ixF (nm 0) (ret (.int 0))) (ret (.str "meet"))))
  (forS (itS (op2 ixF (nm 0) (ret (.int 2)))) (tgN 2)
  (extS 1 (fn1 (cvF g) (consA (nm 2) nilA)))) (ret .nx))
  (retS (nm 1))))
noncomputable def a7':Nat->List R->Option (R×List R)
 | 0=>λ_=>none
 | k+1=>fnD 3 1 (cd' (a7' k))
noncomputable def bD' (g:List R->Option (R×List R)):M Fl :=
 (seqS (setV 4 (op2 ixF (nm 3) (ret (.int 1))))
  (seqS (setV 5 (frz (fn1 (coF aU') (consA (nm 0) (consA (nm 4) nilA)))))
  (seqS (ifS (orT (tst (op2 (eqF false) (fn1 lenF (consA (nm 5) nilA)) (ret (.int 0)))) (tst (op2 gtI (fn1 lenF (consA (frz (fn1 (coF aU') (consA (nm 1) (consA (nm 4) nilA)))) nilA)) (ret (.int 0)))))
  (retS (ret (.bl false))) (ret .nx))
  (seqS (ifS (tst (op2 (eqF false) (op2 ixF (nm 3) (ret (.int 0))) (ret (.str "left"))))
  (retS (op2 (eqF false) (nm 2) (ret (.int 0)))) (ret .nx))
  (seqS (ifS (orT (tst (op2 (eqF false) (nm 2) (ret (.int 0)))) (tst (op2 (eqF true) (fn1 lenF (consA (op2 ixF (nm 3) (ret (.int 2))) nilA)) (fn1 lenF (consA (nm 5) nilA)))))
  (retS (ret (.bl false))) (ret .nx))
  (retS (fn1 allF (consA (frz (compO 2 (fn1 zipI (consA (nm 5) (consA (op2 ixF (nm 3) (ret (.int 2))) nilA))) (tgTup 2 (tgCons (tgN 0) (tgCons (tgN 1) tgNil))) (ret true) (fn1 (cvF g) (consA (nm 2) (consA (frz (op2 catF (nm 3) (frz (lstA (consA (nm 0) nilA))))) (consA (op2 subI (nm 4) (ret (.int 1))) (consA (nm 1) nilA))))))) nilA))))))))
noncomputable def aN':Nat->List R->Option (R×List R)
 | 0=>λ_=>none
 | k+1=>fnD 6 4 (bD' (aN' k))
noncomputable def er':M Fl :=
 (seqS (setV 2 (op2 ixF (nm 1) (ret (.int 0))))
  (seqS (setV 3 (op2 ixF (nm 1) (ret (.int 1))))
  (seqS (dropS (fn1 (cvF aq') (consA (frz (op2 catF (frz (op2 catF (nm 0) (nm 3))) (fn1 (cvF (a7' 10)) (consA (op2 ixF (nm 1) (ret (.int 2))) nilA)))) nilA)))
  (seqS (setV 4 (frz (fn1 (coF bj') (consA (nm 0) nilA))))
  (seqS (ifS (orT (tst (op2 (eqF true) (fn1 lenF (consA (nm 3) nilA)) (nm 2))) (tst (op2 (eqF true) (nm 3) (frz (compO 1 (itS (nm 4)) (tgN 0) (tst (op2 (inF false) (nm 0) (nm 4))) (nm 0))))))
  (retS (ret (.bl false))) (ret .nx))
  (retS (andV (op2 (isNF false) (fn1 (cvF bb') (consA (nm 4) (consA (nm 3) nilA))) (ret .non)) (fn1 (cvF (aN' 10)) (consA (nm 4) (consA (frz (lstA nilA)) (consA (op2 subI (nm 2) (ret (.int 1))) (consA (op2 ixF (nm 1) (ret (.int 2))) nilA))))))))))))
noncomputable def cy':List R->Option (R×List R):=fnD 5 2 er'
noncomputable def et':M Fl :=
 (seqS (ifS (tst (op2 geI (nm 0) (op2 powI (ret (.int 10)) (ret (.int 18)))))
  (retS (nm 0)) (ret .nx))
  (seqS (setV 2 (op2 modI (op2 addF (op2 addF (op2 mulI (op2 modI (nm 0) (ret (.int 998244353))) (ret (.int 40692))) (op2 mulI (nm 1) (ret (.int 69621)))) (ret (.int 1009))) (ret (.int 2147483399))))
  (seqS (setV 3 (op2 modI (op2 addF (op2 addF (op2 mulI (nm 2) (nm 2)) (op2 mulI (nm 1) (ret (.int 48271)))) (op2 modI (nm 0) (ret (.int 131071)))) (ret (.int 2147483647))))
  (seqS (setV 4 (op2 modI (op2 addF (op2 addF (op2 mulI (nm 3) (nm 3)) (op2 mulI (nm 2) (ret (.int 17)))) (ret (.int 3))) (ret (.int 2147483629))))
  (retS (op2 addF (op2 mulI (op2 addF (op2 mulI (nm 2) (ret (.int 2147483647))) (nm 3)) (ret (.int 2147483629))) (nm 4)))))))
noncomputable def cz':List R->Option (R×List R):=fnD 5 2 et'
noncomputable def fA':M Fl :=
 (seqS (setO 1 (fn1 lstF (consA (sl3 slF (nm 0) (ret none) (prt (ret (.int 12)))) nilA)))
  (seqS (forS (fn1 enumI (consA (sl3 slF (nm 0) (prt (ret (.int 12))) (prt (ret (.int 63)))) nilA)) (tgTup 2 (tgCons (tgN 2) (tgCons (tgN 3) tgNil)))
  (stS 1 (op2 modI (nm 2) (ret (.int 12))) (op2 addF (atN 1 (op2 modI (nm 2) (ret (.int 12)))) (nm 3))))
  (retO (lstA (consA (nm 1) (consA (ret (.int 0)) (consA (ret (.int 0)) nilA)))))))
noncomputable def dv':List R->Option (R×List R):=fnD 4 1 fA'
noncomputable def eW':M Fl :=
 (seqS (ifS (tst (op2 ltI (atN 0 (ret (.int 2))) (nm 1)))
  (seqS (setV 2 (atN 0 (ret (.int 1))))
  (seqS (setV 3 (op2 mulI (ret (.int 11)) (nm 2)))
  (seqS (ifS (tst (op2 ltI (nm 2) (fn1 lenF (consA (atN 0 (ret (.int 0))) nilA))))
  (setV 3 (op2 ixF (atN 0 (ret (.int 0))) (nm 2))) (ifS (tst (op2 (eqF true) (atN 0 (ret (.int 0))) (frz (lstA nilA))))
  (setV 3 (op2 modI (op2 ixF (atN 0 (ret (.int 0))) (op2 modI (op2 addF (op2 mulI (nm 2) (ret (.int 7))) (ret (.int 1))) (fn1 lenF (consA (atN 0 (ret (.int 0))) nilA)))) (op2 addF (op2 powI (ret (.int 10)) (ret (.int 17))) (op2 mulI (ret (.int 3)) (nm 2))))) (ret .nx)))
  (seqS (stS 0 (ret (.int 1)) (op2 addF (nm 2) (ret (.int 1))))
  (stS 0 (ret (.int 2)) (fn1 (cvF cz') (consA (nm 3) (consA (nm 2) nilA)))))))) (ret .nx))
  (seqS (setV 4 (op2 modI (atN 0 (ret (.int 2))) (nm 1)))
  (seqS (stS 0 (ret (.int 2)) (op2 divI (atN 0 (ret (.int 2))) (nm 1)))
  (retS (nm 4)))))
noncomputable def az':List R->Option (R×List R):=fnD 5 2 eW'
noncomputable def eX':M Fl :=
 (seqS (setO 4 (lstA nilA))
  (seqS (forS (fn1 rngI1 (consA (nm 1) nilA)) (tgN 5)
  (seqS (setV 6 (op2 addF (nm 2) (cbV 0 az' (consA (nm 3) nilA))))
  (seqS (setV 7 (op2 addF (nm 2) (cbV 0 az' (consA (nm 3) nilA))))
  (appS 4 (tupA (consA (fn1 minF (consA (nm 6) (consA (nm 7) nilA))) (consA (fn1 maxF (consA (nm 6) (consA (nm 7) nilA))) nilA)))))))
  (retS (fn1 tupF (consA (nm 4) nilA)))))
noncomputable def bR':List R->Option (R×List R):=fnD 8 4 eX'
noncomputable def dY':M Fl :=
 (seqS (setV 2 (cbV 0 az' (consA (fn1 lenF (consA (nm 1) nilA)) nilA)))
  (seqS (asgS (op2 ixF (nm 1) (nm 2)) (tgTup 2 (tgCons (tgN 3) (tgCons (tgN 4) tgNil))))
  (seqS (setV 5 (frz (lstA (consA (tupA (consA (fn1 maxF (consA (ret (.int 0)) (consA (op2 subI (nm 3) (ret (.int 1))) nilA))) (consA (nm 4) nilA))) (consA (tupA (consA (nm 3) (consA (fn1 minF (consA (ret (.int 9)) (consA (op2 addF (nm 4) (ret (.int 1))) nilA))) nilA))) (consA (tupA (consA (fn1 minF (consA (op2 addF (nm 3) (ret (.int 1))) (consA (nm 4) nilA))) (consA (nm 4) nilA))) (consA (tupA (consA (nm 3) (consA (fn1 maxF (consA (nm 3) (consA (op2 subI (nm 4) (ret (.int 1))) nilA))) nilA))) nilA)))))))
  (retS (op2 addF (op2 addF (sl3 slF (nm 1) (ret none) (prt (nm 2))) (tupA (consA (op2 ixF (nm 5) (cbV 0 az' (consA (ret (.int 4)) nilA))) nilA))) (sl3 slF (nm 1) (prt (op2 addF (nm 2) (ret (.int 1)))) (ret none)))))))
noncomputable def cW':List R->Option (R×List R):=fnD 6 2 dY'
noncomputable def dZ':M Fl :=
 (seqS (setV 3 (fn1 minF (consA (op2 ixF (frz (lstA (consA (ret (.int 2)) (consA (ret (.int 3)) (consA (ret (.int 4)) (consA (ret (.int 10)) nilA)))))) (cbV 0 az' (consA (ret (.int 4)) nilA))) (consA (op2 ixF (frz (lstA (consA (ret (.int 10)) (consA (ret (.int 10)) (consA (ret (.int 10)) (consA (ret (.int 4)) nilA)))))) (nm 1)) nilA))))
  (seqS (setV 4 (cbV 0 az' (consA (op2 subI (ret (.int 11)) (nm 3)) nilA)))
  (seqS (setO 5 (lstA nilA))
  (seqS (forS (fn1 rngI1 (consA (cbV 0 az' (consA (op2 addF (nm 2) (ret (.int 1))) nilA)) nilA)) (tgN 6)
  (seqS (setV 7 (cbV 0 az' (consA (ret (.int 6)) nilA)))
  (seqS (setV 8 (cbV 0 bR' (consA (nm 1) (consA (nm 4) (consA (nm 3) nilA)))))
  (seqS (ifS (andT (tst (op2 (eqF false) (nm 7) (ret (.int 0)))) (tst (cmpN true 5 (frz (lstA nilA)))))
  (setV 8 (atN 5 (cbV 0 az' (consA (lenN 5) nilA)))) (ret .nx))
  (seqS (ifS (andT (tst (op2 (eqF false) (nm 7) (ret (.int 1)))) (tst (cmpN true 5 (frz (lstA nilA)))))
  (setV 8 (cbV 0 cW' (consA (atN 5 (cbV 0 az' (consA (lenN 5) nilA))) nilA))) (ret .nx))
  (appS 5 (nm 8)))))))
  (retS (nm 5))))))
noncomputable def cX':List R->Option (R×List R):=fnD 9 3 dZ'
noncomputable def d0':M Fl :=
 (seqS (setO 3 (lstA nilA))
  (seqS (forS (itS (nm 0)) (tgN 4)
  (appS 3 (fn1 tupF (consA (frz (compO 1 (itS (nm 1)) (tgN 0) (ret true) (tupA (consA (op2 addF (op2 ixF (op2 ixF (nm 5) (nm 0)) (ret (.int 0))) (nm 3)) (consA (op2 addF (op2 ixF (op2 ixF (nm 5) (nm 0)) (ret (.int 1))) (nm 3)) nilA))))) nilA))))
  (retS (nm 3))))
noncomputable def ce':List R->Option (R×List R):=fnD 5 3 d0'
noncomputable def eY':M Fl :=
 (retS (op2 subI (ret (.int 9)) (fn1 maxNF (consA (frz (compO 1 (itS (nm 0)) (tgN 0) (ret true) (fn1 maxNF (consA (frz (compO 1 (itS (nm 0)) (tgN 0) (ret true) (op2 ixF (nm 0) (ret (.int 1))))) nilA)))) nilA))))
noncomputable def cY':List R->Option (R×List R):=fnD 1 1 eY'
noncomputable def mf':M Fl :=
 (seqS (setO 1 (fn1 (coF dv') (consA (nm 0) nilA)))
  (seqS (forS (fn1 rngI1 (consA (ret (.int 3)) nilA)) (tgN 2)
  (seqS (setV 3 (op2 addF (ret (.int 1)) (cbV 1 az' (consA (ret (.int 3)) nilA))))
  (seqS (setV 4 (frz (op2 catF (cbV 1 cX' (consA (nm 3) (consA (ret (.int 5)) nilA))) (frz (lstA (consA (cbV 1 bR' (consA (nm 3) (consA (cbV 1 az' (consA (ret (.int 5)) nilA)) (consA (op2 ixF (frz (lstA (consA (ret (.int 6)) (consA (ret (.int 6)) (consA (ret (.int 6)) (consA (ret (.int 4)) nilA)))))) (nm 3)) nilA)))) nilA))))))
  (seqS (asgS (fn1 (cvF aX') (consA (nm 4) nilA)) (tgTup 3 (tgCons (tgN 5) (tgCons (tgN 6) (tgCons (tgN 7) tgNil)))))
  (seqS (ifS (orT (tst (op2 (isBF true) (fn1 (cvF cy') (consA (nm 4) (consA (tupA (consA (nm 5) (consA (frz (fn1 lstF (consA (nm 6) nilA))) (consA (nm 7) nilA)))) nilA))) (ret (.bl true)))) (tst (op2 (eqF true) (nm 5) (fn1 lenF (consA (nm 6) nilA)))))
  (retS (ret (.bl false))) (ret .nx))
  (seqS (ifS (orT (tst (op2 gtI (nm 5) (fn1 lenF (consA (fn1 (cvF cl') (consA (nm 4) nilA)) nilA)))) (tst (op2 gtI (fn1 lenF (consA (fn1 (cvF cl') (consA (nm 4) nilA)) nilA)) (fn1 lenF (consA (frz (fn1 (coF bj') (consA (nm 4) nilA))) nilA)))))
  (retS (ret (.bl false))) (ret .nx))
  (seqS (forS (itS (nm 4)) (tgN 8)
  (ifS (tst (op2 (eqF true) (op2 ixF (fn1 (cvF a5') (consA (nm 6) (consA (nm 8) nilA))) (ret (.int 0))) (ret (.str "in"))))
  (retS (ret (.bl false))) (ret .nx)))
  (seqS (forS (itS (nm 6)) (tgN 8)
  (seqS (setV 9 (frz (compO 1 (itS (nm 6)) (tgN 0) (tst (op2 (eqF true) (nm 0) (nm 9))) (nm 0))))
  (ifS (tst (op2 (eqF false) (frz (compO 1 (itS (nm 4)) (tgN 0) (tst (op2 (eqF false) (op2 ixF (fn1 (cvF a5') (consA (nm 10) (consA (nm 0) nilA))) (ret (.int 0))) (ret (.str "out")))) (ret (.int 1)))) (frz (lstA nilA))))
  (retS (ret (.bl false))) (ret .nx))))
  (seqS (setV 10 (cbV 1 bR' (consA (nm 3) (consA (ret (.int 0)) (consA (ret (.int 10)) nilA)))))
  (seqS (ifS (andT (tst (op2 ltI (fn1 lenF (consA (nm 4) nilA)) (ret (.int 6)))) (andT (tst (op2 (eqF false) (op2 ixF (fn1 (cvF a5') (consA (nm 4) (consA (nm 10) nilA))) (ret (.int 0))) (ret (.str "in")))) (tst (op2 gtI (op2 ixF (fn1 (cvF aX') (consA (frz (op2 catF (nm 4) (frz (lstA (consA (nm 10) nilA))))) nilA)) (ret (.int 0))) (nm 5)))))
  (retS (ret (.bl false))) (ret .nx))
  (seqS (setV 11 (frz (op2 rvF (frz (fn1 rngI1 (consA (nm 3) nilA))) (un1 negI (ret (.int 1))))))
  (forS (itS (frz (lstA (consA (frz (op2 rvF (nm 4) (un1 negI (ret (.int 1))))) (consA (fn1 (cvF ce') (consA (nm 4) (consA (nm 11) (consA (fn1 (cvF cY') (consA (nm 4) nilA)) nilA)))) (consA (fn1 (cvF ce') (consA (nm 4) (consA (nm 11) (consA (ret (.int 0)) nilA)))) nilA)))))) (tgN 12)
  (ifS (tst (op2 (eqF true) (op2 ixF (fn1 (cvF aX') (consA (nm 12) nilA)) (ret (.int 0))) (nm 5)))
  (retS (ret (.bl false))) (ret .nx))))))))))))))
  (retS (ret (.bl true)))))
noncomputable def eZ':List R->Option (R×List R):=fnD 13 1 mf'
theorem nk {N:List Str} (h:decide N.Nodup=true:=by kernel_rfl):N.Nodup:=of_decide_eq_true h
theorem en (i:Nat){X:Cx}{B:BB}{x:Str}{pos:Pos} (hN:X.N[i]?=some x:=by rfl) (hv:visB X.env.scope x=true:=by rfl) (hd:(x == ("__debug__":Str))=false:=by decide) (aU:(x == ("__classdict__":Str))=false:=by decide):ED X B (.Name x pos) (nm i):=o4' (pv i hN hv hd aU)
noncomputable def top (i:Nat):Stmt:=PySem.Challenge.pw_roofpost_k16_whole_fewest_and_spare.main.body.getD i (.Pass ⟨0,0,0,0⟩)
noncomputable abbrev bw':Stmt:=top 4
noncomputable abbrev bK':Stmt:=top 5
noncomputable abbrev dg':Stmt:=top 6
noncomputable abbrev b2':Stmt:=top 7
noncomputable abbrev cM':Stmt:=top 8
noncomputable abbrev a6':Stmt:=top 9
noncomputable abbrev cN':Stmt:=top 11
noncomputable abbrev a2':Stmt:=top 12
noncomputable abbrev bo':Stmt:=top 13
noncomputable abbrev b3':Stmt:=top 14
noncomputable abbrev cn':Stmt:=top 15
noncomputable abbrev b4':Stmt:=top 17
noncomputable abbrev bp':Stmt:=top 18
noncomputable abbrev bx':Stmt:=top 19
noncomputable abbrev dh':Stmt:=top 20
noncomputable abbrev b5':Stmt:=top 21
noncomputable abbrev bq':Stmt:=top 22
noncomputable abbrev a8':Stmt:=top 23
noncomputable abbrev b6':Stmt:=top 25
noncomputable abbrev cO':Stmt:=top 26
noncomputable abbrev co':Stmt:=top 27
noncomputable abbrev cp':Stmt:=top 28
noncomputable abbrev bL':Stmt:=top 29
noncomputable abbrev bM':Stmt:=top 30
noncomputable abbrev bN':Stmt:=top 31
noncomputable abbrev cq':Stmt:=top 32
noncomputable abbrev dH':Stmt:=top 33
structure Cd (P:Program) (w:World) (K:PySem.W.Frag) (mg:Str->Option Value) (base:Heap) (k:Nat) (f:Addr) (fd:FuncData) (ps:List Str) (g:List R->Option (R×List R)) (x:Str):Prop where
 G:FnOk P w K mg base CX0 k f fd ps (spD K g)
 b:Binds K fd ps []
 p:keepIn K (.ref f)=true
 m:mg x=some (.ref f)
theorem lenOf1 {α:Type}{us:List α} (h:us.length=1):∃ a,us=[a]:=by
 obtain ⟨a,us,rfl⟩:=List.exists_cons_of_length_eq_add_one h
 exact ⟨a,by rw [length_eq_zero_iff.mp (Nat.succ.inj h)]⟩
theorem lenOf2 {α:Type}{us:List α} (h:us.length=2):∃ a b,us=[a,b]:=by
 obtain ⟨a,us,rfl⟩:=List.exists_cons_of_length_eq_add_one h
 obtain ⟨b,rfl⟩:=lenOf1 (Nat.succ.inj h)
 exact ⟨a,b,rfl⟩
theorem lenOf3 {α:Type}{us:List α} (h:us.length=3):∃ a b c,us=[a,b,c]:=by
 obtain ⟨a,us,rfl⟩:=List.exists_cons_of_length_eq_add_one h
 obtain ⟨b,c,rfl⟩:=lenOf2 (Nat.succ.inj h)
 exact ⟨a,b,c,rfl⟩
theorem lenOf4 {α:Type}{us:List α} (h:us.length=4):∃ a b c d,us=[a,b,c,d]:=by
 obtain ⟨a,us,rfl⟩:=List.exists_cons_of_length_eq_add_one h
 obtain ⟨b,c,d,rfl⟩:=lenOf3 (Nat.succ.inj h)
 exact ⟨a,b,c,d,rfl⟩
section
variable {X:Cx}{B:BB}{e:Expr}{es:List Expr}{pos p:Pos}{k kr i:Nat}{f:Addr}{fd:FuncData}{ps:List Str}{x y:Str}{py:Pos}{g:List R->Option (R×List R)}{t:M (List D)} (G:Cd X.prog X.w X.K X.mg X.base k f fd ps g x) (hr:Room kr X.A)
include G hr
theorem cqE (ha:AD X B (e::es) t) (hk:k<=kr:=by decide) (hg:Gl X x:=by exact rfl) (bb:(x == ("__debug__":Str))=false:=by decide) (he:starEach (e::es) X.env=(false,eval e X.env)::starEach es X.env:=by rfl) (au:(backTo pos (starEach es X.env)).any (·.1)=false:=by rfl):ED X B (.Call (.Name x p) (e::es) [] pos) (fn1 (cvF g) t):=bI' G.G (hr.mono hk) hg G.m G.p G.b ha bb he au
theorem cqO (ha:AD X B (e::es) t) (hk:k<=kr:=by decide) (hg:Gl X x:=by exact rfl) (bb:(x == ("__debug__":Str))=false:=by decide) (he:starEach (e::es) X.env=(false,eval e X.env)::starEach es X.env:=by rfl) (au:(backTo pos (starEach es X.env)).any (·.1)=false:=by rfl):EO X B (.Call (.Name x p) (e::es) [] pos) (fn1 (coF g) t):=fP' G.G (hr.mono hk) hg G.m G.p G.b ha bb he au
theorem cqEB (hv:PE X (.Name y py) (tVar i)) (ha:AD X B es t) (hk:k<=kr:=by decide) (hg:Gl X x:=by exact rfl) (bb:(x == ("__debug__":Str))=false:=by decide) (he:starEach (.Name y py::es) X.env=(false,eval (.Name y py) X.env)::starEach es X.env:=by rfl) (au:(backTo pos (starEach es X.env)).any (·.1)=false:=by rfl):ED X B (.Call (.Name x p) (.Name y py::es) [] pos) (cbV i g t):=of' G.G (hr.mono hk) hg G.m G.p G.b hv ha bb he au
end
section
variable {P:Program}{w:World}{K:PySem.W.Frag}{mg:Str->Option Value}{base:Heap}
theorem hQ':FnScope ["things", "thing"] ["things"] (defScope bw'):=⟨rfl,rfl,rfl,by decide +kernel,rfl,by decide +kernel,by decide +kernel⟩
theorem hR' {f:Addr}{fd:FuncData} (F:Fun K "must_be_kin" "must_be_kin" bw' f fd) (ak:mg "len"=none):FnOk P w K mg base CX0 2 f fd ["things"] (spD K aq') :=
 aV' (k:=1) (N:=["things", "thing"]) F hQ' dA' (λao A outer s H E B hr=>aH'
  (ag' (bn' never rfl (aB' (en 0)) (gd_n (i:=1) (m:=100) nk)
  (ag' (aM' (cT' hr (be' rfl ak (aa' (en 1) ab' rfl)) (be' rfl ak (aa' (ak' (en 0) ac') ab' rfl)))
  (ag' (ah' od')) aD')))))
theorem iL':FnScope ["wish", "letter"] ["wish", "letter"] (defScope bK'):=⟨rfl,rfl,rfl,by decide +kernel,rfl,by decide +kernel,by decide +kernel⟩
theorem iM' {f:Addr}{fd:FuncData} (F:Fun K "has_letter" "has_letter" bK' f fd) {aK' aI'} (bK:Cd P w K mg base 2 aK' aI' ["things"] aq' "must_be_kin") (aT:mg "zip"=none) (bg:mg "all"=none):FnOk P w K mg base CX0 3 f fd ["wish", "letter"] (spD K cU') :=
 aV' (k:=2) (N:=["wish", "letter"]) F iL' dX' (λao A outer s H E B hr=>aH'
  (ad' (ah' (dM' (cqE bK hr (aa' (am' (aC' (aa' (en 0) (aa' (en 1) ab' rfl) rfl))) ab' rfl))))
  (ag' (ah' (ao' (js' rfl rfl bg (aa' (am' (bl' (N':=["pair", "number", "-wish", "-letter"]) (m:=2) (CompScope.of (by kernel_rfl)) rfl (fU' rfl aT (aa' (en 0) (aa' (en 1) ab' rfl) rfl)) (λ_ _ _ _=>(dn' (m:=2) rfl (aP' (gd_n (i:=0) (m:=2) nk) (aP' (gd_n (i:=1) (m:=2) nk) cG')))) (λ_ _ _ _=>bZ') (λ_ _ _ _=>(pD' (ak' (en 0) ac') (en 1) (ak' (en 0) ac'))))) ab' rfl)))))))
theorem nz':FnScope ["one", "other"] ["one", "other"] (defScope dg'):=⟨rfl,rfl,rfl,by decide +kernel,rfl,by decide +kernel,by decide +kernel⟩
theorem nA' {f:Addr}{fd:FuncData} (F:Fun K "covers" "covers" dg' f fd) {aK' aI'} (bK:Cd P w K mg base 2 aK' aI' ["things"] aq' "must_be_kin") (aT:mg "zip"=none) (bg:mg "all"=none):FnOk P w K mg base CX0 3 f fd ["one", "other"] (spD K cE') :=
 aV' (k:=2) (N:=["one", "other"]) F nz' gw' (λao A outer s H E B hr=>aH'
  (ad' (ah' (dM' (cqE bK hr (aa' (am' (aC' (aa' (en 0) (aa' (en 1) ab' rfl) rfl))) ab' rfl))))
  (ag' (ah' (ao' (js' rfl rfl bg (aa' (am' (bl' (N':=["wide", "pair", "-one", "-other"]) (m:=2) (CompScope.of (by kernel_rfl)) rfl (fU' rfl aT (aa' (en 0) (aa' (en 1) ab' rfl) rfl)) (λ_ _ _ _=>(dn' (m:=2) rfl (aP' (gd_n (i:=0) (m:=2) nk) (aP' (gd_n (i:=1) (m:=2) nk) cG')))) (λ_ _ _ _=>bZ') (λ_ _ _ _=>(jf' (o7' (ak' (en 0) ac') (ak' (en 1) ac')) (je' (o7' (ak' (en 1) ac') (ak' (en 0) ac'))))))) ab' rfl)))))))
theorem jV':FnScope ["one", "other", "shared", "pair", "twin", "low", "high"] ["one", "other"] (defScope b2'):=⟨rfl,rfl,rfl,by decide +kernel,rfl,by decide +kernel,by decide +kernel⟩
theorem jW' {f:Addr}{fd:FuncData} (F:Fun K "in_common" "in_common" b2' f fd) {aK' aI'} (bK:Cd P w K mg base 2 aK' aI' ["things"] aq' "must_be_kin") (aT:mg "zip"=none) (aX:mg "max"=none) (aE:mg "min"=none) (aA:mg "tuple"=none):FnOk P w K mg base CX0 3 f fd ["one", "other"] (spD K cw') :=
 aV' (k:=2) (N:=["one", "other", "shared", "pair", "twin", "low", "high"]) F jV' em' (λao A outer s H E B hr=>aH'
  (ad' (ah' (dM' (cqE bK hr (aa' (am' (aC' (aa' (en 0) (aa' (en 1) ab' rfl) rfl))) ab' rfl))))
  (ad' (ah' (cj' (i:=2) nk (aC' ab')))
  (ad' (bn' never rfl (fU' rfl aT (aa' (en 0) (aa' (en 1) ab' rfl) rfl)) (dn' (m:=100) rfl (aP' (gd_n (i:=3) (m:=100) nk) (aP' (gd_n (i:=4) (m:=100) nk) cG')))
  (ad' (al' (i:=5) nk (gQ' rfl rfl aX (aa' (ak' (en 3) ac') (aa' (ak' (en 4) ac') ab' rfl) rfl)))
  (ad' (al' (i:=6) nk (fm' rfl rfl aE (aa' (ak' (en 3) ac') (aa' (ak' (en 4) ac') ab' rfl) rfl)))
  (ad' (aM' (gP' (en 5) (en 6))
  (ag' (ah' (ao' eH'))) aD')
  (ag' (ah' (dS' (pv 2) (aJ' (aa' (en 5) (aa' (en 6) ab' rfl) rfl)))))))))
  (ag' (ah' (ao' (eQ' rfl aA (aa' (en 2) ab' rfl)))))))))
theorem mg':FnScope ["wishes", "unlike"] ["wishes"] (defScope cM'):=⟨rfl,rfl,rfl,by decide +kernel,rfl,by decide +kernel,by decide +kernel⟩
theorem mh' {f:Addr}{fd:FuncData} (F:Fun K "roof_of" "roof_of" cM' f fd) {aK' aI'} (bK:Cd P w K mg base 2 aK' aI' ["things"] aq' "must_be_kin") {fG' fh'} (lZ:Cd P w K mg base 4 fG' fh' ["wishes", "wish"] bC' "is_under_another") (aJ:mg "sorted"=none) (eX:mg "set"=none):FnOk P w K mg base CX0 5 f fd ["wishes"] (spD K bj') :=
 aV' (k:=4) (N:=["wishes", "unlike"]) F mg' fy' (λao A outer s H E B hr=>aH'
  (ad' (ah' (dM' (cqE bK hr (aa' (en 0) ab' rfl))))
  (ad' (al' (i:=1) nk (am' (md' hr rfl aJ rfl eX (aa' (en 0) ab' rfl))))
  (ag' (ah' (hE' (bl' (N':=["wish", "-wishes", "unlike"]) (m:=1) (CompScope.of (by kernel_rfl)) rfl (aB' (en 1)) (λ_ _ _ _=>(gd_n (i:=0) (m:=1) nk)) (λ_ _ _ _=>(cJ' (qM' (jd' (cqE lZ hr (aa' (en 2) (aa' (en 0) ab' rfl) rfl)))))) (λ_ _ _ _=>(en 0)))))))))
theorem ff':FnScope ["wishes", "wish"] ["wishes", "wish"] (defScope a6'):=⟨rfl,rfl,rfl,by decide +kernel,rfl,by decide +kernel,by decide +kernel⟩
theorem fg' {f:Addr}{fd:FuncData} (F:Fun K "is_under_another" "is_under_another" a6' f fd) {d3' dx'} (cy:Cd P w K mg base 3 d3' dx' ["one", "other"] cE' "covers") (eY:mg "any"=none):FnOk P w K mg base CX0 4 f fd ["wishes", "wish"] (spD K bC') :=
 aV' (k:=3) (N:=["wishes", "wish"]) F ff' cc' (λao A outer s H E B hr=>aH'
  (ag' (ah' (ao' (q3' rfl rfl eY (aa' (am' (bl' (N':=["one", "-wishes", "wish"]) (m:=1) (CompScope.of (by kernel_rfl)) rfl (aB' (en 0)) (λ_ _ _ _=>(gd_n (i:=0) (m:=1) nk)) (λ_ _ _ _=>bZ') (λ_ _ _ _=>(jf' (rK' hr (en 0) (en 2)) (je' (cqE cy hr (aa' (en 0) (aa' (en 2) ab' rfl) rfl))))))) ab' rfl))))))
theorem mi':FnScope ["wishes", "wish"] ["wishes", "wish"] (defScope cN'):=⟨rfl,rfl,rfl,by decide +kernel,rfl,by decide +kernel,by decide +kernel⟩
theorem mj' {f:Addr}{fd:FuncData} (F:Fun K "covered" "covered" cN' f fd) {aK' aI'} (bK:Cd P w K mg base 2 aK' aI' ["things"] aq' "must_be_kin") {gC' f7'} (ma:Cd P w K mg base 45 gC' f7' ["wishes", "numbers", "part"] (a0' 40) "looked_through") (ak:mg "len"=none) (aZ:mg "list"=none) (aC:mg "range"=none):FnOk P w K mg base CX0 46 f fd ["wishes", "wish"] (spD K a5') :=
 aV' (k:=45) (N:=["wishes", "wish"]) F mi' fz' (λao A outer s H E B hr=>aH'
  (ad' (ah' (dM' (cqE bK hr (aa' (am' (dU' (am' (aC' (aa' (en 1) ab' rfl))) (en 0))) ab' rfl))))
  (ag' (ah' (ao' (cqE ma hr (aa' (en 0) (aa' (am' (fn' rfl rfl aZ rfl aC (aa' (be' rfl ak (aa' (en 0) ab' rfl)) ab' rfl))) (aa' (en 1) ab' rfl) rfl) rfl)))))))
theorem f5':FnScope ["wishes", "numbers", "part", "near", "k", "place", "halves", "one", "other"] ["wishes", "numbers", "part"] (defScope a2'):=⟨rfl,rfl,rfl,by decide +kernel,rfl,by decide +kernel,by decide +kernel⟩
theorem f6' {g:List R->Option (R×List R)}{kk:Nat} (hk:4<=kk){f:Addr}{fd:FuncData} (F:Fun K "looked_through" "looked_through" a2' f fd) (G:FnOk P w K mg base CX0 kk f fd ["wishes", "numbers", "part"] (spD K g)) {ev' d4'} (dH:Cd P w K mg base 3 ev' d4' ["one", "other"] cw' "in_common") {d3' dx'} (cy:Cd P w K mg base 3 d3' dx' ["one", "other"] cE' "covers") {dl' c0'} (dI:Cd P w K mg base 2 dl' c0' ["wishes", "part"] bJ' "first_border") {ew' d5'} (dJ:Cd P w K mg base 2 ew' d5' ["part", "field", "at"] cx' "halves_of") (ak:mg "len"=none) (aA:mg "tuple"=none) (d9:Binds K fd ["wishes", "numbers", "part"] []) (ig:keepIn K (.ref f)=true) (eh:mg "looked_through"=some (.ref f)):FnOk P w K mg base CX0 (kk+1) f fd ["wishes", "numbers", "part"] (spD K (fnD 9 3 (bQ' g))) :=
 aV' (N:=["wishes", "numbers", "part", "near", "k", "place", "halves", "one", "other"]) F f5' (bQ' g) (λao A outer s H E B hr=>aH'
  (ad' (ah' (el' (i:=3) (N':=["k", "wishes", "-numbers", "part", "-near", "-k", "-place", "-halves", "-one", "-other"]) (m:=1) (CompScope.of (by kernel_rfl)) rfl nk (aB' (en 1)) (λ_ _ _ _=>(gd_n (i:=0) (m:=1) nk)) (λ_ _ _ _=>(cJ' (pG' (bI' dH.G (hr.mono (le_trans (by decide) hk)) rfl dH.m dH.p dH.b (aa' (ak' (en 1) (en 0)) (aa' (en 3) ab' rfl) rfl)) eH'))) (λ_ _ _ _=>(en 0))))
  (ad' (aM' (bH' hr (be' rfl ak (aa' (en 3) ab' rfl)) ac')
  (ag' (ah' (ao' (aJ' (aa' a3' (aa' (eQ' rfl aA (aa' (am' (bl' (N':=["pair", "-wishes", "-numbers", "-part", "-near", "-k", "-place", "-halves", "-one", "-other"]) (m:=1) (CompScope.of (by kernel_rfl)) rfl (aB' (en 2)) (λ_ _ _ _=>(gd_n (i:=0) (m:=1) nk)) (λ_ _ _ _=>bZ') (λ_ _ _ _=>(ak' (en 0) ac')))) ab' rfl)) ab' rfl) rfl))))) aD')
  (ad' (bn' never rfl (aB' (en 3)) (gd_n (i:=4) (m:=100) nk)
  (ag' (aM' (jd' (bI' cy.G (hr.mono (le_trans (by decide) hk)) rfl cy.m cy.p cy.b (aa' (ak' (en 0) (en 4)) (aa' (en 2) ab' rfl) rfl)))
  (ag' (ah' (ao' (aJ' (aa' a3' (aa' (aJ' (aa' a3' (aa' (en 4) ab' rfl) rfl)) ab' rfl) rfl))))) aD')))
  (ad' (al' (i:=5) nk (bI' dI.G (hr.mono (le_trans (by decide) hk)) rfl dI.m dI.p dI.b (aa' (am' (bl' (N':=["k", "wishes", "-numbers", "-part", "-near", "-k", "-place", "-halves", "-one", "-other"]) (m:=1) (CompScope.of (by kernel_rfl)) rfl (aB' (en 3)) (λ_ _ _ _=>(gd_n (i:=0) (m:=1) nk)) (λ_ _ _ _=>bZ') (λ_ _ _ _=>(ak' (en 1) (en 0))))) (aa' (en 2) ab' rfl) rfl)))
  (ad' (al' (i:=6) nk (bI' dJ.G (hr.mono (le_trans (by decide) hk)) rfl dJ.m dJ.p dJ.b (aa' (en 2) (aa' (ak' (en 5) ac') (aa' (ak' (en 5) ac') ab' rfl) rfl) rfl)))
  (ad' (al' (i:=7) nk (bI' G hr rfl eh ig d9 (aa' (en 0) (aa' (en 3) (aa' (ak' (en 6) ac') ab' rfl) rfl) rfl)))
  (ad' (aM' (bH' hr (ak' (en 7) ac') a3')
  (ag' (ah' (ao' (en 7)))) aD')
  (ad' (al' (i:=8) nk (bI' G hr rfl eh ig d9 (aa' (en 0) (aa' (en 3) (aa' (ak' (en 6) ac') ab' rfl) rfl) rfl)))
  (ad' (aM' (bH' hr (ak' (en 8) ac') a3')
  (ag' (ah' (ao' (en 8)))) aD')
  (ag' (ah' (ao' (aJ' (aa' a3' (aa' (aJ' (g1' a3' (ak' (en 5) ac') (ak' (en 5) ac') (ak' (en 7) ac') (aa' (ak' (en 8) ac') ab' rfl) rfl rfl rfl rfl)) ab' rfl) rfl)))))))))))))))
theorem dD' {f:Addr}{fd:FuncData} (F:Fun K "looked_through" "looked_through" a2' f fd) {ev' d4'} (dH:Cd P w K mg base 3 ev' d4' ["one", "other"] cw' "in_common") {d3' dx'} (cy:Cd P w K mg base 3 d3' dx' ["one", "other"] cE' "covers") {dl' c0'} (dI:Cd P w K mg base 2 dl' c0' ["wishes", "part"] bJ' "first_border") {ew' d5'} (dJ:Cd P w K mg base 2 ew' d5' ["part", "field", "at"] cx' "halves_of") (ak:mg "len"=none) (aA:mg "tuple"=none) (d9:Binds K fd ["wishes", "numbers", "part"] []) (ig:keepIn K (.ref f)=true) (eh:mg "looked_through"=some (.ref f)):∀ n:Nat,FnOk P w K mg base CX0 (5+n) f fd ["wishes", "numbers", "part"] (spD K (a0' n))
 | 0=>fV'
 | n+1=>f6' (le_trans (by decide) (le_add_right _ n)) F (dD' F dH cy dI dJ ak aA d9 ig eh n) dH cy dI dJ ak aA d9 ig eh
theorem g3':FnScope ["wishes", "part", "places", "field", "pair", "wish"] ["wishes", "part"] (defScope bo'):=⟨rfl,rfl,rfl,by decide +kernel,rfl,by decide +kernel,by decide +kernel⟩
theorem g4' {f:Addr}{fd:FuncData} (F:Fun K "first_border" "first_border" bo' f fd) (aK:mg "enumerate"=none) (aE:mg "min"=none):FnOk P w K mg base CX0 2 f fd ["wishes", "part"] (spD K bJ') :=
 aV' (k:=1) (N:=["wishes", "part", "places", "field", "pair", "wish"]) F g3' df' (λao A outer s H E B hr=>aH'
  (ad' (ah' (cj' (i:=2) nk (aC' ab')))
  (ad' (bn' never rfl (jr' rfl aK (aa' (en 1) ab' rfl)) (dn' (m:=100) rfl (aP' (gd_n (i:=3) (m:=100) nk) (aP' (gd_n (i:=4) (m:=100) nk) cG')))
  (ag' (bn' never rfl (aB' (en 0)) (gd_n (i:=5) (m:=100) nk)
  (ad' (aM' (gO' (ak' (en 4) ac') (ak' (ak' (en 5) (en 3)) ac'))
  (ag' (ah' (dS' (pv 2) (aJ' (aa' (en 3) (aa' (dp' (ak' (ak' (en 5) (en 3)) ac') ac') ab' rfl) rfl))))) aD')
  (ag' (aM' (gO' (ak' (ak' (en 5) (en 3)) ac') (ak' (en 4) ac'))
  (ag' (ah' (dS' (pv 2) (aJ' (aa' (en 3) (aa' (ak' (ak' (en 5) (en 3)) ac') ab' rfl) rfl))))) aD'))))))
  (ag' (ah' (ao' (pK' rfl hr rfl aE (aa' (en 2) ab' rfl))))))))
theorem jX':FnScope ["part", "field", "at", "ahead", "behind", "low", "high"] ["part", "field", "at"] (defScope b3'):=⟨rfl,rfl,rfl,by decide +kernel,rfl,by decide +kernel,by decide +kernel⟩
theorem jY' {f:Addr}{fd:FuncData} (F:Fun K "halves_of" "halves_of" b3' f fd) :FnOk P w K mg base CX0 2 f fd ["part", "field", "at"] (spD K cx') :=
 aV' (k:=1) (N:=["part", "field", "at", "ahead", "behind", "low", "high"]) F jX' en' (λao A outer s H E B hr=>aH'
  (ad' (al' (i:=3) nk (fT' (en 0) eK' (dc' (en 1))))
  (ad' (al' (i:=4) nk (fT' (en 0) (dc' (aA' (en 1) ac')) eK'))
  (ad' (al' (i:=5) nk (ak' (ak' (en 0) (en 1)) ac'))
  (ad' (al' (i:=6) nk (ak' (ak' (en 0) (en 1)) ac'))
  (ag' (ah' (ao' (aJ' (aa' (aA' (aA' (en 3) (aJ' (aa' (aJ' (aa' (en 5) (aa' (en 2) ab' rfl) rfl)) ab' rfl))) (en 4)) (aa' (aA' (aA' (en 3) (aJ' (aa' (aJ' (aa' (aA' (en 2) ac') (aa' (en 6) ab' rfl) rfl)) ab' rfl))) (en 4)) ab' rfl) rfl))))))))))
theorem kG':FnScope ["wishes", "roof", "stay", "wish", "others"] ["wishes"] (defScope cn'):=⟨rfl,rfl,rfl,by decide +kernel,rfl,by decide +kernel,by decide +kernel⟩
theorem kH' {f:Addr}{fd:FuncData} (F:Fun K "spare_of" "spare_of" cn' f fd) {ch' bS'} (cz:Cd P w K mg base 5 ch' bS' ["wishes"] bj' "roof_of") {dy' c1'} (cW:Cd P w K mg base 46 dy' c1' ["wishes", "wish"] a5' "covered"):FnOk P w K mg base CX0 47 f fd ["wishes"] (spD K cl') :=
 aV' (k:=46) (N:=["wishes", "roof", "stay", "wish", "others"]) F kG' dG' (λao A outer s H E B hr=>aH'
  (ad' (ah' (pX' (i:=1) nk (cqO cz hr (aa' (en 0) ab' rfl))))
  (ad' (ah' (pf' (i:=2) (j:=1) nk (pv 1)))
  (ad' (bn' never rfl (aB' (en 1)) (gd_n (i:=3) (m:=100) nk)
  (ad' (ah' (kE' (i:=4) (N':=["one", "-wishes", "-roof", "-stay", "wish", "-others"]) (m:=1) (CompScope.of (by kernel_rfl)) rfl nk (aB' (en 2)) (λ_ _ _ _=>(gd_n (i:=0) (m:=1) nk)) (λ_ _ _ _=>(cJ' (cT' hr (en 0) (en 4)))) (λ_ _ _ _=>(en 0))))
  (ag' (aM' (bH' hr (ak' (cqE cW hr (aa' (en 4) (aa' (en 3) ab' rfl) rfl)) ac') a3')
  (ag' (ah' (pf' (i:=2) (j:=4) nk (pv 4)))) aD'))))
  (ag' (ah' (pY' (pv 2))))))))
theorem jZ':FnScope ["wishes", "roof", "number", "tree", "told"] ["wishes"] (defScope b4'):=⟨rfl,rfl,rfl,by decide +kernel,rfl,by decide +kernel,by decide +kernel⟩
theorem j0' {f:Addr}{fd:FuncData} (F:Fun K "fewest_of" "fewest_of" b4' f fd) {ch' bS'} (cz:Cd P w K mg base 5 ch' bS' ["wishes"] bj' "roof_of") {kg' iX'} (iX:Cd P w K mg base 63 kg' iX' ["roof", "chosen", "more"] (aQ' 10) "looked_for"):FnOk P w K mg base CX0 64 f fd ["wishes"] (spD K aX') :=
 aV' (k:=63) (N:=["wishes", "roof", "number", "tree", "told"]) F jZ' eo' (λao A outer s H E B hr=>aH'
  (ad' (al' (i:=1) nk (am' (cqO cz hr (aa' (en 0) ab' rfl))))
  (ad' (al' (i:=2) nk ac')
  (ad' (al' (i:=3) nk eH')
  (ad' (al' (i:=4) nk (cqE iX hr (aa' (en 1) (aa' (am' (aC' ab')) (aa' (en 2) ab' rfl) rfl) rfl)))
  (ad' (oH' never (cT' hr (ak' (en 4) ac') a3')
  (ad' (al' (i:=3) nk (en 4))
  (ad' (al' (i:=2) nk (aA' (en 2) ac'))
  (ag' (al' (i:=4) nk (cqE iX hr (aa' (en 1) (aa' (am' (aC' ab')) (aa' (en 2) ab' rfl) rfl) rfl)))))))
  (ag' (ah' (ao' (aJ' (aa' (en 2) (aa' (ak' (en 4) ac') (aa' (en 3) ab' rfl) rfl) rfl)))))))))))
theorem iN':FnScope ["roof", "chosen", "more", "letter", "trees", "wish", "told"] ["roof", "chosen", "more"] (defScope bp'):=⟨rfl,rfl,rfl,by decide +kernel,rfl,by decide +kernel,by decide +kernel⟩
theorem iO' {g:List R->Option (R×List R)}{kk:Nat} (hk:52<=kk){f:Addr}{fd:FuncData} (F:Fun K "looked_for" "looked_for" bp' f fd) (G:FnOk P w K mg base CX0 kk f fd ["roof", "chosen", "more"] (spD K g)) {bY' bO'} (cA:Cd P w K mg base 51 bY' bO' ["roof", "chosen"] bb' "letter_left") {bT' bE'} (bh:Cd P w K mg base 4 bT' bE' ["wishes", "letter"] aU' "having") (aJ:mg "sorted"=none) (eZ:Binds K fd ["roof", "chosen", "more"] []) (iY:keepIn K (.ref f)=true) (fb:mg "looked_for"=some (.ref f)):FnOk P w K mg base CX0 (kk+1) f fd ["roof", "chosen", "more"] (spD K (fnD 7 3 (cV' g))) :=
 aV' (N:=["roof", "chosen", "more", "letter", "trees", "wish", "told"]) F iN' (cV' g) (λao A outer s H E B hr=>aH'
  (ad' (al' (i:=3) nk (bI' cA.G (hr.mono (le_trans (by decide) hk)) rfl cA.m cA.p cA.b (aa' (en 0) (aa' (en 1) ab' rfl) rfl)))
  (ad' (aM' (q0' (en 3) eH')
  (ag' (ah' (ao' (aJ' (aa' a3' (aa' (am' (m9' hr rfl aJ (aa' (en 1) ab' rfl))) ab' rfl) rfl))))) aD')
  (ad' (aM' (bH' hr (en 2) ac')
  (ag' (ah' (ao' (aJ' (aa' a3' (aa' (en 3) ab' rfl) rfl))))) aD')
  (ad' (ah' (cj' (i:=4) nk (aC' ab')))
  (ad' (bn' never rfl (aB' (am' (fP' bh.G (hr.mono (le_trans (by decide) hk)) rfl bh.m bh.p bh.b (aa' (en 0) (aa' (en 3) ab' rfl) rfl)))) (gd_n (i:=5) (m:=100) nk)
  (ad' (al' (i:=6) nk (bI' G hr rfl fb iY eZ (aa' (en 0) (aa' (am' (dU' (en 1) (am' (aC' (aa' (en 5) ab' rfl))))) (aa' (dp' (en 2) ac') ab' rfl) rfl) rfl)))
  (ad' (aM' (bH' hr (ak' (en 6) ac') a3')
  (ag' (ah' (ao' (en 6)))) aD')
  (ag' (ah' (dS' (pv 4) (en 6)))))))
  (ag' (ah' (ao' (aJ' (aa' a3' (aa' (en 3) (aa' (en 4) ab' rfl) rfl) rfl)))))))))))
theorem fb' {f:Addr}{fd:FuncData} (F:Fun K "looked_for" "looked_for" bp' f fd) {bY' bO'} (cA:Cd P w K mg base 51 bY' bO' ["roof", "chosen"] bb' "letter_left") {bT' bE'} (bh:Cd P w K mg base 4 bT' bE' ["wishes", "letter"] aU' "having") (aJ:mg "sorted"=none) (eZ:Binds K fd ["roof", "chosen", "more"] []) (iY:keepIn K (.ref f)=true) (fb:mg "looked_for"=some (.ref f)):∀ n:Nat,FnOk P w K mg base CX0 (53+n) f fd ["roof", "chosen", "more"] (spD K (aQ' n))
 | 0=>fV'
 | n+1=>iO' (le_trans (by decide) (le_add_right _ n)) F (fb' F cA bh aJ eZ iY fb n) cA bh aJ eZ iY fb
theorem hS':FnScope ["roof", "chosen", "told", "letters"] ["roof", "chosen"] (defScope bx'):=⟨rfl,rfl,rfl,by decide +kernel,rfl,by decide +kernel,by decide +kernel⟩
theorem hT' {f c P':Addr}{fd:FuncData} (F:Fun K "letter_left" "letter_left" bx' f fd) (iZ:nsIn K mainGlobals "letter_left"=some (some (.ref f))) (fH:tabIn K "letter_left"=some (c,P')) {dy' c1'} (cW:Cd P w K mg base 46 dy' c1' ["wishes", "wish"] a5' "covered") {bT' bE'} (bh:Cd P w K mg base 4 bT' bE' ["wishes", "letter"] aU' "having") (aE:mg "min"=none) (ak:mg "len"=none):FnOk P w K mg base CX0 51 f fd ["roof", "chosen"] (spD K bb') :=
 rd' (k:=50) (N:=["roof", "chosen", "told", "letters"]) F hS' iZ fH dB' (λao aU A outer s H E B hr=>aH'
  (ad' (ah' (el' (i:=2) (N':=["wish", "-roof", "chosen", "-told", "-letters"]) (m:=1) (CompScope.of (by kernel_rfl)) rfl nk (aB' (en 0)) (λ_ _ _ _=>(gd_n (i:=0) (m:=1) nk)) (λ_ _ _ _=>bZ') (λ_ _ _ _=>(cqE cW hr (aa' (en 2) (aa' (en 0) ab' rfl) rfl)))))
  (ad' (ah' (el' (i:=3) (N':=["one", "-roof", "-chosen", "-told", "-letters"]) (m:=1) (CompScope.of (by kernel_rfl)) rfl nk (aB' (en 2)) (λ_ _ _ _=>(gd_n (i:=0) (m:=1) nk)) (λ_ _ _ _=>(cJ' (bH' hr (ak' (en 0) ac') a3'))) (λ_ _ _ _=>(ak' (en 0) ac'))))
  (ag' (ah' (ao' (nr' (kb:=5) (hr.mono (by decide)) rfl aE (np' (jc:=0) (g := "letter") (y := "roof") rfl rfl (λA s H f cv hr=>(be' rfl ak (aa' (am' (cqO bh hr (aa' (en 1) (aa' (en 0) ab' rfl) rfl))) ab' rfl)))) fH aU rfl rfl rfl (en 3))))))))
theorem nB':FnScope ["wishes", "letter"] ["wishes", "letter"] (defScope dh'):=⟨rfl,rfl,rfl,by decide +kernel,rfl,by decide +kernel,by decide +kernel⟩
theorem nC' {f:Addr}{fd:FuncData} (F:Fun K "having" "having" dh' f fd) {kh' iY'} (md:Cd P w K mg base 3 kh' iY' ["wish", "letter"] cU' "has_letter"):FnOk P w K mg base CX0 4 f fd ["wishes", "letter"] (spD K aU') :=
 aV' (k:=3) (N:=["wishes", "letter"]) F nB' gx' (λao A outer s H E B hr=>aH'
  (ag' (ah' (hE' (bl' (N':=["wish", "-wishes", "letter"]) (m:=1) (CompScope.of (by kernel_rfl)) rfl (aB' (en 0)) (λ_ _ _ _=>(gd_n (i:=0) (m:=1) nk)) (λ_ _ _ _=>(cJ' (jd' (cqE md hr (aa' (en 0) (aa' (en 2) ab' rfl) rfl))))) (λ_ _ _ _=>(en 0)))))))
theorem j1':FnScope ["wishes", "thing", "number", "some", "roof"] ["wishes", "thing"] (defScope b5'):=⟨rfl,rfl,rfl,by decide +kernel,rfl,by decide +kernel,by decide +kernel⟩
theorem j2' {f:Addr}{fd:FuncData} (F:Fun K "is_fewest" "is_fewest" b5' f fd) {aK' aI'} (bK:Cd P w K mg base 2 aK' aI' ["things"] aq' "must_be_kin") {ki' iZ'} (me:Cd P w K mg base 13 ki' iZ' ["tree"] (a7' 10) "letters_in") {ch' bS'} (cz:Cd P w K mg base 5 ch' bS' ["wishes"] bj' "roof_of") {ht' gD'} (mf:Cd P w K mg base 16 ht' gD' ["roof", "chosen", "more", "tree"] (aN' 10) "is_right_tree") {bY' bO'} (cA:Cd P w K mg base 51 bY' bO' ["roof", "chosen"] bb' "letter_left") (ak:mg "len"=none):FnOk P w K mg base CX0 52 f fd ["wishes", "thing"] (spD K cy') :=
 aV' (k:=51) (N:=["wishes", "thing", "number", "some", "roof"]) F j1' er' (λao A outer s H E B hr=>aH'
  (ad' (al' (i:=2) nk (ak' (en 1) ac'))
  (ad' (al' (i:=3) nk (ak' (en 1) ac'))
  (ad' (ah' (dM' (cqE bK hr (aa' (am' (dU' (am' (dU' (en 0) (en 3))) (cqE me hr (aa' (ak' (en 1) ac') ab' rfl)))) ab' rfl))))
  (ad' (al' (i:=4) nk (am' (cqO cz hr (aa' (en 0) ab' rfl))))
  (ad' (aM' (TW.td (gM' (cT' hr (be' rfl ak (aa' (en 3) ab' rfl)) (en 2)) (fj' (cT' hr (en 3) (am' (bl' (N':=["wish", "-wishes", "-thing", "-number", "some", "-roof"]) (m:=1) (CompScope.of (by kernel_rfl)) rfl (aB' (en 4)) (λ_ _ _ _=>(gd_n (i:=0) (m:=1) nk)) (λ_ _ _ _=>(cJ' (rM' hr (en 0) (en 4)))) (λ_ _ _ _=>(en 0))))))))
  (ag' (ah' (ao' cC'))) aD')
  (ag' (ah' (ao' (jf' (qZ' (cqE cA hr (aa' (en 4) (aa' (en 3) ab' rfl) rfl)) eH') (je' (cqE mf hr (g1' (en 4) (am' (aC' ab')) (dp' (en 2) ac') (ak' (en 1) ac') ab' rfl rfl rfl rfl)))))))))))))
theorem iP':FnScope ["tree", "letters", "twig"] ["tree"] (defScope bq'):=⟨rfl,rfl,rfl,by decide +kernel,rfl,by decide +kernel,by decide +kernel⟩
theorem iQ' {g:List R->Option (R×List R)}{kk:Nat} (hk:2<=kk){f:Addr}{fd:FuncData} (F:Fun K "letters_in" "letters_in" bq' f fd) (G:FnOk P w K mg base CX0 kk f fd ["tree"] (spD K g)) (fc:Binds K fd ["tree"] []) (i0:keepIn K (.ref f)=true) (fe:mg "letters_in"=some (.ref f)):FnOk P w K mg base CX0 (kk+1) f fd ["tree"] (spD K (fnD 3 1 (cd' g))) :=
 aV' (N:=["tree", "letters", "twig"]) F iP' (cd' g) (λao A outer s H E B hr=>aH'
  (ad' (ah' (cj' (i:=1) nk (aC' (aa' (ak' (en 0) ac') ab' rfl))))
  (ad' (aM' (bH' hr (ak' (en 0) ac') a3')
  (ag' (bn' never rfl (aB' (ak' (en 0) ac')) (gd_n (i:=2) (m:=100) nk)
  (ag' (ah' (qT' (pv 1) (bI' G hr rfl fe i0 fc (aa' (en 2) ab' rfl))))))) aD')
  (ag' (ah' (ao' (en 1)))))))
theorem fc' {f:Addr}{fd:FuncData} (F:Fun K "letters_in" "letters_in" bq' f fd) (fc:Binds K fd ["tree"] []) (i0:keepIn K (.ref f)=true) (fe:mg "letters_in"=some (.ref f)):∀ n:Nat,FnOk P w K mg base CX0 (3+n) f fd ["tree"] (spD K (a7' n))
 | 0=>fV'
 | n+1=>iQ' (le_trans (by decide) (le_add_right _ n)) F (fc' F fc i0 fe n) fc i0 fe
theorem gy':FnScope ["roof", "chosen", "more", "tree", "letter", "choices"] ["roof", "chosen", "more", "tree"] (defScope a8'):=⟨rfl,rfl,rfl,by decide +kernel,rfl,by decide +kernel,by decide +kernel⟩
theorem gz' {g:List R->Option (R×List R)}{kk:Nat} (hk:5<=kk){f:Addr}{fd:FuncData} (F:Fun K "is_right_tree" "is_right_tree" a8' f fd) (G:FnOk P w K mg base CX0 kk f fd ["roof", "chosen", "more", "tree"] (spD K g)) {bT' bE'} (bh:Cd P w K mg base 4 bT' bE' ["wishes", "letter"] aU' "having") (ak:mg "len"=none) (aT:mg "zip"=none) (bg:mg "all"=none) (fg:Binds K fd ["roof", "chosen", "more", "tree"] []) (i3:keepIn K (.ref f)=true) (fh:mg "is_right_tree"=some (.ref f)):FnOk P w K mg base CX0 (kk+1) f fd ["roof", "chosen", "more", "tree"] (spD K (fnD 6 4 (bD' g))) :=
 aV' (N:=["roof", "chosen", "more", "tree", "letter", "choices"]) F gy' (bD' g) (λao A outer s H E B hr=>aH'
  (ad' (al' (i:=4) nk (ak' (en 3) ac'))
  (ad' (al' (i:=5) nk (am' (fP' bh.G (hr.mono (le_trans (by decide) hk)) rfl bh.m bh.p bh.b (aa' (en 0) (aa' (en 4) ab' rfl) rfl))))
  (ad' (aM' (TW.td (gM' (bH' hr (be' rfl ak (aa' (en 5) ab' rfl)) ac') (fj' (gP' (be' rfl ak (aa' (am' (fP' bh.G (hr.mono (le_trans (by decide) hk)) rfl bh.m bh.p bh.b (aa' (en 1) (aa' (en 4) ab' rfl) rfl))) ab' rfl)) ac'))))
  (ag' (ah' (ao' cC'))) aD')
  (ad' (aM' (bH' hr (ak' (en 3) ac') a3')
  (ag' (ah' (ao' (rJ' hr (en 2) ac')))) aD')
  (ad' (aM' (TW.td (gM' (bH' hr (en 2) ac') (fj' (cT' hr (be' rfl ak (aa' (ak' (en 3) ac') ab' rfl)) (be' rfl ak (aa' (en 5) ab' rfl))))))
  (ag' (ah' (ao' cC'))) aD')
  (ag' (ah' (ao' (js' rfl rfl bg (aa' (am' (bl' (N':=["wish", "twig", "roof", "chosen", "more", "-tree", "-letter", "-choices"]) (m:=2) (CompScope.of (by kernel_rfl)) rfl (fU' rfl aT (aa' (en 5) (aa' (ak' (en 3) ac') ab' rfl) rfl)) (λ_ _ _ _=>(dn' (m:=2) rfl (aP' (gd_n (i:=0) (m:=2) nk) (aP' (gd_n (i:=1) (m:=2) nk) cG')))) (λ_ _ _ _=>bZ') (λ_ _ _ _=>(bI' G hr rfl fh i3 fg (g1' (en 2) (am' (dU' (en 3) (am' (aC' (aa' (en 0) ab' rfl))))) (dp' (en 4) ac') (en 1) ab' rfl rfl rfl rfl))))) ab' rfl)))))))))))
theorem d1' {f:Addr}{fd:FuncData} (F:Fun K "is_right_tree" "is_right_tree" a8' f fd) {bT' bE'} (bh:Cd P w K mg base 4 bT' bE' ["wishes", "letter"] aU' "having") (ak:mg "len"=none) (aT:mg "zip"=none) (bg:mg "all"=none) (fg:Binds K fd ["roof", "chosen", "more", "tree"] []) (i3:keepIn K (.ref f)=true) (fh:mg "is_right_tree"=some (.ref f)):∀ n:Nat,FnOk P w K mg base CX0 (6+n) f fd ["roof", "chosen", "more", "tree"] (spD K (aN' n))
 | 0=>fV'
 | n+1=>gz' (le_trans (by decide) (le_add_right _ n)) F (d1' F bh ak aT bg fg i3 fh n) bh ak aT bg fg i3 fh
theorem j3':FnScope ["cell", "at", "one", "two", "three"] ["cell", "at"] (defScope b6'):=⟨rfl,rfl,rfl,by decide +kernel,rfl,by decide +kernel,by decide +kernel⟩
theorem j4' {f:Addr}{fd:FuncData} (F:Fun K "_law_blend" "_law_blend" b6' f fd) :FnOk P w K mg base CX0 2 f fd ["cell", "at"] (spD K cz') :=
 aV' (k:=1) (N:=["cell", "at", "one", "two", "three"]) F j3' et' (λao A outer s H E B hr=>aH'
  (ad' (aM' (rI' (en 0) (jm' ac' ac'))
  (ag' (ah' (ao' (en 0)))) aD')
  (ad' (al' (i:=2) nk (cv' (aA' (aA' (cb' (cv' (en 0) ac') ac') (cb' (en 1) ac')) ac') ac'))
  (ad' (al' (i:=3) nk (cv' (aA' (aA' (cb' (en 2) (en 2)) (cb' (en 1) ac')) (cv' (en 0) ac')) ac'))
  (ad' (al' (i:=4) nk (cv' (aA' (aA' (cb' (en 3) (en 3)) (cb' (en 2) ac')) ac') ac'))
  (ag' (ah' (ao' (aA' (cb' (aA' (cb' (en 2) ac') (en 3)) ac') (en 4))))))))))
theorem ml':FnScope ["script", "cells", "k", "cell"] ["script"] (defScope cO'):=⟨rfl,rfl,rfl,by decide +kernel,rfl,by decide +kernel,by decide +kernel⟩
theorem mn' {f:Addr}{fd:FuncData} (F:Fun K "_law_pot" "_law_pot" cO' f fd) (aZ:mg "list"=none) (aK:mg "enumerate"=none):FnOk P w K mg base CX0 2 f fd ["script"] (spD K dv') :=
 aV' (k:=1) (N:=["script", "cells", "k", "cell"]) F ml' fA' (λao A outer s H E B hr=>aH'
  (ad' (ah' (cj' (i:=1) nk (lf' rfl aZ (aa' (fT' (en 0) eK' (dc' ac')) ab' rfl))))
  (ad' (bn' never rfl (jr' rfl aK (aa' (fT' (en 0) (dc' ac') (dc' ac')) ab' rfl)) (dn' (m:=100) rfl (aP' (gd_n (i:=2) (m:=100) nk) (aP' (gd_n (i:=3) (m:=100) nk) cG')))
  (ag' (ah' (i3' (pv 1) (cv' (en 2) ac') (aA' (bX' (pv 1) (cv' (en 2) ac')) (en 3))))))
  (ag' (ah' (hE' (aC' (aa' (en 1) (aa' ac' (aa' ac' ab' rfl) rfl) rfl))))))))
theorem kI':FnScope ["pot", "upto", "at", "cell", "found"] ["pot", "upto"] (defScope co'):=⟨rfl,rfl,rfl,by decide +kernel,rfl,by decide +kernel,by decide +kernel⟩
theorem kJ' {f:Addr}{fd:FuncData} (F:Fun K "_law_pick" "_law_pick" co' f fd) {kS' kj'} (mh:Cd P w K mg base 2 kS' kj' ["cell", "at"] cz' "_law_blend") (ak:mg "len"=none):FnOk P w K mg base CX0 3 f fd ["pot", "upto"] (spD K az') :=
 aV' (k:=2) (N:=["pot", "upto", "at", "cell", "found"]) F kI' eW' (λao A outer s H E B hr=>aH'
  (ad' (aM' (gO' (bX' (pv 0) ac') (en 1))
  (ad' (al' (i:=2) nk (bX' (pv 0) ac'))
  (ad' (al' (i:=3) nk (cb' ac' (en 2)))
  (ad' (aM' (gO' (en 2) (be' rfl ak (aa' (bX' (pv 0) ac') ab' rfl)))
  (ag' (al' (i:=3) nk (ak' (bX' (pv 0) ac') (en 2)))) (ag' (aM' (cT' hr (bX' (pv 0) ac') (am' (aC' ab')))
  (ag' (al' (i:=3) nk (cv' (ak' (bX' (pv 0) ac') (cv' (aA' (cb' (en 2) ac') ac') (be' rfl ak (aa' (bX' (pv 0) ac') ab' rfl)))) (aA' (jm' ac' ac') (cb' ac' (en 2)))))) aD')))
  (ad' (ah' (i3' (pv 0) ac' (aA' (en 2) ac')))
  (ag' (ah' (i3' (pv 0) ac' (cqE mh hr (aa' (en 3) (aa' (en 2) ab' rfl) rfl))))))))) aD')
  (ad' (al' (i:=4) nk (cv' (bX' (pv 0) ac') (en 1)))
  (ad' (ah' (i3' (pv 0) ac' (qX' (bX' (pv 0) ac') (en 1))))
  (ag' (ah' (ao' (en 4))))))))
theorem kK':FnScope ["pot", "fields", "low", "top", "pairs", "k", "one", "other"] ["pot", "fields", "low", "top"] (defScope cp'):=⟨rfl,rfl,rfl,by decide +kernel,rfl,by decide +kernel,by decide +kernel⟩
theorem kL' {f:Addr}{fd:FuncData} (F:Fun K "_law_wish" "_law_wish" cp' f fd) {bU' bF'} (bC:Cd P w K mg base 3 bU' bF' ["pot", "upto"] az' "_law_pick") (aC:mg "range"=none) (aE:mg "min"=none) (aX:mg "max"=none) (aA:mg "tuple"=none):FnOk P w K mg base CX0 4 f fd ["pot", "fields", "low", "top"] (spD K bR') :=
 aV' (k:=3) (N:=["pot", "fields", "low", "top", "pairs", "k", "one", "other"]) F kK' eX' (λao A outer s H E B hr=>aH'
  (ad' (ah' (cj' (i:=4) nk (aC' ab')))
  (ad' (bn' never rfl (gg' rfl aC (aa' (en 1) ab' rfl)) (gd_n (i:=5) (m:=100) nk)
  (ad' (al' (i:=6) nk (aA' (en 2) (cqEB bC hr (pv 0) (aa' (en 3) ab' rfl))))
  (ad' (al' (i:=7) nk (aA' (en 2) (cqEB bC hr (pv 0) (aa' (en 3) ab' rfl))))
  (ag' (ah' (dS' (pv 4) (aJ' (aa' (fm' rfl rfl aE (aa' (en 6) (aa' (en 7) ab' rfl) rfl)) (aa' (gQ' rfl rfl aX (aa' (en 6) (aa' (en 7) ab' rfl) rfl)) ab' rfl) rfl))))))))
  (ag' (ah' (ao' (eQ' rfl aA (aa' (en 4) ab' rfl))))))))
theorem iR':FnScope ["pot", "fields", "most", "top", "low", "found", "k", "way", "wish"] ["pot", "fields", "most"] (defScope bL'):=⟨rfl,rfl,rfl,by decide +kernel,rfl,by decide +kernel,by decide +kernel⟩
theorem iS' {f:Addr}{fd:FuncData} (F:Fun K "_law_wishes" "_law_wishes" bL' f fd) {bU' bF'} (bC:Cd P w K mg base 3 bU' bF' ["pot", "upto"] az' "_law_pick") {e6' ez'} (fj:Cd P w K mg base 4 e6' ez' ["pot", "fields", "low", "top"] bR' "_law_wish") {kl' i0'} (ml:Cd P w K mg base 4 kl' i0' ["pot", "wish"] cW' "_law_nudged") (aE:mg "min"=none) (aC:mg "range"=none) (ak:mg "len"=none):FnOk P w K mg base CX0 5 f fd ["pot", "fields", "most"] (spD K cX') :=
 aV' (k:=4) (N:=["pot", "fields", "most", "top", "low", "found", "k", "way", "wish"]) F iR' dZ' (λao A outer s H E B hr=>aH'
  (ad' (al' (i:=3) nk (fm' rfl rfl aE (aa' (ak' (by with_reducible exact (am' (aC' (KX.ad (.int (.int (.int (.int .nil)))))))) (cqEB bC hr (pv 0) (aa' ac' ab' rfl))) (aa' (by with_reducible exact (ak' (am' (aC' (KX.ad (.int (.int (.int (.int .nil))))))) (by with_unfolding_all exact (en 1)) (by with_unfolding_all exact λ_ _=>rfl))) ab' rfl) rfl)))
  (ad' (al' (i:=4) nk (cqEB bC hr (pv 0) (aa' (dp' ac' (en 3)) ab' rfl)))
  (ad' (ah' (cj' (i:=5) nk (aC' ab')))
  (ad' (bn' never rfl (gg' rfl aC (aa' (cqEB bC hr (pv 0) (aa' (aA' (en 2) ac') ab' rfl)) ab' rfl)) (gd_n (i:=6) (m:=100) nk)
  (ad' (al' (i:=7) nk (cqEB bC hr (pv 0) (aa' ac' ab' rfl)))
  (ad' (al' (i:=8) nk (cqEB fj hr (pv 0) (aa' (en 1) (aa' (en 4) (aa' (en 3) ab' rfl) rfl) rfl)))
  (ad' (aM' (TW.td (gL' (bH' hr (en 7) ac') (hD' (mO' hr (pv 5) (am' (aC' ab'))))))
  (ag' (al' (i:=8) nk (bX' (pv 5) (cqEB bC hr (pv 0) (aa' (le' rfl ak (pv 5)) ab' rfl))))) aD')
  (ad' (aM' (TW.td (gL' (bH' hr (en 7) ac') (hD' (mO' hr (pv 5) (am' (aC' ab'))))))
  (ag' (al' (i:=8) nk (cqEB ml hr (pv 0) (aa' (bX' (pv 5) (cqEB bC hr (pv 0) (aa' (le' rfl ak (pv 5)) ab' rfl))) ab' rfl)))) aD')
  (ag' (ah' (dS' (pv 5) (en 8)))))))))
  (ag' (ah' (ao' (en 5)))))))))
theorem iT':FnScope ["pot", "wish", "at", "low", "high", "pair"] ["pot", "wish"] (defScope bM'):=⟨rfl,rfl,rfl,by decide +kernel,rfl,by decide +kernel,by decide +kernel⟩
theorem iU' {f:Addr}{fd:FuncData} (F:Fun K "_law_nudged" "_law_nudged" bM' f fd) {bU' bF'} (bC:Cd P w K mg base 3 bU' bF' ["pot", "upto"] az' "_law_pick") (ak:mg "len"=none) (aX:mg "max"=none) (aE:mg "min"=none):FnOk P w K mg base CX0 4 f fd ["pot", "wish"] (spD K cW') :=
 aV' (k:=3) (N:=["pot", "wish", "at", "low", "high", "pair"]) F iT' dY' (λao A outer s H E B hr=>aH'
  (ad' (al' (i:=2) nk (cqEB bC hr (pv 0) (aa' (be' rfl ak (aa' (en 1) ab' rfl)) ab' rfl)))
  (ad' (ah' (mJ' (ak' (en 1) (en 2)) (dn' (m:=100) rfl (aP' (gd_n (i:=3) (m:=100) nk) (aP' (gd_n (i:=4) (m:=100) nk) cG')))))
  (ad' (al' (i:=5) nk (am' (aC' (g1' (aJ' (aa' (gQ' rfl rfl aX (aa' ac' (aa' (dp' (en 3) ac') ab' rfl) rfl)) (aa' (en 4) ab' rfl) rfl)) (aJ' (aa' (en 3) (aa' (fm' rfl rfl aE (aa' ac' (aa' (aA' (en 4) ac') ab' rfl) rfl)) ab' rfl) rfl)) (aJ' (aa' (fm' rfl rfl aE (aa' (aA' (en 3) ac') (aa' (en 4) ab' rfl) rfl)) (aa' (en 4) ab' rfl) rfl)) (aJ' (aa' (en 3) (aa' (gQ' rfl rfl aX (aa' (en 3) (aa' (dp' (en 4) ac') ab' rfl) rfl)) ab' rfl) rfl)) ab' rfl rfl rfl rfl))))
  (ag' (ah' (ao' (aA' (aA' (fT' (en 1) eK' (dc' (en 2))) (aJ' (aa' (ak' (en 5) (cqEB bC hr (pv 0) (aa' ac' ab' rfl))) ab' rfl))) (fT' (en 1) (dc' (aA' (en 2) ac')) eK')))))))))
theorem iV':FnScope ["wishes", "order", "by", "found", "wish"] ["wishes", "order", "by"] (defScope bN'):=⟨rfl,rfl,rfl,by decide +kernel,rfl,by decide +kernel,by decide +kernel⟩
theorem iW' {f:Addr}{fd:FuncData} (F:Fun K "_law_turned" "_law_turned" bN' f fd) (aA:mg "tuple"=none):FnOk P w K mg base CX0 2 f fd ["wishes", "order", "by"] (spD K ce') :=
 aV' (k:=1) (N:=["wishes", "order", "by", "found", "wish"]) F iV' d0' (λao A outer s H E B hr=>aH'
  (ad' (ah' (cj' (i:=3) nk (aC' ab')))
  (ad' (bn' never rfl (aB' (en 0)) (gd_n (i:=4) (m:=100) nk)
  (ag' (ah' (dS' (pv 3) (eQ' rfl aA (aa' (am' (bl' (N':=["k", "-wishes", "-order", "by", "-found", "wish"]) (m:=1) (CompScope.of (by kernel_rfl)) rfl (aB' (en 1)) (λ_ _ _ _=>(gd_n (i:=0) (m:=1) nk)) (λ_ _ _ _=>bZ') (λ_ _ _ _=>(aJ' (aa' (aA' (ak' (ak' (en 5) (en 0)) ac') (en 3)) (aa' (aA' (ak' (ak' (en 5) (en 0)) ac') (en 3)) ab' rfl) rfl))))) ab' rfl))))))
  (ag' (ah' (ao' (en 3)))))))
theorem kM':FnScope ["wishes"] ["wishes"] (defScope cq'):=⟨rfl,rfl,rfl,by decide +kernel,rfl,by decide +kernel,by decide +kernel⟩
theorem kN' {f:Addr}{fd:FuncData} (F:Fun K "_law_room" "_law_room" cq' f fd) (aX:mg "max"=none):FnOk P w K mg base CX0 2 f fd ["wishes"] (spD K cY') :=
 aV' (k:=1) (N:=["wishes"]) F kM' eY' (λao A outer s H E B hr=>aH'
  (ag' (ah' (ao' (dp' ac' (lv' rfl rfl aX (aa' (am' (bl' (N':=["wish", "-wishes"]) (m:=1) (CompScope.of (by kernel_rfl)) rfl (aB' (en 0)) (λ_ _ _ _=>(gd_n (i:=0) (m:=1) nk)) (λ_ _ _ _=>bZ') (λ_ _ _ _=>(lv' rfl rfl aX (aa' (am' (bl' (N':=["pair", "-wish", "-wishes"]) (m:=1) (CompScope.of (by kernel_rfl)) rfl (aB' (en 0)) (λ_ _ _ _=>(gd_n (i:=0) (m:=1) nk)) (λ_ _ _ _=>bZ') (λ_ _ _ _=>(ak' (en 0) ac')))) ab' rfl))))) ab' rfl)))))))
theorem ri':FnScope ["script", "pot", "turn", "fields", "some", "number", "kept", "tree", "wish", "others", "more", "order", "other"] ["script"] (defScope dH'):=⟨rfl,rfl,rfl,by decide +kernel,rfl,by decide +kernel,by decide +kernel⟩
theorem rj' {f:Addr}{fd:FuncData} (F:Fun K "law" "law" dH' f fd) {nX' mq'} (mn:Cd P w K mg base 2 nX' mq' ["script"] dv' "_law_pot") {bU' bF'} (bC:Cd P w K mg base 3 bU' bF' ["pot", "upto"] az' "_law_pick") {km' i1'} (mq:Cd P w K mg base 5 km' i1' ["pot", "fields", "most"] cX' "_law_wishes") {e6' ez'} (fj:Cd P w K mg base 4 e6' ez' ["pot", "fields", "low", "top"] bR' "_law_wish") {kT' kn'} (ii:Cd P w K mg base 64 kT' kn' ["wishes"] aX' "fewest_of") {kU' ko'} (mr:Cd P w K mg base 52 kU' ko' ["wishes", "thing"] cy' "is_fewest") {mr' kV'} (i4:Cd P w K mg base 47 mr' kV' ["wishes"] cl' "spare_of") {ch' bS'} (cz:Cd P w K mg base 5 ch' bS' ["wishes"] bj' "roof_of") {dy' c1'} (cW:Cd P w K mg base 46 dy' c1' ["wishes", "wish"] a5' "covered") {kp' i2'} (i5:Cd P w K mg base 2 kp' i2' ["wishes", "order", "by"] ce' "_law_turned") {ms' kW'} (mw:Cd P w K mg base 2 ms' kW' ["wishes"] cY' "_law_room") (aC:mg "range"=none) (ak:mg "len"=none) (aZ:mg "list"=none):FnOk P w K mg base CX0 65 f fd ["script"] (spD K eZ') :=
 aV' (k:=64) (N:=["script", "pot", "turn", "fields", "some", "number", "kept", "tree", "wish", "others", "more", "order", "other"]) F ri' mf' (λao A outer s H E B hr=>aH'
  (ad' (ah' (cj' (i:=1) nk (cqO mn hr (aa' (en 0) ab' rfl))))
  (ad' (bn' never rfl (gg' rfl aC (aa' ac' ab' rfl)) (gd_n (i:=2) (m:=100) nk)
  (ad' (al' (i:=3) nk (aA' ac' (cqEB bC hr (pv 1) (aa' ac' ab' rfl))))
  (ad' (al' (i:=4) nk (am' (dU' (cqEB mq hr (pv 1) (aa' (en 3) (aa' ac' ab' rfl) rfl)) (am' (aC' (aa' (cqEB fj hr (pv 1) (aa' (en 3) (aa' (cqEB bC hr (pv 1) (aa' ac' ab' rfl)) (aa' (by with_reducible exact (ak' (am' (aC' (KX.ad (.int (.int (.int (.int .nil))))))) (by with_unfolding_all exact (en 3)) (by with_unfolding_all exact λ_ _=>rfl))) ab' rfl) rfl) rfl)) ab' rfl))))))
  (ad' (ah' (mJ' (cqE ii hr (aa' (en 4) ab' rfl)) (dn' (m:=100) rfl (aP' (gd_n (i:=5) (m:=100) nk) (aP' (gd_n (i:=6) (m:=100) nk) (aP' (gd_n (i:=7) (m:=100) nk) cG'))))))
  (ad' (aM' (TW.td (gM' (on' (cqE mr hr (aa' (en 4) (aa' (aJ' (aa' (en 5) (aa' (am' (lf' rfl aZ (aa' (en 6) ab' rfl))) (aa' (en 7) ab' rfl) rfl) rfl)) ab' rfl) rfl)) cC') (fj' (cT' hr (en 5) (be' rfl ak (aa' (en 6) ab' rfl))))))
  (ag' (ah' (ao' cC'))) aD')
  (ad' (aM' (TW.td (gM' (gP' (en 5) (be' rfl ak (aa' (cqE i4 hr (aa' (en 4) ab' rfl)) ab' rfl))) (fj' (gP' (be' rfl ak (aa' (cqE i4 hr (aa' (en 4) ab' rfl)) ab' rfl)) (be' rfl ak (aa' (am' (cqO cz hr (aa' (en 4) ab' rfl))) ab' rfl))))))
  (ag' (ah' (ao' cC'))) aD')
  (ad' (bn' never rfl (aB' (en 4)) (gd_n (i:=8) (m:=100) nk)
  (ag' (aM' (cT' hr (ak' (cqE cW hr (aa' (en 6) (aa' (en 8) ab' rfl) rfl)) ac') a3')
  (ag' (ah' (ao' cC'))) aD')))
  (ad' (bn' never rfl (aB' (en 6)) (gd_n (i:=8) (m:=100) nk)
  (ad' (al' (i:=9) nk (am' (bl' (N':=["one", "-script", "-pot", "-turn", "-fields", "-some", "-number", "-kept", "-tree", "wish", "-others", "-more", "-order", "-other"]) (m:=1) (CompScope.of (by kernel_rfl)) rfl (aB' (en 6)) (λ_ _ _ _=>(gd_n (i:=0) (m:=1) nk)) (λ_ _ _ _=>(cJ' (cT' hr (en 0) (en 9)))) (λ_ _ _ _=>(en 0)))))
  (ag' (aM' (bH' hr (am' (bl' (N':=["one", "-script", "-pot", "-turn", "-fields", "-some", "-number", "-kept", "-tree", "-wish", "others", "-more", "-order", "-other"]) (m:=1) (CompScope.of (by kernel_rfl)) rfl (aB' (en 4)) (λ_ _ _ _=>(gd_n (i:=0) (m:=1) nk)) (λ_ _ _ _=>(cJ' (bH' hr (ak' (cqE cW hr (aa' (en 10) (aa' (en 0) ab' rfl) rfl)) ac') a3'))) (λ_ _ _ _=>ac'))) (am' (aC' ab')))
  (ag' (ah' (ao' cC'))) aD'))))
  (ad' (al' (i:=10) nk (cqEB fj hr (pv 1) (aa' (en 3) (aa' ac' (aa' ac' ab' rfl) rfl) rfl)))
  (ad' (aM' (TW.td (gL' (gO' (be' rfl ak (aa' (en 4) ab' rfl)) ac') (gL' (bH' hr (ak' (cqE cW hr (aa' (en 4) (aa' (en 10) ab' rfl) rfl)) ac') a3') (hD' (gP' (ak' (cqE ii hr (aa' (am' (dU' (en 4) (am' (aC' (aa' (en 10) ab' rfl))))) ab' rfl)) ac') (en 5))))))
  (ag' (ah' (ao' cC'))) aD')
  (ad' (al' (i:=11) nk (am' (nm' (am' (fn' rfl rfl aZ rfl aC (aa' (en 3) ab' rfl))) (ju' ac'))))
  (ag' (bn' never rfl (aB' (am' (aC' (aa' (am' (nm' (en 4) (ju' ac'))) (aa' (cqE i5 hr (aa' (en 4) (aa' (en 11) (aa' (cqE mw hr (aa' (en 4) ab' rfl)) ab' rfl) rfl) rfl)) (aa' (cqE i5 hr (aa' (en 4) (aa' (en 11) (aa' ac' ab' rfl) rfl) rfl)) ab' rfl) rfl) rfl)))) (gd_n (i:=12) (m:=100) nk)
  (ag' (aM' (cT' hr (ak' (cqE ii hr (aa' (en 12) ab' rfl)) ac') (en 5))
  (ag' (ah' (ao' cC'))) aD')))))))))))))))
  (ag' (ah' (ao' cC'))))))
end
theorem all_mk {l:PySem.W.OpenLaw}{w:World}{K:PySem.W.Frag}{h:Heap}{mg:Str->Option Value}{fa:Addr} (X:K.In h) (G:h.Ns mainGlobals mg) (wo:mg "law"=some (.ref fa))
  {f0:Addr}{wq wt:Option Addr}{wu:Array (Option Value)}{wv ww wx wy qG wz:Value} (a0:nsIn K mainGlobals "must_be_kin"=some (some (.ref f0))) (l0:K.lookup f0=some ⟨wv,wq,.func (fnOf "must_be_kin" "must_be_kin" (defArgs bw') (defBody bw') (defScope bw') .none ww wx wy wt qG wz),wu⟩) (c0:codeIn K qG "must_be_kin"=true) (k0:keepIn K (.ref f0)=true)
  {f1:Addr}{wA wD:Option Addr}{wE:Array (Option Value)}{wF wG wH wI qH wJ:Value} (a1:nsIn K mainGlobals "has_letter"=some (some (.ref f1))) (l1:K.lookup f1=some ⟨wF,wA,.func (fnOf "has_letter" "has_letter" (defArgs bK') (defBody bK') (defScope bK') .none wG wH wI wD qH wJ),wE⟩) (c1:codeIn K qH "has_letter"=true) (k1:keepIn K (.ref f1)=true)
  {f2:Addr}{wL wM:Option Addr}{fP:Array (Option Value)}{wN wO wP wQ qI wR:Value} (a2:nsIn K mainGlobals "covers"=some (some (.ref f2))) (l2:K.lookup f2=some ⟨wN,wL,.func (fnOf "covers" "covers" (defArgs dg') (defBody dg') (defScope dg') .none wO wP wQ wM qI wR),fP⟩) (c2:codeIn K qI "covers"=true) (k2:keepIn K (.ref f2)=true)
  {f3:Addr}{wS wT:Option Addr}{sl3:Array (Option Value)}{wU wV wW wX qJ wY:Value} (a3:nsIn K mainGlobals "in_common"=some (some (.ref f3))) (l3:K.lookup f3=some ⟨wU,wS,.func (fnOf "in_common" "in_common" (defArgs b2') (defBody b2') (defScope b2') .none wV wW wX wT qJ wY),sl3⟩) (c3:codeIn K qJ "in_common"=true) (k3:keepIn K (.ref f3)=true)
  {f4:Addr}{wZ w4:Option Addr}{w6:Array (Option Value)}{w8 xa xb xc qK xf:Value} (a4:nsIn K mainGlobals "roof_of"=some (some (.ref f4))) (l4:K.lookup f4=some ⟨w8,wZ,.func (fnOf "roof_of" "roof_of" (defArgs cM') (defBody cM') (defScope cM') .none xa xb xc w4 qK xf),w6⟩) (c4:codeIn K qK "roof_of"=true) (k4:keepIn K (.ref f4)=true)
  {f5:Addr}{xg xh:Option Addr}{xi:Array (Option Value)}{xj xk xl xm qL xn:Value} (a5:nsIn K mainGlobals "is_under_another"=some (some (.ref f5))) (l5:K.lookup f5=some ⟨xj,xg,.func (fnOf "is_under_another" "is_under_another" (defArgs a6') (defBody a6') (defScope a6') .none xk xl xm xh qL xn),xi⟩) (c5:codeIn K qL "is_under_another"=true) (k5:keepIn K (.ref f5)=true)
  {f6:Addr}{xo xp:Option Addr}{xq:Array (Option Value)}{xt xu xw xx qM xy:Value} (a6:nsIn K mainGlobals "covered"=some (some (.ref f6))) (l6:K.lookup f6=some ⟨xt,xo,.func (fnOf "covered" "covered" (defArgs cN') (defBody cN') (defScope cN') .none xu xw xx xp qM xy),xq⟩) (c6:codeIn K qM "covered"=true) (k6:keepIn K (.ref f6)=true)
  {f7:Addr}{xz xA:Option Addr}{xB:Array (Option Value)}{xC xD xE xF qN xG:Value} (a7:nsIn K mainGlobals "looked_through"=some (some (.ref f7))) (l7:K.lookup f7=some ⟨xC,xz,.func (fnOf "looked_through" "looked_through" (defArgs a2') (defBody a2') (defScope a2') .none xD xE xF xA qN xG),xB⟩) (c7:codeIn K qN "looked_through"=true) (k7:keepIn K (.ref f7)=true)
  {f8:Addr}{xH xI:Option Addr}{xJ:Array (Option Value)}{xK xL xM xN qO xO:Value} (a8:nsIn K mainGlobals "first_border"=some (some (.ref f8))) (l8:K.lookup f8=some ⟨xK,xH,.func (fnOf "first_border" "first_border" (defArgs bo') (defBody bo') (defScope bo') .none xL xM xN xI qO xO),xJ⟩) (c8:codeIn K qO "first_border"=true) (k8:keepIn K (.ref f8)=true)
  {f9:Addr}{xP xQ:Option Addr}{xR:Array (Option Value)}{xS xT xU xV qP xW:Value} (a9:nsIn K mainGlobals "halves_of"=some (some (.ref f9))) (l9:K.lookup f9=some ⟨xS,xP,.func (fnOf "halves_of" "halves_of" (defArgs b3') (defBody b3') (defScope b3') .none xT xU xV xQ qP xW),xR⟩) (c9:codeIn K qP "halves_of"=true) (k9:keepIn K (.ref f9)=true)
  {my:Addr}{qQ qR:Option Addr}{qS:Array (Option Value)}{qT qU qV qW jQ qX:Value} (mz:nsIn K mainGlobals "spare_of"=some (some (.ref my))) (mB:K.lookup my=some ⟨qT,qQ,.func (fnOf "spare_of" "spare_of" (defArgs cn') (defBody cn') (defScope cn') .none qU qV qW qR jQ qX),qS⟩) (mC:codeIn K jQ "spare_of"=true) (mD:keepIn K (.ref my)=true)
  {mE:Addr}{qY qZ:Option Addr}{ra:Array (Option Value)}{rf rg rh rj jR rl:Value} (mF:nsIn K mainGlobals "fewest_of"=some (some (.ref mE))) (mG:K.lookup mE=some ⟨rf,qY,.func (fnOf "fewest_of" "fewest_of" (defArgs b4') (defBody b4') (defScope b4') .none rg rh rj qZ jR rl),ra⟩) (mH:codeIn K jR "fewest_of"=true) (mI:keepIn K (.ref mE)=true)
  {mJ:Addr}{rn rp:Option Addr}{rq:Array (Option Value)}{rz rA rB rC jS rD:Value} (mK:nsIn K mainGlobals "looked_for"=some (some (.ref mJ))) (mL:K.lookup mJ=some ⟨rz,rn,.func (fnOf "looked_for" "looked_for" (defArgs bp') (defBody bp') (defScope bp') .none rA rB rC rp jS rD),rq⟩) (mM:codeIn K jS "looked_for"=true) (mN:keepIn K (.ref mJ)=true)
  {mO:Addr}{rE rF:Option Addr}{rG:Array (Option Value)}{rH rJ rK rL jT rM:Value} (i6:nsIn K mainGlobals "letter_left"=some (some (.ref mO))) (mP:K.lookup mO=some ⟨rH,rE,.func (fnOf "letter_left" "letter_left" (defArgs bx') (defBody bx') (defScope bx') .none rJ rK rL rF jT rM),rG⟩) (mQ:codeIn K jT "letter_left"=true) (mR:keepIn K (.ref mO)=true)
  {mS:Addr}{rN rO:Option Addr}{rP:Array (Option Value)}{rQ rR rS rT jU rV:Value} (mT:nsIn K mainGlobals "having"=some (some (.ref mS))) (mU:K.lookup mS=some ⟨rQ,rN,.func (fnOf "having" "having" (defArgs dh') (defBody dh') (defScope dh') .none rR rS rT rO jU rV),rP⟩) (mV:codeIn K jU "having"=true) (mW:keepIn K (.ref mS)=true)
  {mX:Addr}{rW rX:Option Addr}{rY:Array (Option Value)}{rZ r8 r9 sd jV se:Value} (mY:nsIn K mainGlobals "is_fewest"=some (some (.ref mX))) (mZ:K.lookup mX=some ⟨rZ,rW,.func (fnOf "is_fewest" "is_fewest" (defArgs b5') (defBody b5') (defScope b5') .none r8 r9 sd rX jV se),rY⟩) (m8:codeIn K jV "is_fewest"=true) (m9:keepIn K (.ref mX)=true)
  {nc:Addr}{sf sh:Option Addr}{sj:Array (Option Value)}{sk sn so sr jW su:Value} (ng:nsIn K mainGlobals "letters_in"=some (some (.ref nc))) (ni:K.lookup nc=some ⟨sk,sf,.func (fnOf "letters_in" "letters_in" (defArgs bq') (defBody bq') (defScope bq') .none sn so sr sh jW su),sj⟩) (nn:codeIn K jW "letters_in"=true) (np:keepIn K (.ref nc)=true)
  {nq:Addr}{sv sw:Option Addr}{sy:Array (Option Value)}{sA sB sC sD jX sE:Value} (nr:nsIn K mainGlobals "is_right_tree"=some (some (.ref nq))) (nw:K.lookup nq=some ⟨sA,sv,.func (fnOf "is_right_tree" "is_right_tree" (defArgs a8') (defBody a8') (defScope a8') .none sB sC sD sw jX sE),sy⟩) (ny:codeIn K jX "is_right_tree"=true) (nA:keepIn K (.ref nq)=true)
  {nB:Addr}{sF sH:Option Addr}{sJ:Array (Option Value)}{sK sL sM sN jY sO:Value} (nD:nsIn K mainGlobals "_law_blend"=some (some (.ref nB))) (h9:K.lookup nB=some ⟨sK,sF,.func (fnOf "_law_blend" "_law_blend" (defArgs b6') (defBody b6') (defScope b6') .none sL sM sN sH jY sO),sJ⟩) (nE:codeIn K jY "_law_blend"=true) (nG:keepIn K (.ref nB)=true)
  {nH:Addr}{sP sQ:Option Addr}{sR:Array (Option Value)}{sS sU sV sW jZ sX:Value} (nJ:nsIn K mainGlobals "_law_pot"=some (some (.ref nH))) (nL:K.lookup nH=some ⟨sS,sP,.func (fnOf "_law_pot" "_law_pot" (defArgs cO') (defBody cO') (defScope cO') .none sU sV sW sQ jZ sX),sR⟩) (nM:codeIn K jZ "_law_pot"=true) (nN:keepIn K (.ref nH)=true)
  {nO:Addr}{sY sZ:Option Addr}{tm:Array (Option Value)}{tq tw tz tE j3 tF:Value} (nQ:nsIn K mainGlobals "_law_pick"=some (some (.ref nO))) (nU:K.lookup nO=some ⟨tq,sY,.func (fnOf "_law_pick" "_law_pick" (defArgs co') (defBody co') (defScope co') .none tw tz tE sZ j3 tF),tm⟩) (nV:codeIn K j3 "_law_pick"=true) (nW:keepIn K (.ref nO)=true)
  {nX:Addr}{tG tH:Option Addr}{tJ:Array (Option Value)}{tK tL tM tN j4 tP:Value} (nY:nsIn K mainGlobals "_law_wish"=some (some (.ref nX))) (nZ:K.lookup nX=some ⟨tK,tG,.func (fnOf "_law_wish" "_law_wish" (defArgs cp') (defBody cp') (defScope cp') .none tL tM tN tH j4 tP),tJ⟩) (n4:codeIn K j4 "_law_wish"=true) (n5:keepIn K (.ref nX)=true)
  {n6:Addr}{tQ tR:Option Addr}{tU:Array (Option Value)}{tV tW tX tY j5 tZ:Value} (n8:nsIn K mainGlobals "_law_wishes"=some (some (.ref n6))) (n9:K.lookup n6=some ⟨tV,tQ,.func (fnOf "_law_wishes" "_law_wishes" (defArgs bL') (defBody bL') (defScope bL') .none tW tX tY tR j5 tZ),tU⟩) (oe:codeIn K j5 "_law_wishes"=true) (og:keepIn K (.ref n6)=true)
  {oh:Addr}{t5 t6:Option Addr}{t7:Array (Option Value)}{t8 t9 ua ub j6 ud:Value} (oj:nsIn K mainGlobals "_law_nudged"=some (some (.ref oh))) (om:K.lookup oh=some ⟨t8,t5,.func (fnOf "_law_nudged" "_law_nudged" (defArgs bM') (defBody bM') (defScope bM') .none t9 ua ub t6 j6 ud),t7⟩) (oo:codeIn K j6 "_law_nudged"=true) (oq:keepIn K (.ref oh)=true)
  {ou:Addr}{ue uf:Option Addr}{ug:Array (Option Value)}{uh uk um uo j7 uq:Value} (ow:nsIn K mainGlobals "_law_turned"=some (some (.ref ou))) (ox:K.lookup ou=some ⟨uh,ue,.func (fnOf "_law_turned" "_law_turned" (defArgs bN') (defBody bN') (defScope bN') .none uk um uo uf j7 uq),ug⟩) (oy:codeIn K j7 "_law_turned"=true) (oz:keepIn K (.ref ou)=true)
  {oA:Addr}{ur ut:Option Addr}{uu:Array (Option Value)}{uv uw ux uy j8 uz:Value} (oB:nsIn K mainGlobals "_law_room"=some (some (.ref oA))) (oC:K.lookup oA=some ⟨uv,ur,.func (fnOf "_law_room" "_law_room" (defArgs cq') (defBody cq') (defScope cq') .none uw ux uy ut j8 uz),uu⟩) (oD:codeIn K j8 "_law_room"=true) (oE:keepIn K (.ref oA)=true)
  {oF:Addr}{uA j9:Option Addr}{uB:Array (Option Value)}{uC ka kc kf ij kh:Value} (i7:nsIn K mainGlobals "law"=some (some (.ref oF))) (oG:K.lookup oF=some ⟨uC,uA,.func (fnOf "law" "law" (defArgs dH') (defBody dH') (defScope dH') .none ka kc kf j9 ij kh),uB⟩) (oH:codeIn K ij "law"=true) (oJ:keepIn K (.ref oF)=true)
  (fk:nsIn K mainGlobals "all"=some none)
  (fm:nsIn K mainGlobals "any"=some none)
  (bJ:nsIn K mainGlobals "enumerate"=some none)
  (fo:nsIn K mainGlobals "len"=some none)
  (dL:nsIn K mainGlobals "list"=some none)
  (fq:nsIn K mainGlobals "max"=some none)
  (ft:nsIn K mainGlobals "min"=some none)
  (cX:nsIn K mainGlobals "range"=some none)
  (fu:nsIn K mainGlobals "set"=some none)
  (cn:nsIn K mainGlobals "sorted"=some none)
  (cY:nsIn K mainGlobals "tuple"=some none)
  (fv:nsIn K mainGlobals "zip"=some none)
  (T0:(tabIn K "letter_left").isSome=true) :
  ∃ fd:FuncData,(∀ (s:Shared) (v:Value),BindsTo s fd ⟨[v],[]⟩ [("script", v)])/\∀ base:Heap,K.In base->base.Ns mainGlobals mg->FnOk l.prog w K mg base CX0 65 fa fd ["script"] (spD K eZ'):=by
 have e:=wo.symm.trans (mg_of X G i7)
 cases e
 obtain ⟨⟨cT,PT⟩,T0⟩:=Option.isSome_iff_exists.mp T0
 have bg:=mg_none_of X G fk
 have eY:=mg_none_of X G fm
 have aK:=mg_none_of X G bJ
 have ak:=mg_none_of X G fo
 have aZ:=mg_none_of X G dL
 have aX:=mg_none_of X G fq
 have aE:=mg_none_of X G ft
 have aC:=mg_none_of X G cX
 have eX:=mg_none_of X G fu
 have aJ:=mg_none_of X G cn
 have aA:=mg_none_of X G cY
 have aT:=mg_none_of X G fv
 have ey:=aF' (st:=bw') l0 c0 k0
 have fV:=mg_of X G a0
 have fW:=ey.binds (ps:=["things"]) λ_ _ _ _ _ _ us hl=>by obtain ⟨_,rfl⟩:=lenOf1 hl;rfl
 have oK:=aF' (st:=bK') l1 c1 k1
 have xX:=mg_of X G a1
 have xY:=oK.binds (ps:=["wish", "letter"]) λ_ _ _ _ _ _ us hl=>by obtain ⟨_,_,rfl⟩:=lenOf2 hl;rfl
 have i8:=aF' (st:=dg') l2 c2 k2
 have uD:=mg_of X G a2
 have uE:=i8.binds (ps:=["one", "other"]) λ_ _ _ _ _ _ us hl=>by obtain ⟨_,_,rfl⟩:=lenOf2 hl;rfl
 have oM:=aF' (st:=b2') l3 c3 k3
 have xZ:=mg_of X G a3
 have x0:=oM.binds (ps:=["one", "other"]) λ_ _ _ _ _ _ us hl=>by obtain ⟨_,_,rfl⟩:=lenOf2 hl;rfl
 have fX:=aF' (st:=cM') l4 c4 k4
 have i9:=mg_of X G a4
 have ja:=fX.binds (ps:=["wishes"]) λ_ _ _ _ _ _ us hl=>by obtain ⟨_,rfl⟩:=lenOf1 hl;rfl
 have oN:=aF' (st:=a6') l5 c5 k5
 have ya:=mg_of X G a5
 have yb:=oN.binds (ps:=["wishes", "wish"]) λ_ _ _ _ _ _ us hl=>by obtain ⟨_,_,rfl⟩:=lenOf2 hl;rfl
 have ik:=aF' (st:=cN') l6 c6 k6
 have oO:=mg_of X G a6
 have oP:=ik.binds (ps:=["wishes", "wish"]) λ_ _ _ _ _ _ us hl=>by obtain ⟨_,_,rfl⟩:=lenOf2 hl;rfl
 have jb:=aF' (st:=a2') l7 c7 k7
 have eh:=mg_of X G a7
 have d9:=jb.binds (ps:=["wishes", "numbers", "part"]) λ_ _ _ _ _ _ us hl=>by obtain ⟨_,_,_,rfl⟩:=lenOf3 hl;rfl
 have oQ:=aF' (st:=bo') l8 c8 k8
 have yc:=mg_of X G a8
 have yd:=oQ.binds (ps:=["wishes", "part"]) λ_ _ _ _ _ _ us hl=>by obtain ⟨_,_,rfl⟩:=lenOf2 hl;rfl
 have oR:=aF' (st:=b3') l9 c9 k9
 have ye:=mg_of X G a9
 have yf:=oR.binds (ps:=["part", "field", "at"]) λ_ _ _ _ _ _ us hl=>by obtain ⟨_,_,_,rfl⟩:=lenOf3 hl;rfl
 have oT:=aF' (st:=cn') mB mC mD
 have yh:=mg_of X G mz
 have yi:=oT.binds (ps:=["wishes"]) λ_ _ _ _ _ _ us hl=>by obtain ⟨_,rfl⟩:=lenOf1 hl;rfl
 have oU:=aF' (st:=b4') mG mH mI
 have yj:=mg_of X G mF
 have yk:=oU.binds (ps:=["wishes"]) λ_ _ _ _ _ _ us hl=>by obtain ⟨_,rfl⟩:=lenOf1 hl;rfl
 have jd:=aF' (st:=bp') mL mM mN
 have fb:=mg_of X G mK
 have eZ:=jd.binds (ps:=["roof", "chosen", "more"]) λ_ _ _ _ _ _ us hl=>by obtain ⟨_,_,_,rfl⟩:=lenOf3 hl;rfl
 have je:=aF' (st:=bx') mP mQ mR
 have uF:=mg_of X G i6
 have uG:=je.binds (ps:=["roof", "chosen"]) λ_ _ _ _ _ _ us hl=>by obtain ⟨_,_,rfl⟩:=lenOf2 hl;rfl
 have il:=aF' (st:=dh') mU mV mW
 have oV:=mg_of X G mT
 have oW:=il.binds (ps:=["wishes", "letter"]) λ_ _ _ _ _ _ us hl=>by obtain ⟨_,_,rfl⟩:=lenOf2 hl;rfl
 have oX:=aF' (st:=b5') mZ m8 m9
 have yl:=mg_of X G mY
 have ym:=oX.binds (ps:=["wishes", "thing"]) λ_ _ _ _ _ _ us hl=>by obtain ⟨_,_,rfl⟩:=lenOf2 hl;rfl
 have jf:=aF' (st:=bq') ni nn np
 have fe:=mg_of X G ng
 have fc:=jf.binds (ps:=["tree"]) λ_ _ _ _ _ _ us hl=>by obtain ⟨_,rfl⟩:=lenOf1 hl;rfl
 have jg:=aF' (st:=a8') nw ny nA
 have fh:=mg_of X G nr
 have fg:=jg.binds (ps:=["roof", "chosen", "more", "tree"]) λ_ _ _ _ _ _ us hl=>by obtain ⟨_,_,_,_,rfl⟩:=lenOf4 hl;rfl
 have oY:=aF' (st:=b6') h9 nE nG
 have yn:=mg_of X G nD
 have yo:=oY.binds (ps:=["cell", "at"]) λ_ _ _ _ _ _ us hl=>by obtain ⟨_,_,rfl⟩:=lenOf2 hl;rfl
 have oZ:=aF' (st:=cO') nL nM nN
 have yp:=mg_of X G nJ
 have yq:=oZ.binds (ps:=["script"]) λ_ _ _ _ _ _ us hl=>by obtain ⟨_,rfl⟩:=lenOf1 hl;rfl
 have fY:=aF' (st:=co') nU nV nW
 have jh:=mg_of X G nQ
 have jj:=fY.binds (ps:=["pot", "upto"]) λ_ _ _ _ _ _ us hl=>by obtain ⟨_,_,rfl⟩:=lenOf2 hl;rfl
 have jk:=aF' (st:=cp') nZ n4 n5
 have uH:=mg_of X G nY
 have uI:=jk.binds (ps:=["pot", "fields", "low", "top"]) λ_ _ _ _ _ _ us hl=>by obtain ⟨_,_,_,_,rfl⟩:=lenOf4 hl;rfl
 have o0:=aF' (st:=bL') n9 oe og
 have yt:=mg_of X G n8
 have yu:=o0.binds (ps:=["pot", "fields", "most"]) λ_ _ _ _ _ _ us hl=>by obtain ⟨_,_,_,rfl⟩:=lenOf3 hl;rfl
 have o3:=aF' (st:=bM') om oo oq
 have yw:=mg_of X G oj
 have yy:=o3.binds (ps:=["pot", "wish"]) λ_ _ _ _ _ _ us hl=>by obtain ⟨_,_,rfl⟩:=lenOf2 hl;rfl
 have o4:=aF' (st:=bN') ox oy oz
 have yz:=mg_of X G ow
 have yA:=o4.binds (ps:=["wishes", "order", "by"]) λ_ _ _ _ _ _ us hl=>by obtain ⟨_,_,_,rfl⟩:=lenOf3 hl;rfl
 have o5:=aF' (st:=cq') oC oD oE
 have yB:=mg_of X G oB
 have yC:=o5.binds (ps:=["wishes"]) λ_ _ _ _ _ _ us hl=>by obtain ⟨_,rfl⟩:=lenOf1 hl;rfl
 have yD:=aF' (st:=dH') oG oH oJ
 have zu:=mg_of X G i7
 refine ⟨fnOf "law" "law" (defArgs dH') (defBody dH') (defScope dH') .none ka kc kf j9 ij kh,λs v=>.of_eq rfl,λbase _ _=>?_⟩
 have mn:=mn' (P:=l.prog) (w:=w) (mg:=mg) (base:=base) oZ aZ aK
 have mh:=j4' (P:=l.prog) (w:=w) (mg:=mg) (base:=base) oY
 have bC:=kJ' (P:=l.prog) (w:=w) (mg:=mg) (base:=base) fY ⟨mh,yo,oY.kp,yn⟩ ak
 have fj:=kL' (P:=l.prog) (w:=w) (mg:=mg) (base:=base) jk ⟨bC,jj,fY.kp,jh⟩ aC aE aX aA
 have ml:=iU' (P:=l.prog) (w:=w) (mg:=mg) (base:=base) o3 ⟨bC,jj,fY.kp,jh⟩ ak aX aE
 have mq:=iS' (P:=l.prog) (w:=w) (mg:=mg) (base:=base) o0 ⟨bC,jj,fY.kp,jh⟩ ⟨fj,uI,jk.kp,uH⟩ ⟨ml,yy,o3.kp,yw⟩ aE aC ak
 have bK:=hR' (P:=l.prog) (w:=w) (mg:=mg) (base:=base) ey ak
 have cy:=nA' (P:=l.prog) (w:=w) (mg:=mg) (base:=base) i8 ⟨bK,fW,ey.kp,fV⟩ aT bg
 have lZ:=fg' (P:=l.prog) (w:=w) (mg:=mg) (base:=base) oN ⟨cy,uE,i8.kp,uD⟩ eY
 have cz:=mh' (P:=l.prog) (w:=w) (mg:=mg) (base:=base) fX ⟨bK,fW,ey.kp,fV⟩ ⟨lZ,yb,oN.kp,ya⟩ aJ eX
 have dH:=jW' (P:=l.prog) (w:=w) (mg:=mg) (base:=base) oM ⟨bK,fW,ey.kp,fV⟩ aT aX aE aA
 have dI:=g4' (P:=l.prog) (w:=w) (mg:=mg) (base:=base) oQ aK aE
 have dJ:=jY' (P:=l.prog) (w:=w) (mg:=mg) (base:=base) oR
 have ma:=(dD' (P:=l.prog) (w:=w) (mg:=mg) (base:=base) jb ⟨dH,x0,oM.kp,xZ⟩ ⟨cy,uE,i8.kp,uD⟩ ⟨dI,yd,oQ.kp,yc⟩ ⟨dJ,yf,oR.kp,ye⟩ ak aA d9 jb.kp eh) 40
 have cW:=mj' (P:=l.prog) (w:=w) (mg:=mg) (base:=base) ik ⟨bK,fW,ey.kp,fV⟩ ⟨ma,d9,jb.kp,eh⟩ ak aZ aC
 have md:=iM' (P:=l.prog) (w:=w) (mg:=mg) (base:=base) oK ⟨bK,fW,ey.kp,fV⟩ aT bg
 have bh:=nC' (P:=l.prog) (w:=w) (mg:=mg) (base:=base) il ⟨md,xY,oK.kp,xX⟩
 have cA:=hT' (P:=l.prog) (w:=w) (mg:=mg) (base:=base) je i6 T0 ⟨cW,oP,ik.kp,oO⟩ ⟨bh,oW,il.kp,oV⟩ aE ak
 have iX:=(fb' (P:=l.prog) (w:=w) (mg:=mg) (base:=base) jd ⟨cA,uG,je.kp,uF⟩ ⟨bh,oW,il.kp,oV⟩ aJ eZ jd.kp fb) 10
 have ii:=j0' (P:=l.prog) (w:=w) (mg:=mg) (base:=base) oU ⟨cz,ja,fX.kp,i9⟩ ⟨iX,eZ,jd.kp,fb⟩
 have me:=(fc' (P:=l.prog) (w:=w) (mg:=mg) (base:=base) jf fc jf.kp fe) 10
 have mf:=(d1' (P:=l.prog) (w:=w) (mg:=mg) (base:=base) jg ⟨bh,oW,il.kp,oV⟩ ak aT bg fg jg.kp fh) 10
 have mr:=j2' (P:=l.prog) (w:=w) (mg:=mg) (base:=base) oX ⟨bK,fW,ey.kp,fV⟩ ⟨me,fc,jf.kp,fe⟩ ⟨cz,ja,fX.kp,i9⟩ ⟨mf,fg,jg.kp,fh⟩ ⟨cA,uG,je.kp,uF⟩ ak
 have i4:=kH' (P:=l.prog) (w:=w) (mg:=mg) (base:=base) oT ⟨cz,ja,fX.kp,i9⟩ ⟨cW,oP,ik.kp,oO⟩
 have i5:=iW' (P:=l.prog) (w:=w) (mg:=mg) (base:=base) o4 aA
 have mw:=kN' (P:=l.prog) (w:=w) (mg:=mg) (base:=base) o5 aX
 exact rj' (P:=l.prog) (w:=w) (mg:=mg) (base:=base) yD ⟨mn,yq,oZ.kp,yp⟩ ⟨bC,jj,fY.kp,jh⟩ ⟨mq,yu,o0.kp,yt⟩ ⟨fj,uI,jk.kp,uH⟩ ⟨ii,yk,oU.kp,yj⟩ ⟨mr,ym,oX.kp,yl⟩ ⟨i4,yi,oT.kp,yh⟩ ⟨cz,ja,fX.kp,i9⟩ ⟨cW,oP,ik.kp,oO⟩ ⟨i5,yA,o4.kp,yz⟩ ⟨mw,yC,o5.kp,yB⟩ aC ak aZ
theorem walk {l:PySem.W.OpenLaw}{q:Program}{bY:List Str}{XP:(Str->Option Value)->Heap->Prop}{YP:World->Heap->Prop}{d:DefRec}{K:Params->PySem.W.Frag} (uJ:∀ ns:List Int,ns.length<=63->∃ rs,eZ' [.val (.lst (ns.map D.int))]=some (.val (.bl true),rs)) (hn:l.most=some 63) (gE:d.params.defaults=[]) (bV:∃ d',(recsOf q).find? (λe=>e.name == ("letter_left":Str))=some d') (gT:∀ p,noTabs (K p)=true)
  (hY:∀ (w:World) (h:Heap),YP w h->(K w.params).In h)
  (F:∀ (w:World) (mg:Str->Option Value) (fa:Addr) (h:Heap),(K w.params).In h->h.Ns mainGlobals mg->mg d.name=some (.ref fa) →
   ∃ fd:FuncData,(∀ (s:Shared) (u:Value),BindsTo s fd ⟨[u],[]⟩ [("script", u)])/\∀ base:Heap,(K w.params).In base->base.Ns mainGlobals mg->FnOk l.prog w (K w.params) mg base CX0 65 fa fd ["script"] (spD (K w.params) eZ')) :
  PySem.W.WalkO q bY XP YP l.row.toRowW d [] (λf vs=>PySem.call f vs) :=
 ot' (n:=63) (k:=65) (x := "script") (CX:=λ_=>CX0) (sp:=λw=>spD (K w.params) eZ') hn (by decide) gE ⟨rfl,by decide,by decide,rfl⟩ bV gT hY F (λ_ H a ns hl hS=>q4' hS (uJ ns hl)) λ_ _ _ _ _ z=>z
end Own
namespace Own
open DL L2
def PotOk (c:List D):Prop:=∃ (ns:List Int) (at_ ag:Int),c=[.lst (ns.map .int),.int at_,.int ag]/\0<=at_
theorem oO' (a b:Int):∃ z,cvF cz' [.int a,.int b]=some (.int z):=by
 have:wpF cz' [.val (.int a),.val (.int b)] λr _=>∃ z,r=.val (.int z):=by
  refine bf' rfl λKE hE _=>?_
  rw [et']
  refine ae' ?_;rintro K hK hR
  simp
  split
  ·exact hR _ _ (hE _ _ ⟨_,rfl,_,rfl⟩)
  ·refine hK _ ?_
   refine ae' ?_;rintro K hK -
   simp
   refine hK _ ?_
   have l1:=emod_nonneg (a % 998244353*40692+b*69621+1009) (show (2147483399:Int)≠0 by decide)
   have u1:=emod_lt_of_pos (a % 998244353*40692+b*69621+1009) (show (0:Int) < 2147483399 by decide)
   generalize (a % 998244353*40692+b*69621+1009) % 2147483399=x at *
   refine ae' ?_;rintro K hK -
   simp
   refine ⟨by omega,hK _ ?_⟩
   have l2:=emod_nonneg (x*x+b*48271+a % 131071) (show (2147483647:Int)≠0 by decide)
   have u2:=emod_lt_of_pos (x*x+b*48271+a % 131071) (show (0:Int) < 2147483647 by decide)
   generalize (x*x+b*48271+a % 131071) % 2147483647=y at *
   refine ae' ?_;rintro K hK -
   simp
   refine ⟨by omega,hK _ ?_⟩
   generalize (y*y+x*17+3) % 2147483629=z at *
   simp
   exact hE _ _ ⟨_,rfl,_,rfl⟩
 obtain ⟨r,aR,e,z,rfl⟩:=this
 exact ⟨z,by unfold cvF;simp only [map];rw [e]⟩
theorem by' {c:List D}{u:Int}{Q:R->List D->Prop} (hc:PotOk c) (h1:1<=u) (h2:u < 2 ^ 200) (k:∀ n c',0<=n->n < u->PotOk c'->Q (.val (.int n)) c'):wpB az' c [.int u] Q:=by
 obtain ⟨ns,at_,ag,rfl,h0⟩:=hc
 refine fZ' rfl λKE hE _=>?_
 rw [eW']
 refine a4' (λab=>∃ o6 ki x y z,0<=o6/\ab=[some (.bor [.lst (ns.map .int),.int o6,.int ki]),some (.val (.int u)),x,y,z]) (λK hK _=>?_) ?_
 ·simp [isMut,R.mut]
  split
  ·refine ae' λK1 dM _=>?_
   simp [isMut,R.mut]
   refine dM _ ?_
   refine ae' λK1 dM _=>?_
   simp [isMut,R.mut]
   refine dM _ ?_
   refine a4' (λab=>∃ m,ab=[some (.bor [.lst (ns.map .int),.int at_,.int ag]),some (.val (.int u)),some (.val (.int at_)),some (.val (.int m)),none]) (λK1 dM _=>?_) ?_
   ·simp [isMut,R.mut]
    split
    ·rename_i h
     obtain ⟨a,e,m⟩:=jR' (ds:=ns.map D.int) h0 (by simpa using h)
     obtain ⟨b,_,rfl⟩:=mem_map.mp m
     rw [aj' e]
     simp
     exact dM _ ⟨_,rfl⟩
    ·rename_i h
     split
     ·exact dM _ ⟨_,rfl⟩
     ·rename_i h'
      have hl:0 < ns.length:=by cases ns with | nil=>simp at h' | cons=>simp
      refine ⟨by omega,?_⟩
      obtain ⟨a,e,m⟩:=jR' (ds:=ns.map D.int) (i:=(at_*7+1) % (ns.length:Int)) (emod_nonneg _ (by omega)) (by simpa using emod_lt_of_pos _ (by omega))
      obtain ⟨b,_,rfl⟩:=mem_map.mp m
      rw [aj' e]
      simp
      exact ⟨by omega,dM _ ⟨_,rfl⟩⟩
   ·rintro ab ⟨m,rfl⟩
    refine ae' λK1 dM _=>?_
    simp [isMut,R.mut]
    refine dM _ ?_
    obtain ⟨z,e⟩:=oO' m at_
    simp [isMut,R.mut,e]
    exact hK _ ⟨_,_,_,_,_,by omega,rfl⟩
  ·exact hK _ ⟨_,_,_,_,_,h0,rfl⟩
 ·rintro ab ⟨o6,ki,x,y,z,h3,rfl⟩
  refine ae' ?_;rintro K hK -
  simp [isMut,R.mut]
  refine ⟨by omega,hK _ ?_⟩
  refine ae' ?_;rintro K hK -
  simp [isMut,R.mut]
  refine ⟨⟨by omega,by simpa using h2⟩,hK _ ?_⟩
  simp
  exact hE _ _ _ ⟨_,rfl⟩ (k _ _ (emod_nonneg _ (by omega)) (emod_lt_of_pos _ (by omega)) ⟨_,_,_,rfl,h3⟩)
theorem dV' {xs:List D}{m i:Nat}{d:D} (h:(numD m xs)[i]?=some d):∃ x,xs[i]?=some x/\d=.tup [.int ((m+i:Nat):Int),x]:=by
 induction xs generalizing m i with
 | nil=>simp [numD] at h
 | cons a xs ih =>
  cases i with
  | zero=>simp [numD] at h;exact ⟨a,rfl,h.symm⟩
  | succ i =>
   simp only [numD,getElem?_cons_succ] at h
   obtain ⟨x,e1,e2⟩:=ih h
   exact ⟨x,by simpa using e1,by rw [e2,show m+1+i=m+(i+1) from by omega]⟩
theorem lz' {α:Type}{f:α->D}{xs:List α}{lo hi:Option Int}:∃ ys:List α,cutD (xs.map f) lo hi=ys.map f/\(∀ y∈ys,y∈xs)/\ys.length=min (HT.sIx xs.length xs.length hi - HT.sIx xs.length 0 lo) (xs.length - HT.sIx xs.length 0 lo):=by
 refine ⟨(xs.drop (HT.sIx xs.length 0 lo)).take (HT.sIx xs.length xs.length hi - HT.sIx xs.length 0 lo),?_,?_,?_⟩
 ·unfold cutD
  simp [map_drop,map_take]
 ·intro y h
  exact mem_of_mem_drop (mem_of_mem_take h)
 ·simp
theorem rk' (ns:List Int):∃ d,coF dv' [.lst (ns.map .int)]=some d/\PotOk d:=by
 refine nw' ?_
 unfold dv'
 refine eO' rfl ?_
 rw [fA']
 refine ae' λK hK _=>?_
 simp
 refine hK _ ?_
 obtain ⟨cs,e,-,hl⟩:=lz' (f:=D.int) (xs:=ns) (lo:=none) (hi:=some 12)
 rw [e]
 have dz:cs.length=min 12 ns.length:=by
  rw [hl];simp [HT.sIx]
 refine a4' (λab=>∃ cs,∃ x y z,ab=[x,some (.own (map D.int cs)),y,z]) (λK hK _=>?_) ?_
 ·simp
  obtain ⟨ms,e,-,hm⟩:=lz' (f:=D.int) (xs:=ns) (lo:=some 12) (hi:=some 63)
  rw [e]
  refine cL' (J:=λi Y=>∃ cs:List Int,∃ y z,cs.length=min 12 ns.length/\Y=[some (.val (.lst (ns.map .int))),some (.own (cs.map .int)),y,z]) ⟨cs,_,_,dz,rfl⟩ ?_ ?_
  ·rintro i d Y hd ⟨cs,y,z,hc,rfl⟩
   obtain ⟨x,e1,rfl⟩:=dV' hd
   rw [getElem?_map,map_eq_some_iff] at e1
   obtain ⟨n,e1,rfl⟩:=e1
   have hi:i < ms.length:=(List.getElem?_eq_some_iff.mp e1).1
   have zv:12 < ns.length:=by
    simp [HT.sIx] at hm
    omega
   simp [isMut,R.mut]
   have ko:cs.length=12:=by omega
   have yE:((i:Int) % 12)=((i % 12:Nat):Int):=by omega
   rw [yE]
   have bM:i % 12 < cs.length:=by omega
   rw [aj' (a:=D.int cs[i % 12]) (by rw [g2'];simp [bM])]
   simp
   refine ⟨(cs.set (i % 12) (cs[i % 12]+n)).map .int,?_,?_⟩
   ·unfold stF L2.ixN
    rw [if_pos (by omega),if_pos (by simp;omega),show ((i:Int) % 12).toNat=i % 12 from by omega]
    simp
   ·exact ⟨cs.set (i % 12) (cs[i % 12]+n),by simpa using hc,by simp⟩
  ·rintro Y ⟨cs,y,z,hc,rfl⟩
   exact hK _ ⟨cs,_,_,_,rfl⟩
 ·rintro ab ⟨cs,x,y,z,rfl⟩
  simp [flR,fin]
  exact ⟨cs,0,0,rfl,by omega⟩
noncomputable def pairD (p:Int×Int):D:=.tup [.int p.1,.int p.2]
noncomputable def wishD (w:List (Int×Int)):D:=.tup (w.map pairD)
noncomputable def letD (l:List Int):D:=.tup (l.map .int)
structure PairOk (p:Int×Int):Prop where
 lo:0<=p.1
 le:p.1<=p.2
 hi:p.2<=9
structure Wf (n:Nat) (w:List (Int×Int)):Prop where
 len:w.length=n
 all:∀ p∈w,PairOk p
theorem j5' {lo:Int}{n i:Nat}{d:D} (h:(rngD lo n)[i]?=some d):d=.int (lo+i)/\i < n:=by
 unfold rngD at h
 rw [getElem?_map,map_eq_some_iff] at h
 obtain ⟨k,h1,rfl⟩:=h
 obtain ⟨h2,h3⟩:=List.getElem?_eq_some_iff.mp h1
 rw [getElem_range] at h3
 subst h3
 exact ⟨rfl,by simpa using h2⟩
@[simp] theorem j6' {lo:Int}{n:Nat}:(rngD lo n).length=n:=by simp [rngD]
theorem Wf.app {n:Nat}{w:List (Int×Int)} (h:Wf n w){p:Int×Int} (hp:PairOk p):Wf (n+1) (w++[p]):=by
 refine ⟨by simp [h.len],λq hq=>?_⟩
 rcases mem_append.mp hq with h1 | h1
 ·exact h.all q h1
 ·rw [mem_singleton.mp h1];exact hp
theorem hU' {c:List D}{f:Nat}{low top:Int}{Q:R->List D->Prop} (hc:PotOk c) (hf:f<=100) (h1:0<=low) (h2:1<=top) (h3:low+top<=10) (k:∀ w c',Wf f w->PotOk c'->Q (.val (wishD w)) c'):wpB bR' c [.int f,.int low,.int top] Q:=by
 refine fZ' rfl λKE hE _=>?_
 rw [eX']
 refine ae' ?_;rintro K hK -
 refine ⟨_,_,rfl,hK _ ?_⟩
 show wp _ [some (.bor c),some (.val (.int f)),some (.val (.int low)),some (.val (.int top)),some (.own []),none,none,none] _
 refine ae' ?_;rintro K hK -
 simp
 refine ⟨by omega,?_⟩
 refine ck' (J:=λi Y=>∃ c w x y z,PotOk c/\Wf i w/\Y=[some (.bor c),some (.val (.int f)),some (.val (.int low)),some (.val (.int top)),some (.own (w.map pairD)),x,y,z]) ⟨c,[],_,_,_,hc,⟨rfl,by simp⟩,rfl⟩ ?_ ?_
 ·rintro i d Y hd ⟨c,w,x,y,z,hc,hw,rfl⟩ KL aY - - -
  obtain ⟨rfl,hi⟩:=j5' hd
  simp
  refine ae' ?_;rintro K hK -
  simp [isMut,R.mut]
  refine by' hc h2 (by omega) λn c' fx dU aD=>?_
  simp
  refine hK _ ?_
  refine ae' ?_;rintro K hK -
  simp [isMut,R.mut]
  refine by' aD h2 (by omega) λm uL hm1 jl im=>?_
  simp
  refine hK _ ?_
  simp [isMut,R.mut]
  refine ⟨by have:=hw.len;omega,aY _ ?_⟩
  exact ⟨_,w++[(low+min n m,low+max n m)],_,_,_,im,hw.app ⟨by simp;omega,by simp;omega,by simp;omega⟩,by rw [map_append];rfl⟩
 ·rintro Y ⟨c,w,x,y,z,hc,hw,rfl⟩
  refine hK _ ?_
  rw [j6'] at hw
  simp
  exact hE _ _ _ ⟨_,rfl⟩ (k w c hw hc)
theorem nD' {c:List D}{f:Nat}{w:List (Int×Int)}{Q:R->List D->Prop} (hc:PotOk c) (hw:Wf f w) (h0:1<=f) (hf:f<=100) (k:∀ w c',Wf f w->PotOk c'->Q (.val (wishD w)) c'):wpB cW' c [wishD w] Q:=by
 refine fZ' rfl λKE hE _=>?_
 rw [dY']
 refine ae' ?_;rintro K hK -
 simp [isMut,R.mut,wishD]
 refine by' hc (by rw [hw.len];omega) (by rw [hw.len];omega) λn c' fx dU aD=>?_
 simp
 refine hK _ ?_
 obtain ⟨n,rfl⟩:=Int.eq_ofNat_of_zero_le fx
 have hn:n < w.length:=by omega
 obtain ⟨p,hp⟩:∃ p,w[n]?=some p:=⟨_,getElem?_eq_getElem hn⟩
 have o7:PairOk p:=hw.all p (mem_of_getElem? hp)
 have e1:atI (w.map pairD) (n:Int)=some (pairD p):=by rw [DL.g2'];simp [hp]
 refine ae' ?_;rintro K hK -
 simp [e1]
 simp [pairD]
 refine hK _ ?_
 refine ae' ?_;rintro K hK -
 refine ⟨_,_,rfl,hK _ ?_⟩
 show wp _ [some (R.bor c'),some (R.val (D.tup (w.map pairD))),some (.val (.int n)),some (.val (.int p.1)),some (.val (.int p.2)),some (.val (.lst [D.tup [.int (if p.1 - 1 > 0 then p.1 - 1 else 0),.int p.2],.tup [.int p.1,.int (if p.2+1 < 9 then p.2+1 else 9)],.tup [.int (if p.2 < p.1+1 then p.2 else p.1+1),.int p.2],.tup [.int p.1,.int (if p.2 - 1 > p.1 then p.2 - 1 else p.1)]]))] _
 have aI:∀ m:Int,0<=m->m < 4->∃ q,PairOk q/\atI [D.tup [.int (if p.1 - 1 > 0 then p.1 - 1 else 0),.int p.2],.tup [.int p.1,.int (if p.2+1 < 9 then p.2+1 else 9)],.tup [.int (if p.2 < p.1+1 then p.2 else p.1+1),.int p.2],.tup [.int p.1,.int (if p.2 - 1 > p.1 then p.2 - 1 else p.1)]] m=some (pairD q):=λm hm1 jl=>by
  have:=o7.lo;have:=o7.le;have:=o7.hi
  have:m=0\/m=1\/m=2\/m=3:=by omega
  rcases this with rfl | rfl | rfl | rfl
  ·exact ⟨(if p.1 - 1 > 0 then p.1 - 1 else 0,p.2),⟨by dsimp only;split<;>omega,by dsimp only;split<;>omega,by dsimp only;omega⟩,rfl⟩
  ·exact ⟨(p.1,if p.2+1 < 9 then p.2+1 else 9),⟨by dsimp only;omega,by dsimp only;split<;>omega,by dsimp only;split<;>omega⟩,rfl⟩
  ·exact ⟨(if p.2 < p.1+1 then p.2 else p.1+1,p.2),⟨by dsimp only;split<;>omega,by dsimp only;split<;>omega,by dsimp only;omega⟩,rfl⟩
  ·exact ⟨(p.1,if p.2 - 1 > p.1 then p.2 - 1 else p.1),⟨by dsimp only;omega,by dsimp only;split<;>omega,by dsimp only;split<;>omega⟩,rfl⟩
 generalize [D.tup [.int (if p.1 - 1 > 0 then p.1 - 1 else 0),.int p.2],.tup [.int p.1,.int (if p.2+1 < 9 then p.2+1 else 9)],.tup [.int (if p.2 < p.1+1 then p.2 else p.1+1),.int p.2],.tup [.int p.1,.int (if p.2 - 1 > p.1 then p.2 - 1 else p.1)]]=ps at aI ⊢
 have e2:slF (.tup (w.map pairD)) none (some (n:Int))=some (.tup ((w.map pairD).take n)):=lx' (by simpa using hn)
 have e3:slF (.tup (w.map pairD)) (some ((n:Int)+1)) none=some (.tup ((w.map pairD).drop (n+1))):=ly' (n:=n+1) (by simp;omega) (by omega)
 simp [isMut,R.mut,e2]
 refine by' aD (by omega) (by omega) λm uL hm1 jl im=>?_
 obtain ⟨q,hq,eq⟩:=aI m hm1 jl
 simp [eq,e3]
 refine ⟨by have:=hw.len;omega,by have:=hw.len;omega,hE _ _ _ ⟨_,rfl⟩ ?_⟩
 have:=k (w.take n++[q]++w.drop (n+1)) uL ⟨by have:=hw.len;simp;omega,λr hr=>?_⟩ im
 ·simpa [wishD,map_take,map_drop] using this
 ·simp at hr
  rcases hr with h | h | h
  ·exact hw.all r (mem_of_mem_take h)
  ·rw [h];exact hq
  ·exact hw.all r (mem_of_mem_drop h)
theorem lA' {α:Type}{f:α->D}{xs:List α}{i:Int} (h0:0<=i) (h1:i < xs.length):∃ x,x∈xs/\atI (xs.map f) i=some (f x):=by
 obtain ⟨a,e,m⟩:=jR' (ds:=xs.map f) h0 (by simpa using h1)
 obtain ⟨b,hb,rfl⟩:=mem_map.mp m
 exact ⟨b,hb,e⟩
theorem g5' {ds:List D}{n:Nat} (h:∀ d∈ds,dep d<=n):depA ds<=n:=by
 induction ds with
 | nil=>simp [depA]
 | cons d ds ih =>
  rw [depA]
  have h1:=h d mem_cons_self
  have h2:=ih λd hd=>h d (mem_cons_of_mem _ hd)
  omega
theorem d2' {w:List (Int×Int)}:dep (wishD w)<=2:=by
 unfold wishD
 rw [dep]
 have:depA (w.map pairD)<=1:=g5' λd hd=>by
  obtain ⟨p,_,rfl⟩:=mem_map.mp hd
  unfold pairD
  simp [dep,depA]
 omega
theorem nE' {c:List D}{f:Nat}{most:Int}{Q:R->List D->Prop} (hc:PotOk c) (h0:1<=f) (hf:f<=3) (h1:0<=most) (h2:most<=100) (k:∀ (ws:List (List (Int×Int))) c',(∀ w∈ws,Wf f w)->(ws.length:Int)<=most->PotOk c'->Q (.val (.lst (ws.map wishD))) c'):wpB cX' c [.int f,.int most] Q:=by
 refine fZ' rfl λKE hE _=>?_
 rw [dZ']
 refine ae' ?_;rintro K hK -
 simp [isMut,R.mut]
 refine by' hc (by omega) (by omega) λn c' fx dU aD=>?_
 simp
 have e1:∃ t:Int,1<=t/\t<=10/\atI [D.int 2,D.int 3,D.int 4,D.int 10] n=some (.int t):=by
  have:n=0\/n=1\/n=2\/n=3:=by omega
  rcases this with rfl | rfl | rfl | rfl
  ·exact ⟨2,by omega,by omega,rfl⟩
  ·exact ⟨3,by omega,by omega,rfl⟩
  ·exact ⟨4,by omega,by omega,rfl⟩
  ·exact ⟨10,by omega,by omega,rfl⟩
 obtain ⟨t,zw,zx,e1⟩:=e1
 have e2:∃ t:Int,1<=t/\t<=10/\atI [D.int 10,D.int 10,D.int 10,D.int 4] (f:Int)=some (.int t):=by
  have:f=1\/f=2\/f=3:=by omega
  rcases this with rfl | rfl | rfl
  ·exact ⟨10,by omega,by omega,rfl⟩
  ·exact ⟨10,by omega,by omega,rfl⟩
  ·exact ⟨4,by omega,by omega,rfl⟩
 obtain ⟨t',yY,yZ,e2⟩:=e2
 simp [e1,e2]
 refine hK _ ?_
 refine ae' ?_;rintro K hK -
 simp [isMut,R.mut]
 refine by' aD (by omega) (by omega) λlow c' cS dz aD=>?_
 simp
 refine hK _ ?_
 refine ae' ?_;rintro K hK -
 simp
 refine hK _ ?_
 refine ae' ?_;rintro K hK -
 simp [isMut,R.mut]
 refine by' aD (by omega) (by omega) λy0 c' hm1 jl aD=>?_
 simp
 refine ⟨by omega,?_⟩
 refine ck' (J:=λi Y=>∃ (c:List D) (ws:List (List (Int×Int))) (x y z:Option R),PotOk c/\(∀ w∈ws,Wf f w)/\ws.length=i/\Y=[some (.bor c),some (.val (.int f)),some (.val (.int most)),some (.val (.int (min t t'))),some (.val (.int low)),some (.own (ws.map wishD)),x,y,z]) ⟨c',[],_,_,_,aD,by simp,rfl,rfl⟩ ?_ ?_
 ·rintro i d Y hd ⟨c,ws,x,y,z,hc,ai,hi,rfl⟩ KL aY - - -
  obtain ⟨rfl,cw⟩:=j5' hd
  simp
  refine ae' ?_;rintro K hK -
  simp [isMut,R.mut]
  refine by' hc (by omega) (by omega) λway c' zy zz aD=>?_
  simp
  refine hK _ ?_
  refine ae' ?_;rintro K hK -
  simp [isMut,R.mut]
  refine hU' aD (by omega) cS (by omega) (by omega) λw c' hw aD=>?_
  simp
  refine hK _ ?_
  refine a4' (λY=>∃ (c:List D) (w:List (Int×Int)) (x:Option R),PotOk c/\Wf f w/\Y=[some (.bor c),some (.val (.int f)),some (.val (.int most)),some (.val (.int (min t t'))),some (.val (.int low)),some (.own (ws.map wishD)),x,some (.val (.int way)),some (.val (wishD w))]) ?_ ?_
  ·rintro K hK -
   simp [isMut,R.mut]
   split
   ·split
    ·exact hK _ ⟨_,_,_,aD,hw,rfl⟩
    ·rename_i dD
     have uM:0 < ws.length:=length_pos_iff.mpr dD
     refine by' aD (by omega) (by omega) λn c' fx dU aD=>?_
     obtain ⟨w',o8,e⟩:=lA' (f:=wishD) fx dU
     simp [e]
     exact hK _ ⟨_,_,_,aD,ai _ o8,rfl⟩
   ·exact hK _ ⟨_,_,_,aD,hw,rfl⟩
  ·rintro Y ⟨c,w,x,hc,hw,rfl⟩
   refine a4' (λY=>∃ (c:List D) (w:List (Int×Int)) (x y:Option R),PotOk c/\Wf f w/\Y=[some (.bor c),some (.val (.int f)),some (.val (.int most)),some (.val (.int (min t t'))),some (.val (.int low)),some (.own (ws.map wishD)),x,y,some (.val (wishD w))]) ?_ ?_
   ·rintro K hK -
    simp [isMut,R.mut]
    split
    ·split
     ·exact hK _ ⟨_,_,_,_,hc,hw,rfl⟩
     ·rename_i dD
      have uM:0 < ws.length:=length_pos_iff.mpr dD
      refine by' hc (by omega) (by omega) λn c' fx dU aD=>?_
      obtain ⟨w',o8,e⟩:=lA' (f:=wishD) fx dU
      simp [e]
      refine nD' aD (ai _ o8) h0 (by omega) λw c' hw aD=>?_
      simp
      exact hK _ ⟨_,_,_,_,aD,hw,rfl⟩
    ·exact hK _ ⟨_,_,_,_,hc,hw,rfl⟩
   ·rintro Y ⟨c,w,x,y,hc,hw,rfl⟩
    simp [isMut,R.mut]
    refine ⟨by omega,aY _ ⟨_,ws++[w],_,_,_,hc,λv hv=>?_,by simp;omega,by rw [map_append];rfl⟩⟩
    rcases mem_append.mp hv with h | h
    ·exact ai v h
    ·rw [mem_singleton.mp h];exact hw
 ·rintro Y ⟨c,ws,x,y,z,hc,ai,hi,rfl⟩
  refine hK _ ?_
  rw [j6'] at hi
  simp
  exact hE _ _ _ ⟨_,rfl⟩ (k ws c ai (by omega) hc)
noncomputable def hasB (w:List (Int×Int)) (l:List Int):Bool:=(w.zip l).all λq=>decide (q.1.1<=q.2)&&decide (q.2<=q.1.2)
noncomputable def covB (a b:List (Int×Int)):Bool:=(a.zip b).all λq=>decide (q.1.1<=q.2.1)&&decide (q.2.2<=q.1.2)
@[simp] theorem nF' {α:Type}{xs:List α}:List.filter (λ_=>true) xs=xs:=by
 induction xs with
 | nil=>rfl
 | cons x xs ih=>simp
@[simp] theorem tY' {p:Int×Int}:ixF (pairD p) (.int 0)=some (.int p.1):=rfl
@[simp] theorem tZ' {p:Int×Int}:ixF (pairD p) (.int 1)=some (.int p.2):=rfl
@[simp ↓] theorem tH' {α:Type}{F:D->Option α}{g:M D}{Y:Gm}{Q:α->Gm->Prop}:wp (un1 F g) Y Q↔wp g Y λd ab=>wp (lft (F d)) ab Q:=by simp [un1]
@[simp] theorem t0' {i:Int}:negI (.int i)=some (.int (-i)):=rfl
@[simp] theorem t1' {k:Ki}{d:D}:isiF k d=some (.bl (isiB k d)):=rfl
@[simp] theorem t2' {b:Bool}{d:D}:isNF b d .non=some (.bl (if b then !isN d else isN d)):=rfl
@[simp ↓] theorem tI' {neg:Bool}{a:D}{ds:List D}{Y:Gm}{QD:D->Gm->Prop}:wp (lft (inF neg a (.lst ds))) Y QD↔dep a<=99/\QD (.bl (if neg then !ds.any (λd=>deq d a) else ds.any λd=>deq d a)) Y:=by
 simp only [inF,jS',bP']
@[simp] theorem rR':isiB .iT .non=false:=rfl
@[simp] theorem sk' {x:Bool}:isiB .iT (.bl x)=true:=rfl
@[simp] theorem rS' {x:Int}:isiB .iT (.int x)=true:=rfl
@[simp] theorem rT' {x:PySem.Str}:isiB .iT (.str x)=false:=rfl
@[simp] theorem rU' {x:List D}:isiB .iT (.tup x)=false:=rfl
@[simp] theorem rV' {x:List D}:isiB .iT (.lst x)=false:=rfl
@[simp] theorem rW':isiB .sT .non=false:=rfl
@[simp] theorem sm' {x:Bool}:isiB .sT (.bl x)=false:=rfl
@[simp] theorem rX' {x:Int}:isiB .sT (.int x)=false:=rfl
@[simp] theorem rY' {x:PySem.Str}:isiB .sT (.str x)=true:=rfl
@[simp] theorem rZ' {x:List D}:isiB .sT (.tup x)=false:=rfl
@[simp] theorem r0' {x:List D}:isiB .sT (.lst x)=false:=rfl
@[simp] theorem r1':isiB .bT .non=false:=rfl
@[simp] theorem sn' {x:Bool}:isiB .bT (.bl x)=true:=rfl
@[simp] theorem r2' {x:Int}:isiB .bT (.int x)=false:=rfl
@[simp] theorem r3' {x:PySem.Str}:isiB .bT (.str x)=false:=rfl
@[simp] theorem r4' {x:List D}:isiB .bT (.tup x)=false:=rfl
@[simp] theorem r5' {x:List D}:isiB .bT (.lst x)=false:=rfl
@[simp] theorem r6':isiB .tT .non=false:=rfl
@[simp] theorem so' {x:Bool}:isiB .tT (.bl x)=false:=rfl
@[simp] theorem r7' {x:Int}:isiB .tT (.int x)=false:=rfl
@[simp] theorem r8' {x:PySem.Str}:isiB .tT (.str x)=false:=rfl
@[simp] theorem r9' {x:List D}:isiB .tT (.tup x)=true:=rfl
@[simp] theorem sa' {x:List D}:isiB .tT (.lst x)=false:=rfl
@[simp] theorem sb':isiB .lT .non=false:=rfl
@[simp] theorem sp' {x:Bool}:isiB .lT (.bl x)=false:=rfl
@[simp] theorem sc' {x:Int}:isiB .lT (.int x)=false:=rfl
@[simp] theorem sd' {x:PySem.Str}:isiB .lT (.str x)=false:=rfl
@[simp] theorem se' {x:List D}:isiB .lT (.tup x)=false:=rfl
@[simp] theorem sf' {x:List D}:isiB .lT (.lst x)=true:=rfl
theorem g6' {n:Nat}{ds:List D} (h:∀ d∈ds,∃ xs:List D,d=.tup xs/\xs.length=n):cvF aq' [.lst ds]=some .non:=by
 refine eh' rfl λK _ k2=>?_
 rw [dA']
 simp
 refine ck' (J:=λi Y=>∃ x,Y=[some (.val (.lst ds)),x]) ⟨_,rfl⟩ ?_ ?_
 ·rintro i d Y hd ⟨x,rfl⟩ KL aY - - -
  obtain ⟨xs,rfl,hx⟩:=h d (mem_of_getElem? hd)
  cases ds with
  | nil=>simp at hd
  | cons d0 ds =>
   obtain ⟨ys,rfl,hy⟩:=h d0 mem_cons_self
   simp [hx,hy]
   exact aY _ ⟨_,rfl⟩
 ·rintro Y ⟨x,rfl⟩
  exact k2 _ rfl ⟨_,rfl⟩
theorem hV' {a b:List D} (h:a.length=b.length):cvF aq' [.lst [.tup a,.tup b]]=some .non :=
 g6' (n:=a.length) (by simp [h])
theorem ix' {a b:List (Int×Int)} (h:a.length=b.length) (hl:a.length<=1000):cvF cE' [wishD a,wishD b]=some (.bl (covB a b)):=by
 refine eh' rfl λK k1 _=>?_
 rw [gw']
 refine ae' ?_;rintro K hK -
 simp [wishD,hV',h]
 refine hK _ ?_
 simp
 refine gu' (a.zip b) (λq=>.tup [pairD q.1,pairD q.2]) (λ_=>true) (λq=>.bl (decide (q.1.1<=q.2.1)&&decide (q.2.2<=q.1.2))) ?_
 simp [eV']
 refine ⟨by omega,?_,?_⟩
 ·rintro a b n m hm
  split<;>omega
 ·rw [gv']
  simp
  exact k1 _ ⟨_,rfl⟩
theorem rl' {w:List (Int×Int)}{l:List Int} (h:w.length=l.length) (hl:w.length<=1000):cvF cU' [wishD w,letD l]=some (.bl (hasB w l)):=by
 refine eh' rfl λK k1 _=>?_
 rw [dX']
 refine ae' ?_;rintro K hK -
 simp [wishD,letD,hV',h]
 refine hK _ ?_
 simp
 refine gu' (w.zip l) (λq=>.tup [pairD q.1,.int q.2]) (λ_=>true) (λq=>.bl (decide (q.1.1<=q.2)&&decide (q.2<=q.1.2))) ?_
 simp [eV']
 refine ⟨by omega,?_,?_⟩
 ·rintro a b n hm
  split<;>omega
 ·rw [gv']
  simp
  exact k1 _ ⟨_,rfl⟩
theorem rm' {xs:List Nat}{m:Nat} (h:∀ x∈xs,x<=m):xs.sum<=xs.length*m:=by
 induction xs with
 | nil=>simp
 | cons x xs ih =>
  have h1:=h x mem_cons_self
  have h2:=ih λx hx=>h x (mem_cons_of_mem _ hx)
  rw [sum_cons,length_cons,Nat.succ_mul]
  omega
noncomputable def rngL (lo hi:Int):List Int:=(range (hi+1 - lo).toNat).map λk:Nat=>lo+(k:Int)
theorem di' {lo hi:Int} (h:hi < lo):rngL lo hi=[]:=by
 unfold rngL
 rw [show (hi+1 - lo).toNat=0 by omega]
 rfl
theorem dw' {lo hi:Int} (h:lo<=hi):rngL lo hi=lo::rngL (lo+1) hi:=by
 unfold rngL
 rw [show (hi+1 - lo).toNat=(hi+1 - (lo+1)).toNat+1 by omega,range_succ_eq_map]
 simp
 intro a _
 omega
theorem oP' {lo hi n:Int}:n∈rngL lo hi↔lo<=n/\n<=hi:=by
 unfold rngL
 simp
 constructor
 ·rintro ⟨k,h1,rfl⟩;omega
 ·rintro ⟨h1,h2⟩;exact ⟨(n - lo).toNat,by omega,by omega⟩
theorem kO' {a b c d:Int}:(rngL a b).filter (λn=>decide (c<=n)&&decide (n<=d))=rngL (max a c) (min b d):=by
 obtain ⟨m,hm⟩:∃ m:Nat,(b+1 - a).toNat=m:=⟨_,rfl⟩
 induction m generalizing a with
 | zero=>rw [di' (by omega),di' (by omega)];rfl
 | succ m ih =>
  rw [dw' (by omega),filter_cons,ih (a:=a+1) (by omega)]
  by_cases h1:c<=a
  ·by_cases h2:a<=d
   ·rw [if_pos (by simp [h1,h2]),dw' (lo:=max a c) (by omega),show max a c=a by omega,show max (a+1) c=a+1 by omega]
   ·rw [if_neg (by simp [h2]),di' (by omega),di' (by omega)]
  ·rw [if_neg (by simp [h1]),show max (a+1) c=max a c by omega]
noncomputable def lettersR:List (Int×Int)->List (List Int)
 | []=>[[]]
 | p::w=>(rngL p.1 p.2).flatMap λn=>(lettersR w).map (n::·)
theorem as' {w:List (Int×Int)}{l:List Int}:l∈lettersR w↔l.length=w.length/\hasB w l=true:=by
 induction w generalizing l with
 | nil=>simp [lettersR,hasB]
 | cons p w ih =>
  cases l with
  | nil=>simp [lettersR]
  | cons n l =>
   simp [lettersR,oP',hasB] at ih ⊢
   constructor
   ·rintro ⟨h1,h2⟩
    obtain ⟨h3,h4⟩:=ih.mp h2
    exact ⟨h3,h1,h4⟩
   ·rintro ⟨h1,h2,h3⟩
    exact ⟨h2,ih.mpr ⟨h1,h3⟩⟩
noncomputable def mixB (a b:List (Int×Int)):List (Int×Int):=(a.zip b).map λq=>(max q.1.1 q.2.1,min q.1.2 q.2.2)
noncomputable def okB (w:List (Int×Int)):Bool:=w.all λp=>decide (p.1<=p.2)
theorem g7' {a b:List (Int×Int)} (h:a.length=b.length):(lettersR a).filter (hasB b)=if okB (mixB a b)=true then lettersR (mixB a b) else []:=by
 induction a generalizing b with
 | nil =>
  cases b with
  | nil=>simp [lettersR,mixB,okB,hasB]
  | cons q b=>simp at h
 | cons p a ih =>
  cases b with
  | nil=>simp at h
  | cons q b =>
   have ih:=ih (b:=b) (by simpa using h)
   have e1:((lettersR (p::a)).filter (hasB (q::b)))=((rngL p.1 p.2).filter λn=>decide (q.1<=n)&&decide (n<=q.2)).flatMap λn=>((lettersR a).filter (hasB b)).map (n::·):=by
    rw [lettersR,List.filter_flatMap]
    generalize rngL p.1 p.2=ns
    induction ns with
    | nil=>rfl
    | cons n ns ihn =>
     rw [flatMap_cons,ihn,filter_cons]
     by_cases hq:q.1<=n/\n<=q.2
     ·rw [if_pos (by simp [hq]),flatMap_cons]
      congr 1
      rw [List.filter_map]
      congr 2
      funext l
      simp [hasB,hq]
     ·rw [if_neg (by simpa using hq)]
      have:(List.filter (hasB (q::b)) ((lettersR a).map (n::·)))=[]:=by
       rw [List.filter_eq_nil_iff]
       intro l hl
       simp at hl
       obtain ⟨l',_,rfl⟩:=hl
       simp [hasB]
       intro h1 h2
       omega
      rw [this,nil_append]
   rw [e1,kO',ih]
   have e2:mixB (p::a) (q::b)=(max p.1 q.1,min p.2 q.2)::mixB a b:=by simp [mixB]
   rw [e2]
   have e3:okB ((max p.1 q.1,min p.2 q.2)::mixB a b)=(decide (max p.1 q.1<=min p.2 q.2)&&okB (mixB a b)):=by simp only [okB,all_cons]
   rw [e3]
   by_cases h1:okB (mixB a b)=true
   ·rw [if_pos h1]
    by_cases h2:max p.1 q.1<=min p.2 q.2
    ·rw [if_pos (by rw [h1];simpa using h2),lettersR]
    ·rw [if_neg (by rw [h1];simpa using h2),di' (by omega)]
     rfl
   ·rw [if_neg h1,if_neg (by simp [h1])]
    simp
theorem kP' {a b:List (Int×Int)} (h:a.length=b.length) (hl:a.length<=1000):cvF cw' [wishD a,wishD b]=some (if okB (mixB a b)=true then wishD (mixB a b) else .non):=by
 refine eh' rfl λKE k1 _=>?_
 rw [em']
 refine ae' ?_;rintro K hK -
 simp [wishD,hV',h]
 refine hK _ ?_
 refine ae' ?_;rintro K hK -
 simp
 refine hK _ ?_
 refine ae' ?_;rintro K hK hR
 simp [eV']
 refine ck' (J:=λi Y=>∃ x3 x4 x5 x6,okB ((mixB a b).take i)=true/\Y=[some (.val (wishD a)),some (.val (wishD b)),some (.own (((mixB a b).take i).map pairD)),x3,x4,x5,x6]) ⟨_,_,_,_,rfl,rfl⟩ ?_ ?_
 ·rintro i d Y hd ⟨x3,x4,x5,x6,ho,rfl⟩ KL aY - - fZ
  rw [getElem?_map,map_eq_some_iff] at hd
  obtain ⟨q,hq,rfl⟩:=hd
  obtain ⟨hi,gI⟩:=List.getElem?_eq_some_iff.mp hq
  have hm:(mixB a b)[i]?=some (max q.1.1 q.2.1,min q.1.2 q.2.2):=by unfold mixB;rw [getElem?_map,hq];rfl
  simp
  refine ae' ?_;rintro K hK -
  simp
  refine hK _ ?_
  refine ae' ?_;rintro K hK -
  simp
  refine hK _ ?_
  refine ae' ?_;rintro K hK io
  simp
  split
  ·rename_i zA
   have:okB (mixB a b)=false:=by
    rw [← Bool.not_eq_true]
    intro gD
    have:=all_eq_true.mp gD _ (mem_of_getElem? hm)
    simp only [decide_eq_true_eq] at this
    omega
   rw [this] at k1
   exact io _ _ (fZ _ _ (hR _ _ (k1 _ ⟨_,rfl⟩)))
  ·rename_i zB
   refine hK _ ?_
   simp [isMut,R.mut]
   have aF:(mixB a b).length=min a.length b.length:=by simp [mixB]
   have eD:(mixB a b).take (i+1)=(mixB a b).take i++[(max q.1.1 q.2.1,min q.1.2 q.2.2)]:=by rw [take_succ,hm];rfl
   refine ⟨by omega,aY _ ⟨some (.val (pairD q.1)),some (.val (pairD q.2)),some (.val (.int (max q.1.1 q.2.1))),some (.val (.int (min q.1.2 q.2.2))),?_,?_⟩⟩
   ·rw [eD]
    unfold okB at ho ⊢
    rw [List.all_append,ho]
    simp only [all_cons,List.all_nil,Bool.and_true,Bool.true_and,decide_eq_true_eq]
    omega
   ·rw [eD,map_append]
    simp [pairD,wishD]
 ·rintro Y ⟨x3,x4,x5,x6,ho,rfl⟩
  refine hK _ ?_
  have aF:(mixB a b).length=(a.zip b).length:=by simp [mixB]
  rw [length_map,← aF,take_length] at ho ⊢
  simp
  rw [if_pos ho] at k1
  exact k1 _ ⟨_,rfl⟩
theorem lB' (p:Int×Int):ltP p p=false:=by simp [ltP]
theorem lC' {p q:Int×Int}:ltP p q=true↔p.1 < q.1\/(p.1=q.1/\p.2 < q.2):=by
 unfold ltP
 by_cases a:p.1=q.1
 ·simp [a]
 ·rw [if_neg (by simpa using a)]
  simp [a]
theorem rn' {p q r:Int×Int} (h1:ltP p q=true) (h2:ltP q r=true):ltP p r=true:=by
 rw [lC'] at *
 omega
theorem lD' (ps:List (Int×Int)):∀ k i,i<=k->btP ps i (PySem.argBest (btP ps) k)=false
 | 0,i,h=>by
  obtain rfl:i=0:=by omega
  exact lB' _
 | k+1,i,h=>by
  have ih:=lD' ps k
  rw [PySem.argBest]
  split
  ·rename_i lt
   rcases lt_or_ge k i with g | g
   ·obtain rfl:i=k+1:=by omega
    exact lB' _
   ·have:=ih i g
    by_cases z:btP ps i (k+1)=true
    ·rw [show btP ps i _=true from rn' z lt] at this;cases this
    ·simpa using z
  ·rename_i qb
   rcases lt_or_ge k i with g | g
   ·obtain rfl:i=k+1:=by omega
    simpa using qb
   ·exact ih i g
theorem nG' {ps:List (Int×Int)} (h:ps≠[]):minP ps∈ps/\∀ q∈ps,ltP q (minP ps)=false:=by
 have pos:0 < ps.length:=length_pos_iff.mpr h
 have low:=gS' (btP ps) (ps.length - 1)
 constructor
 ·unfold minP
  rw [getD_eq_getElem?_getD,getElem?_eq_getElem (by omega)]
  exact getElem_mem _
 ·intro q hq
  obtain ⟨i,hi,rfl⟩:=getElem_of_mem hq
  have:=lD' ps (ps.length - 1) i (by omega)
  unfold btP at this
  rw [getD_eq_getElem?_getD,getElem?_eq_getElem hi] at this
  exact this
noncomputable def leftB (ws:List (List (Int×Int))) (l:List Int):Bool:=ws.all λw=>!hasB w l
noncomputable def firstL (ws:List (List (Int×Int))) (p:List (Int×Int)):Option (List Int):=(lettersR p).find? (leftB ws)
theorem cf' (a b:List (Int×Int)):lettersR (a++b)=(lettersR a).flatMap λl=>(lettersR b).map (l++·):=by
 induction a with
 | nil=>simp [lettersR]
 | cons p a ih =>
  rw [List.cons_append,lettersR,ih,lettersR,List.flatMap_assoc]
  congr 1
  funext n
  simp [List.map_flatMap,List.flatMap_map,comp_def]
theorem dC' {w:List (Int×Int)} (h:okB w=true):∃ t,lettersR w=w.map (·.1)::t:=by
 induction w with
 | nil=>exact ⟨[],rfl⟩
 | cons p w ih =>
  simp only [okB,all_cons,and_eq_true,decide_eq_true_eq] at h
  obtain ⟨t,e⟩:=ih (by simpa [okB] using h.2)
  rw [lettersR,dw' h.1,flatMap_cons,e]
  simp
theorem oQ' {lo a hi:Int} (h1:lo<=a) (h2:a<=hi):rngL lo hi=rngL lo a++rngL (a+1) hi:=by
 obtain ⟨m,hm⟩:∃ m:Nat,(a+1 - lo).toNat=m:=⟨_,rfl⟩
 induction m generalizing lo with
 | zero=>omega
 | succ m ih =>
  rw [dw' (by omega:lo<=hi),dw' h1]
  by_cases z:lo=a
  ·subst z
   rw [di' (by omega:lo < lo+1)]
   rfl
  ·rw [ih (lo:=lo+1) (by omega) (by omega)]
   rfl
theorem fB' {lo a hi:Int}{q:List (Int×Int)} (h1:lo<=a) (h2:a<=hi):lettersR ((lo,hi)::q)=lettersR ((lo,a)::q)++lettersR ((a+1,hi)::q):=by
 simp only [lettersR]
 rw [oQ' h1 h2,List.flatMap_append]
theorem oR' {pre q:List (Int×Int)}{P P':List Int->Bool} (ok:okB pre=true) (h:∀ a∈lettersR pre,∀ x∈lettersR q,P (a++x)=P' x):(lettersR (pre++q)).find? P=((lettersR q).find? P').map (pre.map (·.1)++·):=by
 obtain ⟨t,e⟩:=dC' ok
 rw [cf']
 cases f:(lettersR q).find? P' with
 | none =>
  rw [find?_eq_none] at f
  simp only [Option.map_none,find?_eq_none]
  intro y hy
  rw [mem_flatMap] at hy
  obtain ⟨a,ha,hy⟩:=hy
  rw [mem_map] at hy
  obtain ⟨x,hx,rfl⟩:=hy
  rw [h a ha x hx]
  exact f x hx
 | some x =>
  rw [e,flatMap_cons,List.find?_append,List.find?_map]
  have:(lettersR q).find? (P∘(pre.map (·.1)++·))=(lettersR q).find? P':=by
   have hx:∀ x∈lettersR q,P (pre.map (·.1)++x)=P' x:=λx hx=>h _ (by rw [e];exact mem_cons_self) x hx
   generalize lettersR q=Q at hx
   induction Q with
   | nil=>rfl
   | cons y Q ih =>
    rw [List.find?_cons,List.find?_cons,ih λx gN=>hx x (mem_cons_of_mem _ gN)]
    rw [show (P∘(pre.map (·.1)++·)) y=P' y from hx y mem_cons_self]
  rw [this,f]
  rfl
theorem gA' {a b:List (Int×Int)}{x y:List Int} (h:a.length=x.length):hasB (a++b) (x++y)=(hasB a x&&hasB b y):=by
 unfold hasB
 rw [List.zip_append h,List.all_append]
theorem nH' (a b:List (Int×Int)):mixB a b=mixB b a:=by
 unfold mixB
 induction a generalizing b with
 | nil=>simp
 | cons p a ih =>
  cases b with
  | nil=>simp
  | cons q b =>
   simp only [zip_cons_cons,map_cons]
   rw [ih b,Int.max_comm,Int.min_comm]
theorem oS' {w p:List (Int×Int)} (h:w.length=p.length) (no:okB (mixB w p)=false):∀ l∈lettersR p,hasB w l=false:=by
 have:=g7' h.symm
 rw [nH',no] at this
 simp only [false_eq_true,if_false] at this
 intro l hl
 have:=List.filter_eq_nil_iff.mp this l hl
 simpa using this
theorem lE' {w p:List (Int×Int)} (h:w.length=p.length) (c:covB w p=true):∀ l∈lettersR p,hasB w l=true:=by
 intro l hl
 obtain ⟨h1,h2⟩:=as'.mp hl
 clear hl
 induction w generalizing p l with
 | nil=>simp [hasB]
 | cons a w ih =>
  cases p with
  | nil=>simp at h
  | cons b p =>
   cases l with
   | nil=>simp at h1
   | cons n l =>
    simp only [covB,hasB,zip_cons_cons,all_cons,and_eq_true,decide_eq_true_eq] at c h2 ⊢
    exact ⟨by omega,ih (by simpa using h) c.2 l (by simpa using h1) h2.2⟩
noncomputable def hv1 (p:List (Int×Int)) (f:Nat) (a:Int):List (Int×Int):=p.take f++[((p.getD f (0,0)).1,a)]++p.drop (f+1)
noncomputable def hv2 (p:List (Int×Int)) (f:Nat) (a:Int):List (Int×Int):=p.take f++[(a+1,(p.getD f (0,0)).2)]++p.drop (f+1)
theorem f0' {p:List (Int×Int)}{f:Nat} (hf:f < p.length):p=p.take f++p.getD f (0,0)::p.drop (f+1):=by
 conv=>lhs;rw [← List.take_append_drop f p,drop_eq_getElem_cons hf]
 rw [getD_eq_getElem?_getD,getElem?_eq_getElem hf]
 rfl
theorem nI' {ws:List (List (Int×Int))}{p:List (Int×Int)}{f:Nat}{a:Int} (ok:okB p=true) (hf:f < p.length) (len:∀ w∈ws,w.length=p.length) (h1:(p.getD f (0,0)).1<=a) (h2:a<=(p.getD f (0,0)).2)
  (aL:∀ w∈ws,(∀ l∈lettersR p,hasB w l=false)\/covB (w.take f) (p.take f)=true):firstL ws p=(firstL ws (hv1 p f a)).or (firstL ws (hv2 p f a)):=by
 have yF:okB (p.take f)=true:=all_eq_true.mpr λx hx=>all_eq_true.mp ok x (mem_of_mem_take hx)
 obtain ⟨bs,hb⟩:∃ bs:List (List (Int×Int)),bs=ws.filter λw=>covB (w.take f) (p.take f):=⟨_,rfl⟩
 have aI:∀ x∈lettersR (p.take f),∀ y:List Int,x++y∈lettersR p->leftB ws (x++y)=leftB (bs.map (·.drop f)) y:=by
  intro x hx y hy
  obtain ⟨lx,_⟩:=as'.mp hx
  unfold leftB
  rw [hb]
  clear hb bs
  induction ws with
  | nil=>rfl
  | cons w ws ih =>
   have ih:=ih (λw hw=>len w (mem_cons_of_mem _ hw)) λw hw=>aL w (mem_cons_of_mem _ hw)
   rw [all_cons,ih,filter_cons]
   have lw:=len w mem_cons_self
   have lt:(w.take f).length=(p.take f).length:=by simp [lw]
   by_cases c:covB (w.take f) (p.take f)=true
   ·rw [if_pos c,map_cons,all_cons]
    congr 2
    conv=>lhs;rw [← List.take_append_drop f w]
    rw [gA' (by rw [lx,lt]),lE' lt c x hx]
    rfl
   ·rw [if_neg c]
    rcases aL w mem_cons_self with n | n
    ·rw [n _ hy];rfl
    ·exact absurd n c
 have sub:∀ q:List (Int×Int),(∀ y∈lettersR q,y∈lettersR (p.getD f (0,0)::p.drop (f+1)))->firstL ws (p.take f++q)=((lettersR q).find? (leftB (bs.map (·.drop f)))).map ((p.take f).map (·.1)++·):=by
  intro q hq
  refine oR' yF λx hx y hy=>aI x hx y ?_
  rw [f0' hf,cf',mem_flatMap]
  exact ⟨x,hx,mem_map.mpr ⟨y,hq y hy,rfl⟩⟩
 have cut:=fB' (q:=p.drop (f+1)) h1 h2
 rw [show firstL ws p=firstL ws (p.take f++p.getD f (0,0)::p.drop (f+1)) by rw [← f0' hf],sub _ λy h=>h]
 unfold hv1 hv2
 rw [append_assoc,append_assoc,singleton_append,singleton_append,sub _ λy h=>by rw [show p.getD f (0,0)=((p.getD f (0,0)).1,(p.getD f (0,0)).2) from rfl,cut];exact mem_append_left _ h,
  sub _ λy h=>by rw [show p.getD f (0,0)=((p.getD f (0,0)).1,(p.getD f (0,0)).2) from rfl,cut];exact mem_append_right _ h]
 rw [show p.getD f (0,0)=((p.getD f (0,0)).1,(p.getD f (0,0)).2) from rfl,cut,List.find?_append]
 cases (lettersR (((p.getD f (0,0)).1,a)::p.drop (f+1))).find? (leftB (bs.map (·.drop f)))<;>rfl
theorem nJ' {p:List (Int×Int)}{f:Nat}{a:Int} (hf:f < p.length) (hl:p.length<=1000):cvF cx' [wishD p,.int f,.int a]=some (.tup [wishD (hv1 p f a),wishD (hv2 p f a)]):=by
 obtain ⟨pr,hp⟩:∃ pr,p[f]?=some pr:=⟨_,getElem?_eq_getElem hf⟩
 have e0:p.getD f (0,0)=pr:=by rw [getD_eq_getElem?_getD,hp];rfl
 have e1:atI (p.map pairD) (f:Int)=some (pairD pr):=by rw [DL.g2'];simp [hp]
 have e2:slF (.tup (p.map pairD)) none (some (f:Int))=some (.tup ((p.map pairD).take f)):=lx' (by simpa using hf)
 have e3:slF (.tup (p.map pairD)) (some ((f:Int)+1)) none=some (.tup ((p.map pairD).drop (f+1))):=ly' (n:=f+1) (by simp;omega) (by omega)
 refine eh' rfl λKE k1 _=>?_
 rw [en']
 refine ae' ?_;rintro K hK -
 simp [wishD,e2]
 refine hK _ ?_
 refine ae' ?_;rintro K hK -
 simp [e3]
 refine hK _ ?_
 refine ae' ?_;rintro K hK -
 simp [e1]
 refine hK _ ?_
 refine ae' ?_;rintro K hK -
 simp [e1]
 refine hK _ ?_
 simp
 refine ⟨by omega,by omega,by omega,by omega,?_⟩
 have k3:=k1 [some (.val (wishD p)),some (.val (.int f)),some (.val (.int a)),some (.val (.tup (List.take f (map pairD p)))),some (.val (.tup (List.drop (f+1) (map pairD p)))),some (.val (.int pr.1)),some (.val (.int pr.2))] ⟨_,rfl⟩
 simpa [wishD,hv1,hv2,e0,pairD,hp,map_take,map_drop] using k3
noncomputable def bdL (g:Nat) (pr wr:Int×Int):List (Int×Int):=(if pr.1 < wr.1 then [((g:Int),wr.1 - 1)] else [])++if wr.2 < pr.2 then [((g:Int),wr.2)] else []
noncomputable def bdsL (ws:List (List (Int×Int))) (p:List (Int×Int)) (g:Nat):List (Int×Int):=ws.flatMap λw=>bdL g (p.getD g (0,0)) (w.getD g (0,0))
noncomputable def bordersL (ws:List (List (Int×Int))) (p:List (Int×Int)):List (Int×Int):=(range p.length).flatMap (bdsL ws p)
theorem hW' {α Z:Type}{f:α->List Z}{m:Nat}{xs:List α} (h:∀ x∈xs,(f x).length<=m):(xs.flatMap f).length<=xs.length*m:=by
 induction xs with
 | nil=>simp
 | cons x xs ih =>
  have h1:=h x mem_cons_self
  have h2:=ih λx hx=>h x (mem_cons_of_mem _ hx)
  rw [flatMap_cons,length_append,length_cons,Nat.succ_mul]
  omega
theorem nK' {g:Nat}{pr wr:Int×Int}:(bdL g pr wr).length<=2:=by
 unfold bdL
 split<;>split<;>simp
theorem p5' {L:List (Int×Int)}:prsD (L.map pairD)=some L:=by
 induction L with
 | nil=>rfl
 | cons x L ih=>simp only [map_cons,pairD,prsD] at ih ⊢;rw [ih]
theorem p6' {L:List (Int×Int)} (h:L≠[]):minlF [.lst (L.map pairD)]=some (pairD (minP L)):=by
 cases L with
 | nil=>exact absurd rfl h
 | cons x L=>unfold minlF;simp only;rw [p5'];rfl
theorem lF' {w:List (Int×Int)}{g:Nat} (h:g < w.length):atI (w.map pairD) (g:Int)=some (pairD (w.getD g (0,0))):=by
 rw [DL.g2',getD_eq_getElem?_getD];simp [h]
theorem nL' {ws:List (List (Int×Int))}{p:List (Int×Int)} (hw:∀ w∈ws,w.length=p.length) (hp:p.length<=100) (hl:ws.length<=100) (ne:bordersL ws p≠[]):cvF bJ' [.lst (ws.map wishD),wishD p]=some (pairD (minP (bordersL ws p))):=by
 refine eh' rfl λKE k1 _=>?_
 rw [df']
 refine ae' ?_;rintro K hK -
 simp
 refine hK _ ?_
 refine ae' ?_;rintro K hK -
 simp [wishD]
 have eT:∀ i,i<=100->((range i).flatMap (bdsL ws p)).length<=20000:=λi hi=>by
  refine le_trans (hW' (m:=200) λg _=>le_trans (hW' (m:=2) λw _=>nK') (by omega)) ?_
  simp
  omega
 refine ck' (J:=λi Y=>∃ x3 x4 x5,Y=[some (.val (.lst (ws.map wishD))),some (.val (wishD p)),some (.own (((range i).flatMap (bdsL ws p)).map pairD)),x3,x4,x5]) ⟨_,_,_,rfl⟩ ?_ ?_
 ·rintro i d Y hd ⟨x3,x4,x5,rfl⟩ KL aY - - -
  obtain ⟨x,e1,rfl⟩:=dV' hd
  rw [getElem?_map,map_eq_some_iff] at e1
  obtain ⟨pr,e1,rfl⟩:=e1
  have hi:i < p.length:=(List.getElem?_eq_some_iff.mp e1).1
  have yG:p.getD i (0,0)=pr:=by rw [getD_eq_getElem?_getD,e1];rfl
  simp
  refine ck' (J:=λj Y=>∃ x5,Y=[some (.val (.lst (ws.map wishD))),some (.val (wishD p)),some (.own (((range i).flatMap (bdsL ws p)++(ws.take j).flatMap λw=>bdL i pr (w.getD i (0,0))).map pairD)),some (.val (.int i)),some (.val (pairD pr)),x5]) ⟨x5,by simp⟩ ?_ ?_
  ·rintro j d Y hd ⟨x5,rfl⟩ KL aY - - -
   rw [getElem?_map,map_eq_some_iff] at hd
   obtain ⟨w,uN,rfl⟩:=hd
   have jm:=hw w (mem_of_getElem? uN)
   have eD:ws.take (j+1)=ws.take j++[w]:=by rw [take_succ,uN];rfl
   have aw:=lF' (w:=w) (g:=i) (by omega)
   obtain ⟨wr,uO⟩:∃ wr,w.getD i (0,0)=wr:=⟨_,rfl⟩
   rw [uO] at aw
   have ir:(((range i).flatMap (bdsL ws p))++(ws.take j).flatMap λw=>bdL i pr (w.getD i (0,0))).length<=30000:=by
    have b1:=eT i (by omega)
    have b2:((ws.take j).flatMap λw=>bdL i pr (w.getD i (0,0))).length<=200:=le_trans (hW' (m:=2) λw _=>nK') (by simp;omega)
    rw [length_append]
    omega
   rw [eD,List.flatMap_append] at aY
   simp only [flatMap_cons,List.flatMap_nil,append_nil,uO] at aY
   generalize ((range i).flatMap (bdsL ws p))=A at aY ir ⊢
   generalize ((ws.take j).flatMap λw=>bdL i pr (w.getD i (0,0)))=C at aY ir ⊢
   have y3:A.length+C.length<=30000:=by simpa using ir
   simp
   refine a4' (λY=>Y=[some (.val (.lst (ws.map wishD))),some (.val (wishD p)),some (.own ((A++C++if pr.1 < wr.1 then [((i:Int),wr.1 - 1)] else []).map pairD)),some (.val (.int i)),some (.val (pairD pr)),some (.val (wishD w))]) ?_ ?_
   ·rintro K hK -
    simp [isMut,R.mut,wishD,aw]
    split
    ·rename_i h
     refine ⟨by omega,hK _ ?_⟩
     simp [wishD,pairD,h]
    ·rename_i h
     refine hK _ ?_
     rw [if_neg h]
     simp [wishD]
   ·rintro Y rfl
    simp [isMut,R.mut,wishD,aw]
    split
    ·rename_i h
     refine ⟨by split<;>simp<;>omega,aY _ ⟨some (.val (wishD w)),?_⟩⟩
     unfold bdL
     rw [if_pos h]
     simp [wishD,pairD]
    ·rename_i h
     refine aY _ ⟨some (.val (wishD w)),?_⟩
     unfold bdL
     rw [if_neg h]
     simp [wishD]
  ·rintro Y ⟨x5,rfl⟩
   refine aY _ ⟨some (.val (.int i)),some (.val (pairD pr)),x5,?_⟩
   rw [length_map,take_length,List.range_succ,List.flatMap_append]
   simp [bdsL,yG,e1]
 ·rintro Y ⟨x3,x4,x5,rfl⟩
  refine hK _ ?_
  have hn:∀ ds:List D,(numD 0 ds).length=ds.length:=by
   have:∀ (ds:List D) m,(numD m ds).length=ds.length:=λds=>by
    induction ds with
    | nil=>intro m;rfl
    | cons d ds ih=>intro m;simp [numD,ih]
   exact λds=>this ds 0
  rw [hn,length_map]
  have:=p6' ne
  unfold bordersL at this k1
  simp [this]
  exact k1 _ ⟨_,rfl⟩
theorem cr' {g:Nat}{pr wr x:Int×Int}:x∈bdL g pr wr↔(pr.1 < wr.1/\x=((g:Int),wr.1 - 1))\/(wr.2 < pr.2/\x=((g:Int),wr.2)):=by
 unfold bdL
 rw [mem_append]
 constructor
 ·rintro (h | h)
  ·split at h
   ·exact .inl ⟨‹_›,by simpa using h⟩
   ·simp at h
  ·split at h
   ·exact .inr ⟨‹_›,by simpa using h⟩
   ·simp at h
 ·rintro (⟨h,rfl⟩ | ⟨h,rfl⟩)
  ·exact .inl (by rw [if_pos h];simp)
  ·exact .inr (by rw [if_pos h];simp)
theorem eu' {ws:List (List (Int×Int))}{p:List (Int×Int)}{x:Int×Int}:x∈bordersL ws p↔∃ g,g < p.length/\∃ w∈ws,x∈bdL g (p.getD g (0,0)) (w.getD g (0,0)):=by
 unfold bordersL bdsL
 simp only [mem_flatMap,mem_range]
theorem hX' {p:List (Int×Int)}{g:Nat} (h:g < p.length):p[g]?=some (p.getD g (0,0)):=by
 rw [getD_eq_getElem?_getD,getElem?_eq_getElem h];rfl
theorem ro' {w p:List (Int×Int)} (h:w.length=p.length) (ok:okB (mixB w p)=true){g:Nat} (hg:g < p.length):max (w.getD g (0,0)).1 (p.getD g (0,0)).1<=min (w.getD g (0,0)).2 (p.getD g (0,0)).2:=by
 have e:(mixB w p)[g]?=some (max (w.getD g (0,0)).1 (p.getD g (0,0)).1,min (w.getD g (0,0)).2 (p.getD g (0,0)).2):=by
  unfold mixB
  rw [getElem?_map,List.getElem?_zip_eq_some (z:=(w.getD g (0,0),p.getD g (0,0))) |>.mpr ⟨hX' (by omega),hX' hg⟩]
  rfl
 have:=all_eq_true.mp ok _ (mem_of_getElem? e)
 simpa using this
theorem lG' {w p:List (Int×Int)} (h:w.length=p.length) (k:∀ g,g < p.length->(w.getD g (0,0)).1<=(p.getD g (0,0)).1/\(p.getD g (0,0)).2<=(w.getD g (0,0)).2):covB w p=true:=by
 unfold covB
 rw [all_eq_true]
 intro q hq
 obtain ⟨i,hi,rfl⟩:=getElem_of_mem hq
 rw [length_zip] at hi
 have:=k i (by omega)
 rw [List.getElem_zip]
 rw [getD_eq_getElem?_getD,getD_eq_getElem?_getD,getElem?_eq_getElem (by omega),getElem?_eq_getElem (by omega)] at this
 simpa using this
theorem rp' {ws:List (List (Int×Int))}{p:List (Int×Int)} (len:∀ w∈ws,w.length=p.length) (ne:ws≠[]) (yH:∀ w∈ws,okB (mixB w p)=true) (no:∀ w∈ws,covB w p=false) :
  bordersL ws p≠[]/\∃ (f:Nat) (a:Int),minP (bordersL ws p)=((f:Int),a)/\f < p.length/\(p.getD f (0,0)).1<=a/\a < (p.getD f (0,0)).2/\∀ w∈ws,covB (w.take f) (p.take f)=true:=by
 have one:bordersL ws p≠[]:=by
  obtain ⟨w,hw⟩:=List.exists_mem_of_ne_nil ws ne
  intro yI
  have c:=lG' (len w hw) λg hg=>by
   have h0:=λx hx=>(eu' (ws:=ws) (p:=p) (x:=x)).mpr ⟨g,hg,w,hw,hx⟩
   rw [yI] at h0
   refine ⟨Int.not_lt.mp λlt=>?_,Int.not_lt.mp λlt=>?_⟩
   ·exact absurd (h0 _ (cr'.mpr (.inl ⟨lt,rfl⟩))) not_mem_nil
   ·exact absurd (h0 _ (cr'.mpr (.inr ⟨lt,rfl⟩))) not_mem_nil
  rw [no w hw] at c
  cases c
 refine ⟨one,?_⟩
 obtain ⟨m1,m2⟩:=nG' one
 generalize minP (bordersL ws p)=m at m1 m2
 obtain ⟨f,hf,w,hw,hm⟩:=eu'.mp m1
 have mx:=ro' (len w hw) (yH w hw) hf
 refine ⟨f,m.2,?_,hf,?_⟩
 ·rcases cr'.mp hm with ⟨_,rfl⟩ | ⟨_,rfl⟩<;>rfl
 ·have zC:m.1=f:=by rcases cr'.mp hm with ⟨_,rfl⟩ | ⟨_,rfl⟩<;>rfl
  refine ⟨?_,?_,λv hv=>?_⟩
  ·rcases cr'.mp hm with ⟨h,rfl⟩ | ⟨h,rfl⟩<;>(dsimp only;omega)
  ·rcases cr'.mp hm with ⟨h,rfl⟩ | ⟨h,rfl⟩<;>(dsimp only;omega)
  ·refine lG' (by simp [len v hv]) λg hg=>?_
   rw [length_take] at hg
   have e:∀ u:List (Int×Int),(u.take f).getD g (0,0)=u.getD g (0,0):=λu=>by
    rw [getD_eq_getElem?_getD,getD_eq_getElem?_getD,List.getElem?_take_of_lt (by omega)]
   rw [e,e]
   have eO:∀ x,x∈bdL g (p.getD g (0,0)) (v.getD g (0,0))->False:=λx hx=>by
    have:=m2 x (eu'.mpr ⟨g,by omega,v,hv,hx⟩)
    have x1:x.1=g:=by rcases cr'.mp hx with ⟨_,rfl⟩ | ⟨_,rfl⟩<;>rfl
    have:¬ ltP x m=true:=by rw [this];simp
    rw [lC'] at this
    omega
   exact ⟨Int.not_lt.mp λlt=>eO _ (cr'.mpr (.inl ⟨lt,rfl⟩)),Int.not_lt.mp λlt=>eO _ (cr'.mpr (.inr ⟨lt,rfl⟩))⟩
inductive Tr where
 | byK (k:Nat)
 | cut (f:Nat) (a:Int) (l r:Tr)
noncomputable def trD:Tr->D
 | .byK k=>.tup [.str "by", .int k]
 | .cut f a l r=>.tup [.str "cut", .int f,.int a,trD l,trD r]
noncomputable def Tr.deep:Tr->Nat
 | .byK _=>0
 | .cut _ _ l r=>max l.deep r.deep+1
def GoodT (ws:List (List (Int×Int))):Tr->List (Int×Int)->Prop
 | .byK k,p=>∃ w,ws[k]?=some w/\covB w p=true
 | .cut f a l r,p=>f < p.length/\(p.getD f (0,0)).1<=a/\a < (p.getD f (0,0)).2/\GoodT ws l (hv1 p f a)/\GoodT ws r (hv2 p f a)
def RightD (ws:List (List (Int×Int))) (p:List (Int×Int)) (m:Nat) (d:D):Prop:=(∃ l,firstL ws p=some l/\d=.tup [.str "out", letD l])\/∃ t,firstL ws p=none/\GoodT ws t p/\t.deep<=m/\d=.tup [.str "in", trD t]
noncomputable def sizeP (p:List (Int×Int)):Nat:=(p.map λq=>(q.2 - q.1).toNat).sum
theorem nM' {p:List (Int×Int)}{f:Nat}{a:Int} (hf:f < p.length) (h1:(p.getD f (0,0)).1<=a) (h2:a < (p.getD f (0,0)).2):sizeP (hv1 p f a) < sizeP p/\sizeP (hv2 p f a) < sizeP p:=by
 have e:=f0' hf
 generalize p.getD f (0,0)=pr at *
 have s:sizeP p=sizeP (p.take f)+((pr.2 - pr.1).toNat+sizeP (p.drop (f+1))):=by
  conv=>lhs;rw [e]
  simp [sizeP]
 unfold hv1 hv2
 rw [s]
 have e1:p.getD f (0,0)=pr:=by
  conv=>lhs;rw [e]
  rw [getD_eq_getElem?_getD,getElem?_append_right (by simp;omega)]
  simp [Nat.min_eq_left (le_of_lt hf)]
 rw [e1]
 simp [sizeP]
 omega
theorem Wf.cut {n:Nat}{p:List (Int×Int)}{f:Nat}{a:Int} (hp:Wf n p) (hf:f < p.length) (h1:(p.getD f (0,0)).1<=a) (h2:a < (p.getD f (0,0)).2):Wf n (hv1 p f a)/\Wf n (hv2 p f a):=by
 have pr:PairOk (p.getD f (0,0)):=hp.all _ (mem_of_getElem? (hX' hf))
 have:=pr.lo;have:=pr.hi;have:=hp.len
 constructor
 ·refine ⟨by simp [hv1];omega,λq hq=>?_⟩
  unfold hv1 at hq
  rw [mem_append,mem_append,mem_singleton] at hq
  rcases hq with (h | rfl) | h
  ·exact hp.all q (mem_of_mem_take h)
  ·exact ⟨pr.lo,h1,by dsimp only;omega⟩
  ·exact hp.all q (mem_of_mem_drop h)
 ·refine ⟨by simp [hv2];omega,λq hq=>?_⟩
  unfold hv2 at hq
  rw [mem_append,mem_append,mem_singleton] at hq
  rcases hq with (h | rfl) | h
  ·exact hp.all q (mem_of_mem_take h)
  ·exact ⟨by dsimp only;omega,by dsimp only;omega,pr.hi⟩
  ·exact hp.all q (mem_of_mem_drop h)
theorem Wf.ok {n:Nat}{p:List (Int×Int)} (hp:Wf n p):okB p=true:=all_eq_true.mpr λq hq=>by simpa using (hp.all q hq).le
theorem kQ' {p:List (Int×Int)}{f:Nat}{a:Int} (hf:f < p.length) (h1:(p.getD f (0,0)).1<=a) (h2:a < (p.getD f (0,0)).2):∀ l,l∈lettersR (hv1 p f a)\/l∈lettersR (hv2 p f a)->l∈lettersR p:=by
 intro l hl
 have cut:=fB' (q:=p.drop (f+1)) h1 (Int.le_of_lt h2)
 rw [show lettersR p=lettersR (p.take f++p.getD f (0,0)::p.drop (f+1)) by rw [← f0' hf],cf',mem_flatMap]
 rw [show p.getD f (0,0)=((p.getD f (0,0)).1,(p.getD f (0,0)).2) from rfl,cut]
 rcases hl with hl | hl
 ·unfold hv1 at hl
  rw [append_assoc,singleton_append,cf',mem_flatMap] at hl
  obtain ⟨x,hx,hl⟩:=hl
  obtain ⟨y,hy,rfl⟩:=mem_map.mp hl
  exact ⟨x,hx,mem_map.mpr ⟨y,mem_append_left _ hy,rfl⟩⟩
 ·unfold hv2 at hl
  rw [append_assoc,singleton_append,cf',mem_flatMap] at hl
  obtain ⟨x,hx,hl⟩:=hl
  obtain ⟨y,hy,rfl⟩:=mem_map.mp hl
  exact ⟨x,hx,mem_map.mpr ⟨y,mem_append_right _ hy,rfl⟩⟩
noncomputable def wAt (ws:List (List (Int×Int))) (k:Nat):List (Int×Int):=ws.getD k []
theorem fC' {ws:List (List (Int×Int))}{k:Nat} (h:k < ws.length):wAt ws k=ws[k]:=by
 unfold wAt
 rw [getD_eq_getElem?_getD,getElem?_eq_getElem h];rfl
theorem mo' {ws:List (List (Int×Int))}{k:Nat} (h:k < ws.length):atI (ws.map wishD) (k:Int)=some (wishD (wAt ws k)):=by
 rw [DL.g2',fC' h];simp [h]
theorem nN' {ws:List (List (Int×Int))}{k:Nat} (h:k < ws.length):wAt ws k∈ws:=by
 rw [fC' h];exact getElem_mem _
theorem iy' {n:Nat}{ws:List (List (Int×Int))} (hw:∀ w∈ws,Wf n w) (hl:ws.length<=100) (hn:n<=100):∀ (m:Nat) (ks:List Nat) (p:List (Int×Int)),Wf n p->sizeP p < m->(∀ k∈ks,k < ws.length)->ks.length<=100 →
  (∀ k,k < ws.length->k∉ks->∀ l∈lettersR p,hasB (wAt ws k) l=false)->∃ d,cvF (a0' m) [.lst (ws.map wishD),.lst (ks.map λk:Nat=>.int k),wishD p]=some d/\RightD ws p (sizeP p) d
 | 0,ks,p,hp,hs,_,_,_=>absurd hs (not_lt_zero _)
 | m+1,ks,p,hp,hs,hk,hkl,eO=>by
  have ih:=iy' hw hl hn m
  have cu:∀ k,k < ws.length->(wAt ws k).length=p.length:=λk h=>by rw [(hw _ (nN' h)).len,hp.len]
  have uP:p.length<=100:=by rw [hp.len];exact hn
  have aI:wpF (a0' (m+1)) [.val (.lst (ws.map wishD)),.val (.lst (ks.map λk:Nat=>.int k)),.val (wishD p)] λr _=>∃ d,r=.val d/\RightD ws p (sizeP p) d:=by
   rw [a0']
   refine bf' rfl λKE hE _=>?_
   rw [bQ']
   refine ae' ?_;rintro K hK -
   simp
   refine aZ' ks (λk:Nat=>.int k) (λk=>okB (mixB (wAt ws k) p)) (λk:Nat=>.int k) ?_
   simp
   refine ⟨by omega,λk iu=>?_,hK _ ?_⟩
   ·have e1:=mo' (hk k iu)
    have e2:=kP' (cu k (hk k iu)) (by rw [cu k (hk k iu)];omega)
    simp [e1,e2]
    split<;>simp [isN,wishD, *]
   ·clear hK
    obtain ⟨aL,dN⟩:∃ aL,aL=ks.filter λk=>okB (mixB (wAt ws k) p):=⟨_,rfl⟩
    rw [← dN]
    have bS:∀ k,k∈aL↔k∈ks/\okB (mixB (wAt ws k) p)=true:=λk=>by rw [dN,mem_filter]
    have fy:aL.length<=100:=by rw [dN];exact le_trans (length_filter_le _ _) hkl
    have fI:∀ k,k < ws.length->k∉aL->∀ l∈lettersR p,hasB (wAt ws k) l=false:=λk h1 h2=>by
     by_cases h3:k∈ks
     ·refine oS' (cu k h1) ?_
      rw [bS] at h2
      simpa [h3] using h2
     ·exact eO k h1 h3
    clear dN
    refine ae' ?_;rintro K hK hR
    simp
    split
    ·-- nothing is aL
     rename_i h0
     have h0:aL=[]:=by simpa using h0
     simp [wishD]
     refine aZ' p pairD (λ_=>true) (λq=>.int q.1) ?_
     simp
     refine ⟨by omega,hR _ _ (hE _ _ ⟨_,rfl,_,rfl,.inl ⟨p.map (·.1),?_,?_⟩⟩)⟩
     ·obtain ⟨t,e⟩:=dC' hp.ok
      unfold firstL
      rw [e,List.find?_cons_of_pos]
      unfold leftB
      rw [all_eq_true]
      intro w jm
      obtain ⟨k,h1,rfl⟩:=getElem_of_mem jm
      have:=fI k h1 (by rw [h0];simp) (p.map (·.1)) (by rw [e];exact mem_cons_self)
      rw [fC' h1] at this
      simpa using this
     ·simp [letD,comp_def]
    ·rename_i h0
     refine hK _ ?_
     have h0:aL≠[]:=by simpa using h0
     refine ae' ?_;rintro K hK hR
     simp
     refine ck' (J:=λi Y=>∃ x4,(∀ k∈aL.take i,covB (wAt ws k) p=false)/\Y=[some (.val (.lst (ws.map wishD))),some (.val (.lst (ks.map λk:Nat=>.int k))),some (.val (wishD p)),some (.val (.lst (aL.map λk:Nat=>.int k))),x4,none,none,none,none]) ⟨none,by simp,rfl⟩ ?_ ?_
     ·rintro i d Y hd ⟨x4,hc,rfl⟩ KL aY - - fZ
      rw [getElem?_map,map_eq_some_iff] at hd
      obtain ⟨k,uQ,rfl⟩:=hd
      have jo:=(bS k).mp (mem_of_getElem? uQ)
      have de:=hk k jo.1
      have e1:=mo' de
      have e2:=ix' (cu k de) (by rw [cu k de];omega)
      have eD:aL.take (i+1)=aL.take i++[k]:=by rw [take_succ,uQ];rfl
      simp [e1,e2]
      split
      ·rename_i dj
       have dj:covB (wAt ws k) p=true:=by simpa using dj
       refine fZ _ _ (hR _ _ (hE _ _ ⟨_,rfl,_,rfl,.inr ⟨.byK k,?_,⟨wAt ws k,?_,dj⟩,zero_le _,?_⟩⟩))
       ·unfold firstL
        rw [find?_eq_none]
        intro l yJ
        unfold leftB
        intro all
        have:=all_eq_true.mp all _ (nN' de)
        rw [lE' (cu k de) dj l yJ] at this
        cases this
       ·rw [fC' de,getElem?_eq_getElem de]
       ·rw [trD]
      ·rename_i dj
       refine aY _ ⟨_,λk' bx=>?_,rfl⟩
       rw [eD] at bx
       rcases mem_append.mp bx with h | h
       ·exact hc k' h
       ·rw [mem_singleton.mp h]
        simpa using dj
     ·rintro Y ⟨x4,hc,rfl⟩
      refine hK _ ?_
      rw [length_map,take_length] at hc
      obtain ⟨gf,ez⟩:∃ gf,gf=aL.map λk=>wAt ws k:=⟨_,rfl⟩
      have jp:∀ w∈gf,∃ k,k∈aL/\k < ws.length/\w=wAt ws k:=λw h=>by
       rw [ez,mem_map] at h
       obtain ⟨k,h1,rfl⟩:=h
       exact ⟨k,h1,hk k ((bS k).mp h1).1,rfl⟩
      obtain ⟨bne,f,a,em,hf,h1,h2,jq⟩:=rp' (ws:=gf) (p:=p) (λw h=>by obtain ⟨k,_,bx,rfl⟩:=jp w h;exact cu k bx) (by rw [ez];simpa using h0)
       (λw h=>by obtain ⟨k,bx,_,rfl⟩:=jp w h;exact ((bS k).mp bx).2) (λw h=>by obtain ⟨k,bx,_,rfl⟩:=jp w h;exact hc k bx)
      have bo:=nL' (ws:=gf) (p:=p) (λw h=>by obtain ⟨k,_,bx,rfl⟩:=jp w h;exact cu k bx) uP (by rw [ez];simpa using fy) bne
      rw [em] at bo
      have ha:=nJ' (p:=p) (a:=a) hf (by omega)
      obtain ⟨w1,w2⟩:=hp.cut hf h1 h2
      obtain ⟨z1,z2⟩:=nM' hf h1 h2
      have sub:=kQ' hf h1 h2
      have first:firstL ws p=(firstL ws (hv1 p f a)).or (firstL ws (hv2 p f a)):=nI' hp.ok hf (λw h=>by rw [(hw w h).len,hp.len]) h1 (Int.le_of_lt h2) λw h=>by
       obtain ⟨k,de,rfl⟩:=getElem_of_mem h
       have eg:wAt ws k=ws[k]:=fC' de
       by_cases jo:k∈aL
       ·exact .inr (jq _ (by rw [ez,mem_map];exact ⟨k,jo,eg⟩))
       ·have:=fI k de jo
        rw [eg] at this
        exact .inl this
      obtain ⟨d1,e1,r1⟩:=ih aL (hv1 p f a) w1 (by omega) (λk h=>hk k ((bS k).mp h).1) fy λk h1 h2 l hl=>fI k h1 h2 l (sub l (.inl hl))
      obtain ⟨d2,e2,r2⟩:=ih aL (hv2 p f a) w2 (by omega) (λk h=>hk k ((bS k).mp h).1) fy λk h1 h2 l hl=>fI k h1 h2 l (sub l (.inr hl))
      refine ae' ?_;rintro K hK -
      simp
      refine aZ' aL (λk:Nat=>.int k) (λ_=>true) (λk:Nat=>wishD (wAt ws k)) ?_
      simp
      refine ⟨by omega,λk iu=>?_,?_⟩
      ·have e1:=mo' (hk k ((bS k).mp iu).1)
       simp [e1]
      ·have ew:(aL.map λk=>wishD (wAt ws k))=gf.map wishD:=by rw [ez];simp
       rw [ew]
       simp [bo]
       refine hK _ ?_
       refine ae' ?_;rintro K hK -
       simp [ha]
       refine hK _ ?_
       refine ae' ?_;rintro K hK -
       simp [e1]
       refine hK _ ?_
       rcases r1 with ⟨l1,f1,rfl⟩ | ⟨t1,f1,g1,zD,rfl⟩
       ·refine ae' ?_;rintro K hK io
        simp
        exact io _ _ (hE _ _ ⟨_,rfl,_,rfl,.inl ⟨l1,by rw [first,f1];rfl,rfl⟩⟩)
       ·refine ae' ?_;rintro K hK -
        simp
        refine hK _ ?_
        refine ae' ?_;rintro K hK -
        simp [e2]
        refine hK _ ?_
        rcases r2 with ⟨l2,f2,rfl⟩ | ⟨t2,f2,g2,zE,rfl⟩
        ·refine ae' ?_;rintro K hK io
         simp
         exact io _ _ (hE _ _ ⟨_,rfl,_,rfl,.inl ⟨l2,by rw [first,f1,f2];rfl,rfl⟩⟩)
        ·refine ae' ?_;rintro K hK -
         simp
         refine hK _ ?_
         simp
         refine hE _ _ ⟨_,rfl,_,rfl,.inr ⟨.cut f a t1 t2,by rw [first,f1,f2];rfl,⟨hf,h1,h2,g1,g2⟩,?_,by rw [trD]⟩⟩
         rw [Tr.deep]
         omega
  obtain ⟨r,aR,e,d,rfl,hR⟩:=aI
  exact ⟨d,by unfold cvF;simp only [map];rw [e],hR⟩
theorem g8' {n:Nat}{ws:List (List (Int×Int))}{p:List (Int×Int)} (hw:∀ w∈ws,Wf n w) (hl:ws.length<=100) (hn:n<=3) (hp:Wf n p):∃ d,cvF a5' [.lst (ws.map wishD),wishD p]=some d/\RightD ws p 27 d:=by
 have sz:sizeP p<=27:=by
  unfold sizeP
  refine le_trans (rm' (m:=9) λx hx=>?_) ?_
  ·obtain ⟨q,hq,rfl⟩:=mem_map.mp hx
   have:=(hp.all q hq).lo;have:=(hp.all q hq).hi
   omega
  ·rw [length_map,hp.len]
   omega
 obtain ⟨d,e,r⟩:=iy' hw hl (by omega) 40 (range ws.length) p hp (by omega) (λk h=>mem_range.mp h) (by simpa using hl) λk h1 h2=>absurd (mem_range.mpr h1) h2
 refine ⟨d,?_,?_⟩
 ·refine eh' rfl λKE k1 _=>?_
  rw [fz']
  refine ae' ?_;rintro K hK -
  have kin:cvF aq' [.lst (wishD p::ws.map wishD)]=some .non:=g6' (n:=n) λd hd=>by
   rcases mem_cons.mp hd with rfl | h
   ·exact ⟨p.map pairD,rfl,by simp [hp.len]⟩
   ·obtain ⟨w,jm,rfl⟩:=mem_map.mp h
    exact ⟨w.map pairD,rfl,by simp [(hw w jm).len]⟩
  simp [kin]
  refine ⟨by omega,hK _ ?_⟩
  have er:rngD 0 ws.length=(range ws.length).map λk:Nat=>D.int k:=by simp [rngD]
  simp [er,e]
  exact ⟨by omega,k1 _ ⟨_,rfl⟩⟩
 ·rcases r with r | ⟨t,r1,r2,r3,r4⟩
  ·exact .inl r
  ·exact .inr ⟨t,r1,r2,by omega,r4⟩
theorem iz':∀ (a b:List (Int×Int)),deqA (a.map pairD) (b.map pairD)=decide (a=b)
 | [],[]=>by simp [deqA]
 | [],q::b=>by simp [deqA]
 | p::a,[]=>by simp [deqA]
 | p::a,q::b=>by
  rw [map_cons,map_cons,deqA,iz' a b]
  simp [pairD,deq,deqA,Prod.ext_iff]
  by_cases h1:p.1=q.1<;>by_cases h2:p.2=q.2<;>by_cases h3:a=b<;>simp [h1,h2,h3]
theorem dj' (a b:List (Int×Int)):deq (wishD a) (wishD b)=decide (a=b):=by
 unfold wishD
 rw [deq]
 exact iz' a b
theorem fD' {a b:List (Int×Int)} (h:wishD a=wishD b):a=b:=by
 have:=dj' a b
 rw [h,DL.gi'] at this
 simpa using this.symm
theorem j7':∀ (a b:List (Int×Int)),cmA (a.map pairD) (b.map pairD)=true
 | [],[]=>by simp [cmA]
 | [],q::b=>by simp [cmA]
 | p::a,[]=>by simp [cmA]
 | p::a,q::b=>by
  rw [map_cons,map_cons,cmA,j7' a b]
  simp [pairD,cmB,cmA]
theorem lH' (a b:List (Int×Int)):cmB (wishD a) (wishD b)=true:=by
 unfold wishD
 rw [cmB]
 exact j7' a b
theorem iA' (ws:List (List (Int×Int))):cmAll (ws.map wishD)=true:=by
 unfold cmAll
 rw [all_eq_true]
 intro a ha
 rw [all_eq_true]
 intro b hb
 obtain ⟨x,_,rfl⟩:=mem_map.mp ha
 obtain ⟨y,_,rfl⟩:=mem_map.mp hb
 exact lH' x y
theorem j8':∀ a:List (Int×Int),kyA (a.map pairD)=true
 | []=>by simp [kyA]
 | p::a=>by
  rw [map_cons,kyA,j8' a]
  simp [pairD,kyB,kyA]
theorem f1' {f:D->Bool}{ws:List (List (Int×Int))} (h:∀ w∈ws,f (wishD w)=true):(ws.map wishD).all f=true:=by
 rw [all_eq_true]
 intro d hd
 obtain ⟨w,hw,rfl⟩:=mem_map.mp hd
 exact h w hw
theorem j9' {n:Nat}{w:List (Int×Int)} (hw:Wf n w) (h:1<=n):fstT (wishD w)=true:=by
 have:=hw.len
 cases w with
 | nil=>simp at this;omega
 | cons p w=>rfl
theorem ka' (ws:List (List (Int×Int))):depA (ws.map wishD)<=2:=g5' λd hd=>by
 obtain ⟨w,_,rfl⟩:=mem_map.mp hd
 exact d2'
theorem pull {ws:List (List (Int×Int))}:∀ (l:List D),(∀ d∈l,∃ w∈ws,d=wishD w)->∃ us:List (List (Int×Int)),l=us.map wishD/\∀ u∈us,u∈ws
 | [],_=>⟨[],rfl,λu hu=>by cases hu⟩
 | d::l,h=>by
  obtain ⟨us,e,m⟩:=pull l λd hd=>h d (mem_cons_of_mem _ hd)
  obtain ⟨w,hw,rfl⟩:=h d mem_cons_self
  refine ⟨w::us,by rw [e];rfl,λu hu=>?_⟩
  rcases mem_cons.mp hu with rfl | hu
  ·exact hw
  ·exact m u hu
theorem cA' {us:List (List (Int×Int))}{w:List (Int×Int)}:wishD w∈us.map wishD↔w∈us:=by
 rw [mem_map]
 constructor
 ·rintro ⟨u,hu,e⟩
  rw [← fD' e]
  exact hu
 ·exact λh=>⟨w,h,rfl⟩
theorem g9' {us:List (List (Int×Int))} (h:(us.map wishD).Nodup):us.Nodup:=by
 induction us with
 | nil=>exact List.nodup_nil
 | cons u us ih =>
  rw [map_cons,nodup_cons] at h
  rw [nodup_cons]
  exact ⟨λm=>h.1 (cA'.mpr m),ih h.2⟩
theorem nO' (ws:List (List (Int×Int))):∃ us:List (List (Int×Int)),sortD (ws.map wishD)=us.map wishD/\(∀ u,u∈us↔u∈ws)/\us.length=ws.length:=by
 have p:=bB' (ws.map wishD)
 obtain ⟨us,e,m⟩:=pull (ws:=ws) (sortD (ws.map wishD)) λd hd=>by
  obtain ⟨w,hw,rfl⟩:=mem_map.mp (p.mem_iff.mp hd)
  exact ⟨w,hw,rfl⟩
 refine ⟨us,e,λu=>⟨m u,λhu=>?_⟩,?_⟩
 ·have:=p.mem_iff.mpr (cA'.mpr hu)
  rw [e] at this
  exact cA'.mp this
 ·have:=p.length_eq
  rw [e] at this
  simpa using this
theorem hf' (ws:List (List (Int×Int))):∃ us:List (List (Int×Int)),sortD (dd (ws.map wishD))=us.map wishD/\(∀ u,u∈us↔u∈ws)/\us.Nodup/\us.length<=ws.length:=by
 have p:=bB' (dd (ws.map wishD))
 obtain ⟨us,e,m⟩:=pull (ws:=ws) (sortD (dd (ws.map wishD))) λd hd=>by
  obtain ⟨w,hw,rfl⟩:=mem_map.mp (fv' (p.mem_iff.mp hd))
  exact ⟨w,hw,rfl⟩
 refine ⟨us,e,λu=>⟨m u,λhu=>?_⟩,g9' ?_,?_⟩
 ·have h1:=rg' (ws.map wishD) (wishD u) (cA'.mpr hu)
  obtain ⟨d,hd,q⟩:=any_eq_true.mp h1
  obtain ⟨w,hw,rfl⟩:=mem_map.mp (fv' hd)
  rw [dj'] at q
  simp at q
  subst q
  have:=p.mem_iff.mpr hd
  rw [e] at this
  exact cA'.mp this
 ·rw [← e]
  exact p.nodup_iff.mpr (jK' _)
 ·have h1:=p.length_eq
  have h2:=ny' (ws.map wishD)
  rw [e] at h1
  simp at h1 h2
  omega
theorem oT' {n:Nat}{ws:List (List (Int×Int))} (ai:∀ w∈ws,Wf n w) (h:(dd (ws.map wishD)).length<=18):SetOk (ws.map wishD):=by
 refine ⟨iA' ws,f1' λw _=>?_,f1' λw _=>rfl,le_trans (ka' ws) (by omega),le_trans h (by decide)⟩
 unfold wishD
 rw [kyB]
 exact j8' w
theorem p7' {n:Nat}{ws:List (List (Int×Int))} (ai:∀ w∈ws,Wf n w) (hn:1<=n) (h:(dd (ws.map wishD)).length<=18):setF [.lst (ws.map wishD)]=some (sortD (dd (ws.map wishD))) :=
 rf' (oT' ai h) h (.inr (f1' λw hw=>j9' (ai w hw) hn))
theorem oU' {n:Nat}{ws:List (List (Int×Int))} (ai:∀ w∈ws,Wf n w) (hn:1<=n) (h:ws.length < 64):sortF [.lst (ws.map wishD)]=some (sortD (ws.map wishD)) :=
 oN' ⟨by simpa using h,iA' ws,le_trans (ka' ws) (by omega),.inr (.inr (f1' λw hw=>j9' (ai w hw) hn))⟩
theorem gd' {as bs:List (List (Int×Int))} (h1:(as.map wishD).Pairwise λa b=>leD a b=true) (h2:(bs.map wishD).Pairwise λa b=>leD a b=true) (n1:as.Nodup) (n2:bs.Nodup) (m:∀ w,w∈as↔w∈bs):as=bs:=by
 have len:bs.length<=as.length:=by
  have:=du' bs as n2 (λw hw=>(m w).mpr hw)
  exact this
 have p:as.Perm bs:=gs' as bs n1 (λw hw=>(m w).mp hw) len
 have e:as.map wishD=bs.map wishD:=eS' _ _ (p.map _) h1 h2 λa ha b hb l1 l2=>by
  obtain ⟨x,_,rfl⟩:=mem_map.mp ha
  obtain ⟨y,_,rfl⟩:=mem_map.mp hb
  have c:=lH' x y
  refine fu' _ _ c ?_
  rw [eM' _ _ c]
  unfold leD at l1 l2
  rw [l1,l2]
  rfl
 have:∀ (as bs:List (List (Int×Int))),as.map wishD=bs.map wishD->as=bs:=by
  intro as
  induction as with
  | nil=>intro bs e;cases bs with
   | nil=>rfl
   | cons b bs=>simp at e
  | cons a as ih =>
   intro bs e
   cases bs with
   | nil=>simp at e
   | cons b bs =>
    rw [map_cons,map_cons] at e
    injection e with e1 e2
    rw [fD' e1,ih bs e2]
 exact this as bs e
noncomputable def undB (us:List (List (Int×Int))) (w:List (Int×Int)):Bool:=us.any λone=>!decide (one=w)&&covB one w
theorem oV' {n:Nat}{us:List (List (Int×Int))}{w:List (Int×Int)} (iw:∀ u∈us,Wf n u) (hw:Wf n w) (hn:n<=3) (hl:us.length<=1000000):cvF bC' [.lst (us.map wishD),wishD w]=some (.bl (undB us w)):=by
 refine eh' rfl λK k1 _=>?_
 rw [cc']
 simp
 refine aZ' us wishD (λ_=>true) (λone=>.bl (!decide (one=w)&&covB one w)) ?_
 simp [dj']
 refine ⟨hl,λone ho=>⟨.inl (by have:=d2' (w:=one);omega),?_⟩,?_⟩
 ·have:=ix' (a:=one) (b:=w) (by rw [(iw one ho).len,hw.len]) (by rw [(iw one ho).len];omega)
  simp [this]
  split<;>simp_all
 ·rw [oM']
  simp
  exact k1 _ ⟨_,rfl⟩
theorem p8' {n:Nat}{ws us:List (List (Int×Int))} (ai:∀ u∈ws,Wf n u) (h1:1<=n) (hn:n<=3) (hl:ws.length<=1000000) (o9:(dd (ws.map wishD)).length<=18) (e:sortD (dd (ws.map wishD))=us.map wishD) (m:∀ u,u∈us↔u∈ws) (ul:us.length<=ws.length) :
  coF bj' [.lst (ws.map wishD)]=some ((us.filter λw=>!undB us w).map wishD):=by
 refine rQ' rfl λKE k1=>?_
 rw [fy']
 refine ae' ?_;rintro K hK -
 have kin:cvF aq' [.lst (ws.map wishD)]=some .non:=g6' (n:=n) λd hd=>by
  obtain ⟨w,hw,rfl⟩:=mem_map.mp hd
  exact ⟨w.map pairD,rfl,by rw [length_map,(ai w hw).len]⟩
 simp [kin]
 refine hK _ ?_
 refine ae' ?_;rintro K hK -
 simp [p7' ai h1 o9,e]
 refine hK _ ?_
 simp
 refine aZ' us wishD (λw=>!undB us w) wishD ?_
 simp
 refine ⟨by omega,λw hw=>?_,k1 _ ⟨_,rfl⟩⟩
 have iw:∀ u∈us,Wf n u:=λu hu=>ai u ((m u).mp hu)
 simp [oV' iw (iw w hw) hn (by omega)]
theorem fE' {us ws:List (List (Int×Int))} (m:∀ u,u∈us↔u∈ws) (w:List (Int×Int)):undB us w=undB ws w:=by
 unfold undB
 rw [Bool.eq_iff_iff,any_eq_true,any_eq_true]
 exact ⟨λ⟨u,h,q⟩=>⟨u,(m u).mp h,q⟩,λ⟨u,h,q⟩=>⟨u,(m u).mpr h,q⟩⟩
theorem e0' {p q:Int×Int}{a b:List (Int×Int)}:covB (p::a) (q::b)=true↔(p.1<=q.1/\q.2<=p.2)/\covB a b=true:=by
 unfold covB
 rw [zip_cons_cons,all_cons]
 simp
theorem kb':∀ a:List (Int×Int),covB a a=true
 | []=>rfl
 | p::a=>e0'.mpr ⟨⟨Int.le_refl _,Int.le_refl _⟩,kb' a⟩
theorem iB':∀ {a b c:List (Int×Int)},a.length=b.length->b.length=c.length->covB a b=true->covB b c=true->covB a c=true
 | [],[],[],_,_,_,_=>rfl
 | p::a,q::b,r::c,h1,h2,x,y=>by
  rw [e0'] at x y ⊢
  exact ⟨⟨Int.le_trans x.1.1 y.1.1,Int.le_trans y.1.2 x.1.2⟩,iB' (by simpa using h1) (by simpa using h2) x.2 y.2⟩
noncomputable def wd (w:List (Int×Int)):Nat:=(w.map λp=>(p.2 - p.1).toNat).sum
theorem nP':∀ {a b:List (Int×Int)},a.length=b.length->(∀ p∈b,p.1<=p.2)->covB a b=true->wd b<=wd a/\(wd b=wd a->a=b)
 | [],[],_,_,_=>⟨le_refl _,λ_=>rfl⟩
 | p::a,q::b,h,ok,x=>by
  rw [e0'] at x
  obtain ⟨h1,h2⟩:=nP' (by simpa using h) (λp hp=>ok p (mem_cons_of_mem _ hp)) x.2
  have:=ok q mem_cons_self
  unfold wd at *
  simp only [map_cons,sum_cons]
  refine ⟨by omega,λe=>?_⟩
  rw [h2 (by omega)]
  have e1:p.1=q.1:=by omega
  have e2:p.2=q.2:=by omega
  rw [Prod.ext e1 e2]
theorem sg':∀ {n:Nat}{w:List (Int×Int)},Wf n w->wd w<=9*n
 | n,w,h=>by
  have:=h.len
  have aI:∀ w:List (Int×Int),(∀ p∈w,PairOk p)->wd w<=9*w.length:=by
   intro w
   induction w with
   | nil=>exact λ_=>le_refl _
   | cons p w ih =>
    intro h
    have h1:=ih λq hq=>h q (mem_cons_of_mem _ hq)
    have h2:=h p mem_cons_self
    have:=h2.lo;have:=h2.hi
    unfold wd at *
    simp only [map_cons,sum_cons,length_cons]
    omega
  have:=aI w h.all
  omega
theorem Wf.le2 {n:Nat}{w:List (Int×Int)} (h:Wf n w):∀ p∈w,p.1<=p.2:=λp hp=>(h.all p hp).le
theorem hY' {ws:List (List (Int×Int))}{w:List (Int×Int)}:undB ws w=true↔∃ u∈ws,u≠w/\covB u w=true:=by
 unfold undB
 rw [any_eq_true]
 simp
theorem nQ' {n:Nat}{ws:List (List (Int×Int))} (ai:∀ u∈ws,Wf n u):∀ (k:Nat) (w:List (Int×Int)),w∈ws->9*n - wd w<=k->∃ u∈ws,undB ws u=false/\covB u w=true
 | k,w,hw,hk=>by
  by_cases c:undB ws w=false
  ·exact ⟨w,hw,c,kb' w⟩
  ·have c:undB ws w=true:=by simpa using c
   obtain ⟨u,hu,ne,cv⟩:=hY'.mp c
   have lu:=(ai u hu).len
   have lw:=(ai w hw).len
   obtain ⟨d1,d2⟩:=nP' (by rw [lu,lw]) (ai w hw).le2 cv
   have lt:wd w < wd u:=by
    rcases lt_or_ge (wd w) (wd u) with z | z
    ·exact z
    ·exact absurd (d2 (Nat.le_antisymm d1 z)) ne
   have:=sg' (ai u hu)
   match k with
   | 0=>omega
   | k+1 =>
    obtain ⟨m,hm,h1,h2⟩:=nQ' ai k u hu (by omega)
    have lm:=(ai m hm).len
    exact ⟨m,hm,h1,iB' (by rw [lm,lu]) (by rw [lu,lw]) h2 cv⟩
structure IsRoof (ws R:List (List (Int×Int))):Prop where
 up:(R.map wishD).Pairwise λa b=>leD a b=true
 nd:R.Nodup
 mem:∀ w,w∈R↔w∈ws/\undB ws w=false
theorem IsRoof.alone {ws R S:List (List (Int×Int))} (a:IsRoof ws R) (b:IsRoof ws S):R=S:=gd' a.up b.up a.nd b.nd λw=>(a.mem w).trans (b.mem w).symm
theorem IsRoof.congr {ws vs R:List (List (Int×Int))} (a:IsRoof ws R) (m:∀ u,u∈vs↔u∈ws):IsRoof vs R:=⟨a.up,a.nd,λw=>by rw [a.mem,m,fE' m]⟩
theorem p9' (ws:List (List (Int×Int))):∃ R,IsRoof ws R/\R.length<=ws.length:=by
 obtain ⟨us,eu,mu,nu,ul⟩:=hf' ws
 have ix:=dd' (dd (ws.map wishD))
 rw [eu] at ix
 refine ⟨us.filter λw=>!undB us w,⟨ix.sublist (filter_sublist.map _),nu.filter _,λw=>?_⟩,le_trans (length_filter_le _ _) ul⟩
 rw [mem_filter,mu,fE' mu]
 simp
theorem f2' {n:Nat}{ws R:List (List (Int×Int))} (ai:∀ u∈ws,Wf n u) (h1:1<=n) (hn:n<=3) (hl:ws.length<=18) (a:IsRoof ws R):coF bj' [.lst (ws.map wishD)]=some (R.map wishD):=by
 obtain ⟨us,eu,mu,nu,ul⟩:=hf' ws
 have ix:=dd' (dd (ws.map wishD))
 rw [eu] at ix
 have o9:(dd (ws.map wishD)).length<=18:=by
  have:=ny' (ws.map wishD)
  simp at this
  omega
 rw [p8' ai h1 hn (by omega) o9 eu mu ul]
 have:IsRoof ws (us.filter λw=>!undB us w):=⟨ix.sublist (filter_sublist.map _),nu.filter _,λw=>by
  rw [mem_filter,mu,fE' mu]
  simp⟩
 rw [this.alone a]
theorem IsRoof.over {n:Nat}{ws R:List (List (Int×Int))} (a:IsRoof ws R) (ai:∀ u∈ws,Wf n u){w:List (Int×Int)} (hw:w∈ws):∃ u∈R,covB u w=true:=by
 obtain ⟨u,h1,h2,h3⟩:=nQ' ai _ w hw (le_refl _)
 exact ⟨u,(a.mem u).mpr ⟨h1,h2⟩,h3⟩
theorem IsRoof.sub {ws R:List (List (Int×Int))} (a:IsRoof ws R){w:List (Int×Int)} (h:w∈R):w∈ws:=((a.mem w).mp h).1
theorem f3':∀ {a b:List (Int×Int)}{l:List Int},a.length=b.length->covB a b=true->hasB b l=true->hasB a l=true
 | [],[],l,_,_,h=>by simpa [hasB] using h
 | p::a,q::b,[],_,_,h=>by simp [hasB]
 | p::a,q::b,n::l,e,c,h=>by
  rw [e0'] at c
  unfold hasB at h ⊢
  rw [zip_cons_cons,all_cons,and_eq_true] at h ⊢
  have h1:=f3' (l:=l) (by simpa using e) c.2 (by unfold hasB;exact h.2)
  unfold hasB at h1
  refine ⟨?_,h1⟩
  have h2:=h.1
  simp at h2 ⊢
  omega
theorem ei' {ws:List (List (Int×Int))}{l:List Int}:leftB ws l=true↔∀ w∈ws,hasB w l=false:=by
 unfold leftB
 rw [all_eq_true]
 simp
def AllIn (ws:List (List (Int×Int))) (p:List (Int×Int)):Prop:=∀ l∈lettersR p,∃ w∈ws,hasB w l=true
theorem hh' {ws:List (List (Int×Int))}{p:List (Int×Int)}:firstL ws p=none↔AllIn ws p:=by
 unfold firstL AllIn
 rw [find?_eq_none]
 constructor
 ·intro h l hl
  have:=h l hl
  rw [ei'] at this
  simp at this
  obtain ⟨w,h1,h2⟩:=this
  exact ⟨w,h1,h2⟩
 ·rintro h l hl z
  obtain ⟨w,h1,h2⟩:=h l hl
  rw [ei'] at z
  rw [z w h1] at h2
  cases h2
noncomputable def inB1 (ws:List (List (Int×Int))) (p:List (Int×Int)):Bool:=(firstL ws p).isNone
theorem e2' {ws:List (List (Int×Int))}{p:List (Int×Int)}:inB1 ws p=true↔AllIn ws p:=by
 unfold inB1
 rw [Option.isNone_iff_eq_none,hh']
theorem AllIn.mono {ws vs:List (List (Int×Int))}{p:List (Int×Int)} (h:AllIn ws p) (s:∀ w∈ws,w∈vs):AllIn vs p:=λl hl=>by
 obtain ⟨w,h1,h2⟩:=h l hl
 exact ⟨w,s w h1,h2⟩
noncomputable def butW (stay:List (List (Int×Int))) (w:List (Int×Int)):List (List (Int×Int)):=stay.filter λu=>!decide (u=w)
theorem f4' {stay:List (List (Int×Int))}{w u:List (Int×Int)}:u∈butW stay w↔u∈stay/\u≠w:=by
 unfold butW
 rw [mem_filter]
 simp
noncomputable def spStep (stay:List (List (Int×Int))) (w:List (Int×Int)):List (List (Int×Int)):=if inB1 (butW stay w) w=true then butW stay w else stay
noncomputable def spareL (R:List (List (Int×Int))):List (List (Int×Int)):=R.foldl spStep R
theorem mp' (stay:List (List (Int×Int))) (w:List (Int×Int)):(spStep stay w).Sublist stay:=by
 unfold spStep butW
 split
 ·exact filter_sublist
 ·exact List.Sublist.refl _
theorem e4':∀ (ps stay:List (List (Int×Int))),(ps.foldl spStep stay).Sublist stay
 | [],stay=>List.Sublist.refl _
 | p::ps,stay=>(e4' ps _).trans (mp' stay p)
theorem oW' {n:Nat}{stay:List (List (Int×Int))}{w:List (Int×Int)} (hw:Wf n w){l:List Int} (hl:l.length=n) (h:∃ u∈stay,hasB u l=true):∃ u∈spStep stay w,hasB u l=true:=by
 unfold spStep
 split
 ·rename_i c
  obtain ⟨u,h1,h2⟩:=h
  by_cases e:u=w
  ·subst e
   exact e2'.mp c l (as'.mpr ⟨by rw [hl,hw.len],h2⟩)
  ·exact ⟨u,f4'.mpr ⟨h1,e⟩,h2⟩
 ·exact h
theorem kc' {n:Nat}{l:List Int} (hl:l.length=n):∀ (ps stay:List (List (Int×Int))),(∀ p∈ps,Wf n p)->(∃ u∈stay,hasB u l=true)->∃ u∈ps.foldl spStep stay,hasB u l=true
 | [],stay,_,h=>h
 | p::ps,stay,hp,h=>kc' hl ps _ (λq hq=>hp q (mem_cons_of_mem _ hq)) (oW' (hp p mem_cons_self) hl h)
theorem IsRoof.part {ws R K:List (List (Int×Int))} (a:IsRoof ws R) (s:K.Sublist R):IsRoof K K:=⟨a.up.sublist (s.map _),a.nd.sublist s,λw=>by
 constructor
 ·intro h
  refine ⟨h,?_⟩
  rw [Bool.eq_false_iff]
  intro z
  obtain ⟨u,h1,h2,h3⟩:=hY'.mp z
  have:=((a.mem w).mp (s.subset h)).2
  rw [hY'.mpr ⟨u,a.sub (s.subset h1),h2,h3⟩] at this
  cases this
 ·exact λh=>h.1⟩
theorem IsRoof.one (w:List (Int×Int)):IsRoof [w] [w]:=⟨List.pairwise_singleton _ _,by simp,λu=>by
 rw [mem_singleton]
 constructor
 ·rintro rfl
  refine ⟨rfl,?_⟩
  simp [undB]
 ·exact λh=>h.1⟩
theorem sh' {l:D}{x:D}:ixF (.tup [x,l]) (.int 0)=some x:=rfl
theorem cZ' {n:Nat}{ws:List (List (Int×Int))}{p:List (Int×Int)} (hw:∀ w∈ws,Wf n w) (hl:ws.length<=100) (hn:n<=3) (hp:Wf n p):∃ x,cvF a5' [.lst (ws.map wishD),wishD p]=some (.tup [.str (if inB1 ws p=true then "in" else "out"),x]):=by
 obtain ⟨d,e,r⟩:=g8' hw hl hn hp
 rcases r with ⟨l,h1,rfl⟩ | ⟨t,h1,_,_,rfl⟩
 ·refine ⟨letD l,?_⟩
  rw [if_neg (by unfold inB1;rw [h1];simp)]
  exact e
 ·refine ⟨trD t,?_⟩
  rw [if_pos (by unfold inB1;rw [h1];rfl)]
  exact e
theorem nR' {n:Nat}{ws T:List (List (Int×Int))} (ai:∀ u∈ws,Wf n u) (h1:1<=n) (hn:n<=3) (hl:ws.length<=18) (a:IsRoof ws T) (lT:T.length<=ws.length){KE:Fl->Gm->Prop}
  (k1:∀ ae,(∃ l,fin (map R.val [.lst (ws.map wishD)]) ae=some l)->KE (.rt (.fro ((spareL T).map wishD))) ae):wp dG' [some (.val (.lst (ws.map wishD))),none,none,none,none] KE:=by
 have e1:=f2' ai h1 hn hl a
 rw [dG']
 refine ae' ?_;rintro K hK -
 simp [e1]
 refine hK _ ?_
 refine ae' ?_;rintro K hK -
 refine ⟨_,_,rfl,hK _ ?_⟩
 show wp _ [some (.val (.lst (ws.map wishD))),some (.fro (T.map wishD)),some (.fro (T.map wishD)),none,none] _
 refine ae' ?_;rintro K hK -
 simp
 refine ck' (J:=λi Y=>∃ x3 x4,Y=[some (.val (.lst (ws.map wishD))),some (.fro (T.map wishD)),some (.fro (((T.take i).foldl spStep T).map wishD)),x3,x4]) ⟨_,_,rfl⟩ ?_ ?_
 ·rintro i d Y hd ⟨x3,x4,rfl⟩ KL aY - - -
  rw [getElem?_map,map_eq_some_iff] at hd
  obtain ⟨w,hw,rfl⟩:=hd
  have yK:=ai w (a.sub (mem_of_getElem? hw))
  have tk:T.take (i+1)=T.take i++[w]:=by rw [take_succ,hw];rfl
  rw [tk,foldl_append] at aY
  simp only [foldl_cons,List.foldl_nil] at aY
  have sb:=e4' (T.take i) T
  generalize (T.take i).foldl spStep T=stay at *
  have sl:=sb.length_le
  have gy:∀ u∈stay,Wf n u:=λu hu=>ai u (a.sub (sb.subset hu))
  have bl:(butW stay w).length<=100:=le_trans (length_filter_le _ _) (by omega)
  obtain ⟨x,e2⟩:=cZ' (ws:=butW stay w) (λu hu=>gy u (f4'.mp hu).1) bl hn yK
  simp
  refine ae' ?_;rintro K hK -
  simp
  refine aZ' stay wishD (λu=>!decide (u=w)) wishD ?_
  simp [dj']
  refine ⟨by omega,λu hu=>.inl (by have:=d2' (w:=u);omega),hK _ ?_⟩
  change wp _ [_,_,_,_,some (.fro ((butW stay w).map wishD))] _
  simp [e2,sh']
  by_cases c:inB1 (butW stay w) w=true
  ·rw [show spStep stay w=butW stay w from if_pos c] at aY
   simp [c,deq,dep]
   exact aY _ ⟨_,_,rfl⟩
  ·rw [show spStep stay w=stay from if_neg c] at aY
   simp [c,deq,dep]
   exact aY _ ⟨_,_,rfl⟩
 ·rintro Y ⟨x3,x4,rfl⟩
  refine hK _ ?_
  rw [length_map,take_length]
  simp
  exact k1 _ ⟨_,rfl⟩
theorem nS' {n:Nat}{ws T:List (List (Int×Int))} (ai:∀ u∈ws,Wf n u) (h1:1<=n) (hn:n<=3) (hl:ws.length<=18) (a:IsRoof ws T) (lT:T.length<=ws.length):cvF cl' [.lst (ws.map wishD)]=some (.lst ((spareL T).map wishD)):=by
 have w:wpF cl' ([D.lst (ws.map wishD)].map .val) λr _=>r=.fro ((spareL T).map wishD):=bf' rfl λK k1 _=>nR' ai h1 hn hl a lT λae ⟨l,e⟩=>k1 _ _ ⟨l,e,rfl⟩
 obtain ⟨r,aR,e,rfl⟩:=w
 unfold cvF
 rw [e]
abbrev Wish:=List (Int×Int)
theorem cP' {n:Nat}{ws:List Wish}{l:List Int} (ai:∀ w∈ws,Wf n w) (hn:n<=3) (hl:l.length=n) (h1:ws.length<=1000):coF aU' [.lst (ws.map wishD),letD l]=some ((ws.filter λw=>hasB w l).map wishD):=by
 have:∃ d,coF aU' [.lst (ws.map wishD),letD l]=some d/\d=(ws.filter λw=>hasB w l).map wishD:=by
  refine nw' ?_
  unfold aU'
  refine eO' rfl ?_
  rw [gx']
  simp [flR]
  refine aZ' ws wishD (λw=>hasB w l) wishD ?_
  simp
  refine ⟨by omega,λw hw=>?_,?_⟩
  ·have:=rl' (w:=w) (l:=l) (by rw [(ai w hw).len,hl]) (by rw [(ai w hw).len];omega)
   rw [aj' this]
   simp
  ·simp [fin]
 obtain ⟨d,e,rfl⟩:=this
 exact e
theorem gB' {α:Type}:∀ (kz:List Int) (xs:List α) (b:α) (m:Int),bestK b m kz xs=b\/bestK b m kz xs∈xs
 | [],xs,b,m=>by unfold bestK;exact .inl rfl
 | k::kz,[],b,m=>by unfold bestK;exact .inl rfl
 | k::kz,x::xs,b,m=>by
  rw [bestK]
  split
  ·rcases gB' kz xs x k with e | e
   ·rw [e];exact .inr mem_cons_self
   ·exact .inr (mem_cons_of_mem _ e)
  ·rcases gB' kz xs b m with e | e
   ·exact .inl e
   ·exact .inr (mem_cons_of_mem _ e)
theorem qa' {α:Type}{d:α}{kz:List Int}{xs:List α} (h:kz.length=xs.length) (ne:xs≠[]):minL d kz xs∈xs:=by
 cases xs with
 | nil=>exact absurd rfl ne
 | cons x xs =>
  cases kz with
  | nil=>simp at h
  | cons k kz =>
   show bestK x k kz xs∈x::xs
   rcases gB' kz xs x k with e | e
   ·rw [e];exact mem_cons_self
   ·exact mem_cons_of_mem _ e
theorem hl' {ws:List Wish}{p:Wish}{l:List Int} (h:firstL ws p=some l):l.length=p.length/\hasB p l=true/\leftB ws l=true:=by
 have h1:=List.find?_some h
 have h2:=as'.mp (List.mem_of_find?_eq_some h)
 exact ⟨h2.1,h2.2,h1⟩
noncomputable def covD (C:List Wish) (w:Wish):D:=(cvF a5' [.lst (C.map wishD),wishD w]).getD .non
theorem iC' {n:Nat}{ws:List Wish} (ai:∀ w∈ws,Wf n w) (hn:n<=3) (h1:ws.length<=1000):∀ ls:List (List Int),(∀ l∈ls,l.length=n)->keysL (fn1 lenF (consA (frz (fn1 (coF aU') (consA (nm 1) (consA (nm 0) nilA)))) nilA)) (.lst (ws.map wishD)) (ls.map letD)=some (ls.map λl=>((ws.filter λw=>hasB w l).length:Int))
 | [],_=>rfl
 | l::ls,h=>by
  have e:(fn1 lenF (consA (frz (fn1 (coF aU') (consA (nm 1) (consA (nm 0) nilA)))) nilA)) [some (.val (letD l)),some (.val (.lst (ws.map wishD)))]=some (.int ((ws.filter λw=>hasB w l).length:Int),[some (.val (letD l)),some (.val (.lst (ws.map wishD)))]):=by
   have:wp (fn1 lenF (consA (frz (fn1 (coF aU') (consA (nm 1) (consA (nm 0) nilA)))) nilA)) [some (.val (letD l)),some (.val (.lst (ws.map wishD)))] λd Y=>d=.int ((ws.filter λw=>hasB w l).length:Int)/\Y=[some (.val (letD l)),some (.val (.lst (ws.map wishD)))]:=by
    simp
    rw [aj' (cP' ai hn (h l mem_cons_self) h1)]
    simp
   obtain ⟨d,Y,e,rfl,rfl⟩:=this
   exact e
  rw [map_cons,keysL,e]
  dsimp only
  rw [iC' ai hn h1 ls λx hx=>h x (mem_cons_of_mem _ hx)]
  rfl
def LeftIs (n:Nat) (R C:List Wish) (o:Option (List Int)):Prop:=(o=none->∀ w∈R,AllIn C w)/\∀ l,o=some l->l.length=n/\leftB C l=true/\∃ w∈R,hasB w l=true
noncomputable def optD:Option (List Int)->D
 | none=>.non
 | some l=>letD l
theorem iD' (C:List Wish):∀ R:List Wish,(R.filter λw=>(firstL C w).isSome).map (λw=>letD ((firstL C w).getD []))=(R.filterMap (firstL C)).map letD
 | []=>rfl
 | w::R=>by
  have ih:=iD' C R
  rw [filter_cons,filterMap_cons]
  cases e:firstL C w with
  | none=>simpa [e] using ih
  | some l=>simpa [e] using ih
theorem oX' {el:M D}{dc:D}{ds:List D}{kz:List Int} (h:keysL el dc ds=some kz):minLF el (.lst ds) dc=some (minL .non kz ds):=by
 unfold minLF
 dsimp only
 rw [h]
theorem lI' {n:Nat}{R C:List Wish} (hR:∀ w∈R,Wf n w) (hC:∀ w∈C,Wf n w) (hn:n<=3) (lR:R.length<=100) (lC:C.length<=100):∃ o,cvF bb' [.lst (R.map wishD),.lst (C.map wishD)]=some (optD o)/\LeftIs n R C o:=by
 have jq:∀ w∈R,cvF a5' [.lst (C.map wishD),wishD w]=some (covD C w)/\RightD C w 27 (covD C w):=λw hw=>by
  obtain ⟨d,e,r⟩:=g8' hC lC hn (hR w hw)
  have:covD C w=d:=by unfold covD;rw [e];rfl
  rw [this]
  exact ⟨e,r⟩
 have aG:∀ w∈R,(∃ l x,firstL C w=some l/\covD C w=.tup [.str "out", letD l]/\x=l)\/(firstL C w=none/\∃ x,covD C w=.tup [.str "in", x]):=λw hw=>by
  rcases (jq w hw).2 with ⟨l,e1,e2⟩ | ⟨t,e1,_,_,e2⟩
  ·exact .inl ⟨l,l,e1,e2,rfl⟩
  ·exact .inr ⟨e1,_,e2⟩
 have uR:∀ l∈R.filterMap (firstL C),l.length=n:=λl hl=>by
  obtain ⟨w,hw,e⟩:=mem_filterMap.mp hl
  rw [(hl' e).1,(hR w hw).len]
 have uS:=iC' hR hn (by omega) _ uR
 generalize hls:R.filterMap (firstL C)=ls at *
 generalize hkz:(ls.map λl=>((R.filter λw=>hasB w l).length:Int))=kz at *
 have kl:kz.length=(ls.map letD).length:=by rw [← hkz];simp
 obtain ⟨o,eo,o1,o2⟩:∃ o,minL .non kz (ls.map letD)=optD o/\(o=none->ls=[])/\∀ l,o=some l->l∈ls:=by
  by_cases ne:ls=[]
  ·subst ne
   refine ⟨none,?_,λ_=>rfl,λl h=>nomatch h⟩
   cases kz<;>rfl
  ·have:=qa' (d:=D.non) kl (by simpa using ne)
   obtain ⟨l,hl,e⟩:=mem_map.mp this
   exact ⟨some l,e.symm,(λh=>nomatch h),λl' h=>by cases h;exact hl⟩
 refine ⟨o,dt' ?_,λh w hw=>?_,λl h=>?_⟩
 ·unfold bb'
  refine eO' rfl ?_
  rw [dB']
  refine ae' λK hK _=>?_
  simp
  refine aZ' R wishD (λ_=>true) (covD C) ?_
  simp
  refine ⟨by omega,λw hw=>?_,hK _ ?_⟩
  ·rw [aj' (jq w hw).1]
   exact ⟨rfl,_,rfl⟩
  refine ae' λK hK _=>?_
  simp
  refine aZ' R (covD C) (λw=>(firstL C w).isSome) (λw=>letD ((firstL C w).getD [])) ?_
  simp
  refine ⟨by omega,λw hw=>?_,hK _ ?_⟩
  ·rcases aG w hw with ⟨l,x,e1,e2,-⟩ | ⟨e1,x,e2⟩
   ·rw [e1,e2]
    simp [dep,deq]
   ·rw [e1,e2]
    simp [dep,deq]
    exact ⟨by decide,λh=>absurd h (by decide)⟩
  have ef:=iD' C R
  rw [hls] at ef
  rw [ef]
  simp [minLam,flR]
  refine ⟨.lst (R.map wishD),_,rfl,?_⟩
  dsimp only
  rw [aj' (oX' uS)]
  exact ⟨⟨_,rfl⟩,eo⟩
 ·have:=o1 h
  rw [← hls] at this
  refine hh'.mp ?_
  have:=List.filterMap_eq_nil_iff.mp this w hw
  exact this
 ·have hl:=o2 l h
  rw [← hls] at hl
  obtain ⟨w,hw,e⟩:=mem_filterMap.mp hl
  obtain ⟨f1,f2,f3⟩:=hl' e
  exact ⟨by rw [f1,(hR w hw).len],f3,w,hw,f2⟩
inductive RightT (n:Nat) (R:List Wish):List Wish->Nat->D->Prop
 | left {C:List Wish}{l:List Int}:l.length=n->leftB C l=true->(∃ w∈R,hasB w l=true)->RightT n R C 0 (.tup [.str "left", letD l])
 | meet {C:List Wish}{l:List Int}{m:Nat}{ts:List D}:l.length=n->leftB C l=true->(∃ w∈R,hasB w l=true)->ts.length=(R.filter λw=>hasB w l).length →
   (∀ (i:Nat) w t,(R.filter λw=>hasB w l)[i]?=some w->ts[i]?=some t->RightT n R (C++[w]) m t)->RightT n R C (m+1) (.tup [.str "meet", letD l,.lst ts])
abbrev Rises (K:List Wish):Prop:=(K.map wishD).Pairwise λa b=>leD a b=true
def AllD (R C:List Wish) (m:Nat) (d:D):Prop:=∃ K E:List Wish,E.length<=m/\(∀ e∈E,e∈R)/\(∀ u,u∈K↔u∈C++E)/\K.length=(C++E).length/\K.Nodup/\Rises K/\(∀ w∈R,AllIn K w)/\d=.tup [.str "all", .lst (K.map wishD)]
theorem nT' {n:Nat}{ws:List Wish} (ai:∀ w∈ws,Wf n w) (h1:1<=n) (hl:ws.length < 64) (nd:ws.Nodup):∃ K:List Wish,sortF [.lst (ws.map wishD)]=some (K.map wishD)/\(∀ u,u∈K↔u∈ws)/\K.length=ws.length/\K.Nodup/\Rises K:=by
 obtain ⟨us,e,m,len⟩:=nO' ws
 have up:=dd' (ws.map wishD)
 have pm:=bB' (ws.map wishD)
 rw [e] at up pm
 refine ⟨us,by rw [oU' ai h1 hl,e],m,len,?_,up⟩
 have nm:(ws.map wishD).Nodup:=by
  rw [List.Nodup,List.pairwise_map]
  exact nd.imp λh z=>h (fD' z)
 exact g9' (pm.nodup_iff.mpr nm)
theorem dk' {C:List Wish}{l:List Int}{w:Wish} (h:leftB C l=true) (hw:hasB w l=true):w∉C:=λz=>by
 rw [ei'.mp h w z] at hw
 cases hw
theorem RightT.head {n:Nat}{R C:List Wish}{m:Nat}{d:D} (h:RightT n R C m d):∃ s xs,d=.tup (.str s::xs)/\s ≠ "all":=by
 cases h with
 | left=>exact ⟨_,_,rfl,by decide⟩
 | meet=>exact ⟨_,_,rfl,by decide⟩
theorem hp' {n:Nat}{R:List Wish} (hR:∀ w∈R,Wf n w) (h1:1<=n) (hn:n<=3) (lR:R.length<=20):∀ (f m:Nat) (C:List Wish),m < f->(∀ c∈C,c∈R)->C.Nodup->C.length+m<=50 →
  ∃ d,cvF (aQ' f) [.lst (R.map wishD),.lst (C.map wishD),.int (m:Int)]=some d/\(AllD R C m d\/RightT n R C m d)
 | 0,m,C,hm,_,_,_=>absurd hm (not_lt_zero m)
 | f+1,m,C,hm,hC,nd,lC=>by
  have wC:∀ c∈C,Wf n c:=λc hc=>hR c (hC c hc)
  obtain ⟨o,eo,o1,o2⟩:=lI' hR wC hn (by omega) (by omega)
  have aI:wpF (aQ' (f+1)) [.val (.lst (R.map wishD)),.val (.lst (C.map wishD)),.val (.int (m:Int))] λr _=>∃ d,r=.val d/\(AllD R C m d\/RightT n R C m d):=by
   rw [aQ']
   refine bf' rfl λKE hE _=>?_
   rw [cV']
   refine ae' λK hK _=>?_
   simp
   rw [aj' eo]
   refine ⟨by simp,hK _ ?_⟩
   refine ae' λK hK eA=>?_
   cases o with
   | none =>
    obtain ⟨K',e1,e2,e3,e4,e5⟩:=nT' wC h1 (by omega) nd
    simp [optD,isN]
    rw [aj' e1]
    refine eA _ _ (hE _ _ ⟨_,rfl,_,rfl,.inl ⟨K',[],zero_le _,by simp,by simpa using e2,by simpa using e3,e4,e5,λw hw=>(o1 rfl w hw).mono λu hu=>(e2 u).mpr hu,rfl⟩⟩)
   | some l =>
    obtain ⟨l1,l2,l3⟩:=o2 l rfl
    have yL:isN (letD l)=false:=rfl
    simp [optD,yL]
    refine hK _ ?_
    refine ae' λK hK eA=>?_
    cases m with
    | zero =>
     simp [dep]
     exact eA _ _ (hE _ _ ⟨_,rfl,_,rfl,.inr (RightT.left l1 l2 l3)⟩)
    | succ m =>
     simp [dep]
     rw [if_neg (by omega)]
     refine hK _ ?_
     clear hK eA
     refine ae' λK hK _=>?_
     simp
     refine hK _ ?_
     have uT:=cP' hR hn l1 (by omega)
     obtain ⟨hv,iy⟩:∃ hv,(R.filter λw=>hasB w l)=hv:=⟨_,rfl⟩
     rw [iy] at uT
     have mem:∀ w∈hv,w∈R/\hasB w l=true:=λw hw=>by rw [← iy] at hw;simpa using hw
     have zF:hv.length<=20:=by rw [← iy];exact le_trans (length_filter_le _ _) lR
     have pc:∀ w∈hv,∃ d,cvF (aQ' f) [.lst (R.map wishD),.lst (C.map wishD++[wishD w]),.int (m:Int)]=some d/\(AllD R (C++[w]) m d\/RightT n R (C++[w]) m d):=λw hw=>by
      obtain ⟨w1,w2⟩:=mem w hw
      have:=hp' hR h1 hn lR f m (C++[w]) (by omega) (λc hc=>by
       rcases mem_append.mp hc with z | z
       ·exact hC c z
       ·rw [mem_singleton.mp z];exact w1) (nodup_append.mpr ⟨nd,by simp,λa ha b hb e=>by
        rw [mem_singleton.mp hb] at e
        subst e
        exact dk' l2 w2 ha⟩) (by simp;omega)
      rwa [map_append] at this
     clear eo o1 o2
     refine ae' λK hK eA=>?_
     simp
     rw [aj' uT]
     refine ck' (J:=λi Y=>∃ (ts:List D) (x y:Option DL.R),ts.length=i/\(∀ (j:Nat) w t,hv[j]?=some w->ts[j]?=some t->RightT n R (C++[w]) m t)/\Y=[some (.val (.lst (R.map wishD))),some (.val (.lst (C.map wishD))),some (.val (.int ((m:Int)+1))),some (.val (letD l)),some (.own ts),x,y]) ⟨[],none,none,rfl,by simp,rfl⟩ ?_ ?_
     ·rintro i d Y hd ⟨ts,x,y,ti,tr,rfl⟩ K aY _ _ yM
      rw [getElem?_map,map_eq_some_iff] at hd
      obtain ⟨w,e1,rfl⟩:=hd
      have hw:=mem_of_getElem? e1
      obtain ⟨d,ed,dd⟩:=pc w hw
      refine ⟨(),_,rfl,?_⟩
      show wp _ [some (.val (.lst (R.map wishD))),some (.val (.lst (C.map wishD))),some (.val (.int ((m:Int)+1))),some (.val (letD l)),some (.own ts),some (.val (wishD w)),y] _
      refine ae' λK hK _=>?_
      simp
      rw [aj' ed]
      refine ⟨by omega,by simp,hK _ ?_⟩
      rcases dd with al | rt
      ·obtain ⟨K',E,a1,a2,a3,a4,a5,a6,a7,rfl⟩:=al
       refine ae' λK hK fZ=>?_
       simp [dep,deq]
       refine fZ _ _ (yM _ _ (eA _ _ (hE _ _ ⟨_,rfl,_,rfl,.inl ⟨K',w::E,by simpa using a1,λe he=>?_,?_,?_,a5,a6,a7,rfl⟩⟩)))
       ·rcases mem_cons.mp he with z | z
        ·rw [z];exact (mem w hw).1
        ·exact a2 e z
       ·simpa using a3
       ·simpa using a4
      ·obtain ⟨sx,xs,e2,ne⟩:=rt.head
       refine ae' λK hK fZ=>?_
       subst e2
       have dq:deq (.str sx) (.str "all")=false:=by simpa [deq] using ne
       simp [dep,dq]
       refine hK _ ?_
       have tl:ts.length < 1000000:=by
        have:=(List.getElem?_eq_some_iff.mp e1).1
        omega
       simp [isMut,DL.R.mut]
       refine ⟨tl,aY _ ⟨ts++[.tup (.str sx::xs)],_,_,by simp [ti],λj u t hu ht=>?_,rfl⟩⟩
       rcases lt_or_ge j ts.length with lt | ge
       ·rw [getElem?_append_left lt] at ht
        exact tr j u t hu ht
       ·rw [getElem?_append_right ge] at ht
        have j0:j - ts.length=0:=by
         have:=(List.getElem?_eq_some_iff.mp ht).1
         simp at this
         omega
        rw [j0] at ht
        have ji:j=i:=by omega
        rw [ji,e1] at hu
        cases hu
        cases ht
        exact rt
     ·rintro Y ⟨ts,x,y,ti,tr,rfl⟩
      refine hK _ ?_
      simp
      rw [length_map] at ti
      exact hE _ _ ⟨_,rfl,_,rfl,.inr (RightT.meet l1 l2 l3 (by rw [iy];exact ti) (by rw [iy];exact tr))⟩
  obtain ⟨r,rs,e,d,rfl,h⟩:=aI
  exact ⟨d,by unfold cvF;simp only [map];rw [e],h⟩
theorem oY' {n:Nat}{R:List Wish} (hR:∀ w∈R,Wf n w){m:Nat}{C:List Wish}{d:D} (h:RightT n R C m d):∀ E:List Wish,(∀ e∈E,e∈R)->E.length<=m->(∀ w∈R,AllIn (C++E) w)->False:=by
 induction h with
 | left l1 l2 l3 =>
  intro E hE le al
  obtain ⟨w,hw,hl⟩:=l3
  rw [length_eq_zero_iff.mp (le_zero.mp le),append_nil] at al
  obtain ⟨c,hc,h2⟩:=al w hw _ (as'.mpr ⟨by rw [l1,(hR w hw).len],hl⟩)
  exact dk' l2 h2 hc
 | @meet C l m ts l1 l2 l3 tl tr ih =>
  intro E hE le al
  obtain ⟨w,hw,hl⟩:=l3
  obtain ⟨e,he,h2⟩:=al w hw l (as'.mpr ⟨by rw [l1,(hR w hw).len],hl⟩)
  have uU:e∈E:=by
   rcases mem_append.mp he with z | z
   ·exact absurd z (dk' l2 h2)
   ·exact z
  obtain ⟨E1,E2,rfl⟩:=List.append_of_mem uU
  have hf:e∈R.filter λw=>hasB w l:=mem_filter.mpr ⟨hE e uU,h2⟩
  obtain ⟨i,hi,ei⟩:=getElem_of_mem hf
  refine ih i e ts[i] (by rw [getElem?_eq_getElem hi,ei]) (getElem?_eq_getElem (by omega)) (E1++E2) (λu hu=>hE u ?_) ?_ λw hw=>(al w hw).mono λu hu=>?_
  ·rcases mem_append.mp hu with z | z
   ·exact mem_append_left _ z
   ·exact mem_append_right _ (mem_cons_of_mem _ z)
  ·simp at le ⊢
   omega
  ·simp only [mem_append,mem_cons,mem_singleton,not_mem_nil,or_false] at hu ⊢
   rcases hu with z | z | z | z
   ·exact .inl (.inl z)
   ·exact .inr (.inl z)
   ·exact .inl (.inr z)
   ·exact .inr (.inr z)
theorem kd' {C:List Wish}{l:List Int} (h:leftB C l=true):(C.filter λw=>hasB w l)=[]:=List.filter_eq_nil_iff.mpr λw hw=>by
 rw [ei'.mp h w hw]
 decide
theorem qb' {n:Nat}{R:List Wish} (hR:∀ w∈R,Wf n w) (hn:n<=3) (lR:R.length<=20){m:Nat}{C:List Wish}{d:D} (h:RightT n R C m d):∀ f:Nat,m < f->(∀ c∈C,c∈R)->C.length+m<=50 →
  cvF (aN' f) [.lst (R.map wishD),.lst (C.map wishD),.int (m:Int),d]=some (.bl true):=by
 induction h with
 | @left C l l1 l2 l3 =>
  intro f hf hC lC
  obtain ⟨f,rfl⟩:∃ k,f=k+1:=⟨f - 1,by omega⟩
  have a1:=cP' hR hn l1 (by omega)
  have a2:=cP' (λc hc=>hR c (hC c hc)) hn l1 (by omega)
  rw [kd' l2] at a2
  have pos:(R.filter λw=>hasB w l).length≠0:=λz=>by
   obtain ⟨w,hw,hl⟩:=l3
   have:=mem_filter (p:=λw=>hasB w l).mpr ⟨hw,hl⟩
   rw [length_eq_zero_iff.mp z] at this
   cases this
  refine dt' ?_
  rw [aN']
  refine bf' rfl λKE hE _=>?_
  rw [bD']
  refine ae' λK hK _=>?_
  simp
  refine hK _ ?_
  refine ae' λK hK _=>?_
  simp
  rw [aj' a1]
  refine ⟨by simp,hK _ ?_⟩
  generalize R.filter (λw=>hasB w l)=hv at *
  refine ae' λK hK _=>?_
  simp [dep,pos]
  rw [aj' a2]
  simp
  refine hK _ ?_
  refine ae' λK hK eA=>?_
  simp [dep,deq]
  exact eA _ _ (hE _ _ ⟨_,rfl,rfl⟩)
 | @meet C l m ts l1 l2 l3 tl tr ih =>
  intro f hf hC lC
  obtain ⟨f,rfl⟩:∃ k,f=k+1:=⟨f - 1,by omega⟩
  have a1:=cP' hR hn l1 (by omega)
  have a2:=cP' (λc hc=>hR c (hC c hc)) hn l1 (by omega)
  rw [kd' l2] at a2
  have pos:(R.filter λw=>hasB w l).length≠0:=λz=>by
   obtain ⟨w,hw,hl⟩:=l3
   have:=mem_filter (p:=λw=>hasB w l).mpr ⟨hw,hl⟩
   rw [length_eq_zero_iff.mp z] at this
   cases this
  have hm:∀ w∈R.filter λw=>hasB w l,w∈R:=λw hw=>(mem_filter.mp hw).1
  have y4:(R.filter λw=>hasB w l).length<=20:=le_trans (length_filter_le _ _) lR
  refine dt' ?_
  rw [aN']
  refine bf' rfl λKE hE _=>?_
  rw [bD']
  refine ae' λK hK _=>?_
  simp
  refine hK _ ?_
  refine ae' λK hK _=>?_
  simp
  rw [aj' a1]
  refine ⟨by simp,hK _ ?_⟩
  generalize R.filter (λw=>hasB w l)=hv at *
  have sub:∀ p∈hv.zip ts,cvF (aN' f) [.lst (R.map wishD),.lst (C.map wishD++[wishD p.1]),.int (m:Int),p.2]=some (.bl true):=λp hp=>by
   obtain ⟨i,hi,ei⟩:=getElem_of_mem hp
   rw [length_zip] at hi
   rw [List.getElem_zip] at ei
   have h1:hv[i]?=some p.1:=by rw [getElem?_eq_getElem (by omega),← ei]
   have h2:ts[i]?=some p.2:=by rw [getElem?_eq_getElem (by omega),← ei]
   have:=ih i p.1 p.2 h1 h2 f (by omega) (λc hc=>by
    rcases mem_append.mp hc with z | z
    ·exact hC c z
    ·rw [mem_singleton.mp z];exact hm _ (mem_of_getElem? h1)) (by simp;omega)
   rwa [map_append] at this
  refine ae' λK hK _=>?_
  simp [dep,pos]
  rw [aj' a2]
  simp
  refine hK _ ?_
  refine ae' λK hK _=>?_
  have dq:deq (.str "meet") (.str "left")=false:=by simp [deq];decide
  simp [dep,dq]
  refine hK _ ?_
  refine ae' λK hK _=>?_
  simp [dep,tl]
  rw [if_neg (by omega)]
  refine hK _ ?_
  simp
  refine gu' (hv.zip ts) (λp=>.tup [wishD p.1,p.2]) (λ_=>true) (λ_=>.bl true) ?_
  simp
  refine ⟨?_,by omega,λa b yN=>⟨by omega,?_⟩,?_⟩
  ·unfold pairsD
   rw [← map_id ts,List.zip_map,map_map,map_id]
   rfl
  ·rw [aj' (sub (a,b) yN)]
   exact ⟨rfl,_,_,rfl⟩
  ·have al:allF [.lst ((hv.zip ts).map λ_=>D.bl true)]=some (.bl true):=by
    rw [gv' (f:=λ_=>true)]
    simp
   rw [aj' al]
   exact hE _ _ ⟨_,rfl,rfl⟩
noncomputable def nodes:Nat->Nat
 | 0=>1
 | k+1=>1+(k+1)*nodes k
theorem qc' {R C:List Wish}{l:List Int} (nR:R.Nodup) (nC:C.Nodup) (sub:∀ c∈C,c∈R) (h:leftB C l=true):(R.filter λw=>hasB w l).length+C.length<=R.length:=by
 have:=du' ((R.filter λw=>hasB w l)++C) R (nodup_append.mpr ⟨nR.sublist filter_sublist,nC,λa ha b hb e=>by
  subst e
  exact dk' h (mem_filter.mp ha).2 hb⟩) λx hx=>by
  rcases mem_append.mp hx with z | z
  ·exact (mem_filter.mp z).1
  ·exact sub x z
 rwa [length_append] at this
theorem ke' {n:Nat}{R:List Wish} (nR:R.Nodup){m:Nat}{C:List Wish}{d:D} (h:RightT n R C m d):∀ f k:Nat,m < f->(∀ c∈C,c∈R)->C.Nodup->R.length<=C.length+k->nodes k<=20000 →
  ∃ ls:List (List Int),cvF (a7' f) [d]=some (.lst (ls.map letD))/\(∀ l∈ls,l.length=n)/\ls.length<=nodes k:=by
 induction h with
 | @left C l l1 l2 l3 =>
  intro f k hf _ _ _ _
  obtain ⟨f,rfl⟩:∃ k,f=k+1:=⟨f - 1,by omega⟩
  refine ⟨[l],dt' ?_,by simpa using l1,by cases k<;>simp [nodes]⟩
  rw [a7']
  refine bf' rfl λKE hE _=>?_
  rw [cd']
  refine ae' λK hK _=>?_
  simp
  refine hK _ ?_
  refine ae' λK hK _=>?_
  have dq:deq (.str "left") (.str "meet")=false:=by simp [deq];decide
  simp [dep,dq]
  refine hK _ ?_
  simp
  exact hE _ _ ⟨_,rfl,rfl⟩
 | @meet C l m ts l1 l2 l3 tl tr ih =>
  intro f k hf sub nC hk uV
  obtain ⟨f,rfl⟩:∃ k,f=k+1:=⟨f - 1,by omega⟩
  have few:=qc' nR nC sub l2
  obtain ⟨w0,yO,yP⟩:=l3
  have pos:0 < (R.filter λw=>hasB w l).length:=List.length_pos_of_mem (mem_filter (p:=λw=>hasB w l).mpr ⟨yO,yP⟩)
  obtain ⟨k,rfl⟩:∃ j,k=j+1:=⟨k - 1,by omega⟩
  have uW:nodes k<=20000:=by
   rw [nodes,Nat.add_mul] at uV
   omega
  have cQ:∀ t∈ts,∃ ls:List (List Int),cvF (a7' f) [t]=some (.lst (ls.map letD))/\(∀ l∈ls,l.length=n)/\ls.length<=nodes k:=λt ht=>by
   obtain ⟨i,hi,ei⟩:=getElem_of_mem ht
   have bc:i < (R.filter λw=>hasB w l).length:=by omega
   obtain ⟨f1,f2⟩:=mem_filter.mp (getElem_mem bc)
   refine ih i _ t (getElem?_eq_getElem bc) (by rw [getElem?_eq_getElem hi,ei]) f k (by omega) (λc hc=>?_) (nodup_append.mpr ⟨nC,by simp,λa ha b hb e=>?_⟩) (by simp;omega) uW
   ·rcases mem_append.mp hc with z | z
    ·exact sub c z
    ·rw [mem_singleton.mp z];exact f1
   ·rw [mem_singleton.mp hb] at e
    subst e
    exact dk' l2 f2 ha
  have tk:ts.length<=k+1:=by omega
  have aI:wpF (a7' (f+1)) [.val (.tup [.str "meet", letD l,.lst ts])] λr _=>∃ ls:List (List Int),r=.val (.lst (ls.map letD))/\(∀ l∈ls,l.length=n)/\ls.length<=nodes (k+1):=by
   rw [a7']
   refine bf' rfl λKE hE _=>?_
   rw [cd']
   refine ae' λK hK _=>?_
   simp
   refine hK _ ?_
   refine ae' λK hK _=>?_
   simp [dep,deq]
   refine cL' (J:=λi Y=>∃ (ls:List (List Int)) (x:Option DL.R),(∀ l∈ls,l.length=n)/\ls.length<=1+i*nodes k/\Y=[some (.val (.tup [.str "meet", letD l,.lst ts])),some (.own (ls.map letD)),x]) ⟨[l],none,by simpa using l1,by simp,rfl⟩ ?_ ?_
   ·rintro i t Y ht ⟨ls,x,a1,a2,rfl⟩
    have hi:=(List.getElem?_eq_some_iff.mp ht).1
    obtain ⟨es,e1,e2,e3⟩:=cQ t (mem_of_getElem? ht)
    have b1:i*nodes k<=(k+1)*nodes k:=Nat.mul_le_mul_right _ (by omega)
    rw [nodes] at uV
    refine ⟨(),_,rfl,?_⟩
    show wp _ [some (.val (.tup [.str "meet", letD l,.lst ts])),some (.own (ls.map letD)),some (.val t)] _
    simp [isMut,DL.R.mut]
    rw [aj' e1]
    simp
    refine ⟨by omega,ls++es,λl hl=>?_,?_,by simp⟩
    ·rcases mem_append.mp hl with z | z
     ·exact a1 l z
     ·exact e2 l z
    ·rw [length_append,Nat.add_mul,Nat.one_mul]
     omega
   ·rintro Y ⟨ls,x,a1,a2,rfl⟩
    refine hK _ ?_
    simp
    refine hE _ _ ⟨_,rfl,ls,rfl,a1,?_⟩
    have b1:ts.length*nodes k<=(k+1)*nodes k:=Nat.mul_le_mul_right _ tk
    rw [nodes]
    omega
  obtain ⟨r,rs,e,ls,rfl,h1,h2⟩:=aI
  exact ⟨ls,by unfold cvF;simp only [map];rw [e],h1,h2⟩
def Fw (R:List Wish) (k:Nat):Prop:=∃ E:List Wish,E.length<=k/\(∀ e∈E,e∈R)/\∀ w∈R,AllIn E w
theorem Fw.mono {R:List Wish}{j k:Nat} (h:Fw R j) (hk:j<=k):Fw R k:=by
 obtain ⟨E,a,b,c⟩:=h
 exact ⟨E,by omega,b,c⟩
theorem Fw.all (R:List Wish):Fw R R.length:=⟨R,le_refl _,λe he=>he,λw hw l hl=>⟨w,hw,(as'.mp hl).2⟩⟩
theorem fF' {n:Nat}{R:List Wish} (hR:∀ w∈R,Wf n w){m:Nat}{d:D} (h:RightT n R [] m d):¬ Fw R m:=λ⟨E,a,b,c⟩=>oY' hR h E b a (by simpa using c)
def FewD (n:Nat) (R:List Wish) (d:D):Prop:=∃ (k:Nat) (K:List Wish) (t:D),K.length=k+1/\(∀ u∈K,u∈R)/\K.Nodup/\Rises K/\(∀ w∈R,AllIn K w)/\RightT n R [] k t/\d=.tup [.int ((k:Int)+1),.lst (K.map wishD),t]
theorem rq' {R:List Wish}{m:Nat}{d:D} (h:AllD R [] m d):Fw R m:=by
 obtain ⟨K,E,a1,a2,a3,a4,a5,a6,a7,_⟩:=h
 exact ⟨E,a1,a2,λw hw=>(a7 w hw).mono λu hu=>by simpa using (a3 u).mp hu⟩
theorem nU' {n:Nat}{ws R:List Wish} (ai:∀ w∈ws,Wf n w) (h1:1<=n) (hn:n<=3) (a:IsRoof ws R) (lw:ws.length<=7) (lR:R.length<=ws.length) (ne:R≠[]):∃ d,cvF aX' [.lst (ws.map wishD)]=some d/\FewD n R d:=by
 have hR:∀ w∈R,Wf n w:=λw hw=>ai w (a.sub hw)
 have eB:=f2' ai h1 hn (by omega) a
 have look:∀ m:Nat,m<=8->∃ d,cvF (aQ' 10) [.lst (R.map wishD),.lst [],.int (m:Int)]=some d/\(AllD R [] m d\/RightT n R [] m d):=λm hm=>hp' hR h1 hn (by omega) 10 m [] (by omega) (by simp) (by simp) (by simp;omega)
 have zero:∀ d,¬ AllD R [] 0 d:=λd h=>by
  obtain ⟨E,e1,e2,e3⟩:=rq' h
  rw [length_eq_zero_iff.mp (le_zero.mp e1)] at e3
  obtain ⟨w,hw⟩:=List.exists_mem_of_ne_nil R ne
  obtain ⟨u,hu,_⟩:=e3 w hw _ (by
   obtain ⟨t,e⟩:=dC' (hR w hw).ok
   rw [e]
   exact mem_cons_self)
  cases hu
 have aI:wpF aX' [.val (.lst (ws.map wishD))] λr _=>∃ d,r=.val d/\FewD n R d:=by
  refine bf' rfl λKE hE _=>?_
  rw [eo']
  refine ae' λK hK _=>?_
  simp
  rw [aj' eB]
  refine ⟨by simp,hK _ ?_⟩
  refine ae' λK hK _=>⟨_,_,rfl,hK _ ?_⟩
  refine ae' λK hK _=>⟨_,_,rfl,hK _ ?_⟩
  obtain ⟨d0,e0,r0⟩:=look 0 (by omega)
  have r0:RightT n R [] 0 d0:=r0.resolve_left (zero d0)
  refine ae' λK hK _=>?_
  simp
  have e0:cvF (aQ' 10) [.lst (R.map wishD),.lst [],.int 0]=some d0:=e0
  rw [aj' e0]
  refine ⟨by simp,hK _ ?_⟩
  refine ae' λK hK _=>?_
  refine rh' (J:=λmm Y=>∃ (k:Nat) (x d:D),mm+k=8/\(AllD R [] k d\/RightT n R [] k d)/\(k=0\/∃ k',k=k'+1/\RightT n R [] k' x)/\Y=[some (.val (.lst (ws.map wishD))),some (.val (.lst (R.map wishD))),some (.val (.int (k:Int))),some (.val x),some (.val d)]) ?_ 100 8 _ (by omega) ⟨0,.non,d0,rfl,.inr r0,.inl rfl,rfl⟩
  rintro mm Y ⟨k,x,d,hk,hd,hx,rfl⟩
  rcases hd with al | rt
  ·obtain ⟨K',E,a1,a2,a3,a4,a5,a6,a7,rfl⟩:=id al
   simp [dep,deq]
   refine hK _ ?_
   simp
   obtain ⟨k',rfl,rt⟩:∃ k',k=k'+1/\RightT n R [] k' x:=by
    rcases hx with z | z
    ·rw [z] at al
     exact absurd al (zero _)
    ·exact z
   have sub:∀ u∈K',u∈R:=λu hu=>a2 u (by simpa using (a3 u).mp hu)
   have len:K'.length=k'+1:=by
    have no:=fF' hR rt
    have:¬ K'.length<=k':=λz=>no ⟨K',z,sub,a7⟩
    simp at a4
    omega
   refine hE _ _ ⟨_,rfl,_,rfl,k',K',x,len,sub,a5,a6,a7,rt,?_⟩
   simp
  ·obtain ⟨sx,xs,e2,uX⟩:=rt.head
   have dq:deq (.str sx) (.str "all")=false:=by simpa [deq] using uX
   have zG:k < R.length:=by
    rcases lt_or_ge k R.length with z | z
    ·exact z
    ·exact absurd ((Fw.all R).mono z) (fF' hR rt)
   obtain ⟨d',e',r'⟩:=look (k+1) (by omega)
   subst e2
   have cond:wp (tst (op2 (eqF true) (op2 ixF (nm 4) (ret (.int 0))) (ret (.str "all")))) [some (.val (.lst (ws.map wishD))),some (.val (.lst (R.map wishD))),some (.val (.int (k:Int))),some (.val x),some (.val (.tup (.str sx::xs)))] λb ab=>b=true/\ab=[some (.val (.lst (ws.map wishD))),some (.val (.lst (R.map wishD))),some (.val (.int (k:Int))),some (.val x),some (.val (.tup (.str sx::xs)))]:=by simp [dep,dq]
   refine cond.mono ?_
   rintro b ab ⟨rfl,rfl⟩
   rw [if_pos rfl]
   refine ⟨mm - 1,by omega,λK aY _ _ _=>?_⟩
   refine ae' λK hK _=>⟨_,_,rfl,hK _ ?_⟩
   refine ae' λK hK _=>⟨_,_,rfl,hK _ ?_⟩
   simp
   have ec:((k+1:Nat):Int)=(k:Int)+1:=by omega
   rw [ec] at e'
   rw [aj' e']
   exact ⟨by simp,aY _ ⟨k+1,_,d',by omega,r',.inr ⟨k,rfl,rt⟩,by rw [ec];rfl⟩⟩
 obtain ⟨r,rs,e,d,rfl,h⟩:=aI
 exact ⟨d,by unfold cvF;simp only [map];rw [e],h⟩
theorem kf' {R K:List Wish} (up:Rises R) (nR:R.Nodup) (uK:Rises K) (nK:K.Nodup) (sub:∀ u∈K,u∈R):(R.filter λw=>decide (w∈K))=K :=
 gd' (up.sublist (filter_sublist.map _)) uK (nR.sublist filter_sublist) nK λw=>by
  rw [mem_filter]
  exact ⟨λh=>by simpa using h.2,λh=>⟨sub w h,by simpa using h⟩⟩
theorem nV' (ws:List Wish) (w:Wish):(ws.map wishD).any (λd=>deq d (wishD w))=decide (w∈ws):=by
 induction ws with
 | nil=>rfl
 | cons u ws ih =>
  rw [map_cons,any_cons,ih,dj']
  by_cases e:w=u
  ·simp [e]
  ·have:¬ u=w:=λz=>e z.symm
   simp [e,this]
theorem kR' {n:Nat}{ws R:List Wish}{d:D} (ai:∀ w∈ws,Wf n w) (h1:1<=n) (hn:n<=3) (a:IsRoof ws R) (lw:ws.length<=7) (lR:R.length<=ws.length) (h:FewD n R d):cvF cy' [.lst (ws.map wishD),d]=some (.bl true):=by
 obtain ⟨k,K',t,kl,sub,nK,uK,al,rt,rfl⟩:=h
 have hR:∀ w∈R,Wf n w:=λw hw=>ai w (a.sub hw)
 have eB:=f2' ai h1 hn (by omega) a
 have kR:K'.length<=R.length:=du' K' R nK sub
 obtain ⟨ls,yQ,ll,lc⟩:=ke' a.nd rt 10 7 (by omega) (by simp) (by simp) (by simp;omega) (by decide)
 have n7:nodes 7<=20000:=by decide
 obtain ⟨o,eo,o1,o2⟩:=lI' hR (λu hu=>hR u (sub u hu)) hn (by omega) (by omega)
 have on:o=none:=by
  cases o with
  | none=>rfl
  | some l =>
   obtain ⟨q1,q2,w,hw,q3⟩:=o2 l rfl
   obtain ⟨u,hu,q4⟩:=al w hw l (as'.mpr ⟨by rw [q1,(hR w hw).len],q3⟩)
   exact absurd hu (dk' q2 q4)
 subst on
 have tr:=qb' hR hn (by omega) rt 10 (by omega) (by simp) (by simp;omega)
 have kin:=g6' (n:=n) (ds:=(ws.map wishD++K'.map wishD)++ls.map letD) λd hd=>by
  rcases mem_append.mp hd with z | z
  ·rcases mem_append.mp z with z | z
   ·obtain ⟨w,hw,rfl⟩:=mem_map.mp z
    exact ⟨_,rfl,by rw [length_map];exact (ai w hw).len⟩
   ·obtain ⟨w,hw,rfl⟩:=mem_map.mp z
    exact ⟨_,rfl,by rw [length_map];exact (hR w (sub w hw)).len⟩
  ·obtain ⟨l,hl,rfl⟩:=mem_map.mp z
   exact ⟨_,rfl,by rw [length_map];exact ll l hl⟩
 refine dt' ?_
 refine bf' rfl λKE hE _=>?_
 rw [er']
 refine ae' λK hK _=>⟨_,_,rfl,hK _ ?_⟩
 refine ae' λK hK _=>⟨_,_,rfl,hK _ ?_⟩
 refine ae' λK hK _=>?_
 simp
 rw [aj' yQ]
 simp
 have uY:cvF aq' [.lst (ws.map wishD++(K'.map wishD++ls.map letD))]=some .non:=by rw [← append_assoc];exact kin
 rw [aj' uY]
 refine ⟨by omega,by omega,hK _ ?_⟩
 refine ae' λK hK _=>?_
 simp
 rw [aj' eB]
 refine ⟨by simp,hK _ ?_⟩
 refine ae' λK hK _=>?_
 simp [dep,kl]
 refine aZ' R wishD (λw=>decide (w∈K')) wishD ?_
 have dw:∀ w:Wish,dep (wishD w)<=99:=λw=>le_trans d2' (by decide)
 simp only [nv',pg',getElem?_cons_succ,List.getElem?_cons_zero,jS',jQ']
 refine ⟨trivial,by omega,λw hw b=>?_,?_⟩
 ·simp [dw]
  have:=nV' K' w
  rw [List.any_map] at this
  exact this
 rw [kf' a.up a.nd uK nK sub,DL.gi']
 refine ⟨.inl (le_trans (ka' K') (by decide)),?_⟩
 rw [if_pos rfl]
 refine hK _ ?_
 simp
 rw [aj' eo]
 simp [optD,isN]
 have tr:cvF (aN' 10) [.lst (R.map wishD),.lst [],.int (k:Int),t]=some (.bl true):=tr
 rw [aj' tr]
 exact hE _ _ ⟨_,rfl,rfl⟩
theorem lJ' {R S:List Wish} (h:∀ w,w∈R↔w∈S) (k:Nat):Fw R k->Fw S k:=λ⟨E,a,b,c⟩=>⟨E,a,λe he=>(h e).mp (b e he),λw hw=>c w ((h w).mpr hw)⟩
theorem iE' {n:Nat}{ws R:List Wish} (a:IsRoof ws R) (ai:∀ w∈ws,Wf n w):∀ E:List Wish,(∀ e∈E,e∈ws)->∃ E':List Wish,E'.length=E.length/\(∀ u∈E',u∈R)/\∀ l:List Int,(∃ e∈E,hasB e l=true)->∃ u∈E',hasB u l=true
 | [],_=>⟨[],rfl,by simp,λl ⟨e,he,_⟩=>by cases he⟩
 | e::E,h=>by
  obtain ⟨E',a1,a2,a3⟩:=iE' a ai E λx hx=>h x (mem_cons_of_mem _ hx)
  obtain ⟨u,hu,c⟩:=a.over ai (h e mem_cons_self)
  refine ⟨u::E',by simp [a1],λx hx=>?_,λl ⟨x,hx,hl⟩=>?_⟩
  ·rcases mem_cons.mp hx with z | z
   ·rw [z];exact hu
   ·exact a2 x z
  ·rcases mem_cons.mp hx with z | z
   ·subst z
    exact ⟨u,mem_cons_self,f3' (by rw [(ai u (a.sub hu)).len,(ai x (h x mem_cons_self)).len]) c hl⟩
   ·obtain ⟨y,hy,q⟩:=a3 l ⟨x,z,hl⟩
    exact ⟨y,mem_cons_of_mem _ hy,q⟩
theorem hZ' {n:Nat}{ws R:List Wish} (a:IsRoof ws R) (ai:∀ w∈ws,Wf n w){k:Nat}:Fw R k↔Fw ws k:=by
 constructor
 ·rintro ⟨E,e1,e2,e3⟩
  refine ⟨E,e1,λe he=>a.sub (e2 e he),λw hw l hl=>?_⟩
  obtain ⟨u,hu,c⟩:=a.over ai hw
  obtain ⟨q1,q2⟩:=as'.mp hl
  have lu:u.length=w.length:=by rw [(ai u (a.sub hu)).len,(ai w hw).len]
  exact e3 u hu l (as'.mpr ⟨by rw [q1,lu],f3' lu c q2⟩)
 ·rintro ⟨E,e1,e2,e3⟩
  obtain ⟨E',a1,a2,a3⟩:=iE' a ai E e2
  exact ⟨E',by omega,a2,λw hw l hl=>a3 l (e3 w (a.sub hw) l hl)⟩
def Least (ws:List Wish) (k:Nat):Prop:=Fw ws (k+1)/\¬ Fw ws k
theorem Least.le {ws:List Wish}{k j:Nat} (h:Least ws k) (f:Fw ws j):k+1<=j:=by
 rcases lt_or_ge k j with z | z
 ·exact z
 ·exact absurd (f.mono z) h.2
theorem Least.same {ws vs:List Wish}{k j:Nat} (h:Least ws k) (g:Least vs j) (e:∀ m,Fw ws m↔Fw vs m):k=j:=by
 have h1:=h.le ((e _).mpr g.1)
 have h2:=g.le ((e _).mp h.1)
 omega
theorem FewD.least {n:Nat}{ws R:List Wish}{d:D} (a:IsRoof ws R) (ai:∀ w∈ws,Wf n w) (h:FewD n R d):∃ (k:Nat) (K:List Wish) (t:D),Least ws k/\K.length=k+1/\(∀ u∈K,u∈ws)/\K.Nodup/\(∀ w∈ws,AllIn K w)/\d=.tup [.int ((k:Int)+1),.lst (K.map wishD),t]:=by
 obtain ⟨k,K,t,kl,sub,nK,uK,al,rt,e⟩:=h
 have f1:Fw R (k+1):=⟨K,by omega,sub,al⟩
 have f0:=fF' (λw hw=>ai w (a.sub hw)) rt
 refine ⟨k,K,t,⟨(hZ' a ai).mp f1,λz=>f0 ((hZ' a ai).mpr z)⟩,kl,λu hu=>a.sub (sub u hu),nK,λw hw l hl=>?_,e⟩
 obtain ⟨u,hu,c⟩:=a.over ai hw
 obtain ⟨q1,q2⟩:=as'.mp hl
 have lu:u.length=w.length:=by rw [(ai u (a.sub hu)).len,(ai w hw).len]
 exact al u hu l (as'.mpr ⟨by rw [q1,lu],f3' lu c q2⟩)
theorem qd' {n:Nat}{ws:List Wish}{more:Wish}{k:Nat} (ai:∀ w∈ws,Wf n w) (hm:Wf n more) (h:AllIn ws more) (f:Fw ws k):Fw (ws++[more]) k:=by
 obtain ⟨E,e1,e2,e3⟩:=f
 refine ⟨E,e1,λe he=>mem_append_left _ (e2 e he),λw hw=>?_⟩
 rcases mem_append.mp hw with z | z
 ·exact e3 w z
 ·rw [mem_singleton.mp z]
  intro l hl
  obtain ⟨u,hu,q⟩:=h l hl
  exact e3 u hu l (as'.mpr ⟨by rw [(as'.mp hl).1,hm.len,(ai u hu).len],q⟩)
noncomputable def turnW (b:Int) (w:Wish):Wish:=w.reverse.map λp=>(p.1+b,p.2+b)
noncomputable def turnL (b:Int) (l:List Int):List Int:=l.reverse.map (·+b)
theorem iF' (b:Int):∀ (w:Wish) (l:List Int),hasB (w.map λp=>(p.1+b,p.2+b)) (l.map (·+b))=hasB w l
 | [],l=>by cases l<;>rfl
 | p::w,[]=>rfl
 | p::w,x::l=>by
  have ih:=iF' b w l
  unfold hasB at ih ⊢
  rw [map_cons,map_cons,zip_cons_cons,zip_cons_cons,all_cons,all_cons,ih]
  congr 1
  rw [Bool.eq_iff_iff]
  simp only [and_eq_true,decide_eq_true_eq]
  omega
theorem lK':∀ {w:Wish}{l:List Int},w.length=l.length->hasB w.reverse l.reverse=hasB w l
 | [],[],_=>rfl
 | p::w,x::l,h=>by
  have h':w.length=l.length:=by simpa using h
  have e:hasB (p::w) (x::l)=(hasB [p] [x]&&hasB w l):=gA' (a:=[p]) (x:=[x]) rfl
  rw [reverse_cons,reverse_cons,gA' (by simpa using h'),lK' h',e,Bool.and_comm]
theorem e5' (b:Int){w:Wish}{l:List Int} (h:w.length=l.length):hasB (turnW b w) (turnL b l)=hasB w l:=by
 unfold turnW turnL
 rw [iF',lK' h]
theorem iG' (b:Int) (l:List Int):turnL b ((l.map (· - b)).reverse)=l:=by
 unfold turnL
 rw [List.reverse_reverse,map_map]
 have:((λx=>x+b)∘λx:Int=>x - b)=id:=by funext x;simp
 rw [this,map_id]
theorem lL' {n:Nat}{ws:List Wish} (ai:∀ w∈ws,Wf n w) (b:Int){k:Nat}:Fw (ws.map (turnW b)) k↔Fw ws k:=by
 have len:∀ w∈ws,w.length=n:=λw hw=>(ai w hw).len
 constructor
 ·rintro ⟨E,e1,e2,e3⟩
  obtain ⟨E',rfl,sub⟩:∃ E':List Wish,E=E'.map (turnW b)/\∀ e∈E',e∈ws:=by
   clear e1 e3
   induction E with
   | nil=>exact ⟨[],rfl,by simp⟩
   | cons e E ih =>
    obtain ⟨E',h1,h2⟩:=ih λx hx=>e2 x (mem_cons_of_mem _ hx)
    obtain ⟨w,hw,h3⟩:=mem_map.mp (e2 e mem_cons_self)
    refine ⟨w::E',by rw [map_cons,h3,← h1],λx hx=>?_⟩
    rcases mem_cons.mp hx with z | z
    ·rw [z];exact hw
    ·exact h2 x z
  refine ⟨E',by simpa using e1,sub,λw hw l hl=>?_⟩
  obtain ⟨q1,q2⟩:=as'.mp hl
  obtain ⟨u,hu,q3⟩:=e3 (turnW b w) (mem_map.mpr ⟨w,hw,rfl⟩) (turnL b l) (as'.mpr ⟨by unfold turnL turnW;simp [q1],by rw [e5' b q1.symm];exact q2⟩)
  obtain ⟨v,hv,rfl⟩:=mem_map.mp hu
  exact ⟨v,hv,by rwa [e5' b (by rw [len v (sub v hv),q1,len w hw])] at q3⟩
 ·rintro ⟨E,e1,e2,e3⟩
  refine ⟨E.map (turnW b),by simpa using e1,λe he=>?_,λw hw l hl=>?_⟩
  ·obtain ⟨u,hu,rfl⟩:=mem_map.mp he
   exact mem_map.mpr ⟨u,e2 u hu,rfl⟩
  ·obtain ⟨v,hv,rfl⟩:=mem_map.mp hw
   obtain ⟨q1,q2⟩:=as'.mp hl
   have vl:v.length=((l.map (· - b)).reverse).length:=by
    have:(turnW b v).length=v.length:=by unfold turnW;simp
    simp
    omega
   rw [← iG' b l] at q2
   rw [e5' b vl] at q2
   obtain ⟨u,hu,q3⟩:=e3 v hv _ (as'.mpr ⟨vl.symm,q2⟩)
   refine ⟨turnW b u,mem_map.mpr ⟨u,hu,rfl⟩,?_⟩
   rw [← iG' b l,e5' b (by rw [len u (e2 u hu),← vl,len v hv])]
   exact q3
theorem lM':∀ (xs:List Int) (x:Int),x<=xs.foldl mx x/\∀ y∈xs,y<=xs.foldl mx x
 | [],x=>⟨Int.le_refl _,by simp⟩
 | y::xs,x=>by
  obtain ⟨h1,h2⟩:=lM' xs (mx x y)
  have:x<=mx x y/\y<=mx x y:=by unfold mx;split<;>omega
  rw [foldl_cons]
  refine ⟨by omega,λz hz=>?_⟩
  rcases mem_cons.mp hz with e | e
  ·rw [e];omega
  ·exact h2 z e
theorem lN' {c:Int}:∀ (xs:List Int) (x:Int),x<=c->(∀ y∈xs,y<=c)->xs.foldl mx x<=c
 | [],x,h,_=>h
 | y::xs,x,h,h'=>by
  rw [foldl_cons]
  refine lN' xs _ ?_ λz hz=>h' z (mem_cons_of_mem _ hz)
  have:=h' y mem_cons_self
  unfold mx
  split<;>omega
theorem lO' {ns:List Int}:∀ x∈ns,x<=maxI 0 ns:=λx hx=>by
 cases ns with
 | nil=>cases hx
 | cons y ns =>
  obtain ⟨h1,h2⟩:=lM' ns y
  rcases mem_cons.mp hx with e | e
  ·rw [e];exact h1
  ·exact h2 x e
theorem lP' {ns:List Int}{c:Int} (ne:ns≠[]) (h:∀ x∈ns,x<=c):maxI 0 ns<=c:=by
 cases ns with
 | nil=>exact absurd rfl ne
 | cons y ns=>exact lN' ns y (h y mem_cons_self) λz hz=>h z (mem_cons_of_mem _ hz)
theorem qe' {n:Nat}{ws:List Wish} (ai:∀ w∈ws,Wf n w) (h1:1<=n) (hn:n<=3) (ne:ws≠[]) (lw:ws.length<=100):∃ r:Int,cvF cY' [.lst (ws.map wishD)]=some (.int r)/\0<=r/\∀ w∈ws,∀ p∈w,p.2+r<=9:=by
 have uZ:∀ w∈ws,w≠[]:=λw hw z=>by have:=(ai w hw).len;rw [z] at this;simp at this;omega
 refine ⟨9 - maxI 0 (ws.map λw=>maxI 0 (w.map (·.2))),dt' ?_,?_,λw hw p hp=>?_⟩
 ·unfold cY'
  refine eO' rfl ?_
  rw [eY']
  simp [flR]
  refine aZ' ws wishD (λ_=>true) (λw=>.int (maxI 0 (w.map (·.2)))) ?_
  simp
  refine ⟨by omega,λw hw=>?_,?_⟩
  ·refine aZ' w pairD (λ_=>true) (λp=>.int p.2) ?_
   simp [wishD]
   refine ⟨by have:=(ai w hw).len;omega,?_⟩
   have e:w.map (λp=>D.int p.2)=(w.map (·.2)).map D.int:=by rw [map_map];rfl
   rw [e,aj' (lu' (by simpa using length_pos_iff.mpr (uZ w hw)))]
   exact ⟨rfl,_,rfl⟩
  ·have e:ws.map (λw=>D.int (maxI 0 (w.map (·.2))))=(ws.map λw=>maxI 0 (w.map (·.2))).map D.int:=by rw [map_map];rfl
   rw [e,aj' (lu' (by simpa using length_pos_iff.mpr ne))]
   simp [fin]
 ·have:=lP' (ns:=ws.map λw=>maxI 0 (w.map (·.2))) (c:=9) (by simpa using ne) λx hx=>by
   obtain ⟨w,hw,rfl⟩:=mem_map.mp hx
   refine lP' (by simpa using uZ w hw) λy hy=>?_
   obtain ⟨p,hp,rfl⟩:=mem_map.mp hy
   exact ((ai w hw).all p hp).hi
  omega
 ·have h2:=lO' (ns:=ws.map λw=>maxI 0 (w.map (·.2))) _ (mem_map.mpr ⟨w,hw,rfl⟩)
  have h3:=lO' (ns:=w.map (·.2)) _ (mem_map.mpr ⟨p,hp,rfl⟩)
  omega
theorem lQ' {n:Nat}{b:Int}{w:Wish} (hw:Wf n w) (hb:0<=b) (h:∀ p∈w,p.2+b<=9):Wf n (turnW b w):=by
 unfold turnW
 refine ⟨by simpa using hw.len,λp hp=>?_⟩
 obtain ⟨q,hq,rfl⟩:=mem_map.mp hp
 have hq:=List.mem_reverse.mp hq
 have:=hw.all q hq
 exact ⟨by have:=this.lo;dsimp only;omega,by have:=this.le;dsimp only;omega,h q hq⟩
theorem oZ' {n:Nat} (b:Int){w:Wish} (hw:w.length=n):((range n).reverse.map λk:Nat=>D.tup [.int ((w.getD k (0,0)).1+b),.int ((w.getD k (0,0)).2+b)])=(turnW b w).map pairD:=by
 unfold turnW
 rw [map_map,map_reverse,map_reverse]
 refine congrArg _ (List.ext_getElem (by simp [hw]) λi h1 h2=>?_)
 simp at h1
 simp only [getElem_map,getElem_range]
 rw [getD_eq_getElem?_getD,getElem?_eq_getElem (by omega)]
 rfl
theorem iH' {n:Nat}{ws:List Wish} (ai:∀ w∈ws,Wf n w) (hn:n<=3) (lw:ws.length<=100) (b:Int):cvF ce' [.lst (ws.map wishD),.lst ((range n).reverse.map λk:Nat=>.int (k:Int)),.int b]=some (.lst ((ws.map (turnW b)).map wishD)):=by
 refine dt' ?_
 refine bf' rfl λKE hE _=>?_
 rw [d0']
 refine ae' λK hK _=>⟨_,_,rfl,hK _ ?_⟩
 refine ae' λK hK _=>?_
 generalize hO:((range n).reverse.map λk:Nat=>D.int (k:Int))=O at *
 simp
 refine cL' (J:=λi Y=>∃ x,Y=[some (.val (.lst (ws.map wishD))),some (.val (.lst O)),some (.val (.int b)),some (.own (((ws.take i).map (turnW b)).map wishD)),x]) ⟨none,rfl⟩ ?_ ?_
 ·rintro i d Y hd ⟨x,rfl⟩
  rw [getElem?_map,map_eq_some_iff] at hd
  obtain ⟨w,e1,rfl⟩:=hd
  have hw:=mem_of_getElem? e1
  have tk:ws.take (i+1)=ws.take i++[w]:=by rw [List.take_add_one,e1];rfl
  have ln:(((ws.take i).map (turnW b)).map wishD).length<=100:=by simp;omega
  have tt:((ws.take (i+1)).map (turnW b)).map wishD=((ws.take i).map (turnW b)).map wishD++[wishD (turnW b w)]:=by rw [tk];simp
  rw [tt]
  generalize ((ws.take i).map (turnW b)).map wishD=T at *
  refine ⟨(),_,rfl,?_⟩
  show wp _ [some (.val (.lst (ws.map wishD))),some (.val (.lst O)),some (.val (.int b)),some (.own T),some (.val (wishD w))] _
  simp [isMut,DL.R.mut]
  refine aZ' (range n).reverse (λk:Nat=>.int (k:Int)) (λ_=>true) (λk=>.tup [.int ((w.getD k (0,0)).1+b),.int ((w.getD k (0,0)).2+b)]) ?_
  simp only [nv',pg',getElem?_cons_succ,List.getElem?_cons_zero,jS',jQ']
  refine ⟨hO.symm,by simp;omega,λk hk a=>?_,?_⟩
  ·have kn:k < w.length:=by rw [(ai w hw).len];simpa using hk
   have:=lF' kn
   simp [wishD,this]
  ·rw [nF',oZ' b (ai w hw).len]
   exact ⟨by omega,_,rfl⟩
 ·rintro Y ⟨x,rfl⟩
  refine hK _ ?_
  rw [length_map,take_length]
  simp
  exact hE _ _ ⟨_,rfl,by simp⟩
theorem all16 {n:Nat}{ws:List Wish} (ai:∀ w∈ws,Wf n w) (h1:1<=n) (hn:n<=3) (lw:ws.length<=7) (ne:ws≠[]):∃ (T:List Wish) (k:Nat) (K:List Wish) (t:D),IsRoof ws T/\T.length<=ws.length/\cvF aX' [.lst (ws.map wishD)]=some (.tup [.int ((k:Int)+1),.lst (K.map wishD),t]) ∧
  cvF cy' [.lst (ws.map wishD),.tup [.int ((k:Int)+1),.lst (K.map wishD),t]]=some (.bl true)/\Least ws k/\K.length=k+1/\(∀ u∈K,u∈ws)/\K.Nodup/\∀ w∈ws,AllIn K w:=by
 obtain ⟨T,a,lT⟩:=p9' ws
 have nT:T≠[]:=λz=>by
  obtain ⟨w,hw⟩:=List.exists_mem_of_ne_nil ws ne
  obtain ⟨u,hu,_⟩:=a.over ai hw
  rw [z] at hu
  cases hu
 obtain ⟨d,ed,fd⟩:=nU' ai h1 hn a lw lT nT
 have is:=kR' ai h1 hn a lw lT fd
 obtain ⟨k,K,t,ls,kl,sub,nK,al,rfl⟩:=fd.least a ai
 exact ⟨T,k,K,t,a,lT,ed,is,ls,kl,sub,nK,al⟩
theorem nW' {n:Nat}{ws T:List Wish} (ai:∀ w∈ws,Wf n w) (a:IsRoof ws T):Fw ws (spareL T).length:=by
 refine (hZ' a ai).mp ⟨spareL T,le_refl _,λe he=>(e4' T T).subset he,λw hw l hl=>?_⟩
 obtain ⟨q1,q2⟩:=as'.mp hl
 exact kc' (n:=n) (by rw [q1,(ai w (a.sub hw)).len]) T T (λp hp=>ai p (a.sub hp)) ⟨w,hw,q2⟩
theorem lR' {K:List Wish}{w:Wish} (hw:w∈K):(butW K w).length < K.length:=by
 unfold butW
 rcases lt_or_ge (K.filter λu=>!decide (u=w)).length K.length with z | z
 ·exact z
 ·have:=(filter_sublist (p:=λu=>!decide (u=w)) (l:=K)).eq_of_length (Nat.le_antisymm (length_filter_le _ _) z)
  have h2:=List.filter_eq_self.mp this w hw
  simp at h2
theorem qf' {ws K:List Wish}{k:Nat} (ls:Least ws k) (kl:K.length=k+1) (sub:∀ u∈K,u∈ws){w:Wish} (hw:w∈K):∃ u∈ws,inB1 (butW K w) u=false:=by
 have bl:=lR' hw
 have no:¬ ∀ u∈ws,AllIn (butW K w) u:=λz=>ls.2 ⟨butW K w,by omega,λe he=>sub e (f4'.mp he).1,z⟩
 refine byContradiction λz=>no λu hu=>e2'.mp ?_
 cases e:inB1 (butW K w) u with
 | true=>rfl
 | false=>exact absurd ⟨u,hu,e⟩ z
noncomputable def hm (S c:List D) (d:D) (n:Nat) (ws:List Wish) (k:Nat) (K:List Wish) (t:D) (r:Gm):Gm:=some (.val (.lst S))::some (.own c)::some (.val d)::some (.val (.int (n:Int)))::some (.val (.lst (ws.map wishD)))::some (.val (.int ((k:Int)+1)))::some (.val (.lst (K.map wishD)))::some (.val t)::r
section
variable {S c:List D}{d:D}{n:Nat}{ws:List Wish}{k:Nat}{K:List Wish}{t:D}{r:Gm}{x:Option R}
@[simp high] theorem hm1:(hm S c d n ws k K t r)[1]?=some (some (.own c)):=rfl
@[simp high] theorem hm3:(hm S c d n ws k K t r)[3]?=some (some (.val (.int (n:Int)))):=rfl
@[simp high] theorem hm4:(hm S c d n ws k K t r)[4]?=some (some (.val (.lst (ws.map wishD)))):=rfl
@[simp high] theorem hm5:(hm S c d n ws k K t r)[5]?=some (some (.val (.int ((k:Int)+1)))):=rfl
@[simp high] theorem hm6:(hm S c d n ws k K t r)[6]?=some (some (.val (.lst (K.map wishD)))):=rfl
@[simp high] theorem hm7:(hm S c d n ws k K t r)[7]?=some (some (.val t)):=rfl
@[simp high] theorem hm8:(hm S c d n ws k K t r)[8]?=r[0]?:=rfl
@[simp high] theorem hm9:(hm S c d n ws k K t r)[9]?=r[1]?:=rfl
@[simp high] theorem hm10:(hm S c d n ws k K t r)[10]?=r[2]?:=rfl
@[simp high] theorem hm11:(hm S c d n ws k K t r)[11]?=r[3]?:=rfl
@[simp high] theorem hm12:(hm S c d n ws k K t r)[12]?=r[4]?:=rfl
@[simp] theorem hmS1 {c':List D}:(hm S c d n ws k K t r).set 1 (some (.own c'))=hm S c' d n ws k K t r:=rfl
@[simp] theorem hmS8:(hm S c d n ws k K t r).set 8 x=hm S c d n ws k K t (r.set 0 x):=rfl
@[simp] theorem hmS9:(hm S c d n ws k K t r).set 9 x=hm S c d n ws k K t (r.set 1 x):=rfl
@[simp] theorem hmS10:(hm S c d n ws k K t r).set 10 x=hm S c d n ws k K t (r.set 2 x):=rfl
@[simp] theorem hmS11:(hm S c d n ws k K t r).set 11 x=hm S c d n ws k K t (r.set 3 x):=rfl
@[simp] theorem hmS12:(hm S c d n ws k K t r).set 12 x=hm S c d n ws k K t (r.set 4 x):=rfl
theorem hmL:(hm S c d n ws k K t r).length=r.length+8:=rfl
@[simp] theorem hmB9:9 < (hm S c d n ws k K t r).length↔1 < r.length:=by rw [hmL];omega
@[simp] theorem hmB10:10 < (hm S c d n ws k K t r).length↔2 < r.length:=by rw [hmL];omega
@[simp] theorem hmB11:11 < (hm S c d n ws k K t r).length↔3 < r.length:=by rw [hmL];omega
end
theorem law_true (ns:List Int) (hl:ns.length<=63):∃ rs,eZ' [.val (.lst (ns.map D.int))]=some (.val (.bl true),rs):=by
 have aI:wpF eZ' [.val (.lst (ns.map D.int))] λr _=>r=.val (.bl true):=by
  refine bf' rfl λKE hE _=>?_
  rw [mf']
  obtain ⟨c,e,hc⟩:=rk' ns
  refine ae' λK hK _=>?_
  simp
  rw [aj' e]
  refine ⟨by simp,hK _ ?_⟩
  clear hK e
  generalize ns.map D.int=S at *
  refine ae' λK hK hR=>?_
  simp
  refine cL' (J:=λi Y=>∃ c x2 x3 x4 x5 x6 x7 x8 x9 bN bL bq,PotOk c/\Y=[some (.val (.lst S)),some (.own c),x2,x3,x4,x5,x6,x7,x8,x9,bN,bL,bq]) ⟨c,none,none,none,none,none,none,none,none,none,none,none,hc,rfl⟩ ?_ ?_
  ·rintro i d Y hd ⟨c,x2,x3,x4,x5,x6,x7,x8,x9,bN,bL,bq,hc,rfl⟩
   refine ⟨(),_,rfl,?_⟩
   show wp _ [some (.val (.lst S)),some (.own c),some (.val d),x3,x4,x5,x6,x7,x8,x9,bN,bL,bq] _
   refine a4' (λab=>∃ (c:List D) (n:Nat),PotOk c/\1<=n/\n<=3/\ab=[some (.val (.lst S)),some (.own c),some (.val d),some (.val (.int (n:Int))),x4,x5,x6,x7,x8,x9,bN,bL,bq]) (λK hK _=>?_) ?_
   ·simp [isMut,R.mut]
    refine by' hc (by omega) (by omega) λm c m1 m2 hc=>?_
    simp
    refine hK _ ⟨c,(1+m).toNat,hc,by omega,by omega,?_⟩
    rw [show (((1+m).toNat:Nat):Int)=1+m by omega]
   rintro ab ⟨c,n,hc,n1,n3,rfl⟩
   refine a4' (λab=>∃ (c:List D) (ws:List Wish),PotOk c/\(∀ w∈ws,Wf n w)/\ws≠[]/\ws.length<=6/\ab=[some (.val (.lst S)),some (.own c),some (.val d),some (.val (.int (n:Int))),some (.val (.lst (ws.map wishD))),x5,x6,x7,x8,x9,bN,bL,bq]) (λK hK _=>?_) ?_
   ·simp [isMut,R.mut]
    refine nE' hc n1 n3 (by omega) (by omega) λws c ai lw hc=>?_
    simp [isMut,R.mut]
    refine by' hc (by omega) (by omega) λlo c lo1 zH hc=>?_
    simp [isMut,R.mut]
    obtain ⟨tp,et,t1,t2⟩:∃ tp:Int,atI [D.int 6,D.int 6,D.int 6,D.int 4] (n:Int)=some (.int tp)/\1<=tp/\tp<=6:=by
     have:n=1\/n=2\/n=3:=by omega
     rcases this with rfl | rfl | rfl
     ·exact ⟨6,rfl,by omega,by omega⟩
     ·exact ⟨6,rfl,by omega,by omega⟩
     ·exact ⟨4,rfl,by omega,by omega⟩
    rw [aj' et]
    simp
    refine hU' hc (by omega) lo1 t1 (by omega) λw c hw hc=>?_
    simp
    refine ⟨by omega,hK _ ⟨c,ws++[w],hc,λu hu=>?_,by simp,by simp;omega,by simp⟩⟩
    rcases mem_append.mp hu with z | z
    ·exact ai u z
    ·rw [mem_singleton.mp z];exact hw
   rintro ab ⟨c,ws,hc,ai,ne,lw,rfl⟩
   obtain ⟨T,k,K',t,a,lT,ef,ei,ls,kl,sub,nK,al⟩:=all16 ai n1 n3 (by omega) ne
   refine a4' (λab=>ab=hm S c d n ws k K' t [x8,x9,bN,bL,bq]) (λK hK _=>?_) ?_
   ·simp
    rw [aj' ef]
    simp
    exact hK _ rfl
   rintro ab rfl
   have wK:∀ w∈K',Wf n w:=λw hw=>ai w (sub w hw)
   have lK:K'.length<=7:=by
    have:=du' K' ws nK sub
    omega
   refine a4' (λab=>ab=hm S c d n ws k K' t [x8,x9,bN,bL,bq]) (λK hK _=>?_) ?_
   ·simp
    rw [aj' ei]
    simp [isBF,dep,kl]
    exact hK _ rfl
   rintro ab rfl
   have sp:=nS' ai n1 n3 (by omega) a lT
   have s1:=ls.le (nW' ai a)
   have s2:(spareL T).length<=T.length:=(e4' T T).length_le
   have eB:=f2' ai n1 n3 (by omega) a
   refine a4' (λab=>ab=hm S c d n ws k K' t [x8,x9,bN,bL,bq]) (λK hK _=>?_) ?_
   ·simp
    rw [aj' sp]
    simp
    rw [if_neg (by omega)]
    rw [aj' sp]
    simp
    rw [aj' eB]
    simp
    rw [if_neg (by omega)]
    exact hK _ rfl
   rintro ab rfl
   refine a4' (λab=>∃ x8,ab=hm S c d n ws k K' t [x8,x9,bN,bL,bq]) (λK hK _=>?_) ?_
   ·simp
    refine cL' (J:=λ_ ab=>∃ x8,ab=hm S c d n ws k K' t [x8,x9,bN,bL,bq]) ⟨x8,rfl⟩ ?_ λY h=>hK _ h
    rintro i d' Y hd ⟨x8,rfl⟩
    rw [getElem?_map,map_eq_some_iff] at hd
    obtain ⟨w,e1,rfl⟩:=hd
    have hw:=mem_of_getElem? e1
    obtain ⟨x,ex⟩:=cZ' wK (by omega) n3 (ai w hw)
    rw [if_pos (e2'.mpr (al w hw))] at ex
    refine ⟨(),_,rfl,?_⟩
    show wp _ (hm S c d n ws k K' t [some (.val (wishD w)),x9,bN,bL,bq]) _
    simp
    rw [aj' ex]
    simp [dep,deq]
    exact ⟨_,rfl⟩
   rintro ab ⟨x8,rfl⟩
   have dw:∀ w:Wish,dep (wishD w)<=99:=λw=>le_trans d2' (by decide)
   refine a4' (λab=>∃ x8 x9,ab=hm S c d n ws k K' t [x8,x9,bN,bL,bq]) (λK hK _=>?_) ?_
   ·simp
    refine cL' (J:=λ_ ab=>∃ x8 x9,ab=hm S c d n ws k K' t [x8,x9,bN,bL,bq]) ⟨x8,x9,rfl⟩ ?_ λY h=>hK _ h
    rintro i d' Y hd ⟨x8,x9,rfl⟩
    rw [getElem?_map,map_eq_some_iff] at hd
    obtain ⟨w,e1,rfl⟩:=hd
    have hw:=mem_of_getElem? e1
    obtain ⟨u,hu,aG⟩:=qf' ls kl sub hw
    have wB:∀ v∈butW K' w,Wf n v:=λv hv=>wK v (f4'.mp hv).1
    have lB:(butW K' w).length<=100:=le_trans (le_of_lt (lR' hw)) (by omega)
    refine ⟨(),_,rfl,?_⟩
    show wp _ (hm S c d n ws k K' t [some (.val (wishD w)),x9,bN,bL,bq]) _
    refine a4' (λab=>ab=hm S c d n ws k K' t [some (.val (wishD w)),some (.val (.lst ((butW K' w).map wishD))),bN,bL,bq]) (λK hK _=>?_) ?_
    ·simp
     refine aZ' K' wishD (λv=>!decide (v=w)) wishD ?_
     simp
     refine ⟨by omega,λv hv=>?_,hK _ rfl⟩
     simp [dj']
     exact .inl (Nat.le_succ_of_le (dw v))
    rintro ab rfl
    simp
    refine aZ' ws wishD (λv=>!inB1 (butW K' w) v) (λ_=>.int 1) ?_
    simp
    refine ⟨by omega,λv hv=>?_,?_⟩
    ·obtain ⟨x,ex⟩:=cZ' wB lB n3 (ai v hv)
     rw [aj' ex]
     cases inB1 (butW K' w) v with
     | true =>
      simp [dep,deq]
      decide
     | false=>simp [dep,deq]
    ·rw [if_neg]
     ·exact ⟨_,_,rfl⟩
     ·intro z
      have:=z u hu
      rw [aG] at this
      cases this
   rintro ab ⟨x8,x9,rfl⟩
   refine a4' (λab=>∃ (c:List D) (w:Wish),PotOk c/\Wf n w/\ab=hm S c d n ws k K' t [x8,x9,some (.val (wishD w)),bL,bq]) (λK hK _=>?_) ?_
   ·simp [isMut,R.mut]
    refine hU' hc (by omega) (by omega) (by omega) (by omega) λw c hw hc=>?_
    simp
    exact hK _ ⟨c,w,hc,hw,rfl⟩
   rintro ab ⟨c,mo,hc,iL,rfl⟩
   refine a4' (λab=>ab=hm S c d n ws k K' t [x8,x9,some (.val (wishD mo)),bL,bq]) (λK hK _=>?_) ?_
   ·obtain ⟨x,ex⟩:=cZ' ai (by omega) n3 iL
    by_cases l6:(ws.length:Int) < 6
    ·cases ic:inB1 ws mo with
     | false =>
      rw [ic] at ex
      simp [l6]
      rw [aj' ex]
      simp [dep,deq]
      rw [if_neg (by decide)]
      exact hK _ rfl
     | true =>
      rw [ic,if_pos rfl] at ex
      have wm:∀ v∈ws++[mo],Wf n v:=λv hv=>by
       rcases mem_append.mp hv with z | z
       ·exact ai v z
       ·rw [mem_singleton.mp z];exact iL
      obtain ⟨T2,k2,K2,t2,_,_,fz,_,pd,_⟩:=all16 wm n1 n3 (by simp;omega) (by simp)
      have le2:=pd.le (qd' ai iL (e2'.mp ic) ls.1)
      rw [map_append] at fz
      have fz:cvF aX' [.lst (ws.map wishD++[wishD mo])]=some (.tup [.int ((k2:Int)+1),.lst (K2.map wishD),t2]):=fz
      simp [l6]
      rw [aj' ex]
      simp [dep,deq]
      rw [aj' fz]
      simp
      rw [if_neg (by omega)]
      exact ⟨by omega,hK _ rfl⟩
    ·simp [l6]
     exact hK _ rfl
   rintro ab rfl
   have yR:(rngD 0 n).reverse=(range n).reverse.map λk:Nat=>D.int (k:Int):=by
    unfold rngD
    rw [← map_reverse]
    simp
   refine a4' (λab=>ab=hm S c d n ws k K' t [x8,x9,some (.val (wishD mo)),some (.val (.lst ((range n).reverse.map λk:Nat=>D.int (k:Int)))),bq]) (λK hK _=>?_) ?_
   ·simp [un1,negI]
    rw [yR]
    refine ⟨by omega,hK _ ?_⟩
    simp
   rintro ab rfl
   obtain ⟨rm,er,r1,r2⟩:=qe' ai n1 n3 ne (by omega)
   have tu:=iH' ai n3 (by omega) rm
   have t0:=iH' ai n3 (by omega) 0
   generalize ((range n).reverse.map λk:Nat=>D.int (k:Int))=O at *
   simp [un1,negI]
   rw [aj' er,aj' tu]
   simp
   rw [aj' t0]
   have iz:∀ vs:List Wish,(∀ w∈vs,Wf n w)->vs≠[]->vs.length<=7->(∀ m,Fw ws m↔Fw vs m)->∃ x y,cvF aX' [.lst (vs.map wishD)]=some (.tup [.int ((k:Int)+1),x,y]):=λvs hv nv lv same=>by
    obtain ⟨_,k2,K2,t2,_,_,fz,_,pd,_⟩:=all16 hv n1 n3 lv nv
    rw [← ls.same pd same] at fz
    exact ⟨_,_,fz⟩
   have cQ:∀ d∈[D.lst (ws.map wishD).reverse,D.lst (ws.map (wishD∘turnW rm)),D.lst ((ws.map (turnW 0)).map wishD)],∃ x y,cvF aX' [d]=some (.tup [.int ((k:Int)+1),x,y]):=λd hd=>by
    simp only [mem_cons,not_mem_nil,or_false] at hd
    rcases hd with rfl | rfl | rfl
    ·rw [← map_reverse]
     exact iz ws.reverse (λw hw=>ai w (List.mem_reverse.mp hw)) (by simpa using ne) (by simp;omega) λm=>⟨lJ' (by simp) m,lJ' (by simp) m⟩
    ·rw [← map_map]
     exact iz _ (λw hw=>by
      obtain ⟨v,hv,rfl⟩:=mem_map.mp hw
      exact lQ' (ai v hv) r1 (r2 v hv)) (by simpa using ne) (by simp;omega) λm=>(lL' ai rm).symm
    ·exact iz _ (λw hw=>by
      obtain ⟨v,hv,rfl⟩:=mem_map.mp hw
      exact lQ' (ai v hv) (Int.le_refl _) λp hp=>by have:=((ai v hv).all p hp).hi;omega) (by simpa using ne) (by simp;omega) λm=>(lL' ai 0).symm
   generalize [D.lst (ws.map wishD).reverse,D.lst (ws.map (wishD∘turnW rm)),D.lst ((ws.map (turnW 0)).map wishD)]=ot at *
   refine cL' (J:=λ_ ab=>∃ bq,ab=hm S c d n ws k K' t [x8,x9,some (.val (wishD mo)),some (.val (.lst O)),bq]) ⟨bq,rfl⟩ ?_ ?_
   ·rintro i d' Y hd ⟨bq,rfl⟩
    obtain ⟨x,y,ex⟩:=cQ d' (mem_of_getElem? hd)
    refine ⟨(),_,rfl,?_⟩
    show wp _ (hm S c d n ws k K' t [x8,x9,some (.val (wishD mo)),some (.val (.lst O)),some (.val d')]) _
    simp
    rw [aj' ex]
    simp [dep]
    exact ⟨_,rfl⟩
   ·rintro Y ⟨bq,rfl⟩
    exact ⟨c,hc,_,_,_,_,_,_,_,_,_,_,_,rfl⟩
  ·rintro Y ⟨c,x2,x3,x4,x5,x6,x7,x8,x9,bN,bL,bq,hc,rfl⟩
   refine hK _ ?_
   simp
   exact hE _ _ ⟨_,rfl,rfl⟩
 obtain ⟨r,aR,e,rfl⟩:=aI
 exact ⟨aR,e⟩
end Own
namespace PySem.W.Fast
theorem tw1987631752029939677:True:=⟨⟩
theorem tw5723891420136078917:True:=⟨⟩
theorem tw14064719643823103679:True:=⟨⟩
theorem tw14571151025511466317:True:=⟨⟩
theorem tw16823713065604431415:True:=⟨⟩
theorem tw10150961478958622834:True:=⟨⟩
theorem tw6248064564916357072:True:=⟨⟩
theorem tw10178676021779688963:True:=⟨⟩
theorem tw11610818898282567418:True:=⟨⟩
theorem tw10846351468318515130:True:=⟨⟩
theorem tw13449142465079830526:True:=⟨⟩
theorem tw4367379485975698201:True:=⟨⟩
theorem tw5683778667977950556:True:=⟨⟩
theorem tw11788955433065567920:True:=⟨⟩
theorem tw18315866428655154088:True:=⟨⟩
theorem tw11093012416356459669:True:=⟨⟩
theorem tw17219073767998636362:True:=⟨⟩
theorem tw15775707546206846536:True:=⟨⟩
theorem tw6057163473961474207:True:=⟨⟩
theorem tw12400632576073555276:True:=⟨⟩
theorem tw6595502770180952185:True:=⟨⟩
theorem tw14061533781588772921:True:=⟨⟩
theorem tw1309085020883575553:True:=⟨⟩
theorem tw17339869005488304609:True:=⟨⟩
theorem tw4325057911636621786:True:=⟨⟩
theorem tw3878325462829979039:True:=⟨⟩
theorem tw14176277995052601063:True:=⟨⟩
theorem tw28814765757326641:True:=⟨⟩
theorem tw1101937752274140163:True:=⟨⟩
theorem tw5269303763489686575:True:=⟨⟩
theorem tw12547640697008273183:True:=⟨⟩
theorem tw5648253919915856757:True:=⟨⟩
theorem tw13557855039219266655:True:=⟨⟩
theorem tw17301618810799749558:True:=⟨⟩
theorem tw16817685782107930587:True:=⟨⟩
theorem tw4193003268999643164:True:=⟨⟩
theorem tw5032413201629529640:True:=⟨⟩
theorem tw16953408359588529552:True:=⟨⟩
theorem tw12575085327509908883:True:=⟨⟩
theorem tw5542292110624772063:True:=⟨⟩
theorem tw3120821349720057208:True:=⟨⟩
theorem tw11953235529969363953:True:=⟨⟩
theorem tw9582580198511717120:True:=⟨⟩
theorem tw11755483093712357053:True:=⟨⟩
theorem tw905677893495822893:True:=⟨⟩
theorem tw15770833584187449865:True:=⟨⟩
theorem tw18178176972013833260:True:=⟨⟩
theorem tw1582608170053244695:True:=⟨⟩
theorem tw17153653240659976357:True:=⟨⟩
theorem tw5054746367095118770:True:=⟨⟩
theorem tw3713213122047639690:True:=⟨⟩
theorem tw6378268638642807194:True:=⟨⟩
theorem tw11968350148571507949:True:=⟨⟩
theorem tw4374776072567658768:True:=⟨⟩
theorem tw18334523089360100586:True:=⟨⟩
theorem tw11372934672403420581:True:=⟨⟩
theorem tw2379470705561610705:True:=⟨⟩
theorem tw11253072245121997839:True:=⟨⟩
theorem tw8564323323608600531:True:=⟨⟩
theorem tw16306248473727211549:True:=⟨⟩
theorem tw14145975057770808069:True:=⟨⟩
theorem tw15059230046668561355:True:=⟨⟩
theorem tw11049633071602461349:True:=⟨⟩
theorem tw10358686703243104331:True:=⟨⟩
theorem tw16861901864667481011:True:=⟨⟩
theorem tw13088389032057726390:True:=⟨⟩
theorem tw12734283751245294395:True:=⟨⟩
theorem tw10043262271960775642:True:=⟨⟩
theorem tw3499108176868517387:True:=⟨⟩
theorem tw10711973891036286799:True:=⟨⟩
theorem tw5979148381863520514:True:=⟨⟩
theorem tw8350175690570657461:True:=⟨⟩
theorem tw7247445160715733417:True:=⟨⟩
theorem tw1583732756905664883:True:=⟨⟩
theorem tw4925770381356778162:True:=⟨⟩
theorem tw7972757287091515618:True:=⟨⟩
theorem tw7047940052843482095:True:=⟨⟩
theorem tw16748753057957997712:True:=⟨⟩
theorem tw5352928402388416080:True:=⟨⟩
theorem tw6909920241968905577:True:=⟨⟩
theorem tw1947890716637311647:True:=⟨⟩
theorem tw17624746013060094992:True:=⟨⟩
theorem tw16710939494935826264:True:=⟨⟩
theorem tw6635628527364427521:True:=⟨⟩
theorem tw12136775790110908664:True:=⟨⟩
theorem tw14921457257153273686:True:=⟨⟩
theorem tw16593883745121660228:True:=⟨⟩
theorem tw6447651436075208794:True:=⟨⟩
theorem tw6989458428031342993:True:=⟨⟩
theorem tw12495456121876039916:True:=⟨⟩
theorem tw9348194543552259824:True:=⟨⟩
theorem tw6750999993913047313:True:=⟨⟩
theorem tw11540200473384055128:True:=⟨⟩
theorem tw5195166855285951612:True:=⟨⟩
theorem tw17589574216225257487:True:=⟨⟩
theorem tw15879647308813252564:True:=⟨⟩
theorem tw1444567983006908418:True:=⟨⟩
theorem tw13590016683549218565:True:=⟨⟩
theorem tw6076427733269307102:True:=⟨⟩
theorem tw10833952814782169382:True:=⟨⟩
theorem tw5336466616985741194:True:=⟨⟩
theorem tw11756071939677139592:True:=⟨⟩
theorem tw13101166563464739660:True:=⟨⟩
theorem tw9853263839238960724:True:=⟨⟩
theorem tw15641330257880004468:True:=⟨⟩
theorem tw17400587179509292412:True:=⟨⟩
theorem tw12621783682427211825:True:=⟨⟩
theorem tw1953105028671713083:True:=⟨⟩
theorem tw6430377170917947202:True:=⟨⟩
theorem tw2374286144100589839:True:=⟨⟩
theorem tw10150827940194445817:True:=⟨⟩
theorem tw7147267429611439255:True:=⟨⟩
theorem tw8459164678345300561:True:=⟨⟩
theorem tw2772611996593084802:True:=⟨⟩
theorem tw12619558006018985435:True:=⟨⟩
theorem tw3278944081842662977:True:=⟨⟩
theorem tw2288203881002633226:True:=⟨⟩
theorem tw8579627031649966540:True:=⟨⟩
theorem tw13609369895831810662:True:=⟨⟩
theorem tw13567179519057476022:True:=⟨⟩
theorem tw18139230574158650513:True:=⟨⟩
theorem tw10727321980492867757:True:=⟨⟩
theorem tw12188834214823970945:True:=⟨⟩
theorem tw17166605755520510311:True:=⟨⟩
end PySem.W.Fast
open PySem PySem.W PyProof.Rows
set_option maxRecDepth 100000 in
set_option maxHeartbeats 0 in
theorem PySem.Challenge.cw_roofpost_k16_whole_fewest_and_spare_holds : PySem.Challenge.rw_roofpost_k16_whole_fewest_and_spare.Holds := by
 w_on;(refine holds_law (by decide +kernel) λy6=>?_);k_head;(case hw=>w_witness2)
 k_fill
 refine Own.walk (l:=PySem.Challenge.rw_roofpost_k16_whole_fewest_and_spare) Own.law_true rfl rfl ?W ?NT (λw h zJ=>PySem.W.km_in_of zJ) ?F
 (case W=>exact Option.isSome_iff_exists.mp (by kernel_rfl))
 (case NT=>intro p;kernel_rfl)
 case F =>
  intro w mg fa h KX G gF
  refine' Own.all_mk KX G gF ?a0 ?l0 ?c0 ?k0 ?a1 ?l1 ?c1 ?k1 ?a2 ?l2 ?c2 ?k2 ?a3 ?l3 ?c3 ?k3 ?a4 ?l4 ?c4 ?k4 ?a5 ?l5 ?c5 ?k5 ?a6 ?l6 ?c6 ?k6 ?a7 ?l7 ?c7 ?k7 ?a8 ?l8 ?c8 ?k8 ?a9 ?l9 ?c9 ?k9 ?mz ?mB ?mC ?mD ?mF ?mG ?mH ?mI ?mK ?mL ?mM ?mN ?i6 ?mP ?mQ ?mR ?mT ?mU ?mV ?mW ?mY ?mZ ?m8 ?m9 ?ng ?ni ?nn ?np ?nr ?nw ?ny ?nA ?nD ?h9 ?nE ?nG ?nJ ?nL ?nM ?nN ?nQ ?nU ?nV ?nW ?nY ?nZ ?n4 ?n5 ?n8 ?n9 ?oe ?og ?oj ?om ?oo ?oq ?ow ?ox ?oy ?oz ?oB ?oC ?oD ?oE ?i7 ?oG ?oH ?oJ ?fk ?fm ?bJ ?fo ?dL ?fq ?ft ?cX ?fu ?cn ?cY ?fv ?T0
  (case a0=>k_is)
  (case l0=>k_is)
  (case c0=>k_is)
  (case k0=>k_is)
  (case a1=>k_is)
  (case l1=>k_is)
  (case c1=>k_is)
  (case k1=>k_is)
  (case a2=>k_is)
  (case l2=>k_is)
  (case c2=>k_is)
  (case k2=>k_is)
  (case a3=>k_is)
  (case l3=>k_is)
  (case c3=>k_is)
  (case k3=>k_is)
  (case a4=>k_is)
  (case l4=>k_is)
  (case c4=>k_is)
  (case k4=>k_is)
  (case a5=>k_is)
  (case l5=>k_is)
  (case c5=>k_is)
  (case k5=>k_is)
  (case a6=>k_is)
  (case l6=>k_is)
  (case c6=>k_is)
  (case k6=>k_is)
  (case a7=>k_is)
  (case l7=>k_is)
  (case c7=>k_is)
  (case k7=>k_is)
  (case a8=>k_is)
  (case l8=>k_is)
  (case c8=>k_is)
  (case k8=>k_is)
  (case a9=>k_is)
  (case l9=>k_is)
  (case c9=>k_is)
  (case k9=>k_is)
  (case mz=>k_is)
  (case mB=>k_is)
  (case mC=>k_is)
  (case mD=>k_is)
  (case mF=>k_is)
  (case mG=>k_is)
  (case mH=>k_is)
  (case mI=>k_is)
  (case mK=>k_is)
  (case mL=>k_is)
  (case mM=>k_is)
  (case mN=>k_is)
  (case i6=>k_is)
  (case mP=>k_is)
  (case mQ=>k_is)
  (case mR=>k_is)
  (case mT=>k_is)
  (case mU=>k_is)
  (case mV=>k_is)
  (case mW=>k_is)
  (case mY=>k_is)
  (case mZ=>k_is)
  (case m8=>k_is)
  (case m9=>k_is)
  (case ng=>k_is)
  (case ni=>k_is)
  (case nn=>k_is)
  (case np=>k_is)
  (case nr=>k_is)
  (case nw=>k_is)
  (case ny=>k_is)
  (case nA=>k_is)
  (case nD=>k_is)
  (case h9=>k_is)
  (case nE=>k_is)
  (case nG=>k_is)
  (case nJ=>k_is)
  (case nL=>k_is)
  (case nM=>k_is)
  (case nN=>k_is)
  (case nQ=>k_is)
  (case nU=>k_is)
  (case nV=>k_is)
  (case nW=>k_is)
  (case nY=>k_is)
  (case nZ=>k_is)
  (case n4=>k_is)
  (case n5=>k_is)
  (case n8=>k_is)
  (case n9=>k_is)
  (case oe=>k_is)
  (case og=>k_is)
  (case oj=>k_is)
  (case om=>k_is)
  (case oo=>k_is)
  (case oq=>k_is)
  (case ow=>k_is)
  (case ox=>k_is)
  (case oy=>k_is)
  (case oz=>k_is)
  (case oB=>k_is)
  (case oC=>k_is)
  (case oD=>k_is)
  (case oE=>k_is)
  (case i7=>k_is)
  (case oG=>k_is)
  (case oH=>k_is)
  (case oJ=>k_is)
  (case fk=>k_is)
  (case fm=>k_is)
  (case bJ=>k_is)
  (case fo=>k_is)
  (case dL=>k_is)
  (case fq=>k_is)
  (case ft=>k_is)
  (case cX=>k_is)
  (case fu=>k_is)
  (case cn=>k_is)
  (case cY=>k_is)
  (case fv=>k_is)
  (case T0=>kernel_rfl)
